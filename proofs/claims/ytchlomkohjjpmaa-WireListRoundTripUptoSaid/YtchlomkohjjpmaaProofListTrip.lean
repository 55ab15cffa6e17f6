/-
  Proved: for every string, and slices of integers, strings, digests and bytes, voxellaw01.WireListRoundTrip answers true and changes nothing that was there. Condition: what comes in is of bulk at most 1048576 (the second form; the first is false by size: the sum of the strings' lengths can pass an int64).
-/
import Derived.Test.YtchlomkohjjpmaaRows
import Derived.Test.YtchlomkohjjpmaaLawf
import Derived.Test.YtchlomkohjjpmaaOpenb
import Derived.JoinedCond
import Derived.Deep.CondSized
namespace Go.Proofs.Ytchlomkohjjpmaa.wireListRoundTrip
open Go.ChangeShapes Go.WideShapes Go.ChangeAt Go.RowKit
open Go.ChangeMaps (open_string shut_string)
set_option linter.unusedVariables false

theorem own : ownKnob Try.prog.godebug = none := by kernel_rfl
theorem laidOut : laidOutB Try.prog = true := by kernel_rfl

/-- the walk: the law answers true, and changes nothing that was there -/
theorem walk (a0 : ByteArray) (a1 : Option Addr) (n1 c1 : Nat) (l1 : List Int) (a2 : Option Addr) (n2 c2 : Nat) (l2 : List (List UInt8)) (a3 : Option Addr) (n3 c3 : Nat) (l3 : List (List UInt8)) (a4 : Option Addr) (n4 c4 : Nat) (l4 : List UInt8) (w : World) (w0 : a0.size ≤ 140737488351232) (w1 : l1.length = n1 ∧ Lies w a1 (l1.map iv) ∧ Fits l1 ∧ n1 ≤ c1 ∧ c1 * 8 ≤ 140737488351232) (w2 : l2.length = n2 ∧ Lies w a2 (l2.map sv) ∧ n2 ≤ c2 ∧ c2 * 16 ≤ 140737488351232) (t2 : total l2 ≤ 1048576) (w3 : l3.length = n3 ∧ Lies w a3 (dcells l3) ∧ Is16 l3 ∧ n3 ≤ c3 ∧ c3 * 16 ≤ 140737488351232) (w4 : l4.length = n4 ∧ Lies w a4 (l4.map bv) ∧ (a4 = none → n4 = 0) ∧ n4 ≤ c4 ∧ c4 ≤ 140737488351232) :
    Calls Try.prog 8 #[.string a0, .slice a1 n1 c1, .slice a2 n2 c2, .slice a3 n3 c3, .slice a4 n4 c4] w fun e w' => e = .returned (.bool true) ∧ Below w.heap.size w w' := by
  obtain ⟨h11, h12, h13, h14, h15⟩ := w1
  obtain ⟨h21, h22, h23, h24⟩ := w2
  obtain ⟨h31, h32, h33, h34, h35⟩ := w3
  obtain ⟨h41, h42, h43, h44, h45⟩ := w4
  by_cases hbig : 2000 < a0.size + n1 + n3 + n4
  · exact listTrip_big a0 a1 a2 a3 a4 n1 c1 n2 c2 n3 c3 n4 c4 w hbig (by omega) (by omega) (by omega) (by omega)
  · by_cases hm : total l2 ≤ 2000
    · exact listTrip_small a0 l1 l2 l3 l4 a1 a2 a3 a4 n1 c1 n2 c2 n3 c3 n4 c4 w (by omega) h11 h13 h12 h21 hm h22 h31 h33 h32 h41 h42
    · exact listTrip_many a0 l2 a1 a2 a3 a4 n1 c1 n2 c2 n3 c3 n4 c4 w (by omega) h21 (by omega) (by omega) h22

theorem bulk_mem {H : Type} {d : DataW H} {l : List (DataW H)} (h : d ∈ l) : Rows.uptoBulk d ≤ Rows.uptoBulkAll l := by
  induction l with
  | nil => cases h
  | cons x r ih =>
    simp only [Rows.uptoBulkAll]
    rcases List.mem_cons.1 h with rfl | e
    · omega
    · have := ih e; omega

set_option maxRecDepth 100000 in
theorem contract (H : Type) (enc : TypeId × Value → H) (W : World) (base : Nat) (args : Array Value) (ds gs : List (DataW H)) (before : List MemPlace)
    (hval0 : ∀ (j : Nat) t v, Try.f8.params[j]? = some t → args[j]? = some v → Value.okWide Try.prog W .any base t v)
    (hW : DataW.Whole enc Try.prog Try.f8.params.toList Rows.wireListRoundTripSpec.vars false W args.toList ds gs before) (hk : Rows.uptoSmall H (ds ++ gs) = true)
    (hsz0 : (DataW.weightsEach Try.prog (Try.f8.params.toList ++ Rows.wireListRoundTripSpec.plain.varTypes Try.prog) (ds ++ gs)).all (· ≤ reachBytes) = true) :
    Calls Try.prog 8 args W fun e W' => ∃ v, e = .returned v ∧ Rows.wireListRoundTripSpec.post enc Try.prog Try.f8 false true false false W args v W' := by
  have hsz : (DataW.weightsEach Try.prog (Try.f8.params.toList ++ Rows.wireListRoundTripSpec.plain.varTypes Try.prog) (ds ++ gs)).all (· ≤ reachBytes) = true := hsz0
  clear hsz0
  have hval : ∀ (j : Nat) t v, Try.f8.params[j]? = some t → args[j]? = some v → Value.okWide Try.prog W .any base t v := hval0
  have hW' := hW
  obtain ⟨p, q, hA0, hV, rfl, hfz, hnd⟩ := hW
  have hA : DataW.TrodAll enc Try.prog W 0 (fun _ => true) true Try.f8.params.toList args.toList ds p := hA0
  rw [Try.params8] at hA hval hsz
  obtain ⟨v0, vs0, d0, ds0, p0, q0, hargs, rfl, rfl, h0, r0⟩ := trodAll_cons hA
  obtain ⟨v1, vs1, d1, ds1, p1, q1, rfl, rfl, rfl, h1, r1⟩ := trodAll_cons r0
  obtain ⟨v2, vs2, d2, ds2, p2, q2, rfl, rfl, rfl, h2, r2⟩ := trodAll_cons r1
  obtain ⟨v3, vs3, d3, ds3, p3, q3, rfl, rfl, rfl, h3, r3⟩ := trodAll_cons r2
  obtain ⟨v4, vs4, d4, ds4, p4, q4, rfl, rfl, rfl, h4, r4⟩ := trodAll_cons r3
  obtain ⟨rfl, rfl, rfl⟩ := trodAll_nil r4
  obtain rfl : args = #[v0, v1, v2, v3, v4] := by cases args; simp_all
  obtain ⟨rfl, rfl⟩ := trodVars_none hV
  have hbulk := of_decide_eq_true hk
  simp only [List.append_nil] at hbulk
  obtain ⟨a0, rfl, rfl, rfl, w0⟩ := open_string Try.underlying9 (hval 0 9 v0 rfl rfl) h0
  have s0 : a0.size ≤ 140737488351232 := by
    have h := sized_string hsz (j := 0) (bytes := a0.data.toList) rfl rfl
    rw [ba_len] at h
    exact h
  obtain ⟨a1, n1, c1, rfl⟩ := okWide_slice Try.underlying22 (hval 1 22 v1 rfl rfl)
  have k1 := h1
  have lt1 : ∀ x ∈ p1, x.block < W.heap.size := by obtain ⟨m, hm⟩ := k1; exact DataW.trod_lt m _ _ _ hm
  have z1 : ∀ elems spare, d1 = .slice elems spare → (elems.length + spare.length) * Try.prog.bytesOf 3 ≤ reachBytes := fun elems spare h => sized_slice hsz (j := 1) (t := 22) (e := 3) rfl (by rw [h]; rfl) Try.underlying22
  obtain ⟨l1, w1⟩ := opened_ints k1 Try.underlying22 Try.underlying3 (by kernel_rfl) (by kernel_rfl) z1
  obtain ⟨a2, n2, c2, rfl⟩ := okWide_slice Try.underlying23 (hval 2 23 v2 rfl rfl)
  have k2 := h2
  have lt2 : ∀ x ∈ p2, x.block < W.heap.size := by obtain ⟨m, hm⟩ := k2; exact DataW.trod_lt m _ _ _ hm
  have z2 : ∀ elems spare, d2 = .slice elems spare → (elems.length + spare.length) * Try.prog.bytesOf 9 ≤ reachBytes := fun elems spare h => sized_slice hsz (j := 2) (t := 23) (e := 9) rfl (by rw [h]; rfl) Try.underlying23
  obtain ⟨l2, w2⟩ := opened_strs k2 Try.underlying23 Try.underlying9 (by kernel_rfl) (by kernel_rfl) z2
  have t2 : total l2 ≤ 1048576 := by
    rcases w2.2.2.2.2 with ⟨_, hd⟩ | ⟨spare, hd⟩
    · rw [hd]; simp [total]
    · have h1 : Rows.uptoBulk d2 ≤ 1048576 := Nat.le_trans (bulk_mem (by simp)) hbulk
      rw [hd] at h1
      simp only [Rows.uptoBulk, bulk_strs] at h1
      omega
  obtain ⟨a3, n3, c3, rfl⟩ := okWide_slice Try.underlying24 (hval 3 24 v3 rfl rfl)
  have k3 := h3
  have lt3 : ∀ x ∈ p3, x.block < W.heap.size := by obtain ⟨m, hm⟩ := k3; exact DataW.trod_lt m _ _ _ hm
  have z3 : ∀ elems spare, d3 = .slice elems spare → (elems.length + spare.length) * Try.prog.bytesOf 57 ≤ reachBytes := fun elems spare h => sized_slice hsz (j := 3) (t := 24) (e := 57) rfl (by rw [h]; rfl) Try.underlying24
  obtain ⟨l3, w3⟩ := opened_digs k3 Try.underlying24 Try.underlying57 Try.underlying5 (by kernel_rfl) (by kernel_rfl) (by kernel_rfl) z3
  obtain ⟨a4, n4, c4, rfl⟩ := okWide_slice Try.underlying28 (hval 4 28 v4 rfl rfl)
  have k4 := h4
  have lt4 : ∀ x ∈ p4, x.block < W.heap.size := by obtain ⟨m, hm⟩ := k4; exact DataW.trod_lt m _ _ _ hm
  have z4 : ∀ elems spare, d4 = .slice elems spare → (elems.length + spare.length) * Try.prog.bytesOf 5 ≤ reachBytes := fun elems spare h => sized_slice hsz (j := 4) (t := 28) (e := 5) rfl (by rw [h]; rfl) Try.underlying28
  obtain ⟨l4, w4⟩ := opened_bytes k4 Try.underlying28 Try.underlying5 (by kernel_rfl) (by kernel_rfl) z4
  clear hA0 hval0
  refine (walk a0 a1 n1 c1 l1 a2 n2 c2 l2 a3 n3 c3 l3 a4 n4 c4 l4 W s0 w1 ⟨w2.1, w2.2.1, w2.2.2.1, w2.2.2.2.1⟩ t2 w3 w4).mono fun e W' ⟨he, bel⟩ => ?_
  subst he
  exact ⟨_, rfl, _, _, _, [], _, [], hW', trodAll_mk1 (shut_bool Try.underlying4 _), (trodAll_cons_mk (shut_string Try.underlying9 w0) (trodAll_cons_mk (Below.trod laidOut (by kernel_rfl) (of_decide_eq_true (by kernel_rfl)) k1 bel lt1) (trodAll_cons_mk (Below.trod laidOut (by kernel_rfl) (of_decide_eq_true (by kernel_rfl)) k2 bel lt2) (trodAll_cons_mk (Below.trod laidOut (by kernel_rfl) (of_decide_eq_true (by kernel_rfl)) k3 bel lt3) (trodAll_cons_mk (Below.trod laidOut (by kernel_rfl) (of_decide_eq_true (by kernel_rfl)) k4 bel lt4) trodAll_mk0))))), rfl, bel.frame _, fun h => by cases h⟩

set_option maxRecDepth 100000 in
theorem lifted (os : Os) (started : os.Started) (H : Type) (enc : TypeId × Value → H) (F : Stop.Interp) :
    ReturnsInHanded {} Try.checked os 8 .any ((Rows.OpenSpec.upto Rows.wireListRoundTripSpec).pre6 enc Try.prog Try.f8 Rows.wireListRoundTripUptoRow.domain false) (((Rows.OpenSpec.upto Rows.wireListRoundTripSpec).at F).post enc Try.prog Try.f8 false true false false) := by
  refine returnsInHanded_of_cond_sized (C := Try.checked) (s := Rows.OpenSpec.upto Rows.wireListRoundTripSpec) (k := Rows.uptoSmall) rfl own started (by kernel_rfl) Try.func8
    (OpenSpec.witness (enc := enc) (C := Try.checked) (s := Rows.OpenSpec.upto Rows.wireListRoundTripSpec) (k := Rows.uptoSmall) rfl false ⟨#[], #[.string ByteArray.empty, .slice none 0 0, .slice none 0 0, .slice none 0 0, .slice none 0 0], []⟩ 8 (by kernel_rfl) (by kernel_rfl) (by kernel_rfl)
      (x := ([.lit (.string []), .nil, .nil, .nil, .nil], [], [])) (by kernel_rfl) rfl (by kernel_rfl)) ?_
  intro W base args ds gs before hval hW _ hk hsz _
  exact contract H enc W base args ds gs before hval hW hk hsz

theorem proved : Rows.WireListRoundTripUptoSaid :=
  OpenClaim.holds_of_cond 8 Try.f8 rfl rfl rfl rfl rfl rfl rfl ⟨rfl, rfl, rfl, rfl, rfl⟩ rfl rfl rfl rfl rfl (by kernel_rfl) Try.func8 (by kernel_rfl)
    (of_decide_eq_true (by kernel_rfl)) (by unfold Func.isWrapper; first | (rw [if_pos (by decide +kernel)]; kernel_rfl) | (rw [if_neg (by decide +kernel)]; exact ⟨rfl, rfl⟩))
    (fun os started H enc _ F => lifted os started H enc F)
end Go.Proofs.Ytchlomkohjjpmaa.wireListRoundTrip
