/-
  Proved: for every integer, string, and slices of integers, strings and digests, voxellaw01.WireTruncated answers true and changes nothing that was there. Conditions: none beyond the row's own.
-/
import Derived.Test.YtchlomkohjjpmaaRows
import Derived.Test.YtchlomkohjjpmaaLawi
import Derived.Test.YtchlomkohjjpmaaOpen
import Derived.Test.YtchlomkohjjpmaaOpenb
namespace Go.Proofs.Ytchlomkohjjpmaa.wireTruncated
open Go.ChangeShapes Go.WideShapes Go.ChangeAt Go.RowKit
open Go.ChangeMaps (open_string shut_string)
set_option linter.unusedVariables false

theorem own : ownKnob Try.prog.godebug = none := by kernel_rfl
theorem laidOut : laidOutB Try.prog = true := by kernel_rfl

/-- the walk: the law answers true, and changes nothing that was there -/
theorem walk (a0 : Int) (a1 : ByteArray) (a2 : Option Addr) (n2 c2 : Nat) (l2 : List Int) (a3 : Option Addr) (n3 c3 : Nat) (l3 : List (List UInt8)) (a4 : Option Addr) (n4 c4 : Nat) (l4 : List (List UInt8)) (w : World) (w0 : -9223372036854775808 ≤ a0 ∧ a0 ≤ 9223372036854775807) (w1 : a1.size ≤ 140737488351232) (w2 : l2.length = n2 ∧ Lies w a2 (l2.map iv) ∧ Fits l2 ∧ n2 ≤ c2 ∧ c2 * 8 ≤ 140737488351232) (w3 : l3.length = n3 ∧ Lies w a3 (l3.map sv) ∧ n3 ≤ c3 ∧ c3 * 16 ≤ 140737488351232) (t3 : ∀ s ∈ l3, s.length ≤ 140737488351232) (w4 : l4.length = n4 ∧ Lies w a4 (dcells l4) ∧ Is16 l4 ∧ n4 ≤ c4 ∧ c4 * 16 ≤ 140737488351232) :
    Calls Try.prog 9 #[.int .i64 a0, .string a1, .slice a2 n2 c2, .slice a3 n3 c3, .slice a4 n4 c4] w fun e w' => e = .returned (.bool true) ∧ Below w.heap.size w w' := by
  obtain ⟨h21, h22, h23, h24, h25⟩ := w2
  obtain ⟨h31, h32, h33, h34⟩ := w3
  obtain ⟨h41, h42, h43, h44, h45⟩ := w4
  by_cases hbig : 400 < a1.size + 10 * n2 + 16 * n4
  · exact truncated_big a0 a1 a2 a3 a4 n2 c2 n3 c3 n4 c4 w (by omega) (by omega) (by omega) hbig
  · by_cases hw : 40 < n3
    · exact truncated_wide a0 a1 a2 a3 a4 n2 c2 n3 c3 n4 c4 w (by omega) hw
    · by_cases hm : total l3 ≤ 2000
      · exact truncated_small a0 a1 l2 l3 l4 a2 a3 a4 n2 c2 n3 c3 n4 c4 w w0.1 w0.2 (by omega) (by omega) h21 h23 h22 h31 hm h32 h41 h43 h42
      · have ht := total_bd l3 140737488351232 t3
        have ht2 : l3.length * (140737488351232 + 1) ≤ 40 * (140737488351232 + 1) := Nat.mul_le_mul_right _ (by omega)
        exact truncated_many a0 a1 l3 a2 a3 a4 n2 c2 n3 c3 n4 c4 w (by omega) (by omega) h31 (by omega) (by omega) h32

set_option maxRecDepth 100000 in
theorem lifted (os : Os) (started : os.Started) (H : Type) (enc : TypeId × Value → H) :
    ReturnsInHanded {} Try.checked os 9 .any (Rows.wireTruncatedSpec.pre6 enc Try.prog Try.f9 Rows.wireTruncatedRow.domain false) (Rows.wireTruncatedSpec.post enc Try.prog Try.f9 false true false false) := by
  refine returnsInHanded_of_change_sized (C := Try.checked) own started (by kernel_rfl) Try.func9
    (ChangeSpec.witness6 (enc := enc) (C := Try.checked) false ⟨#[], #[.int .i64 0, .string ByteArray.empty, .slice none 0 0, .slice none 0 0, .slice none 0 0], []⟩ 8 (by kernel_rfl) (by kernel_rfl) (by kernel_rfl) (by kernel_rfl)) ?_
  intro W base args ds gs before hval0 hW hcnd hsz0 _
  have hsz : (DataW.weightsEach Try.prog (Try.f9.params.toList ++ Rows.wireTruncatedSpec.plain.varTypes Try.prog) (ds ++ gs)).all (· ≤ reachBytes) = true := hsz0
  clear hsz0
  have hval : ∀ (j : Nat) t v, Try.f9.params[j]? = some t → args[j]? = some v → Value.okWide Try.prog W .any base t v := hval0
  have hW' := hW
  obtain ⟨p, q, hA0, hV, rfl, hfz, hnd⟩ := hW
  have hA : DataW.TrodAll enc Try.prog W 0 (fun _ => true) true Try.f9.params.toList args.toList ds p := hA0
  rw [Try.params9] at hA hval hsz
  obtain ⟨v0, vs0, d0, ds0, p0, q0, hargs, rfl, rfl, h0, r0⟩ := trodAll_cons hA
  obtain ⟨v1, vs1, d1, ds1, p1, q1, rfl, rfl, rfl, h1, r1⟩ := trodAll_cons r0
  obtain ⟨v2, vs2, d2, ds2, p2, q2, rfl, rfl, rfl, h2, r2⟩ := trodAll_cons r1
  obtain ⟨v3, vs3, d3, ds3, p3, q3, rfl, rfl, rfl, h3, r3⟩ := trodAll_cons r2
  obtain ⟨v4, vs4, d4, ds4, p4, q4, rfl, rfl, rfl, h4, r4⟩ := trodAll_cons r3
  obtain ⟨rfl, rfl, rfl⟩ := trodAll_nil r4
  obtain rfl : args = #[v0, v1, v2, v3, v4] := by cases args; simp_all
  obtain ⟨rfl, rfl⟩ := trodVars_none hV
  obtain ⟨a0, rfl, rfl, rfl, w0⟩ := open_int Try.underlying3 (hval 0 3 v0 rfl rfl) h0
  obtain ⟨a1, rfl, rfl, rfl, w1⟩ := open_string Try.underlying9 (hval 1 9 v1 rfl rfl) h1
  have s1 : a1.size ≤ 140737488351232 := by
    have h := sized_string hsz (j := 1) (bytes := a1.data.toList) rfl rfl
    rw [ba_len] at h
    exact h
  obtain ⟨a2, n2, c2, rfl⟩ := okWide_slice Try.underlying22 (hval 2 22 v2 rfl rfl)
  have k2 := h2
  have lt2 : ∀ x ∈ p2, x.block < W.heap.size := by obtain ⟨m, hm⟩ := k2; exact DataW.trod_lt m _ _ _ hm
  have z2 : ∀ elems spare, d2 = .slice elems spare → (elems.length + spare.length) * Try.prog.bytesOf 3 ≤ reachBytes := fun elems spare h => sized_slice hsz (j := 2) (t := 22) (e := 3) rfl (by rw [h]; rfl) Try.underlying22
  obtain ⟨l2, w2⟩ := opened_ints k2 Try.underlying22 Try.underlying3 (by kernel_rfl) (by kernel_rfl) z2
  obtain ⟨a3, n3, c3, rfl⟩ := okWide_slice Try.underlying23 (hval 3 23 v3 rfl rfl)
  have k3 := h3
  have lt3 : ∀ x ∈ p3, x.block < W.heap.size := by obtain ⟨m, hm⟩ := k3; exact DataW.trod_lt m _ _ _ hm
  have z3 : ∀ elems spare, d3 = .slice elems spare → (elems.length + spare.length) * Try.prog.bytesOf 9 ≤ reachBytes := fun elems spare h => sized_slice hsz (j := 3) (t := 23) (e := 9) rfl (by rw [h]; rfl) Try.underlying23
  obtain ⟨l3, w3⟩ := opened_strs k3 Try.underlying23 Try.underlying9 (by kernel_rfl) (by kernel_rfl) z3
  have t3 : ∀ s ∈ l3, s.length ≤ 140737488351232 := by
    rcases w3.2.2.2.2 with ⟨_, hd⟩ | ⟨spare, hd⟩
    · rw [hd]; intro s hs; simp at hs
    · exact sized_strs hsz (j := 3) (t := 23) (e := 9) rfl (by rw [hd]; rfl) Try.underlying23
  obtain ⟨a4, n4, c4, rfl⟩ := okWide_slice Try.underlying24 (hval 4 24 v4 rfl rfl)
  have k4 := h4
  have lt4 : ∀ x ∈ p4, x.block < W.heap.size := by obtain ⟨m, hm⟩ := k4; exact DataW.trod_lt m _ _ _ hm
  have z4 : ∀ elems spare, d4 = .slice elems spare → (elems.length + spare.length) * Try.prog.bytesOf 57 ≤ reachBytes := fun elems spare h => sized_slice hsz (j := 4) (t := 24) (e := 57) rfl (by rw [h]; rfl) Try.underlying24
  obtain ⟨l4, w4⟩ := opened_digs k4 Try.underlying24 Try.underlying57 Try.underlying5 (by kernel_rfl) (by kernel_rfl) (by kernel_rfl) z4
  clear hA0 hval0
  refine (walk a0 a1 a2 n2 c2 l2 a3 n3 c3 l3 a4 n4 c4 l4 W (i64_wf w0) s1 w2 ⟨w3.1, w3.2.1, w3.2.2.1, w3.2.2.2.1⟩ t3 w4).mono fun e W' ⟨he, bel⟩ => ?_
  subst he
  exact ⟨_, rfl, _, _, _, [], _, [], hW', trodAll_mk1 (shut_bool Try.underlying4 _), (trodAll_cons_mk (shut_int Try.underlying3 w0) (trodAll_cons_mk (shut_string Try.underlying9 w1) (trodAll_cons_mk (Below.trod laidOut (by kernel_rfl) (of_decide_eq_true (by kernel_rfl)) k2 bel lt2) (trodAll_cons_mk (Below.trod laidOut (by kernel_rfl) (of_decide_eq_true (by kernel_rfl)) k3 bel lt3) (trodAll_cons_mk (Below.trod laidOut (by kernel_rfl) (of_decide_eq_true (by kernel_rfl)) k4 bel lt4) trodAll_mk0))))), rfl, bel.frame _, fun h => by cases h⟩

theorem over : Rows.wireTruncatedRow.holds Try.pinned (OpenSpec.ofChange Rows.wireTruncatedSpec) :=
  OpenClaim.holds_of_wide 9 Try.f9 rfl rfl rfl rfl rfl rfl rfl ⟨rfl, rfl, rfl, rfl, rfl⟩ rfl rfl rfl rfl rfl (by kernel_rfl) Try.func9 (by kernel_rfl)
    (of_decide_eq_true (by kernel_rfl)) (by unfold Func.isWrapper; first | (rw [if_pos (by decide +kernel)]; kernel_rfl) | (rw [if_neg (by decide +kernel)]; exact ⟨rfl, rfl⟩))
    (fun os started H enc _ => lifted os started H enc)

theorem proved : Rows.WireTruncatedSaid := over
end Go.Proofs.Ytchlomkohjjpmaa.wireTruncated
