/-
  Proved: for any two tags and any two lists of parts, voxellaw02.HashOfSeparates answers true and changes nothing that was there, the two tables of package hash lying as the program's text lays them (the card ties them). Conditions: none beyond the row's own.
-/
import Derived.Test.YtfaadaahpjpfaaaDoorRows
import Derived.Test.YtfaadaahpjpfaaaDoorCards
import Derived.Test.YtfaadaahpjpfaaaDoorTie
import Derived.Test.YtfaadaahpjpfaaaDoorHlawf
import Derived.Test.YtfaadaahpjpfaaaDoorHopn
import Derived.Test.YtfaadaahpjpfaaaDoorHopp
import Derived.Test.YtfaadaahpjpfaaaDoorHopen
import Derived.SevenTiedAt
namespace Go.Proofs.YtfaadaahpjpfaaaDoor.hashOfSeparates
open Go.ChangeShapes Go.WideShapes Go.ChangeAt Go.RowKit
open Go.ChangeMaps (open_string shut_string)
set_option linter.unusedVariables false

theorem own : ownKnob Tryd.prog.godebug = none := by kernel_rfl
theorem laidOut : laidOutB Tryd.prog = true := by kernel_rfl
def laids : List (String × DataW Unit) := [("voxel/hash.start", Rows.laid_voxel_hash_start), ("voxel/hash.roundWords", Rows.laid_voxel_hash_roundWords)]

/-- the walk: the law answers true, and changes nothing that was there -/
theorem walk (a0 b0 : Int) (a1 : Option Addr) (n1 c1 : Nat) (l1 : List (List UInt8)) (a2 : Option Addr) (n2 c2 : Nat) (l2 : List (List UInt8)) (w : World) (hT : Tab w) (w0 : (0 ≤ a0 ∧ a0 < 256) ∧ (0 ≤ b0 ∧ b0 < 256)) (w1 : l1.length = n1 ∧ Lies w a1 (l1.map sv) ∧ n1 ≤ c1 ∧ c1 * 16 ≤ 140737488351232) (t1 : ∀ s ∈ l1, s.length ≤ 140737488351232) (w2 : l2.length = n2 ∧ Lies w a2 (l2.map sv) ∧ n2 ≤ c2 ∧ c2 * 16 ≤ 140737488351232) (t2 : ∀ s ∈ l2, s.length ≤ 140737488351232) :
    Calls Tryd.prog 8 #[.agg #[.int .u8 a0, .int .u8 b0], .slice a1 n1 c1, .slice a2 n2 c2] w fun e w' => e = .returned (.bool true) ∧ Below w.heap.size w w' := by
  exact sep_law a0 b0 w0.1 w0.2 l1 l2 a1 a2 n1 c1 n2 c2 w hT w1.1 w1.2.1 t1 (by have := w1.2.2.1; have := w1.2.2.2; omega) w2.1 w2.2.1 t2 (by have := w2.2.2.1; have := w2.2.2.2; omega)

/-- the door's own heap meets the condition -/
theorem door_met (os : Os) (args : Array Value) : laidMetH Tryd.prog laids ((World.doorLaid Tryd.prog 400 os).forCall (fun _ _ => 0) ⟨#[], args, []⟩).memory :=
  laidMetH_of_parts3 (fuel := 80) (laidMet_of_run' 80 (by kernel_rfl) (by kernel_rfl)) (by kernel_rfl) (by kernel_rfl)

set_option maxRecDepth 100000 in
theorem lifted (os : Os) (started : os.Started) (H : Type) (enc : TypeId × Value → H) :
    ReturnsInHanded {} Tryd.checked os 8 .any (fun w args => (Rows.hashOfSeparatesSpec.pre enc Tryd.prog Tryd.f8 [] false w args ∧ laidMetH Tryd.prog laids w) ∧ sizedMet enc Tryd.prog Tryd.f8 (OpenSpec.ofChange Rows.hashOfSeparatesSpec) false w args)
      (Rows.hashOfSeparatesSpec.post enc Tryd.prog Tryd.f8 false true false false) := by
  refine returnsInHanded_of_change_and (C := Tryd.checked) (X := fun w _ => laidMetH Tryd.prog laids w) (fun _ _ _ hh h => h.of_heap hh) own started (by kernel_rfl) Tryd.func8
    (ChangeSpec.witness_shaped (enc := enc) (C := Tryd.checked) (os := os) (X := fun w _ => laidMetH Tryd.prog laids w) false (World.doorLaid Tryd.prog 400 os) #[.agg #[.int .u8 0, .int .u8 0], .slice none 0 0, .slice none 0 0] 8 rfl (World.shaped_of_RefB (by kernel_rfl) (by kernel_rfl)) (by kernel_rfl) (by kernel_rfl) (by kernel_rfl) (door_met os _)) ?_
  intro W base args ds gs before hval0 hW _ hsz0 hL _
  have hsz : (DataW.weightsEach Tryd.prog (Tryd.f8.params.toList ++ Rows.hashOfSeparatesSpec.plain.varTypes Tryd.prog) (ds ++ gs)).all (· ≤ reachBytes) = true := hsz0
  clear hsz0
  have hval : ∀ (j : Nat) t v, Tryd.f8.params[j]? = some t → args[j]? = some v → Value.okWide Tryd.prog W .any base t v := hval0
  have hW' := hW
  obtain ⟨p, q, hA0, hV, rfl, hfz, hnd⟩ := hW
  have hA : DataW.TrodAll enc Tryd.prog W 0 (fun _ => true) true Tryd.f8.params.toList args.toList ds p := hA0
  rw [Tryd.params8] at hA hval hsz
  obtain ⟨v0, vs0, d0, ds0, p0, q0, hargs, rfl, rfl, h0, r0⟩ := trodAll_cons hA
  obtain ⟨v1, vs1, d1, ds1, p1, q1, rfl, rfl, rfl, h1, r1⟩ := trodAll_cons r0
  obtain ⟨v2, vs2, d2, ds2, p2, q2, rfl, rfl, rfl, h2, r2⟩ := trodAll_cons r1
  obtain ⟨rfl, rfl, rfl⟩ := trodAll_nil r2
  obtain rfl : args = #[v0, v1, v2] := by cases args; simp_all
  obtain ⟨rfl, rfl⟩ := trodVars_none hV
  have HTab := tab_of_laid2 hL
  have k0 := h0
  have lt0 : ∀ x ∈ p0, x.block < W.heap.size := by obtain ⟨m, hm⟩ := k0; exact DataW.trod_lt m _ _ _ hm
  obtain ⟨a0, b0, rfl, wa0, wb0⟩ := open_pair k0 Tryd.underlying48 Tryd.underlying5 (by kernel_rfl) (by kernel_rfl)
  obtain ⟨a1, n1, c1, rfl⟩ := okWide_slice Tryd.underlying27 (hval 1 27 v1 rfl rfl)
  have k1 := h1
  have lt1 : ∀ x ∈ p1, x.block < W.heap.size := by obtain ⟨m, hm⟩ := k1; exact DataW.trod_lt m _ _ _ hm
  have z1 : ∀ elems spare, d1 = .slice elems spare → (elems.length + spare.length) * Tryd.prog.bytesOf 9 ≤ reachBytes := fun elems spare h => sized_slice hsz (j := 1) (t := 27) (e := 9) rfl (by rw [h]; rfl) Tryd.underlying27
  obtain ⟨l1, w1⟩ := opened_strs k1 Tryd.underlying27 Tryd.underlying9 (by kernel_rfl) (by kernel_rfl) z1
  have t1 : ∀ s ∈ l1, s.length ≤ 140737488351232 := by
    rcases w1.2.2.2.2 with ⟨_, hd⟩ | ⟨spare, hd⟩
    · rw [hd]; intro s hs; simp at hs
    · exact sized_strs hsz (j := 1) (t := 27) (e := 9) rfl (by rw [hd]; rfl) Tryd.underlying27
  obtain ⟨a2, n2, c2, rfl⟩ := okWide_slice Tryd.underlying27 (hval 2 27 v2 rfl rfl)
  have k2 := h2
  have lt2 : ∀ x ∈ p2, x.block < W.heap.size := by obtain ⟨m, hm⟩ := k2; exact DataW.trod_lt m _ _ _ hm
  have z2 : ∀ elems spare, d2 = .slice elems spare → (elems.length + spare.length) * Tryd.prog.bytesOf 9 ≤ reachBytes := fun elems spare h => sized_slice hsz (j := 2) (t := 27) (e := 9) rfl (by rw [h]; rfl) Tryd.underlying27
  obtain ⟨l2, w2⟩ := opened_strs k2 Tryd.underlying27 Tryd.underlying9 (by kernel_rfl) (by kernel_rfl) z2
  have t2 : ∀ s ∈ l2, s.length ≤ 140737488351232 := by
    rcases w2.2.2.2.2 with ⟨_, hd⟩ | ⟨spare, hd⟩
    · rw [hd]; intro s hs; simp at hs
    · exact sized_strs hsz (j := 2) (t := 27) (e := 9) rfl (by rw [hd]; rfl) Tryd.underlying27
  clear hA0 hval0
  refine (walk a0 b0 a1 n1 c1 l1 a2 n2 c2 l2 W HTab ⟨u8_wf wa0, u8_wf wb0⟩ ⟨w1.1, w1.2.1, w1.2.2.1, w1.2.2.2.1⟩ t1 ⟨w2.1, w2.2.1, w2.2.2.1, w2.2.2.2.1⟩ t2).mono fun e W' ⟨he, bel⟩ => ?_
  subst he
  exact ⟨_, rfl, _, _, _, [], _, [], hW', trodAll_mk1 (shut_bool Tryd.underlying4 _), (trodAll_cons_mk (Below.trod laidOut (by kernel_rfl) (of_decide_eq_true (by kernel_rfl)) k0 bel lt0) (trodAll_cons_mk (Below.trod laidOut (by kernel_rfl) (of_decide_eq_true (by kernel_rfl)) k1 bel lt1) (trodAll_cons_mk (Below.trod laidOut (by kernel_rfl) (of_decide_eq_true (by kernel_rfl)) k2 bel lt2) trodAll_mk0))), rfl, bel.frame _, fun h => by cases h⟩

theorem over : Rows.HashOfSeparatesSaid :=
  OpenClaim.holds_of_wide 8 Tryd.f8 rfl rfl rfl rfl rfl rfl rfl ⟨rfl, rfl, rfl, rfl, rfl⟩ rfl rfl rfl rfl rfl (by kernel_rfl) Tryd.func8 (by kernel_rfl)
    (of_decide_eq_true (by kernel_rfl)) (by unfold Func.isWrapper; first | (rw [if_pos (by decide +kernel)]; kernel_rfl) | (rw [if_neg (by decide +kernel)]; exact ⟨rfl, rfl⟩))
    (fun os started H enc _ => lifted os started H enc)

theorem proved : Rows.HashOfSeparatesCardSaid :=
  Claim7.holds_tied_plain_at .later [] [.data, .data] true _ false
    over (fun _ h => by cases h) (by kernel_rfl) (fun _ h => by cases h) hashOfSeparates_row_tie rfl ⟨rfl, rfl⟩ (by kernel_rfl) rfl
    (fun f fn hf hfn => by
      obtain rfl : f = 8 := Option.some.inj ((show Tryd.prog.funcNamed "voxel/voxellaw02.HashOfSeparates" = some 8 by kernel_rfl).symm.trans hf) |>.symm
      obtain rfl : fn = Tryd.f8 := (Option.some.inj (Tryd.func8.symm.trans hfn)).symm
      exact ⟨by kernel_rfl, fun j t ht => by
        rw [Tryd.params8] at ht
        have hm : t ∈ ([48, 27, 27] : List TypeId) := by simpa using Array.mem_of_getElem? ht
        have hall : (([48, 27, 27] : List TypeId).all fun u => !Tryd.prog.wantsStandIn u) = true := by kernel_rfl
        exact (show Tryd.prog.wantsStandIn t = false by simpa using List.all_eq_true.1 hall t hm)⟩)
    (by kernel_rfl)
end Go.Proofs.YtfaadaahpjpfaaaDoor.hashOfSeparates
