/-
  voxellaw04.PointTurnsAreAGroup, its walk.
-/
import Derived.Test.YthadlgjobjnhcaaDoorPsn
import Derived.Test.YthadlgjobjnhcaaDoorPty2
import Derived.Test.YthadlgjobjnhcaaDoorPtv
import Derived.Test.YthadlgjobjnhcaaDoorPtx
import Derived.Test.YthadlgjobjnhcaaDoorPm7
import Derived.Handy
namespace Go.Proofs.YthadlgjobjnhcaaDoor
open Go.RowKit
set_option linter.unusedVariables false
set_option maxRecDepth 1000000 in
set_option maxHeartbeats 8000000 in
theorem law6_s (a b c x1 x2 x3 : Int) (w : World) (hT : Tab w) (h1 : 0 ≤ a ∧ a < 256) (h2 : 0 ≤ b ∧ b < 256) (h3 : 0 ≤ c ∧ c < 256) (i1 : In64 (x1, x2, x3)) (hi : [(x1, x2, x3)].all inI = false) :
    Calls Tryd.prog 6 #[.int .u8 a, .int .u8 b, .int .u8 c, .agg #[.int .i64 x1, .int .i64 x2, .int .i64 x3]] w fun e w' => e = .returned (.bool true) ∧ Below w.heap.size w w' := by
  obtain ⟨s1, e1⟩ : ∃ s : Nat, (s : Int) = a % 48 := ⟨(a % 48).toNat, by omega⟩
  have l1 : s1 < 48 := by omega
  have HQ1 : Hid (a.tmod 48 = (s1 : Int)) := Lib.hid (by rw [Int.tmod_eq_emod_of_nonneg h1.1, e1])
  clear e1
  obtain ⟨s2, e2⟩ : ∃ s : Nat, (s : Int) = b % 48 := ⟨(b % 48).toNat, by omega⟩
  have l2 : s2 < 48 := by omega
  have HQ2 : Hid (b.tmod 48 = (s2 : Int)) := Lib.hid (by rw [Int.tmod_eq_emod_of_nonneg h2.1, e2])
  clear e2
  obtain ⟨s3, e3⟩ : ∃ s : Nat, (s : Int) = c % 48 := ⟨(c % 48).toNat, by omega⟩
  have l3 : s3 < 48 := by omega
  have HQ3 : Hid (c.tmod 48 = (s3 : Int)) := Lib.hid (by rw [Int.tmod_eq_emod_of_nonneg h3.1, e3])
  clear e3
  have HS := Lib.hid hi
  clear hi
  obtain ⟨u, hu, r0, g0⟩ := rows1 w [.int .i64 x1, .int .i64 x2, .int .i64 x3] 23
  have R0 := Lib.hid r0
  have G0 := Lib.hid g0
  have HU := Lib.hid hu
  have HT := Lib.hid (hT.below g0)
  clear hT
  clear hu g0 r0
  go_enter Tryd.func6, Tryd.ntmps6
  go_upto_region 1 with fail
  rw [← HU.out]
  refine wpG_region ?_
  refine wpG_tk (some 15) (v := .int .u8 a) rfl (.val (by rfl) (fun _ _ => rfl)) ?_
  simp only [Act.put, List.setIfInBounds_toArray, List.set_cons_zero, List.set_cons_succ]
  refine wpG_tk (some 16) (v := .int .i64 a) rfl (.val (by rfl) (fun W hg => by (go_simp <;> exact IntWalk.i64_in _ (by omega)))) ?_
  simp only [Act.put, List.setIfInBounds_toArray, List.set_cons_zero, List.set_cons_succ]
  refine wpG_tk (some 17) (v := .int .i64 (s1 : Int)) rfl (.val (by rfl) (fun W hg => by have q := HQ1.out; go_simp)) ?_
  simp only [Act.put, List.setIfInBounds_toArray, List.set_cons_zero, List.set_cons_succ]
  refine wpG_tk (some 18) (v := .int .u8 b) rfl (.val (by rfl) (fun _ _ => rfl)) ?_
  simp only [Act.put, List.setIfInBounds_toArray, List.set_cons_zero, List.set_cons_succ]
  refine wpG_tk (some 19) (v := .int .i64 b) rfl (.val (by rfl) (fun W hg => by (go_simp <;> exact IntWalk.i64_in _ (by omega)))) ?_
  simp only [Act.put, List.setIfInBounds_toArray, List.set_cons_zero, List.set_cons_succ]
  refine wpG_tk (some 20) (v := .int .i64 (s2 : Int)) rfl (.val (by rfl) (fun W hg => by have q := HQ2.out; go_simp)) ?_
  simp only [Act.put, List.setIfInBounds_toArray, List.set_cons_zero, List.set_cons_succ]
  refine wpG_tk (some 21) (v := .int .u8 c) rfl (.val (by rfl) (fun _ _ => rfl)) ?_
  simp only [Act.put, List.setIfInBounds_toArray, List.set_cons_zero, List.set_cons_succ]
  refine wpG_tk (some 22) (v := .int .i64 c) rfl (.val (by rfl) (fun W hg => by (go_simp <;> exact IntWalk.i64_in _ (by omega)))) ?_
  simp only [Act.put, List.setIfInBounds_toArray, List.set_cons_zero, List.set_cons_succ]
  refine wpG_tk (some 23) (v := .int .i64 (s3 : Int)) rfl (.val (by rfl) (fun W hg => by have q := HQ3.out; go_simp)) ?_
  simp only [Act.put, List.setIfInBounds_toArray, List.set_cons_zero, List.set_cons_succ]
  refine wpG_tk (some 9) (v := .int .i64 (s1 : Int)) rfl (.val (by rfl) (fun _ _ => rfl)) ?_
  simp only [Act.put, List.setIfInBounds_toArray, List.set_cons_zero, List.set_cons_succ]
  refine wpG_tk (some 10) (v := .int .i64 (s2 : Int)) rfl (.val (by rfl) (fun _ _ => rfl)) ?_
  simp only [Act.put, List.setIfInBounds_toArray, List.set_cons_zero, List.set_cons_succ]
  refine wpG_tk (some 11) (v := .int .i64 (s3 : Int)) rfl (.val (by rfl) (fun _ _ => rfl)) ?_
  simp only [Act.put, List.setIfInBounds_toArray, List.set_cons_zero, List.set_cons_succ]
  refine wpG_done (fun V1 hv2 => ?_)
  have GC3 := Lib.hid hv2
  clear hv2
  go_upto_region 2 with fail
  refine wpG_region ?_
  refine wpG_tk (some 24) (v := .agg #[.int .i64 x1, .int .i64 x2, .int .i64 x3]) rfl (.load_mid (by rfl) 23 (.tmp 7) rfl (w.heap.size) 0 rfl [.int .i64 x1, .int .i64 x2, .int .i64 x3] _ (fun W hg => (R0.out.below (GC3.out.trans hg)).range) Tryd.underlying23 rfl (by kernel_rfl)) ?_
  simp only [Act.put, List.setIfInBounds_toArray, List.set_cons_zero, List.set_cons_succ]
  refine wpG_val (some 25) rfl (by rfl) (fun W4 hg5 => ⟨.slice (some ⟨W4.heap.size, 0, none⟩) 1 1, W4.alloc (.cells #[.int .i64 x1, .int .i64 x2, .int .i64 x3] 23), by (go_simp <;> rfl), ?_⟩)
  simp only [Act.put, List.setIfInBounds_toArray, List.set_cons_zero, List.set_cons_succ]
  obtain ⟨U6, hu, rn, gn⟩ : ∃ z, z = W4.alloc (.cells #[.int .i64 x1, .int .i64 x2, .int .i64 x3] 23) ∧ Row W4.heap.size [.int .i64 x1, .int .i64 x2, .int .i64 x3] z ∧ Gr W4 z := ⟨_, rfl, Row.newl W4 [.int .i64 x1, .int .i64 x2, .int .i64 x3] 23, Gr.al _ _⟩
  rw [← hu]
  have RN7 := Lib.hid rn
  have GB8 := Lib.hid (Gr.trans (GC3.out.trans hg5) gn)
  clear hu rn gn hg5
  refine wpG_tk (some 26) (v := .bool false) rfl (.call (f := 61) (args := #[.slice (some ⟨W4.heap.size, 0, none⟩) 1 1]) (by rfl) (fun W => by go_simp) (fun W hg => inner_is [(x1, x2, x3)] W4.heap.size 1 false W rfl (by decide) (RN7.out.below hg) (List.forall_mem_cons.2 ⟨i1, (fun _ h => absurd h List.not_mem_nil)⟩) HS.out)) ?_
  simp only [Act.put, List.setIfInBounds_toArray, List.set_cons_zero, List.set_cons_succ]
  refine wpG_tk (some 27) (v := .bool true) rfl (.val (by rfl) (fun W hg => by go_simp)) ?_
  simp only [Act.put, List.setIfInBounds_toArray, List.set_cons_zero, List.set_cons_succ]
  refine wpG_done (fun V9 hv10 => ?_)
  have GC11 := Lib.hid (GB8.out.trans hv10)
  clear hv10
  go_upto_region 3 with fail
  refine wpG_region ?_
  refine wpG_tk (some 28) (v := .bool true) rfl (.call (f := 12) (args := #[]) (by rfl) (fun W => by go_simp) (fun W hg => sanity_any W (HT.out.below (GC11.out.trans hg)))) ?_
  simp only [Act.put, List.setIfInBounds_toArray, List.set_cons_zero, List.set_cons_succ]
  refine wpG_tk (some 8) (v := .bool true) rfl (.val (by rfl) (fun _ _ => rfl)) ?_
  simp only [Act.put, List.setIfInBounds_toArray, List.set_cons_zero, List.set_cons_succ]
  refine wpG_done (fun V12 hv13 => ?_)
  have GC14 := Lib.hid (GC11.out.trans hv13)
  clear hv13
  go_wp2_with fail
  go_ret
  exact ⟨rfl, Gr.to G0.out GC14.out⟩
set_option maxRecDepth 1000000 in
set_option maxHeartbeats 8000000 in
theorem law6_t (a b c x1 x2 x3 : Int) (w : World) (hT : Tab w) (h1 : 0 ≤ a ∧ a < 256) (h2 : 0 ≤ b ∧ b < 256) (h3 : 0 ≤ c ∧ c < 256) (i1 : In64 (x1, x2, x3)) (hi : [(x1, x2, x3)].all inI = true) :
    Calls Tryd.prog 6 #[.int .u8 a, .int .u8 b, .int .u8 c, .agg #[.int .i64 x1, .int .i64 x2, .int .i64 x3]] w fun e w' => e = .returned (.bool true) ∧ Below w.heap.size w w' := by
  obtain ⟨s1, e1⟩ : ∃ s : Nat, (s : Int) = a % 48 := ⟨(a % 48).toNat, by omega⟩
  have l1 : s1 < 48 := by omega
  have HQ1 : Hid (a.tmod 48 = (s1 : Int)) := Lib.hid (by rw [Int.tmod_eq_emod_of_nonneg h1.1, e1])
  clear e1
  obtain ⟨s2, e2⟩ : ∃ s : Nat, (s : Int) = b % 48 := ⟨(b % 48).toNat, by omega⟩
  have l2 : s2 < 48 := by omega
  have HQ2 : Hid (b.tmod 48 = (s2 : Int)) := Lib.hid (by rw [Int.tmod_eq_emod_of_nonneg h2.1, e2])
  clear e2
  obtain ⟨s3, e3⟩ : ∃ s : Nat, (s : Int) = c % 48 := ⟨(c % 48).toNat, by omega⟩
  have l3 : s3 < 48 := by omega
  have HQ3 : Hid (c.tmod 48 = (s3 : Int)) := Lib.hid (by rw [Int.tmod_eq_emod_of_nonneg h3.1, e3])
  clear e3
  have bb := hi
  simp only [List.all_cons, List.all_nil, Bool.and_true, inI_true] at bb
  have f12 := Pt.comp_lt ⟨s1, l1⟩ ⟨s2, l2⟩
  have f23 := Pt.comp_lt ⟨s2, l2⟩ ⟨s3, l3⟩
  have fas := Pt.comp_assoc ⟨s1, l1⟩ ⟨s2, l2⟩ ⟨s3, l3⟩
  have fin := Pt.inv_lt ⟨s1, l1⟩
  have fci := Pt.comp_inv ⟨s1, l1⟩
  have fmi := Pt.mirror_comp ⟨s1, l1⟩ ⟨s2, l2⟩
  have fna := Pt.name_inj ⟨s1, l1⟩ ⟨s2, l2⟩
  have c0 := fun i => Pt.tc_comp 0 x1 x2 x3 ⟨s1, l1⟩ ⟨s2, l2⟩ i
  have c1 := fun i => Pt.tc_comp 1 x1 x2 x3 ⟨s1, l1⟩ ⟨s2, l2⟩ i
  have d0 := c0 0
  have d1 := c0 1
  have d2 := c0 2
  have d3 := c1 0
  have d4 := c1 1
  have d5 := c1 2
  simp only [Fin.isValue, Fin.val_zero, Fin.val_one, Fin.val_two] at f12 f23 fas fin fci fmi fna d0 d1 d2 d3 d4 d5
  clear c0 c1
  have t0 := Pt.tc_bd (L := 524287) (less := 0) (s := s2) (i := 0) (x := x1) (y := x2) (z := x3) (by omega) (by omega)
  have t1 := Pt.tc_bd (L := 524287) (less := 0) (s := s2) (i := 1) (x := x1) (y := x2) (z := x3) (by omega) (by omega)
  have t2 := Pt.tc_bd (L := 524287) (less := 0) (s := s2) (i := 2) (x := x1) (y := x2) (z := x3) (by omega) (by omega)
  have t3 := Pt.tc_bd (L := 524287) (less := 1) (s := s2) (i := 0) (x := x1) (y := x2) (z := x3) (by omega) (by omega)
  have t4 := Pt.tc_bd (L := 524287) (less := 1) (s := s2) (i := 1) (x := x1) (y := x2) (z := x3) (by omega) (by omega)
  have t5 := Pt.tc_bd (L := 524287) (less := 1) (s := s2) (i := 2) (x := x1) (y := x2) (z := x3) (by omega) (by omega)
  obtain ⟨p12, hp12⟩ : ∃ p, Pt.comp s1 s2 = p := ⟨_, rfl⟩
  obtain ⟨p23, hp23⟩ : ∃ p, Pt.comp s2 s3 = p := ⟨_, rfl⟩
  obtain ⟨v, hv⟩ : ∃ p, Pt.inv s1 = p := ⟨_, rfl⟩
  rw [hp12] at f12 fas fmi d0 d1 d2 d3 d4 d5
  rw [hp23] at f23 fas
  rw [hv] at fin fci
  obtain ⟨m, hm⟩ : ∃ p, Pt.comp s1 p23 = p := ⟨_, rfl⟩
  rw [hm] at fas
  obtain ⟨mb, hmb⟩ : ∃ p, Pt.mirror p12 = p := ⟨_, rfl⟩
  obtain ⟨m1, hm1⟩ : ∃ p, Pt.mirror s1 = p := ⟨_, rfl⟩
  obtain ⟨m2, hm2⟩ : ∃ p, Pt.mirror s2 = p := ⟨_, rfl⟩
  rw [hmb, hm1, hm2] at fmi
  obtain ⟨nb, hnb⟩ : ∃ p, decide (s1 = s2) = p := ⟨_, rfl⟩
  have HN2 : Hid (((s1 : Int) == (s2 : Int)) = nb) := Lib.hid (by rw [← hnb, Bool.eq_iff_iff, beq_iff_eq, decide_eq_true_eq]; omega)
  have HNB : Hid (((bstr (Pt.name s1)).toList == (bstr (Pt.name s2)).toList) = nb) := Lib.hid (by
    rw [ba_toList, ← hnb, Bool.eq_iff_iff, beq_iff_eq, decide_eq_true_eq]
    constructor
    · intro h; exact Fin.mk.inj (fna h)
    · intro h; rw [h])
  have l12 := f12.1
  have l23 := f23.1
  have lv := fin.1
  have H12 := Lib.hid hp12
  have H23 := Lib.hid hp23
  have HV := Lib.hid hv
  have HM := Lib.hid hm
  have HAS := Lib.hid fas
  have HCI := Lib.hid fci
  have HMB := Lib.hid fmi.symm
  have HM0 := Lib.hid hmb
  have HM1 := Lib.hid hm1
  have HM2 := Lib.hid hm2
  have HS := Lib.hid hi
  clear hi f12 f23 fas fin fci fmi fna hp12 hp23 hv hm hmb hm1 hm2 hnb
  obtain ⟨u, hu, r0, g0⟩ := rows1 w [.int .i64 x1, .int .i64 x2, .int .i64 x3] 23
  have R0 := Lib.hid r0
  have G0 := Lib.hid g0
  have HU := Lib.hid hu
  have HT := Lib.hid (hT.below g0)
  clear hT
  clear hu g0 r0
  go_enter Tryd.func6, Tryd.ntmps6
  go_upto_region 1 with fail
  rw [← HU.out]
  refine wpG_region ?_
  refine wpG_tk (some 15) (v := .int .u8 a) rfl (.val (by rfl) (fun _ _ => rfl)) ?_
  simp only [Act.put, List.setIfInBounds_toArray, List.set_cons_zero, List.set_cons_succ]
  refine wpG_tk (some 16) (v := .int .i64 a) rfl (.val (by rfl) (fun W hg => by (go_simp <;> exact IntWalk.i64_in _ (by omega)))) ?_
  simp only [Act.put, List.setIfInBounds_toArray, List.set_cons_zero, List.set_cons_succ]
  refine wpG_tk (some 17) (v := .int .i64 (s1 : Int)) rfl (.val (by rfl) (fun W hg => by have q := HQ1.out; go_simp)) ?_
  simp only [Act.put, List.setIfInBounds_toArray, List.set_cons_zero, List.set_cons_succ]
  refine wpG_tk (some 18) (v := .int .u8 b) rfl (.val (by rfl) (fun _ _ => rfl)) ?_
  simp only [Act.put, List.setIfInBounds_toArray, List.set_cons_zero, List.set_cons_succ]
  refine wpG_tk (some 19) (v := .int .i64 b) rfl (.val (by rfl) (fun W hg => by (go_simp <;> exact IntWalk.i64_in _ (by omega)))) ?_
  simp only [Act.put, List.setIfInBounds_toArray, List.set_cons_zero, List.set_cons_succ]
  refine wpG_tk (some 20) (v := .int .i64 (s2 : Int)) rfl (.val (by rfl) (fun W hg => by have q := HQ2.out; go_simp)) ?_
  simp only [Act.put, List.setIfInBounds_toArray, List.set_cons_zero, List.set_cons_succ]
  refine wpG_tk (some 21) (v := .int .u8 c) rfl (.val (by rfl) (fun _ _ => rfl)) ?_
  simp only [Act.put, List.setIfInBounds_toArray, List.set_cons_zero, List.set_cons_succ]
  refine wpG_tk (some 22) (v := .int .i64 c) rfl (.val (by rfl) (fun W hg => by (go_simp <;> exact IntWalk.i64_in _ (by omega)))) ?_
  simp only [Act.put, List.setIfInBounds_toArray, List.set_cons_zero, List.set_cons_succ]
  refine wpG_tk (some 23) (v := .int .i64 (s3 : Int)) rfl (.val (by rfl) (fun W hg => by have q := HQ3.out; go_simp)) ?_
  simp only [Act.put, List.setIfInBounds_toArray, List.set_cons_zero, List.set_cons_succ]
  refine wpG_tk (some 9) (v := .int .i64 (s1 : Int)) rfl (.val (by rfl) (fun _ _ => rfl)) ?_
  simp only [Act.put, List.setIfInBounds_toArray, List.set_cons_zero, List.set_cons_succ]
  refine wpG_tk (some 10) (v := .int .i64 (s2 : Int)) rfl (.val (by rfl) (fun _ _ => rfl)) ?_
  simp only [Act.put, List.setIfInBounds_toArray, List.set_cons_zero, List.set_cons_succ]
  refine wpG_tk (some 11) (v := .int .i64 (s3 : Int)) rfl (.val (by rfl) (fun _ _ => rfl)) ?_
  simp only [Act.put, List.setIfInBounds_toArray, List.set_cons_zero, List.set_cons_succ]
  refine wpG_done (fun V1 hv2 => ?_)
  have GC3 := Lib.hid hv2
  clear hv2
  go_upto_region 2 with fail
  refine wpG_region ?_
  refine wpG_tk (some 24) (v := .agg #[.int .i64 x1, .int .i64 x2, .int .i64 x3]) rfl (.load_mid (by rfl) 23 (.tmp 7) rfl (w.heap.size) 0 rfl [.int .i64 x1, .int .i64 x2, .int .i64 x3] _ (fun W hg => (R0.out.below (GC3.out.trans hg)).range) Tryd.underlying23 rfl (by kernel_rfl)) ?_
  simp only [Act.put, List.setIfInBounds_toArray, List.set_cons_zero, List.set_cons_succ]
  refine wpG_val (some 25) rfl (by rfl) (fun W4 hg5 => ⟨.slice (some ⟨W4.heap.size, 0, none⟩) 1 1, W4.alloc (.cells #[.int .i64 x1, .int .i64 x2, .int .i64 x3] 23), by (go_simp <;> rfl), ?_⟩)
  simp only [Act.put, List.setIfInBounds_toArray, List.set_cons_zero, List.set_cons_succ]
  obtain ⟨U6, hu, rn, gn⟩ : ∃ z, z = W4.alloc (.cells #[.int .i64 x1, .int .i64 x2, .int .i64 x3] 23) ∧ Row W4.heap.size [.int .i64 x1, .int .i64 x2, .int .i64 x3] z ∧ Gr W4 z := ⟨_, rfl, Row.newl W4 [.int .i64 x1, .int .i64 x2, .int .i64 x3] 23, Gr.al _ _⟩
  rw [← hu]
  have RN7 := Lib.hid rn
  have GB8 := Lib.hid (Gr.trans (GC3.out.trans hg5) gn)
  clear hu rn gn hg5
  refine wpG_tk (some 26) (v := .bool true) rfl (.call (f := 61) (args := #[.slice (some ⟨W4.heap.size, 0, none⟩) 1 1]) (by rfl) (fun W => by go_simp) (fun W hg => inner_is [(x1, x2, x3)] W4.heap.size 1 true W rfl (by decide) (RN7.out.below hg) (List.forall_mem_cons.2 ⟨i1, (fun _ h => absurd h List.not_mem_nil)⟩) HS.out)) ?_
  simp only [Act.put, List.setIfInBounds_toArray, List.set_cons_zero, List.set_cons_succ]
  refine wpG_tk (some 27) (v := .bool false) rfl (.val (by rfl) (fun W hg => by go_simp)) ?_
  simp only [Act.put, List.setIfInBounds_toArray, List.set_cons_zero, List.set_cons_succ]
  refine wpG_done (fun V9 hv10 => ?_)
  have GC11 := Lib.hid (GB8.out.trans hv10)
  clear hv10
  go_upto_region 4 with fail
  refine wpG_region ?_
  refine wpG_tk (some 29) (v := .int .i64 (s1 : Int)) rfl (.val (by rfl) (fun _ _ => rfl)) ?_
  simp only [Act.put, List.setIfInBounds_toArray, List.set_cons_zero, List.set_cons_succ]
  refine wpG_tk (some 30) (v := .int .i64 (s2 : Int)) rfl (.val (by rfl) (fun _ _ => rfl)) ?_
  simp only [Act.put, List.setIfInBounds_toArray, List.set_cons_zero, List.set_cons_succ]
  refine wpG_tk (some 31) (v := .int .i64 (p12 : Int)) rfl (.call (f := 53) (args := #[.int .i64 (s1 : Int), .int .i64 (s2 : Int)]) (by rfl) (fun W => by go_simp) (fun W hg => (by have c := compose_any s1 s2 W (HT.out.below (GC11.out.trans hg)) l1 l2; rw [H12.out] at c; exact c))) ?_
  simp only [Act.put, List.setIfInBounds_toArray, List.set_cons_zero, List.set_cons_succ]
  refine wpG_tk (some 12) (v := .int .i64 (p12 : Int)) rfl (.val (by rfl) (fun _ _ => rfl)) ?_
  simp only [Act.put, List.setIfInBounds_toArray, List.set_cons_zero, List.set_cons_succ]
  refine wpG_done (fun V12 hv13 => ?_)
  have GC14 := Lib.hid (GC11.out.trans hv13)
  clear hv13
  go_upto_region 5 with fail
  refine wpK_region (by kernel_rfl) ?_
  refine wpK_ta (i := 0) (some 32) (v := .int .i64 (p12 : Int)) rfl rfl (by kernel_rfl) (fun _ _ _ h => h) (Or.inl ⟨rfl, fun _ => rfl⟩) ?_
  simp only [Act.put, List.setIfInBounds_toArray, List.set_cons_zero, List.set_cons_succ]
  refine wpK_ta (i := 1) (some 33) (v := .int .i64 (s3 : Int)) rfl rfl (by kernel_rfl) (fun _ _ _ h => h) (Or.inl ⟨rfl, fun _ => rfl⟩) ?_
  simp only [Act.put, List.setIfInBounds_toArray, List.set_cons_zero, List.set_cons_succ]
  refine wpK_tk (i := 2) (some 34) (v := .int .i64 (m : Int)) rfl rfl (by kernel_rfl) (fun _ _ _ h => h) (.call (f := 53) (args := #[.int .i64 (p12 : Int), .int .i64 (s3 : Int)]) (by rfl) (fun W => by go_simp) (fun W hg => (by have c := compose_any p12 s3 W (HT.out.below (GC14.out.trans (Gr.un hg))) l12 l3; rw [HAS.out] at c; exact c))) ?_
  simp only [Act.put, List.setIfInBounds_toArray, List.set_cons_zero, List.set_cons_succ]
  refine wpK_ta (i := 3) (some 35) (v := .int .i64 (s1 : Int)) rfl rfl (by kernel_rfl) (fun _ _ _ h => h) (Or.inl ⟨rfl, fun _ => rfl⟩) ?_
  simp only [Act.put, List.setIfInBounds_toArray, List.set_cons_zero, List.set_cons_succ]
  refine wpK_ta (i := 4) (some 36) (v := .int .i64 (s2 : Int)) rfl rfl (by kernel_rfl) (fun _ _ _ h => h) (Or.inl ⟨rfl, fun _ => rfl⟩) ?_
  simp only [Act.put, List.setIfInBounds_toArray, List.set_cons_zero, List.set_cons_succ]
  refine wpK_ta (i := 5) (some 37) (v := .int .i64 (s3 : Int)) rfl rfl (by kernel_rfl) (fun _ _ _ h => h) (Or.inl ⟨rfl, fun _ => rfl⟩) ?_
  simp only [Act.put, List.setIfInBounds_toArray, List.set_cons_zero, List.set_cons_succ]
  refine wpK_tk (i := 6) (some 38) (v := .int .i64 (p23 : Int)) rfl rfl (by kernel_rfl) (fun _ _ _ h => h) (.call (f := 53) (args := #[.int .i64 (s2 : Int), .int .i64 (s3 : Int)]) (by rfl) (fun W => by go_simp) (fun W hg => (by have c := compose_any s2 s3 W (HT.out.below (GC14.out.trans (Gr.un hg))) l2 l3; rw [H23.out] at c; exact c))) ?_
  simp only [Act.put, List.setIfInBounds_toArray, List.set_cons_zero, List.set_cons_succ]
  refine wpK_tk (i := 7) (some 39) (v := .int .i64 (m : Int)) rfl rfl (by kernel_rfl) (fun _ _ _ h => h) (.call (f := 53) (args := #[.int .i64 (s1 : Int), .int .i64 (p23 : Int)]) (by rfl) (fun W => by go_simp) (fun W hg => (by have c := compose_any s1 p23 W (HT.out.below (GC14.out.trans (Gr.un hg))) l1 l23; rw [HM.out] at c; exact c))) ?_
  simp only [Act.put, List.setIfInBounds_toArray, List.set_cons_zero, List.set_cons_succ]
  refine wpK_ta (i := 8) (some 40) (v := .bool true) rfl rfl (by kernel_rfl) (fun _ _ _ h => h) (Or.inl ⟨by rfl, fun W => by go_simp⟩) ?_
  simp only [Act.put, List.setIfInBounds_toArray, List.set_cons_zero, List.set_cons_succ]
  refine wpK_ta (i := 9) (some 41) (v := .bool true) rfl rfl (by kernel_rfl) (fun _ _ _ h => h) (Or.inl ⟨rfl, fun _ => rfl⟩) ?_
  simp only [Act.put, List.setIfInBounds_toArray, List.set_cons_zero, List.set_cons_succ]
  refine wpK_ta (i := 10) (some 42) (v := .int .i64 (p12 : Int)) rfl rfl (by kernel_rfl) (fun _ _ _ h => h) (Or.inl ⟨rfl, fun _ => rfl⟩) ?_
  simp only [Act.put, List.setIfInBounds_toArray, List.set_cons_zero, List.set_cons_succ]
  refine wpK_tk (i := 11) (some 43) (v := .agg #[.int .i64 x1, .int .i64 x2, .int .i64 x3]) rfl rfl (by kernel_rfl) (fun _ _ _ h => h) (.load_mid (by rfl) 23 (.tmp 7) rfl (w.heap.size) 0 rfl [.int .i64 x1, .int .i64 x2, .int .i64 x3] _ (fun W hg => (R0.out.below (GC14.out.trans (Gr.un hg))).range) Tryd.underlying23 rfl (by kernel_rfl)) ?_
  simp only [Act.put, List.setIfInBounds_toArray, List.set_cons_zero, List.set_cons_succ]
  refine wpK_tk (i := 12) (some 44) (v := .agg #[.int .i64 (Pt.tc 0 p12 0 x1 x2 x3), .int .i64 (Pt.tc 0 p12 1 x1 x2 x3), .int .i64 (Pt.tc 0 p12 2 x1 x2 x3)]) rfl rfl (by kernel_rfl) (fun _ _ _ h => h) (.call (f := 47) (args := #[.int .i64 (p12 : Int), .agg #[.int .i64 x1, .int .i64 x2, .int .i64 x3]]) (by rfl) (fun W => by go_simp) (fun W hg => turn_any p12 x1 x2 x3 W (HT.out.below (GC14.out.trans (Gr.un hg))) l12 (by omega))) ?_
  simp only [Act.put, List.setIfInBounds_toArray, List.set_cons_zero, List.set_cons_succ]
  refine wpK_ta (i := 13) (some 45) (v := .int .i64 (s1 : Int)) rfl rfl (by kernel_rfl) (fun _ _ _ h => h) (Or.inl ⟨rfl, fun _ => rfl⟩) ?_
  simp only [Act.put, List.setIfInBounds_toArray, List.set_cons_zero, List.set_cons_succ]
  refine wpK_ta (i := 14) (some 46) (v := .int .i64 (s2 : Int)) rfl rfl (by kernel_rfl) (fun _ _ _ h => h) (Or.inl ⟨rfl, fun _ => rfl⟩) ?_
  simp only [Act.put, List.setIfInBounds_toArray, List.set_cons_zero, List.set_cons_succ]
  refine wpK_tk (i := 15) (some 47) (v := .agg #[.int .i64 x1, .int .i64 x2, .int .i64 x3]) rfl rfl (by kernel_rfl) (fun _ _ _ h => h) (.load_mid (by rfl) 23 (.tmp 7) rfl (w.heap.size) 0 rfl [.int .i64 x1, .int .i64 x2, .int .i64 x3] _ (fun W hg => (R0.out.below (GC14.out.trans (Gr.un hg))).range) Tryd.underlying23 rfl (by kernel_rfl)) ?_
  simp only [Act.put, List.setIfInBounds_toArray, List.set_cons_zero, List.set_cons_succ]
  refine wpK_tk (i := 16) (some 48) (v := .agg #[.int .i64 (Pt.tc 0 s2 0 x1 x2 x3), .int .i64 (Pt.tc 0 s2 1 x1 x2 x3), .int .i64 (Pt.tc 0 s2 2 x1 x2 x3)]) rfl rfl (by kernel_rfl) (fun _ _ _ h => h) (.call (f := 47) (args := #[.int .i64 (s2 : Int), .agg #[.int .i64 x1, .int .i64 x2, .int .i64 x3]]) (by rfl) (fun W => by go_simp) (fun W hg => turn_any s2 x1 x2 x3 W (HT.out.below (GC14.out.trans (Gr.un hg))) l2 (by omega))) ?_
  simp only [Act.put, List.setIfInBounds_toArray, List.set_cons_zero, List.set_cons_succ]
  refine wpK_tk (i := 17) (some 49) (v := .agg #[.int .i64 (Pt.tc 0 s1 0 (Pt.tc 0 s2 0 x1 x2 x3) (Pt.tc 0 s2 1 x1 x2 x3) (Pt.tc 0 s2 2 x1 x2 x3)), .int .i64 (Pt.tc 0 s1 1 (Pt.tc 0 s2 0 x1 x2 x3) (Pt.tc 0 s2 1 x1 x2 x3) (Pt.tc 0 s2 2 x1 x2 x3)), .int .i64 (Pt.tc 0 s1 2 (Pt.tc 0 s2 0 x1 x2 x3) (Pt.tc 0 s2 1 x1 x2 x3) (Pt.tc 0 s2 2 x1 x2 x3))]) rfl rfl (by kernel_rfl) (fun _ _ _ h => h) (.call (f := 47) (args := #[.int .i64 (s1 : Int), .agg #[.int .i64 (Pt.tc 0 s2 0 x1 x2 x3), .int .i64 (Pt.tc 0 s2 1 x1 x2 x3), .int .i64 (Pt.tc 0 s2 2 x1 x2 x3)]]) (by rfl) (fun W => by go_simp) (fun W hg => turn_any s1 (Pt.tc 0 s2 0 x1 x2 x3) (Pt.tc 0 s2 1 x1 x2 x3) (Pt.tc 0 s2 2 x1 x2 x3) W (HT.out.below (GC14.out.trans (Gr.un hg))) l1 (by omega))) ?_
  simp only [Act.put, List.setIfInBounds_toArray, List.set_cons_zero, List.set_cons_succ]
  refine wpK_ta (i := 18) (some 50) (v := .bool true) rfl rfl (by kernel_rfl) (fun _ _ _ h => h) (Or.inl ⟨by rfl, fun W => by (go_simp <;> first | omega | (repeat' split <;> first | rfl | (exfalso; omega)))⟩) ?_
  simp only [Act.put, List.setIfInBounds_toArray, List.set_cons_zero, List.set_cons_succ]
  refine wpK_ta (i := 19) (some 51) (v := .bool true) rfl rfl (by kernel_rfl) (fun _ _ _ h => h) (Or.inl ⟨by rfl, fun W => by go_simp⟩) ?_
  simp only [Act.put, List.setIfInBounds_toArray, List.set_cons_zero, List.set_cons_succ]
  refine wpK_ta (i := 20) (some 52) (v := .bool true) rfl rfl (by kernel_rfl) (fun _ _ _ h => h) (Or.inl ⟨rfl, fun _ => rfl⟩) ?_
  simp only [Act.put, List.setIfInBounds_toArray, List.set_cons_zero, List.set_cons_succ]
  refine wpK_ta (i := 21) (some 53) (v := .int .i64 (p12 : Int)) rfl rfl (by kernel_rfl) (fun _ _ _ h => h) (Or.inl ⟨rfl, fun _ => rfl⟩) ?_
  simp only [Act.put, List.setIfInBounds_toArray, List.set_cons_zero, List.set_cons_succ]
  refine wpK_tk (i := 22) (some 54) (v := .agg #[.int .i64 x1, .int .i64 x2, .int .i64 x3]) rfl rfl (by kernel_rfl) (fun _ _ _ h => h) (.load_mid (by rfl) 23 (.tmp 7) rfl (w.heap.size) 0 rfl [.int .i64 x1, .int .i64 x2, .int .i64 x3] _ (fun W hg => (R0.out.below (GC14.out.trans (Gr.un hg))).range) Tryd.underlying23 rfl (by kernel_rfl)) ?_
  simp only [Act.put, List.setIfInBounds_toArray, List.set_cons_zero, List.set_cons_succ]
  refine wpK_tk (i := 23) (some 55) (v := .agg #[.int .i64 (Pt.tc 1 p12 0 x1 x2 x3), .int .i64 (Pt.tc 1 p12 1 x1 x2 x3), .int .i64 (Pt.tc 1 p12 2 x1 x2 x3)]) rfl rfl (by kernel_rfl) (fun _ _ _ h => h) (.call (f := 49) (args := #[.int .i64 (p12 : Int), .agg #[.int .i64 x1, .int .i64 x2, .int .i64 x3]]) (by rfl) (fun W => by go_simp) (fun W hg => turncell_any p12 x1 x2 x3 W (HT.out.below (GC14.out.trans (Gr.un hg))) l12 (by omega))) ?_
  simp only [Act.put, List.setIfInBounds_toArray, List.set_cons_zero, List.set_cons_succ]
  refine wpK_ta (i := 24) (some 56) (v := .int .i64 (s1 : Int)) rfl rfl (by kernel_rfl) (fun _ _ _ h => h) (Or.inl ⟨rfl, fun _ => rfl⟩) ?_
  simp only [Act.put, List.setIfInBounds_toArray, List.set_cons_zero, List.set_cons_succ]
  refine wpK_ta (i := 25) (some 57) (v := .int .i64 (s2 : Int)) rfl rfl (by kernel_rfl) (fun _ _ _ h => h) (Or.inl ⟨rfl, fun _ => rfl⟩) ?_
  simp only [Act.put, List.setIfInBounds_toArray, List.set_cons_zero, List.set_cons_succ]
  refine wpK_tk (i := 26) (some 58) (v := .agg #[.int .i64 x1, .int .i64 x2, .int .i64 x3]) rfl rfl (by kernel_rfl) (fun _ _ _ h => h) (.load_mid (by rfl) 23 (.tmp 7) rfl (w.heap.size) 0 rfl [.int .i64 x1, .int .i64 x2, .int .i64 x3] _ (fun W hg => (R0.out.below (GC14.out.trans (Gr.un hg))).range) Tryd.underlying23 rfl (by kernel_rfl)) ?_
  simp only [Act.put, List.setIfInBounds_toArray, List.set_cons_zero, List.set_cons_succ]
  refine wpK_tk (i := 27) (some 59) (v := .agg #[.int .i64 (Pt.tc 1 s2 0 x1 x2 x3), .int .i64 (Pt.tc 1 s2 1 x1 x2 x3), .int .i64 (Pt.tc 1 s2 2 x1 x2 x3)]) rfl rfl (by kernel_rfl) (fun _ _ _ h => h) (.call (f := 49) (args := #[.int .i64 (s2 : Int), .agg #[.int .i64 x1, .int .i64 x2, .int .i64 x3]]) (by rfl) (fun W => by go_simp) (fun W hg => turncell_any s2 x1 x2 x3 W (HT.out.below (GC14.out.trans (Gr.un hg))) l2 (by omega))) ?_
  simp only [Act.put, List.setIfInBounds_toArray, List.set_cons_zero, List.set_cons_succ]
  refine wpK_tk (i := 28) (some 60) (v := .agg #[.int .i64 (Pt.tc 1 s1 0 (Pt.tc 1 s2 0 x1 x2 x3) (Pt.tc 1 s2 1 x1 x2 x3) (Pt.tc 1 s2 2 x1 x2 x3)), .int .i64 (Pt.tc 1 s1 1 (Pt.tc 1 s2 0 x1 x2 x3) (Pt.tc 1 s2 1 x1 x2 x3) (Pt.tc 1 s2 2 x1 x2 x3)), .int .i64 (Pt.tc 1 s1 2 (Pt.tc 1 s2 0 x1 x2 x3) (Pt.tc 1 s2 1 x1 x2 x3) (Pt.tc 1 s2 2 x1 x2 x3))]) rfl rfl (by kernel_rfl) (fun _ _ _ h => h) (.call (f := 49) (args := #[.int .i64 (s1 : Int), .agg #[.int .i64 (Pt.tc 1 s2 0 x1 x2 x3), .int .i64 (Pt.tc 1 s2 1 x1 x2 x3), .int .i64 (Pt.tc 1 s2 2 x1 x2 x3)]]) (by rfl) (fun W => by go_simp) (fun W hg => turncell_any s1 (Pt.tc 1 s2 0 x1 x2 x3) (Pt.tc 1 s2 1 x1 x2 x3) (Pt.tc 1 s2 2 x1 x2 x3) W (HT.out.below (GC14.out.trans (Gr.un hg))) l1 (by omega))) ?_
  simp only [Act.put, List.setIfInBounds_toArray, List.set_cons_zero, List.set_cons_succ]
  refine wpK_ta (i := 29) (some 61) (v := .bool true) rfl rfl (by kernel_rfl) (fun _ _ _ h => h) (Or.inl ⟨by rfl, fun W => by (go_simp <;> first | omega | (repeat' split <;> first | rfl | (exfalso; omega)))⟩) ?_
  simp only [Act.put, List.setIfInBounds_toArray, List.set_cons_zero, List.set_cons_succ]
  refine wpK_ta (i := 30) (some 62) (v := .bool true) rfl rfl (by kernel_rfl) (fun _ _ _ h => h) (Or.inl ⟨by rfl, fun W => by go_simp⟩) ?_
  simp only [Act.put, List.setIfInBounds_toArray, List.set_cons_zero, List.set_cons_succ]
  refine wpK_ta (i := 31) (some 13) (v := .bool true) rfl rfl (by kernel_rfl) (fun _ _ _ h => h) (Or.inl ⟨rfl, fun _ => rfl⟩) ?_
  simp only [Act.put, List.setIfInBounds_toArray, List.set_cons_zero, List.set_cons_succ]
  refine wpK_done (by kernel_rfl) (fun V15 hv16 => ?_) _
  have GC17 := Lib.hid (GC14.out.trans (Gr.un hv16))
  clear hv16
  go_upto_region 6 with fail
  refine wpG_region ?_
  refine wpG_tk (some 63) (v := .int .i64 (s1 : Int)) rfl (.val (by rfl) (fun _ _ => rfl)) ?_
  simp only [Act.put, List.setIfInBounds_toArray, List.set_cons_zero, List.set_cons_succ]
  refine wpG_tk (some 64) (v := .int .i64 (s1 : Int)) rfl (.call (f := 53) (args := #[.int .i64 (s1 : Int), .int .i64 0]) (by rfl) (fun W => by go_simp) (fun W hg => (by have c := compose_any s1 0 W (HT.out.below (GC17.out.trans hg)) l1 (by decide); rw [HCI.out.2.2.1] at c; exact c))) ?_
  simp only [Act.put, List.setIfInBounds_toArray, List.set_cons_zero, List.set_cons_succ]
  refine wpG_tk (some 65) (v := .int .i64 (s1 : Int)) rfl (.val (by rfl) (fun _ _ => rfl)) ?_
  simp only [Act.put, List.setIfInBounds_toArray, List.set_cons_zero, List.set_cons_succ]
  refine wpG_tk (some 66) (v := .bool true) rfl (.val (by rfl) (fun W hg => by go_simp)) ?_
  simp only [Act.put, List.setIfInBounds_toArray, List.set_cons_zero, List.set_cons_succ]
  refine wpG_tk (some 67) (v := .bool true) rfl (.val (by rfl) (fun _ _ => rfl)) ?_
  simp only [Act.put, List.setIfInBounds_toArray, List.set_cons_zero, List.set_cons_succ]
  refine wpG_tk (some 68) (v := .int .i64 (s1 : Int)) rfl (.val (by rfl) (fun _ _ => rfl)) ?_
  simp only [Act.put, List.setIfInBounds_toArray, List.set_cons_zero, List.set_cons_succ]
  refine wpG_tk (some 69) (v := .int .i64 (s1 : Int)) rfl (.call (f := 53) (args := #[.int .i64 0, .int .i64 (s1 : Int)]) (by rfl) (fun W => by go_simp) (fun W hg => (by have c := compose_any 0 s1 W (HT.out.below (GC17.out.trans hg)) (by decide) l1; rw [HCI.out.2.2.2] at c; exact c))) ?_
  simp only [Act.put, List.setIfInBounds_toArray, List.set_cons_zero, List.set_cons_succ]
  refine wpG_tk (some 70) (v := .int .i64 (s1 : Int)) rfl (.val (by rfl) (fun _ _ => rfl)) ?_
  simp only [Act.put, List.setIfInBounds_toArray, List.set_cons_zero, List.set_cons_succ]
  refine wpG_tk (some 71) (v := .bool true) rfl (.val (by rfl) (fun W hg => by go_simp)) ?_
  simp only [Act.put, List.setIfInBounds_toArray, List.set_cons_zero, List.set_cons_succ]
  refine wpG_tk (some 72) (v := .bool true) rfl (.val (by rfl) (fun W hg => by go_simp)) ?_
  simp only [Act.put, List.setIfInBounds_toArray, List.set_cons_zero, List.set_cons_succ]
  refine wpG_tk (some 73) (v := .bool true) rfl (.val (by rfl) (fun _ _ => rfl)) ?_
  simp only [Act.put, List.setIfInBounds_toArray, List.set_cons_zero, List.set_cons_succ]
  refine wpG_tk (some 74) (v := .int .i64 (s1 : Int)) rfl (.val (by rfl) (fun _ _ => rfl)) ?_
  simp only [Act.put, List.setIfInBounds_toArray, List.set_cons_zero, List.set_cons_succ]
  refine wpG_tk (some 75) (v := .int .i64 (s1 : Int)) rfl (.val (by rfl) (fun _ _ => rfl)) ?_
  simp only [Act.put, List.setIfInBounds_toArray, List.set_cons_zero, List.set_cons_succ]
  refine wpG_tk (some 76) (v := .int .i64 (v : Int)) rfl (.call (f := 55) (args := #[.int .i64 (s1 : Int)]) (by rfl) (fun W => by go_simp) (fun W hg => (by have c := invert_any s1 W (HT.out.below (GC17.out.trans hg)) l1; rw [HV.out] at c; exact c))) ?_
  simp only [Act.put, List.setIfInBounds_toArray, List.set_cons_zero, List.set_cons_succ]
  refine wpG_tk (some 77) (v := .int .i64 0) rfl (.call (f := 53) (args := #[.int .i64 (s1 : Int), .int .i64 (v : Int)]) (by rfl) (fun W => by go_simp) (fun W hg => (by have c := compose_any s1 v W (HT.out.below (GC17.out.trans hg)) l1 lv; rw [HCI.out.1] at c; exact c))) ?_
  simp only [Act.put, List.setIfInBounds_toArray, List.set_cons_zero, List.set_cons_succ]
  refine wpG_tk (some 78) (v := .bool true) rfl (.val (by rfl) (fun W hg => by go_simp)) ?_
  simp only [Act.put, List.setIfInBounds_toArray, List.set_cons_zero, List.set_cons_succ]
  refine wpG_tk (some 79) (v := .bool true) rfl (.val (by rfl) (fun W hg => by go_simp)) ?_
  simp only [Act.put, List.setIfInBounds_toArray, List.set_cons_zero, List.set_cons_succ]
  refine wpG_tk (some 80) (v := .bool true) rfl (.val (by rfl) (fun _ _ => rfl)) ?_
  simp only [Act.put, List.setIfInBounds_toArray, List.set_cons_zero, List.set_cons_succ]
  refine wpG_tk (some 81) (v := .int .i64 (s1 : Int)) rfl (.val (by rfl) (fun _ _ => rfl)) ?_
  simp only [Act.put, List.setIfInBounds_toArray, List.set_cons_zero, List.set_cons_succ]
  refine wpG_tk (some 82) (v := .int .i64 (v : Int)) rfl (.call (f := 55) (args := #[.int .i64 (s1 : Int)]) (by rfl) (fun W => by go_simp) (fun W hg => (by have c := invert_any s1 W (HT.out.below (GC17.out.trans hg)) l1; rw [HV.out] at c; exact c))) ?_
  simp only [Act.put, List.setIfInBounds_toArray, List.set_cons_zero, List.set_cons_succ]
  refine wpG_tk (some 83) (v := .int .i64 (s1 : Int)) rfl (.val (by rfl) (fun _ _ => rfl)) ?_
  simp only [Act.put, List.setIfInBounds_toArray, List.set_cons_zero, List.set_cons_succ]
  refine wpG_tk (some 84) (v := .int .i64 0) rfl (.call (f := 53) (args := #[.int .i64 (v : Int), .int .i64 (s1 : Int)]) (by rfl) (fun W => by go_simp) (fun W hg => (by have c := compose_any v s1 W (HT.out.below (GC17.out.trans hg)) lv l1; rw [HCI.out.2.1] at c; exact c))) ?_
  simp only [Act.put, List.setIfInBounds_toArray, List.set_cons_zero, List.set_cons_succ]
  refine wpG_tk (some 85) (v := .bool true) rfl (.val (by rfl) (fun W hg => by go_simp)) ?_
  simp only [Act.put, List.setIfInBounds_toArray, List.set_cons_zero, List.set_cons_succ]
  refine wpG_tk (some 86) (v := .bool true) rfl (.val (by rfl) (fun W hg => by go_simp)) ?_
  simp only [Act.put, List.setIfInBounds_toArray, List.set_cons_zero, List.set_cons_succ]
  refine wpG_tk (some 14) (v := .bool true) rfl (.val (by rfl) (fun _ _ => rfl)) ?_
  simp only [Act.put, List.setIfInBounds_toArray, List.set_cons_zero, List.set_cons_succ]
  refine wpG_done (fun V18 hv19 => ?_)
  have GC20 := Lib.hid (GC17.out.trans hv19)
  clear hv19
  go_upto_region 7 with fail
  refine wpG_region ?_
  refine wpG_tk (some 87) (v := .bool true) rfl (.call (f := 12) (args := #[]) (by rfl) (fun W => by go_simp) (fun W hg => sanity_any W (HT.out.below (GC20.out.trans hg)))) ?_
  simp only [Act.put, List.setIfInBounds_toArray, List.set_cons_zero, List.set_cons_succ]
  refine wpG_tk (some 88) (v := .bool true) rfl (.val (by rfl) (fun _ _ => rfl)) ?_
  simp only [Act.put, List.setIfInBounds_toArray, List.set_cons_zero, List.set_cons_succ]
  refine wpG_tk (some 89) (v := .bool true) rfl (.val (by rfl) (fun _ _ => rfl)) ?_
  simp only [Act.put, List.setIfInBounds_toArray, List.set_cons_zero, List.set_cons_succ]
  refine wpG_tk (some 90) (v := .bool true) rfl (.val (by rfl) (fun W hg => by go_simp)) ?_
  simp only [Act.put, List.setIfInBounds_toArray, List.set_cons_zero, List.set_cons_succ]
  refine wpG_tk (some 91) (v := .bool true) rfl (.val (by rfl) (fun _ _ => rfl)) ?_
  simp only [Act.put, List.setIfInBounds_toArray, List.set_cons_zero, List.set_cons_succ]
  refine wpG_tk (some 92) (v := .bool true) rfl (.val (by rfl) (fun _ _ => rfl)) ?_
  simp only [Act.put, List.setIfInBounds_toArray, List.set_cons_zero, List.set_cons_succ]
  refine wpG_tk (some 93) (v := .bool true) rfl (.val (by rfl) (fun W hg => by go_simp)) ?_
  simp only [Act.put, List.setIfInBounds_toArray, List.set_cons_zero, List.set_cons_succ]
  refine wpG_tk (some 94) (v := .bool true) rfl (.val (by rfl) (fun _ _ => rfl)) ?_
  simp only [Act.put, List.setIfInBounds_toArray, List.set_cons_zero, List.set_cons_succ]
  refine wpG_tk (some 95) (v := .int .i64 (p12 : Int)) rfl (.val (by rfl) (fun _ _ => rfl)) ?_
  simp only [Act.put, List.setIfInBounds_toArray, List.set_cons_zero, List.set_cons_succ]
  refine wpG_tk (some 96) (v := .bool mb) rfl (.call (f := 57) (args := #[.int .i64 (p12 : Int)]) (by rfl) (fun W => by go_simp) (fun W hg => (by have c := mirror_any p12 W (HT.out.below (GC20.out.trans hg)) l12; rw [HM0.out] at c; exact c))) ?_
  simp only [Act.put, List.setIfInBounds_toArray, List.set_cons_zero, List.set_cons_succ]
  refine wpG_tk (some 97) (v := .int .i64 (s1 : Int)) rfl (.val (by rfl) (fun _ _ => rfl)) ?_
  simp only [Act.put, List.setIfInBounds_toArray, List.set_cons_zero, List.set_cons_succ]
  refine wpG_tk (some 98) (v := .bool m1) rfl (.call (f := 57) (args := #[.int .i64 (s1 : Int)]) (by rfl) (fun W => by go_simp) (fun W hg => (by have c := mirror_any s1 W (HT.out.below (GC20.out.trans hg)) l1; rw [HM1.out] at c; exact c))) ?_
  simp only [Act.put, List.setIfInBounds_toArray, List.set_cons_zero, List.set_cons_succ]
  refine wpG_tk (some 99) (v := .int .i64 (s2 : Int)) rfl (.val (by rfl) (fun _ _ => rfl)) ?_
  simp only [Act.put, List.setIfInBounds_toArray, List.set_cons_zero, List.set_cons_succ]
  refine wpG_tk (some 100) (v := .bool m2) rfl (.call (f := 57) (args := #[.int .i64 (s2 : Int)]) (by rfl) (fun W => by go_simp) (fun W hg => (by have c := mirror_any s2 W (HT.out.below (GC20.out.trans hg)) l2; rw [HM2.out] at c; exact c))) ?_
  simp only [Act.put, List.setIfInBounds_toArray, List.set_cons_zero, List.set_cons_succ]
  refine wpG_tk (some 101) (v := .bool mb) rfl (.val (by rfl) (fun W hg => by (have q := HMB.out; cases m1 <;> cases m2 <;> cases mb <;> first | (exact absurd q (by decide)) | go_simp))) ?_
  simp only [Act.put, List.setIfInBounds_toArray, List.set_cons_zero, List.set_cons_succ]
  refine wpG_tk (some 102) (v := .bool true) rfl (.val (by rfl) (fun W hg => by go_simp)) ?_
  simp only [Act.put, List.setIfInBounds_toArray, List.set_cons_zero, List.set_cons_succ]
  refine wpG_tk (some 103) (v := .bool true) rfl (.val (by rfl) (fun W hg => by go_simp)) ?_
  simp only [Act.put, List.setIfInBounds_toArray, List.set_cons_zero, List.set_cons_succ]
  refine wpG_tk (some 104) (v := .bool true) rfl (.val (by rfl) (fun _ _ => rfl)) ?_
  simp only [Act.put, List.setIfInBounds_toArray, List.set_cons_zero, List.set_cons_succ]
  refine wpG_tk (some 105) (v := .int .i64 (s1 : Int)) rfl (.val (by rfl) (fun _ _ => rfl)) ?_
  simp only [Act.put, List.setIfInBounds_toArray, List.set_cons_zero, List.set_cons_succ]
  refine wpG_tk (some 106) (v := .string (bstr (Pt.name s1))) rfl (.call (f := 59) (args := #[.int .i64 (s1 : Int)]) (by rfl) (fun W => by go_simp) (fun W hg => name_any s1 W (HT.out.below (GC20.out.trans hg)) l1)) ?_
  simp only [Act.put, List.setIfInBounds_toArray, List.set_cons_zero, List.set_cons_succ]
  refine wpG_tk (some 107) (v := .int .i64 (s2 : Int)) rfl (.val (by rfl) (fun _ _ => rfl)) ?_
  simp only [Act.put, List.setIfInBounds_toArray, List.set_cons_zero, List.set_cons_succ]
  refine wpG_tk (some 108) (v := .string (bstr (Pt.name s2))) rfl (.call (f := 59) (args := #[.int .i64 (s2 : Int)]) (by rfl) (fun W => by go_simp) (fun W hg => name_any s2 W (HT.out.below (GC20.out.trans hg)) l2)) ?_
  simp only [Act.put, List.setIfInBounds_toArray, List.set_cons_zero, List.set_cons_succ]
  refine wpG_tk (some 109) (v := .bool nb) rfl (.val (by rfl) (fun W hg => by (go_simp <;> (first | exact HNB.out | simpa using HNB.out)))) ?_
  simp only [Act.put, List.setIfInBounds_toArray, List.set_cons_zero, List.set_cons_succ]
  refine wpG_tk (some 110) (v := .int .i64 (s1 : Int)) rfl (.val (by rfl) (fun _ _ => rfl)) ?_
  simp only [Act.put, List.setIfInBounds_toArray, List.set_cons_zero, List.set_cons_succ]
  refine wpG_tk (some 111) (v := .int .i64 (s2 : Int)) rfl (.val (by rfl) (fun _ _ => rfl)) ?_
  simp only [Act.put, List.setIfInBounds_toArray, List.set_cons_zero, List.set_cons_succ]
  refine wpG_tk (some 112) (v := .bool nb) rfl (.val (by rfl) (fun W hg => by (go_simp <;> (first | exact HN2.out | simpa using HN2.out)))) ?_
  simp only [Act.put, List.setIfInBounds_toArray, List.set_cons_zero, List.set_cons_succ]
  refine wpG_tk (some 113) (v := .bool true) rfl (.val (by rfl) (fun W hg => by go_simp)) ?_
  simp only [Act.put, List.setIfInBounds_toArray, List.set_cons_zero, List.set_cons_succ]
  refine wpG_tk (some 114) (v := .bool true) rfl (.val (by rfl) (fun W hg => by go_simp)) ?_
  simp only [Act.put, List.setIfInBounds_toArray, List.set_cons_zero, List.set_cons_succ]
  refine wpG_tk (some 8) (v := .bool true) rfl (.val (by rfl) (fun _ _ => rfl)) ?_
  simp only [Act.put, List.setIfInBounds_toArray, List.set_cons_zero, List.set_cons_succ]
  refine wpG_done (fun V21 hv22 => ?_)
  have GC23 := Lib.hid (GC20.out.trans hv22)
  clear hv22
  go_wp2_with fail
  go_ret
  exact ⟨rfl, Gr.to G0.out GC23.out⟩
theorem law6 (a b c x1 x2 x3 : Int) (w : World) (hT : Tab w) (h1 : 0 ≤ a ∧ a < 256) (h2 : 0 ≤ b ∧ b < 256) (h3 : 0 ≤ c ∧ c < 256) (i1 : In64 (x1, x2, x3)) :
    Calls Tryd.prog 6 #[.int .u8 a, .int .u8 b, .int .u8 c, .agg #[.int .i64 x1, .int .i64 x2, .int .i64 x3]] w fun e w' => e = .returned (.bool true) ∧ Below w.heap.size w w' := by
  cases hi : [(x1, x2, x3)].all inI with
  | false => exact law6_s _ _ _ _ _ _ w hT h1 h2 h3 i1 hi
  | true => exact law6_t _ _ _ _ _ _ w hT h1 h2 h3 i1 hi

end Go.Proofs.YthadlgjobjnhcaaDoor
