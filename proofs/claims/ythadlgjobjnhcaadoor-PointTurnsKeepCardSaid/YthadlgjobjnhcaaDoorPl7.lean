/-
  voxellaw04.PointTurnsKeep, its walk.
-/
import Derived.Test.YthadlgjobjnhcaaDoorPsn
import Derived.Test.YthadlgjobjnhcaaDoorPty2
import Derived.Test.YthadlgjobjnhcaaDoorPtt
import Derived.Test.YthadlgjobjnhcaaDoorRo4
import Derived.Test.YthadlgjobjnhcaaDoorPm7
import Derived.Handy
namespace Go.Proofs.YthadlgjobjnhcaaDoor
open Go.RowKit
set_option linter.unusedVariables false
set_option maxRecDepth 1000000 in
set_option maxHeartbeats 8000000 in
theorem law7_s (a x1 x2 x3 y1 y2 y3 a1 a2 a3 a4 a5 a6 : Int) (w : World) (hT : Tab w) (h8 : 0 ≤ a ∧ a < 256) (i1 : In64 (x1, x2, x3)) (i2 : In64 (y1, y2, y3)) (i3 : In64 (a1, a2, a3)) (i4 : In64 (a4, a5, a6)) (hi : [(x1, x2, x3), (y1, y2, y3), (a1, a2, a3), (a4, a5, a6)].all inI = false) :
    Calls Tryd.prog 7 #[.int .u8 a, .agg #[.int .i64 x1, .int .i64 x2, .int .i64 x3], .agg #[.int .i64 y1, .int .i64 y2, .int .i64 y3], .agg #[.int .i64 a1, .int .i64 a2, .int .i64 a3, .int .i64 a4, .int .i64 a5, .int .i64 a6]] w fun e w' => e = .returned (.bool true) ∧ Below w.heap.size w w' := by
  obtain ⟨s, hsa⟩ : ∃ s : Nat, (s : Int) = a % 48 := ⟨(a % 48).toNat, by omega⟩
  have hs : s < 48 := by omega
  have HQ : Hid (a.tmod 48 = (s : Int)) := Lib.hid (by rw [Int.tmod_eq_emod_of_nonneg h8.1, hsa])
  clear hsa
  have HS := Lib.hid hi
  clear hi
  obtain ⟨u, hu, r0, r1, r2, g0⟩ := rows3 w [.int .i64 x1, .int .i64 x2, .int .i64 x3] 23 [.int .i64 y1, .int .i64 y2, .int .i64 y3] 23 [.int .i64 a1, .int .i64 a2, .int .i64 a3, .int .i64 a4, .int .i64 a5, .int .i64 a6] 31
  have R0 := Lib.hid r0
  have R1 := Lib.hid r1
  have R2 := Lib.hid r2
  have G0 := Lib.hid g0
  have HU := Lib.hid hu
  have HT := Lib.hid (hT.below g0)
  clear hT
  clear hu g0 r0 r1 r2
  go_enter Tryd.func7, Tryd.ntmps7
  go_upto_region 1 with fail
  rw [← HU.out]
  refine wpG_region ?_
  refine wpG_tk (some 10) (v := .int .u8 a) rfl (.val (by rfl) (fun _ _ => rfl)) ?_
  simp only [Act.put, List.setIfInBounds_toArray, List.set_cons_zero, List.set_cons_succ]
  refine wpG_tk (some 11) (v := .int .i64 a) rfl (.val (by rfl) (fun W hg => by (go_simp <;> exact IntWalk.i64_in _ (by omega)))) ?_
  simp only [Act.put, List.setIfInBounds_toArray, List.set_cons_zero, List.set_cons_succ]
  refine wpG_tk (some 12) (v := .int .i64 (s : Int)) rfl (.val (by rfl) (fun W hg => by have q := HQ.out; go_simp)) ?_
  simp only [Act.put, List.setIfInBounds_toArray, List.set_cons_zero, List.set_cons_succ]
  refine wpG_tk (some 9) (v := .int .i64 (s : Int)) rfl (.val (by rfl) (fun _ _ => rfl)) ?_
  simp only [Act.put, List.setIfInBounds_toArray, List.set_cons_zero, List.set_cons_succ]
  refine wpG_done (fun V1 hv2 => ?_)
  have GC3 := Lib.hid hv2
  clear hv2
  go_upto_region 2 with fail
  refine wpG_region ?_
  refine wpG_tk (some 13) (v := .agg #[.int .i64 x1, .int .i64 x2, .int .i64 x3]) rfl (.load_mid (by rfl) 23 (.tmp 5) rfl (w.heap.size) 0 rfl [.int .i64 x1, .int .i64 x2, .int .i64 x3] _ (fun W hg => (R0.out.below (GC3.out.trans hg)).range) Tryd.underlying23 rfl (by kernel_rfl)) ?_
  simp only [Act.put, List.setIfInBounds_toArray, List.set_cons_zero, List.set_cons_succ]
  refine wpG_tk (some 14) (v := .agg #[.int .i64 y1, .int .i64 y2, .int .i64 y3]) rfl (.load_mid (by rfl) 23 (.tmp 6) rfl (w.heap.size + 1) 0 rfl [.int .i64 y1, .int .i64 y2, .int .i64 y3] _ (fun W hg => (R1.out.below (GC3.out.trans hg)).range) Tryd.underlying23 rfl (by kernel_rfl)) ?_
  simp only [Act.put, List.setIfInBounds_toArray, List.set_cons_zero, List.set_cons_succ]
  refine wpG_tk (some 15) (v := .pointer (some ⟨w.heap.size + 1 + 1, 0, none⟩)) rfl (.val (by rfl) (fun W hg => by go_simp)) ?_
  simp only [Act.put, List.setIfInBounds_toArray, List.set_cons_zero, List.set_cons_succ]
  refine wpG_tk (some 16) (v := .agg #[.int .i64 a1, .int .i64 a2, .int .i64 a3]) rfl (.load_mid (by rfl) 23 (.tmp 15) rfl (w.heap.size + 1 + 1) 0 rfl [.int .i64 a1, .int .i64 a2, .int .i64 a3] _ (fun W hg => (R2.out.below (GC3.out.trans hg)).lo) Tryd.underlying23 rfl (by kernel_rfl)) ?_
  simp only [Act.put, List.setIfInBounds_toArray, List.set_cons_zero, List.set_cons_succ]
  refine wpG_tk (some 17) (v := .pointer (some ⟨w.heap.size + 1 + 1, 3, none⟩)) rfl (.val (by rfl) (fun W hg => by go_simp)) ?_
  simp only [Act.put, List.setIfInBounds_toArray, List.set_cons_zero, List.set_cons_succ]
  refine wpG_tk (some 18) (v := .agg #[.int .i64 a4, .int .i64 a5, .int .i64 a6]) rfl (.load_mid (by rfl) 23 (.tmp 17) rfl (w.heap.size + 1 + 1) 3 rfl [.int .i64 a4, .int .i64 a5, .int .i64 a6] _ (fun W hg => (R2.out.below (GC3.out.trans hg)).hi) Tryd.underlying23 rfl (by kernel_rfl)) ?_
  simp only [Act.put, List.setIfInBounds_toArray, List.set_cons_zero, List.set_cons_succ]
  refine wpG_val (some 19) rfl (by rfl) (fun W4 hg5 => ⟨.slice (some ⟨W4.heap.size, 0, none⟩) 4 4, W4.alloc (.cells #[.int .i64 x1, .int .i64 x2, .int .i64 x3, .int .i64 y1, .int .i64 y2, .int .i64 y3, .int .i64 a1, .int .i64 a2, .int .i64 a3, .int .i64 a4, .int .i64 a5, .int .i64 a6] 23), by (go_simp <;> rfl), ?_⟩)
  simp only [Act.put, List.setIfInBounds_toArray, List.set_cons_zero, List.set_cons_succ]
  obtain ⟨U6, hu, rn, gn⟩ : ∃ z, z = W4.alloc (.cells #[.int .i64 x1, .int .i64 x2, .int .i64 x3, .int .i64 y1, .int .i64 y2, .int .i64 y3, .int .i64 a1, .int .i64 a2, .int .i64 a3, .int .i64 a4, .int .i64 a5, .int .i64 a6] 23) ∧ Row W4.heap.size [.int .i64 x1, .int .i64 x2, .int .i64 x3, .int .i64 y1, .int .i64 y2, .int .i64 y3, .int .i64 a1, .int .i64 a2, .int .i64 a3, .int .i64 a4, .int .i64 a5, .int .i64 a6] z ∧ Gr W4 z := ⟨_, rfl, Row.newl W4 [.int .i64 x1, .int .i64 x2, .int .i64 x3, .int .i64 y1, .int .i64 y2, .int .i64 y3, .int .i64 a1, .int .i64 a2, .int .i64 a3, .int .i64 a4, .int .i64 a5, .int .i64 a6] 23, Gr.al _ _⟩
  rw [← hu]
  have RN7 := Lib.hid rn
  have GB8 := Lib.hid (Gr.trans (GC3.out.trans hg5) gn)
  clear hu rn gn hg5
  refine wpG_tk (some 20) (v := .bool false) rfl (.call (f := 61) (args := #[.slice (some ⟨W4.heap.size, 0, none⟩) 4 4]) (by rfl) (fun W => by go_simp) (fun W hg => inner_is [(x1, x2, x3), (y1, y2, y3), (a1, a2, a3), (a4, a5, a6)] W4.heap.size 4 false W rfl (by decide) (RN7.out.below hg) (List.forall_mem_cons.2 ⟨i1, (List.forall_mem_cons.2 ⟨i2, (List.forall_mem_cons.2 ⟨i3, (List.forall_mem_cons.2 ⟨i4, (fun _ h => absurd h List.not_mem_nil)⟩)⟩)⟩)⟩) HS.out)) ?_
  simp only [Act.put, List.setIfInBounds_toArray, List.set_cons_zero, List.set_cons_succ]
  refine wpG_tk (some 21) (v := .bool true) rfl (.val (by rfl) (fun W hg => by go_simp)) ?_
  simp only [Act.put, List.setIfInBounds_toArray, List.set_cons_zero, List.set_cons_succ]
  refine wpG_done (fun V9 hv10 => ?_)
  have GC11 := Lib.hid (GB8.out.trans hv10)
  clear hv10
  go_upto_region 3 with fail
  refine wpG_region ?_
  refine wpG_tk (some 22) (v := .bool true) rfl (.call (f := 12) (args := #[]) (by rfl) (fun W => by go_simp) (fun W hg => sanity_any W (HT.out.below (GC11.out.trans hg)))) ?_
  simp only [Act.put, List.setIfInBounds_toArray, List.set_cons_zero, List.set_cons_succ]
  refine wpG_tk (some 8) (v := .bool true) rfl (.val (by rfl) (fun _ _ => rfl)) ?_
  simp only [Act.put, List.setIfInBounds_toArray, List.set_cons_zero, List.set_cons_succ]
  refine wpG_done (fun V12 hv13 => ?_)
  have GC14 := Lib.hid (GC11.out.trans hv13)
  clear hv13
  go_wp2_with fail
  go_ret
  exact ⟨rfl, Gr.to G0.out GC14.out⟩
set_option maxRecDepth 1000000 in
set_option maxHeartbeats 8000000 in
theorem law7_tf (a x1 x2 x3 y1 y2 y3 a1 a2 a3 a4 a5 a6 : Int) (w : World) (hT : Tab w) (h8 : 0 ≤ a ∧ a < 256) (i1 : In64 (x1, x2, x3)) (i2 : In64 (y1, y2, y3)) (i3 : In64 (a1, a2, a3)) (i4 : In64 (a4, a5, a6)) (hi : [(x1, x2, x3), (y1, y2, y3), (a1, a2, a3), (a4, a5, a6)].all inI = true) (he : Pt.emp a1 a2 a3 a4 a5 a6 = true) (hx : Pt.inB x1 x2 x3 a1 a2 a3 a4 a5 a6 = false) :
    Calls Tryd.prog 7 #[.int .u8 a, .agg #[.int .i64 x1, .int .i64 x2, .int .i64 x3], .agg #[.int .i64 y1, .int .i64 y2, .int .i64 y3], .agg #[.int .i64 a1, .int .i64 a2, .int .i64 a3, .int .i64 a4, .int .i64 a5, .int .i64 a6]] w fun e w' => e = .returned (.bool true) ∧ Below w.heap.size w w' := by
  obtain ⟨s, hsa⟩ : ∃ s : Nat, (s : Int) = a % 48 := ⟨(a % 48).toNat, by omega⟩
  have hs : s < 48 := by omega
  have HQ : Hid (a.tmod 48 = (s : Int)) := Lib.hid (by rw [Int.tmod_eq_emod_of_nonneg h8.1, hsa])
  clear hsa
  have bb := hi
  simp only [List.all_cons, List.all_nil, Bool.and_true, Bool.and_eq_true, inI_true] at bb
  have t0 := Pt.tc_bd (L := 524287) (less := 0) (s := s) (i := 0) (x := x1) (y := x2) (z := x3) (by omega) (by omega)
  have t1 := Pt.tc_bd (L := 524287) (less := 0) (s := s) (i := 1) (x := x1) (y := x2) (z := x3) (by omega) (by omega)
  have t2 := Pt.tc_bd (L := 524287) (less := 0) (s := s) (i := 2) (x := x1) (y := x2) (z := x3) (by omega) (by omega)
  have t3 := Pt.tc_bd (L := 524287) (less := 0) (s := s) (i := 0) (x := y1) (y := y2) (z := y3) (by omega) (by omega)
  have t4 := Pt.tc_bd (L := 524287) (less := 0) (s := s) (i := 1) (x := y1) (y := y2) (z := y3) (by omega) (by omega)
  have t5 := Pt.tc_bd (L := 524287) (less := 0) (s := s) (i := 2) (x := y1) (y := y2) (z := y3) (by omega) (by omega)
  have t6 := Pt.tc_bd (L := 524287) (less := 1) (s := s) (i := 0) (x := x1) (y := x2) (z := x3) (by omega) (by omega)
  have t7 := Pt.tc_bd (L := 524287) (less := 1) (s := s) (i := 1) (x := x1) (y := x2) (z := x3) (by omega) (by omega)
  have t8 := Pt.tc_bd (L := 524287) (less := 1) (s := s) (i := 2) (x := x1) (y := x2) (z := x3) (by omega) (by omega)
  have t9 := Pt.tc_bd (L := 524287) (less := 1) (s := s) (i := 0) (x := y1) (y := y2) (z := y3) (by omega) (by omega)
  have t10 := Pt.tc_bd (L := 524287) (less := 1) (s := s) (i := 1) (x := y1) (y := y2) (z := y3) (by omega) (by omega)
  have t11 := Pt.tc_bd (L := 524287) (less := 1) (s := s) (i := 2) (x := y1) (y := y2) (z := y3) (by omega) (by omega)
  have t12 := Pt.tc_bd0 (L := 524287) (s := s) (i := 0) (x := a1) (y := a2) (z := a3) (by omega)
  have t13 := Pt.tc_bd0 (L := 524287) (s := s) (i := 1) (x := a1) (y := a2) (z := a3) (by omega)
  have t14 := Pt.tc_bd0 (L := 524287) (s := s) (i := 2) (x := a1) (y := a2) (z := a3) (by omega)
  have t15 := Pt.tc_bd0 (L := 524287) (s := s) (i := 0) (x := a4) (y := a5) (z := a6) (by omega)
  have t16 := Pt.tc_bd0 (L := 524287) (s := s) (i := 1) (x := a4) (y := a5) (z := a6) (by omega)
  have t17 := Pt.tc_bd0 (L := 524287) (s := s) (i := 2) (x := a4) (y := a5) (z := a6) (by omega)
  have k0 := Pt.dist_turn 0 s hs x1 x2 x3 y1 y2 y3
  have k1 := Pt.dist_turn 1 s hs x1 x2 x3 y1 y2 y3
  have k2 : Pt.vol 0 0 0 0 0 0 = Pt.vol a1 a2 a3 a4 a5 a6 := by rw [Pt.vol_emp he]; decide
  have HS := Lib.hid hi
  have HE := Lib.hid he
  have HI := Lib.hid hx
  clear hi he hx
  obtain ⟨u, hu, r0, r1, r2, g0⟩ := rows3 w [.int .i64 x1, .int .i64 x2, .int .i64 x3] 23 [.int .i64 y1, .int .i64 y2, .int .i64 y3] 23 [.int .i64 a1, .int .i64 a2, .int .i64 a3, .int .i64 a4, .int .i64 a5, .int .i64 a6] 31
  have R0 := Lib.hid r0
  have R1 := Lib.hid r1
  have R2 := Lib.hid r2
  have G0 := Lib.hid g0
  have HU := Lib.hid hu
  have HT := Lib.hid (hT.below g0)
  clear hT
  clear hu g0 r0 r1 r2
  go_enter Tryd.func7, Tryd.ntmps7
  go_upto_region 1 with fail
  rw [← HU.out]
  refine wpG_region ?_
  refine wpG_tk (some 10) (v := .int .u8 a) rfl (.val (by rfl) (fun _ _ => rfl)) ?_
  simp only [Act.put, List.setIfInBounds_toArray, List.set_cons_zero, List.set_cons_succ]
  refine wpG_tk (some 11) (v := .int .i64 a) rfl (.val (by rfl) (fun W hg => by (go_simp <;> exact IntWalk.i64_in _ (by omega)))) ?_
  simp only [Act.put, List.setIfInBounds_toArray, List.set_cons_zero, List.set_cons_succ]
  refine wpG_tk (some 12) (v := .int .i64 (s : Int)) rfl (.val (by rfl) (fun W hg => by have q := HQ.out; go_simp)) ?_
  simp only [Act.put, List.setIfInBounds_toArray, List.set_cons_zero, List.set_cons_succ]
  refine wpG_tk (some 9) (v := .int .i64 (s : Int)) rfl (.val (by rfl) (fun _ _ => rfl)) ?_
  simp only [Act.put, List.setIfInBounds_toArray, List.set_cons_zero, List.set_cons_succ]
  refine wpG_done (fun V1 hv2 => ?_)
  have GC3 := Lib.hid hv2
  clear hv2
  go_upto_region 2 with fail
  refine wpG_region ?_
  refine wpG_tk (some 13) (v := .agg #[.int .i64 x1, .int .i64 x2, .int .i64 x3]) rfl (.load_mid (by rfl) 23 (.tmp 5) rfl (w.heap.size) 0 rfl [.int .i64 x1, .int .i64 x2, .int .i64 x3] _ (fun W hg => (R0.out.below (GC3.out.trans hg)).range) Tryd.underlying23 rfl (by kernel_rfl)) ?_
  simp only [Act.put, List.setIfInBounds_toArray, List.set_cons_zero, List.set_cons_succ]
  refine wpG_tk (some 14) (v := .agg #[.int .i64 y1, .int .i64 y2, .int .i64 y3]) rfl (.load_mid (by rfl) 23 (.tmp 6) rfl (w.heap.size + 1) 0 rfl [.int .i64 y1, .int .i64 y2, .int .i64 y3] _ (fun W hg => (R1.out.below (GC3.out.trans hg)).range) Tryd.underlying23 rfl (by kernel_rfl)) ?_
  simp only [Act.put, List.setIfInBounds_toArray, List.set_cons_zero, List.set_cons_succ]
  refine wpG_tk (some 15) (v := .pointer (some ⟨w.heap.size + 1 + 1, 0, none⟩)) rfl (.val (by rfl) (fun W hg => by go_simp)) ?_
  simp only [Act.put, List.setIfInBounds_toArray, List.set_cons_zero, List.set_cons_succ]
  refine wpG_tk (some 16) (v := .agg #[.int .i64 a1, .int .i64 a2, .int .i64 a3]) rfl (.load_mid (by rfl) 23 (.tmp 15) rfl (w.heap.size + 1 + 1) 0 rfl [.int .i64 a1, .int .i64 a2, .int .i64 a3] _ (fun W hg => (R2.out.below (GC3.out.trans hg)).lo) Tryd.underlying23 rfl (by kernel_rfl)) ?_
  simp only [Act.put, List.setIfInBounds_toArray, List.set_cons_zero, List.set_cons_succ]
  refine wpG_tk (some 17) (v := .pointer (some ⟨w.heap.size + 1 + 1, 3, none⟩)) rfl (.val (by rfl) (fun W hg => by go_simp)) ?_
  simp only [Act.put, List.setIfInBounds_toArray, List.set_cons_zero, List.set_cons_succ]
  refine wpG_tk (some 18) (v := .agg #[.int .i64 a4, .int .i64 a5, .int .i64 a6]) rfl (.load_mid (by rfl) 23 (.tmp 17) rfl (w.heap.size + 1 + 1) 3 rfl [.int .i64 a4, .int .i64 a5, .int .i64 a6] _ (fun W hg => (R2.out.below (GC3.out.trans hg)).hi) Tryd.underlying23 rfl (by kernel_rfl)) ?_
  simp only [Act.put, List.setIfInBounds_toArray, List.set_cons_zero, List.set_cons_succ]
  refine wpG_val (some 19) rfl (by rfl) (fun W4 hg5 => ⟨.slice (some ⟨W4.heap.size, 0, none⟩) 4 4, W4.alloc (.cells #[.int .i64 x1, .int .i64 x2, .int .i64 x3, .int .i64 y1, .int .i64 y2, .int .i64 y3, .int .i64 a1, .int .i64 a2, .int .i64 a3, .int .i64 a4, .int .i64 a5, .int .i64 a6] 23), by (go_simp <;> rfl), ?_⟩)
  simp only [Act.put, List.setIfInBounds_toArray, List.set_cons_zero, List.set_cons_succ]
  obtain ⟨U6, hu, rn, gn⟩ : ∃ z, z = W4.alloc (.cells #[.int .i64 x1, .int .i64 x2, .int .i64 x3, .int .i64 y1, .int .i64 y2, .int .i64 y3, .int .i64 a1, .int .i64 a2, .int .i64 a3, .int .i64 a4, .int .i64 a5, .int .i64 a6] 23) ∧ Row W4.heap.size [.int .i64 x1, .int .i64 x2, .int .i64 x3, .int .i64 y1, .int .i64 y2, .int .i64 y3, .int .i64 a1, .int .i64 a2, .int .i64 a3, .int .i64 a4, .int .i64 a5, .int .i64 a6] z ∧ Gr W4 z := ⟨_, rfl, Row.newl W4 [.int .i64 x1, .int .i64 x2, .int .i64 x3, .int .i64 y1, .int .i64 y2, .int .i64 y3, .int .i64 a1, .int .i64 a2, .int .i64 a3, .int .i64 a4, .int .i64 a5, .int .i64 a6] 23, Gr.al _ _⟩
  rw [← hu]
  have RN7 := Lib.hid rn
  have GB8 := Lib.hid (Gr.trans (GC3.out.trans hg5) gn)
  clear hu rn gn hg5
  refine wpG_tk (some 20) (v := .bool true) rfl (.call (f := 61) (args := #[.slice (some ⟨W4.heap.size, 0, none⟩) 4 4]) (by rfl) (fun W => by go_simp) (fun W hg => inner_is [(x1, x2, x3), (y1, y2, y3), (a1, a2, a3), (a4, a5, a6)] W4.heap.size 4 true W rfl (by decide) (RN7.out.below hg) (List.forall_mem_cons.2 ⟨i1, (List.forall_mem_cons.2 ⟨i2, (List.forall_mem_cons.2 ⟨i3, (List.forall_mem_cons.2 ⟨i4, (fun _ h => absurd h List.not_mem_nil)⟩)⟩)⟩)⟩) HS.out)) ?_
  simp only [Act.put, List.setIfInBounds_toArray, List.set_cons_zero, List.set_cons_succ]
  refine wpG_tk (some 21) (v := .bool false) rfl (.val (by rfl) (fun W hg => by go_simp)) ?_
  simp only [Act.put, List.setIfInBounds_toArray, List.set_cons_zero, List.set_cons_succ]
  refine wpG_done (fun V9 hv10 => ?_)
  have GC11 := Lib.hid (GB8.out.trans hv10)
  clear hv10
  go_upto_region 4 with fail
  refine wpK_region (by kernel_rfl) ?_
  refine wpK_tk (i := 0) (some 23) (v := .bool true) rfl rfl (by kernel_rfl) (fun _ _ _ h => h) (.call (f := 12) (args := #[]) (by rfl) (fun W => by go_simp) (fun W hg => sanity_any W (HT.out.below (GC11.out.trans (Gr.un hg))))) ?_
  simp only [Act.put, List.setIfInBounds_toArray, List.set_cons_zero, List.set_cons_succ]
  refine wpK_ta (i := 1) (some 24) (v := .bool true) rfl rfl (by kernel_rfl) (fun _ _ _ h => h) (Or.inl ⟨rfl, fun _ => rfl⟩) ?_
  simp only [Act.put, List.setIfInBounds_toArray, List.set_cons_zero, List.set_cons_succ]
  refine wpK_ta (i := 2) (some 25) (v := .int .i64 (s : Int)) rfl rfl (by kernel_rfl) (fun _ _ _ h => h) (Or.inl ⟨rfl, fun _ => rfl⟩) ?_
  simp only [Act.put, List.setIfInBounds_toArray, List.set_cons_zero, List.set_cons_succ]
  refine wpK_tk (i := 3) (some 26) (v := .agg #[.int .i64 x1, .int .i64 x2, .int .i64 x3]) rfl rfl (by kernel_rfl) (fun _ _ _ h => h) (.load_mid (by rfl) 23 (.tmp 5) rfl (w.heap.size) 0 rfl [.int .i64 x1, .int .i64 x2, .int .i64 x3] _ (fun W hg => (R0.out.below (GC11.out.trans (Gr.un hg))).range) Tryd.underlying23 rfl (by kernel_rfl)) ?_
  simp only [Act.put, List.setIfInBounds_toArray, List.set_cons_zero, List.set_cons_succ]
  refine wpK_tk (i := 4) (some 27) (v := .agg #[.int .i64 (Pt.tc 0 s 0 x1 x2 x3), .int .i64 (Pt.tc 0 s 1 x1 x2 x3), .int .i64 (Pt.tc 0 s 2 x1 x2 x3)]) rfl rfl (by kernel_rfl) (fun _ _ _ h => h) (.call (f := 47) (args := #[.int .i64 (s : Int), .agg #[.int .i64 x1, .int .i64 x2, .int .i64 x3]]) (by rfl) (fun W => by go_simp) (fun W hg => turn_any s x1 x2 x3 W (HT.out.below (GC11.out.trans (Gr.un hg))) hs (by omega))) ?_
  simp only [Act.put, List.setIfInBounds_toArray, List.set_cons_zero, List.set_cons_succ]
  refine wpK_ta (i := 5) (some 28) (v := .int .i64 (s : Int)) rfl rfl (by kernel_rfl) (fun _ _ _ h => h) (Or.inl ⟨rfl, fun _ => rfl⟩) ?_
  simp only [Act.put, List.setIfInBounds_toArray, List.set_cons_zero, List.set_cons_succ]
  refine wpK_tk (i := 6) (some 29) (v := .agg #[.int .i64 y1, .int .i64 y2, .int .i64 y3]) rfl rfl (by kernel_rfl) (fun _ _ _ h => h) (.load_mid (by rfl) 23 (.tmp 6) rfl (w.heap.size + 1) 0 rfl [.int .i64 y1, .int .i64 y2, .int .i64 y3] _ (fun W hg => (R1.out.below (GC11.out.trans (Gr.un hg))).range) Tryd.underlying23 rfl (by kernel_rfl)) ?_
  simp only [Act.put, List.setIfInBounds_toArray, List.set_cons_zero, List.set_cons_succ]
  refine wpK_tk (i := 7) (some 30) (v := .agg #[.int .i64 (Pt.tc 0 s 0 y1 y2 y3), .int .i64 (Pt.tc 0 s 1 y1 y2 y3), .int .i64 (Pt.tc 0 s 2 y1 y2 y3)]) rfl rfl (by kernel_rfl) (fun _ _ _ h => h) (.call (f := 47) (args := #[.int .i64 (s : Int), .agg #[.int .i64 y1, .int .i64 y2, .int .i64 y3]]) (by rfl) (fun W => by go_simp) (fun W hg => turn_any s y1 y2 y3 W (HT.out.below (GC11.out.trans (Gr.un hg))) hs (by omega))) ?_
  simp only [Act.put, List.setIfInBounds_toArray, List.set_cons_zero, List.set_cons_succ]
  refine wpK_tk (i := 8) (some 31) (v := .int .i64 (Pt.dist (Pt.tc 0 s 0 x1 x2 x3) (Pt.tc 0 s 1 x1 x2 x3) (Pt.tc 0 s 2 x1 x2 x3) (Pt.tc 0 s 0 y1 y2 y3) (Pt.tc 0 s 1 y1 y2 y3) (Pt.tc 0 s 2 y1 y2 y3))) rfl rfl (by kernel_rfl) (fun _ _ _ h => h) (.call (f := 19) (args := #[.agg #[.int .i64 (Pt.tc 0 s 0 x1 x2 x3), .int .i64 (Pt.tc 0 s 1 x1 x2 x3), .int .i64 (Pt.tc 0 s 2 x1 x2 x3)], .agg #[.int .i64 (Pt.tc 0 s 0 y1 y2 y3), .int .i64 (Pt.tc 0 s 1 y1 y2 y3), .int .i64 (Pt.tc 0 s 2 y1 y2 y3)]]) (by rfl) (fun W => by go_simp) (fun W hg => distance_any (Pt.tc 0 s 0 x1 x2 x3) (Pt.tc 0 s 1 x1 x2 x3) (Pt.tc 0 s 2 x1 x2 x3) (Pt.tc 0 s 0 y1 y2 y3) (Pt.tc 0 s 1 y1 y2 y3) (Pt.tc 0 s 2 y1 y2 y3) W (by omega))) ?_
  simp only [Act.put, List.setIfInBounds_toArray, List.set_cons_zero, List.set_cons_succ]
  refine wpK_tk (i := 9) (some 32) (v := .agg #[.int .i64 x1, .int .i64 x2, .int .i64 x3]) rfl rfl (by kernel_rfl) (fun _ _ _ h => h) (.load_mid (by rfl) 23 (.tmp 5) rfl (w.heap.size) 0 rfl [.int .i64 x1, .int .i64 x2, .int .i64 x3] _ (fun W hg => (R0.out.below (GC11.out.trans (Gr.un hg))).range) Tryd.underlying23 rfl (by kernel_rfl)) ?_
  simp only [Act.put, List.setIfInBounds_toArray, List.set_cons_zero, List.set_cons_succ]
  refine wpK_tk (i := 10) (some 33) (v := .agg #[.int .i64 y1, .int .i64 y2, .int .i64 y3]) rfl rfl (by kernel_rfl) (fun _ _ _ h => h) (.load_mid (by rfl) 23 (.tmp 6) rfl (w.heap.size + 1) 0 rfl [.int .i64 y1, .int .i64 y2, .int .i64 y3] _ (fun W hg => (R1.out.below (GC11.out.trans (Gr.un hg))).range) Tryd.underlying23 rfl (by kernel_rfl)) ?_
  simp only [Act.put, List.setIfInBounds_toArray, List.set_cons_zero, List.set_cons_succ]
  refine wpK_tk (i := 11) (some 34) (v := .int .i64 (Pt.dist x1 x2 x3 y1 y2 y3)) rfl rfl (by kernel_rfl) (fun _ _ _ h => h) (.call (f := 19) (args := #[.agg #[.int .i64 x1, .int .i64 x2, .int .i64 x3], .agg #[.int .i64 y1, .int .i64 y2, .int .i64 y3]]) (by rfl) (fun W => by go_simp) (fun W hg => distance_any x1 x2 x3 y1 y2 y3 W (by omega))) ?_
  simp only [Act.put, List.setIfInBounds_toArray, List.set_cons_zero, List.set_cons_succ]
  refine wpK_ta (i := 12) (some 35) (v := .bool true) rfl rfl (by kernel_rfl) (fun _ _ _ h => h) (Or.inl ⟨by rfl, fun W => by have hq : (Pt.dist (Pt.tc 0 s 0 x1 x2 x3) (Pt.tc 0 s 1 x1 x2 x3) (Pt.tc 0 s 2 x1 x2 x3) (Pt.tc 0 s 0 y1 y2 y3) (Pt.tc 0 s 1 y1 y2 y3) (Pt.tc 0 s 2 y1 y2 y3) = Pt.dist x1 x2 x3 y1 y2 y3) := (by omega); first | (go_simp; done) | (go_simp <;> omega)⟩) ?_
  simp only [Act.put, List.setIfInBounds_toArray, List.set_cons_zero, List.set_cons_succ]
  refine wpK_ta (i := 13) (some 36) (v := .bool true) rfl rfl (by kernel_rfl) (fun _ _ _ h => h) (Or.inl ⟨by rfl, fun W => by go_simp⟩) ?_
  simp only [Act.put, List.setIfInBounds_toArray, List.set_cons_zero, List.set_cons_succ]
  refine wpK_ta (i := 14) (some 37) (v := .bool true) rfl rfl (by kernel_rfl) (fun _ _ _ h => h) (Or.inl ⟨rfl, fun _ => rfl⟩) ?_
  simp only [Act.put, List.setIfInBounds_toArray, List.set_cons_zero, List.set_cons_succ]
  refine wpK_ta (i := 15) (some 38) (v := .int .i64 (s : Int)) rfl rfl (by kernel_rfl) (fun _ _ _ h => h) (Or.inl ⟨rfl, fun _ => rfl⟩) ?_
  simp only [Act.put, List.setIfInBounds_toArray, List.set_cons_zero, List.set_cons_succ]
  refine wpK_tk (i := 16) (some 39) (v := .agg #[.int .i64 x1, .int .i64 x2, .int .i64 x3]) rfl rfl (by kernel_rfl) (fun _ _ _ h => h) (.load_mid (by rfl) 23 (.tmp 5) rfl (w.heap.size) 0 rfl [.int .i64 x1, .int .i64 x2, .int .i64 x3] _ (fun W hg => (R0.out.below (GC11.out.trans (Gr.un hg))).range) Tryd.underlying23 rfl (by kernel_rfl)) ?_
  simp only [Act.put, List.setIfInBounds_toArray, List.set_cons_zero, List.set_cons_succ]
  refine wpK_tk (i := 17) (some 40) (v := .agg #[.int .i64 (Pt.tc 1 s 0 x1 x2 x3), .int .i64 (Pt.tc 1 s 1 x1 x2 x3), .int .i64 (Pt.tc 1 s 2 x1 x2 x3)]) rfl rfl (by kernel_rfl) (fun _ _ _ h => h) (.call (f := 49) (args := #[.int .i64 (s : Int), .agg #[.int .i64 x1, .int .i64 x2, .int .i64 x3]]) (by rfl) (fun W => by go_simp) (fun W hg => turncell_any s x1 x2 x3 W (HT.out.below (GC11.out.trans (Gr.un hg))) hs (by omega))) ?_
  simp only [Act.put, List.setIfInBounds_toArray, List.set_cons_zero, List.set_cons_succ]
  refine wpK_ta (i := 18) (some 41) (v := .int .i64 (s : Int)) rfl rfl (by kernel_rfl) (fun _ _ _ h => h) (Or.inl ⟨rfl, fun _ => rfl⟩) ?_
  simp only [Act.put, List.setIfInBounds_toArray, List.set_cons_zero, List.set_cons_succ]
  refine wpK_tk (i := 19) (some 42) (v := .agg #[.int .i64 y1, .int .i64 y2, .int .i64 y3]) rfl rfl (by kernel_rfl) (fun _ _ _ h => h) (.load_mid (by rfl) 23 (.tmp 6) rfl (w.heap.size + 1) 0 rfl [.int .i64 y1, .int .i64 y2, .int .i64 y3] _ (fun W hg => (R1.out.below (GC11.out.trans (Gr.un hg))).range) Tryd.underlying23 rfl (by kernel_rfl)) ?_
  simp only [Act.put, List.setIfInBounds_toArray, List.set_cons_zero, List.set_cons_succ]
  refine wpK_tk (i := 20) (some 43) (v := .agg #[.int .i64 (Pt.tc 1 s 0 y1 y2 y3), .int .i64 (Pt.tc 1 s 1 y1 y2 y3), .int .i64 (Pt.tc 1 s 2 y1 y2 y3)]) rfl rfl (by kernel_rfl) (fun _ _ _ h => h) (.call (f := 49) (args := #[.int .i64 (s : Int), .agg #[.int .i64 y1, .int .i64 y2, .int .i64 y3]]) (by rfl) (fun W => by go_simp) (fun W hg => turncell_any s y1 y2 y3 W (HT.out.below (GC11.out.trans (Gr.un hg))) hs (by omega))) ?_
  simp only [Act.put, List.setIfInBounds_toArray, List.set_cons_zero, List.set_cons_succ]
  refine wpK_tk (i := 21) (some 44) (v := .int .i64 (Pt.dist (Pt.tc 1 s 0 x1 x2 x3) (Pt.tc 1 s 1 x1 x2 x3) (Pt.tc 1 s 2 x1 x2 x3) (Pt.tc 1 s 0 y1 y2 y3) (Pt.tc 1 s 1 y1 y2 y3) (Pt.tc 1 s 2 y1 y2 y3))) rfl rfl (by kernel_rfl) (fun _ _ _ h => h) (.call (f := 19) (args := #[.agg #[.int .i64 (Pt.tc 1 s 0 x1 x2 x3), .int .i64 (Pt.tc 1 s 1 x1 x2 x3), .int .i64 (Pt.tc 1 s 2 x1 x2 x3)], .agg #[.int .i64 (Pt.tc 1 s 0 y1 y2 y3), .int .i64 (Pt.tc 1 s 1 y1 y2 y3), .int .i64 (Pt.tc 1 s 2 y1 y2 y3)]]) (by rfl) (fun W => by go_simp) (fun W hg => distance_any (Pt.tc 1 s 0 x1 x2 x3) (Pt.tc 1 s 1 x1 x2 x3) (Pt.tc 1 s 2 x1 x2 x3) (Pt.tc 1 s 0 y1 y2 y3) (Pt.tc 1 s 1 y1 y2 y3) (Pt.tc 1 s 2 y1 y2 y3) W (by omega))) ?_
  simp only [Act.put, List.setIfInBounds_toArray, List.set_cons_zero, List.set_cons_succ]
  refine wpK_tk (i := 22) (some 45) (v := .agg #[.int .i64 x1, .int .i64 x2, .int .i64 x3]) rfl rfl (by kernel_rfl) (fun _ _ _ h => h) (.load_mid (by rfl) 23 (.tmp 5) rfl (w.heap.size) 0 rfl [.int .i64 x1, .int .i64 x2, .int .i64 x3] _ (fun W hg => (R0.out.below (GC11.out.trans (Gr.un hg))).range) Tryd.underlying23 rfl (by kernel_rfl)) ?_
  simp only [Act.put, List.setIfInBounds_toArray, List.set_cons_zero, List.set_cons_succ]
  refine wpK_tk (i := 23) (some 46) (v := .agg #[.int .i64 y1, .int .i64 y2, .int .i64 y3]) rfl rfl (by kernel_rfl) (fun _ _ _ h => h) (.load_mid (by rfl) 23 (.tmp 6) rfl (w.heap.size + 1) 0 rfl [.int .i64 y1, .int .i64 y2, .int .i64 y3] _ (fun W hg => (R1.out.below (GC11.out.trans (Gr.un hg))).range) Tryd.underlying23 rfl (by kernel_rfl)) ?_
  simp only [Act.put, List.setIfInBounds_toArray, List.set_cons_zero, List.set_cons_succ]
  refine wpK_tk (i := 24) (some 47) (v := .int .i64 (Pt.dist x1 x2 x3 y1 y2 y3)) rfl rfl (by kernel_rfl) (fun _ _ _ h => h) (.call (f := 19) (args := #[.agg #[.int .i64 x1, .int .i64 x2, .int .i64 x3], .agg #[.int .i64 y1, .int .i64 y2, .int .i64 y3]]) (by rfl) (fun W => by go_simp) (fun W hg => distance_any x1 x2 x3 y1 y2 y3 W (by omega))) ?_
  simp only [Act.put, List.setIfInBounds_toArray, List.set_cons_zero, List.set_cons_succ]
  refine wpK_ta (i := 25) (some 48) (v := .bool true) rfl rfl (by kernel_rfl) (fun _ _ _ h => h) (Or.inl ⟨by rfl, fun W => by have hq : (Pt.dist (Pt.tc 1 s 0 x1 x2 x3) (Pt.tc 1 s 1 x1 x2 x3) (Pt.tc 1 s 2 x1 x2 x3) (Pt.tc 1 s 0 y1 y2 y3) (Pt.tc 1 s 1 y1 y2 y3) (Pt.tc 1 s 2 y1 y2 y3) = Pt.dist x1 x2 x3 y1 y2 y3) := (by omega); first | (go_simp; done) | (go_simp <;> omega)⟩) ?_
  simp only [Act.put, List.setIfInBounds_toArray, List.set_cons_zero, List.set_cons_succ]
  refine wpK_ta (i := 26) (some 49) (v := .bool true) rfl rfl (by kernel_rfl) (fun _ _ _ h => h) (Or.inl ⟨by rfl, fun W => by go_simp⟩) ?_
  simp only [Act.put, List.setIfInBounds_toArray, List.set_cons_zero, List.set_cons_succ]
  refine wpK_ta (i := 27) (some 50) (v := .bool true) rfl rfl (by kernel_rfl) (fun _ _ _ h => h) (Or.inl ⟨rfl, fun _ => rfl⟩) ?_
  simp only [Act.put, List.setIfInBounds_toArray, List.set_cons_zero, List.set_cons_succ]
  refine wpK_ta (i := 28) (some 51) (v := .int .i64 (s : Int)) rfl rfl (by kernel_rfl) (fun _ _ _ h => h) (Or.inl ⟨rfl, fun _ => rfl⟩) ?_
  simp only [Act.put, List.setIfInBounds_toArray, List.set_cons_zero, List.set_cons_succ]
  refine wpK_tk (i := 29) (some 52) (v := .agg #[.int .i64 a1, .int .i64 a2, .int .i64 a3, .int .i64 a4, .int .i64 a5, .int .i64 a6]) rfl rfl (by kernel_rfl) (fun _ _ _ h => h) (.load_mid (by rfl) 31 (.tmp 7) rfl (w.heap.size + 1 + 1) 0 rfl [.int .i64 a1, .int .i64 a2, .int .i64 a3, .int .i64 a4, .int .i64 a5, .int .i64 a6] _ (fun W hg => (R2.out.below (GC11.out.trans (Gr.un hg))).range) Tryd.underlying31 rfl (by kernel_rfl)) ?_
  simp only [Act.put, List.setIfInBounds_toArray, List.set_cons_zero, List.set_cons_succ]
  refine wpK_tk (i := 30) (some 53) (v := .agg #[.int .i64 0, .int .i64 0, .int .i64 0, .int .i64 0, .int .i64 0, .int .i64 0]) rfl rfl (by kernel_rfl) (fun _ _ _ h => h) (.call (f := 51) (args := #[.int .i64 (s : Int), .agg #[.int .i64 a1, .int .i64 a2, .int .i64 a3, .int .i64 a4, .int .i64 a5, .int .i64 a6]]) (by rfl) (fun W => by go_simp) (fun W hg => turnbox_t s a1 a2 a3 a4 a5 a6 W hs HE.out)) ?_
  simp only [Act.put, List.setIfInBounds_toArray, List.set_cons_zero, List.set_cons_succ]
  refine wpK_tk (i := 31) (some 54) (v := .int .i64 (Pt.vol 0 0 0 0 0 0)) rfl rfl (by kernel_rfl) (fun _ _ _ h => h) (.call (f := 29) (args := #[.agg #[.int .i64 0, .int .i64 0, .int .i64 0, .int .i64 0, .int .i64 0, .int .i64 0]]) (by rfl) (fun W => by go_simp) (fun W hg => volume_any 0 0 0 0 0 0 W (by omega))) ?_
  simp only [Act.put, List.setIfInBounds_toArray, List.set_cons_zero, List.set_cons_succ]
  refine wpK_tk (i := 32) (some 55) (v := .agg #[.int .i64 a1, .int .i64 a2, .int .i64 a3, .int .i64 a4, .int .i64 a5, .int .i64 a6]) rfl rfl (by kernel_rfl) (fun _ _ _ h => h) (.load_mid (by rfl) 31 (.tmp 7) rfl (w.heap.size + 1 + 1) 0 rfl [.int .i64 a1, .int .i64 a2, .int .i64 a3, .int .i64 a4, .int .i64 a5, .int .i64 a6] _ (fun W hg => (R2.out.below (GC11.out.trans (Gr.un hg))).range) Tryd.underlying31 rfl (by kernel_rfl)) ?_
  simp only [Act.put, List.setIfInBounds_toArray, List.set_cons_zero, List.set_cons_succ]
  refine wpK_tk (i := 33) (some 56) (v := .int .i64 (Pt.vol a1 a2 a3 a4 a5 a6)) rfl rfl (by kernel_rfl) (fun _ _ _ h => h) (.call (f := 29) (args := #[.agg #[.int .i64 a1, .int .i64 a2, .int .i64 a3, .int .i64 a4, .int .i64 a5, .int .i64 a6]]) (by rfl) (fun W => by go_simp) (fun W hg => volume_any a1 a2 a3 a4 a5 a6 W (by omega))) ?_
  simp only [Act.put, List.setIfInBounds_toArray, List.set_cons_zero, List.set_cons_succ]
  refine wpK_ta (i := 34) (some 57) (v := .bool true) rfl rfl (by kernel_rfl) (fun _ _ _ h => h) (Or.inl ⟨by rfl, fun W => by have hq : (Pt.vol 0 0 0 0 0 0 = Pt.vol a1 a2 a3 a4 a5 a6) := (by omega); first | (go_simp; done) | (go_simp <;> omega)⟩) ?_
  simp only [Act.put, List.setIfInBounds_toArray, List.set_cons_zero, List.set_cons_succ]
  refine wpK_ta (i := 35) (some 58) (v := .bool true) rfl rfl (by kernel_rfl) (fun _ _ _ h => h) (Or.inl ⟨by rfl, fun W => by go_simp⟩) ?_
  simp only [Act.put, List.setIfInBounds_toArray, List.set_cons_zero, List.set_cons_succ]
  refine wpK_ta (i := 36) (some 59) (v := .bool true) rfl rfl (by kernel_rfl) (fun _ _ _ h => h) (Or.inl ⟨rfl, fun _ => rfl⟩) ?_
  simp only [Act.put, List.setIfInBounds_toArray, List.set_cons_zero, List.set_cons_succ]
  refine wpK_ta (i := 37) (some 60) (v := .int .i64 (s : Int)) rfl rfl (by kernel_rfl) (fun _ _ _ h => h) (Or.inl ⟨rfl, fun _ => rfl⟩) ?_
  simp only [Act.put, List.setIfInBounds_toArray, List.set_cons_zero, List.set_cons_succ]
  refine wpK_tk (i := 38) (some 61) (v := .agg #[.int .i64 x1, .int .i64 x2, .int .i64 x3]) rfl rfl (by kernel_rfl) (fun _ _ _ h => h) (.load_mid (by rfl) 23 (.tmp 5) rfl (w.heap.size) 0 rfl [.int .i64 x1, .int .i64 x2, .int .i64 x3] _ (fun W hg => (R0.out.below (GC11.out.trans (Gr.un hg))).range) Tryd.underlying23 rfl (by kernel_rfl)) ?_
  simp only [Act.put, List.setIfInBounds_toArray, List.set_cons_zero, List.set_cons_succ]
  refine wpK_tk (i := 39) (some 62) (v := .agg #[.int .i64 (Pt.tc 1 s 0 x1 x2 x3), .int .i64 (Pt.tc 1 s 1 x1 x2 x3), .int .i64 (Pt.tc 1 s 2 x1 x2 x3)]) rfl rfl (by kernel_rfl) (fun _ _ _ h => h) (.call (f := 49) (args := #[.int .i64 (s : Int), .agg #[.int .i64 x1, .int .i64 x2, .int .i64 x3]]) (by rfl) (fun W => by go_simp) (fun W hg => turncell_any s x1 x2 x3 W (HT.out.below (GC11.out.trans (Gr.un hg))) hs (by omega))) ?_
  simp only [Act.put, List.setIfInBounds_toArray, List.set_cons_zero, List.set_cons_succ]
  refine wpK_ta (i := 40) (some 63) (v := .int .i64 (s : Int)) rfl rfl (by kernel_rfl) (fun _ _ _ h => h) (Or.inl ⟨rfl, fun _ => rfl⟩) ?_
  simp only [Act.put, List.setIfInBounds_toArray, List.set_cons_zero, List.set_cons_succ]
  refine wpK_tk (i := 41) (some 64) (v := .agg #[.int .i64 a1, .int .i64 a2, .int .i64 a3, .int .i64 a4, .int .i64 a5, .int .i64 a6]) rfl rfl (by kernel_rfl) (fun _ _ _ h => h) (.load_mid (by rfl) 31 (.tmp 7) rfl (w.heap.size + 1 + 1) 0 rfl [.int .i64 a1, .int .i64 a2, .int .i64 a3, .int .i64 a4, .int .i64 a5, .int .i64 a6] _ (fun W hg => (R2.out.below (GC11.out.trans (Gr.un hg))).range) Tryd.underlying31 rfl (by kernel_rfl)) ?_
  simp only [Act.put, List.setIfInBounds_toArray, List.set_cons_zero, List.set_cons_succ]
  refine wpK_tk (i := 42) (some 65) (v := .agg #[.int .i64 0, .int .i64 0, .int .i64 0, .int .i64 0, .int .i64 0, .int .i64 0]) rfl rfl (by kernel_rfl) (fun _ _ _ h => h) (.call (f := 51) (args := #[.int .i64 (s : Int), .agg #[.int .i64 a1, .int .i64 a2, .int .i64 a3, .int .i64 a4, .int .i64 a5, .int .i64 a6]]) (by rfl) (fun W => by go_simp) (fun W hg => turnbox_t s a1 a2 a3 a4 a5 a6 W hs HE.out)) ?_
  simp only [Act.put, List.setIfInBounds_toArray, List.set_cons_zero, List.set_cons_succ]
  refine wpK_tk (i := 43) (some 66) (v := .bool false) rfl rfl (by kernel_rfl) (fun _ _ _ h => h) (.call (f := 25) (args := #[.agg #[.int .i64 (Pt.tc 1 s 0 x1 x2 x3), .int .i64 (Pt.tc 1 s 1 x1 x2 x3), .int .i64 (Pt.tc 1 s 2 x1 x2 x3)], .agg #[.int .i64 0, .int .i64 0, .int .i64 0, .int .i64 0, .int .i64 0, .int .i64 0]]) (by rfl) (fun W => by go_simp) (fun W hg => in_any (Pt.tc 1 s 0 x1 x2 x3) (Pt.tc 1 s 1 x1 x2 x3) (Pt.tc 1 s 2 x1 x2 x3) 0 0 0 0 0 0 false W (Pt.inB_false.2 (by omega)))) ?_
  simp only [Act.put, List.setIfInBounds_toArray, List.set_cons_zero, List.set_cons_succ]
  refine wpK_tk (i := 44) (some 67) (v := .agg #[.int .i64 x1, .int .i64 x2, .int .i64 x3]) rfl rfl (by kernel_rfl) (fun _ _ _ h => h) (.load_mid (by rfl) 23 (.tmp 5) rfl (w.heap.size) 0 rfl [.int .i64 x1, .int .i64 x2, .int .i64 x3] _ (fun W hg => (R0.out.below (GC11.out.trans (Gr.un hg))).range) Tryd.underlying23 rfl (by kernel_rfl)) ?_
  simp only [Act.put, List.setIfInBounds_toArray, List.set_cons_zero, List.set_cons_succ]
  refine wpK_tk (i := 45) (some 68) (v := .agg #[.int .i64 a1, .int .i64 a2, .int .i64 a3, .int .i64 a4, .int .i64 a5, .int .i64 a6]) rfl rfl (by kernel_rfl) (fun _ _ _ h => h) (.load_mid (by rfl) 31 (.tmp 7) rfl (w.heap.size + 1 + 1) 0 rfl [.int .i64 a1, .int .i64 a2, .int .i64 a3, .int .i64 a4, .int .i64 a5, .int .i64 a6] _ (fun W hg => (R2.out.below (GC11.out.trans (Gr.un hg))).range) Tryd.underlying31 rfl (by kernel_rfl)) ?_
  simp only [Act.put, List.setIfInBounds_toArray, List.set_cons_zero, List.set_cons_succ]
  refine wpK_tk (i := 46) (some 69) (v := .bool false) rfl rfl (by kernel_rfl) (fun _ _ _ h => h) (.call (f := 25) (args := #[.agg #[.int .i64 x1, .int .i64 x2, .int .i64 x3], .agg #[.int .i64 a1, .int .i64 a2, .int .i64 a3, .int .i64 a4, .int .i64 a5, .int .i64 a6]]) (by rfl) (fun W => by go_simp) (fun W hg => in_any x1 x2 x3 a1 a2 a3 a4 a5 a6 false W HI.out)) ?_
  simp only [Act.put, List.setIfInBounds_toArray, List.set_cons_zero, List.set_cons_succ]
  refine wpK_ta (i := 47) (some 70) (v := .bool true) rfl rfl (by kernel_rfl) (fun _ _ _ h => h) (Or.inl ⟨by rfl, fun W => by go_simp⟩) ?_
  simp only [Act.put, List.setIfInBounds_toArray, List.set_cons_zero, List.set_cons_succ]
  refine wpK_ta (i := 48) (some 71) (v := .bool true) rfl rfl (by kernel_rfl) (fun _ _ _ h => h) (Or.inl ⟨by rfl, fun W => by go_simp⟩) ?_
  simp only [Act.put, List.setIfInBounds_toArray, List.set_cons_zero, List.set_cons_succ]
  refine wpK_ta (i := 49) (some 8) (v := .bool true) rfl rfl (by kernel_rfl) (fun _ _ _ h => h) (Or.inl ⟨rfl, fun _ => rfl⟩) ?_
  simp only [Act.put, List.setIfInBounds_toArray, List.set_cons_zero, List.set_cons_succ]
  refine wpK_done (by kernel_rfl) (fun V12 hv13 => ?_) _
  have GC14 := Lib.hid (GC11.out.trans (Gr.un hv13))
  clear hv13
  go_wp2_with fail
  go_ret
  exact ⟨rfl, Gr.to G0.out GC14.out⟩
set_option maxRecDepth 1000000 in
set_option maxHeartbeats 8000000 in
theorem law7_ft (a x1 x2 x3 y1 y2 y3 a1 a2 a3 a4 a5 a6 : Int) (w : World) (hT : Tab w) (h8 : 0 ≤ a ∧ a < 256) (i1 : In64 (x1, x2, x3)) (i2 : In64 (y1, y2, y3)) (i3 : In64 (a1, a2, a3)) (i4 : In64 (a4, a5, a6)) (hi : [(x1, x2, x3), (y1, y2, y3), (a1, a2, a3), (a4, a5, a6)].all inI = true) (he : Pt.emp a1 a2 a3 a4 a5 a6 = false) (hx : Pt.inB x1 x2 x3 a1 a2 a3 a4 a5 a6 = true) :
    Calls Tryd.prog 7 #[.int .u8 a, .agg #[.int .i64 x1, .int .i64 x2, .int .i64 x3], .agg #[.int .i64 y1, .int .i64 y2, .int .i64 y3], .agg #[.int .i64 a1, .int .i64 a2, .int .i64 a3, .int .i64 a4, .int .i64 a5, .int .i64 a6]] w fun e w' => e = .returned (.bool true) ∧ Below w.heap.size w w' := by
  obtain ⟨s, hsa⟩ : ∃ s : Nat, (s : Int) = a % 48 := ⟨(a % 48).toNat, by omega⟩
  have hs : s < 48 := by omega
  have HQ : Hid (a.tmod 48 = (s : Int)) := Lib.hid (by rw [Int.tmod_eq_emod_of_nonneg h8.1, hsa])
  clear hsa
  have bb := hi
  simp only [List.all_cons, List.all_nil, Bool.and_true, Bool.and_eq_true, inI_true] at bb
  have t0 := Pt.tc_bd (L := 524287) (less := 0) (s := s) (i := 0) (x := x1) (y := x2) (z := x3) (by omega) (by omega)
  have t1 := Pt.tc_bd (L := 524287) (less := 0) (s := s) (i := 1) (x := x1) (y := x2) (z := x3) (by omega) (by omega)
  have t2 := Pt.tc_bd (L := 524287) (less := 0) (s := s) (i := 2) (x := x1) (y := x2) (z := x3) (by omega) (by omega)
  have t3 := Pt.tc_bd (L := 524287) (less := 0) (s := s) (i := 0) (x := y1) (y := y2) (z := y3) (by omega) (by omega)
  have t4 := Pt.tc_bd (L := 524287) (less := 0) (s := s) (i := 1) (x := y1) (y := y2) (z := y3) (by omega) (by omega)
  have t5 := Pt.tc_bd (L := 524287) (less := 0) (s := s) (i := 2) (x := y1) (y := y2) (z := y3) (by omega) (by omega)
  have t6 := Pt.tc_bd (L := 524287) (less := 1) (s := s) (i := 0) (x := x1) (y := x2) (z := x3) (by omega) (by omega)
  have t7 := Pt.tc_bd (L := 524287) (less := 1) (s := s) (i := 1) (x := x1) (y := x2) (z := x3) (by omega) (by omega)
  have t8 := Pt.tc_bd (L := 524287) (less := 1) (s := s) (i := 2) (x := x1) (y := x2) (z := x3) (by omega) (by omega)
  have t9 := Pt.tc_bd (L := 524287) (less := 1) (s := s) (i := 0) (x := y1) (y := y2) (z := y3) (by omega) (by omega)
  have t10 := Pt.tc_bd (L := 524287) (less := 1) (s := s) (i := 1) (x := y1) (y := y2) (z := y3) (by omega) (by omega)
  have t11 := Pt.tc_bd (L := 524287) (less := 1) (s := s) (i := 2) (x := y1) (y := y2) (z := y3) (by omega) (by omega)
  have t12 := Pt.tc_bd0 (L := 524287) (s := s) (i := 0) (x := a1) (y := a2) (z := a3) (by omega)
  have t13 := Pt.tc_bd0 (L := 524287) (s := s) (i := 1) (x := a1) (y := a2) (z := a3) (by omega)
  have t14 := Pt.tc_bd0 (L := 524287) (s := s) (i := 2) (x := a1) (y := a2) (z := a3) (by omega)
  have t15 := Pt.tc_bd0 (L := 524287) (s := s) (i := 0) (x := a4) (y := a5) (z := a6) (by omega)
  have t16 := Pt.tc_bd0 (L := 524287) (s := s) (i := 1) (x := a4) (y := a5) (z := a6) (by omega)
  have t17 := Pt.tc_bd0 (L := 524287) (s := s) (i := 2) (x := a4) (y := a5) (z := a6) (by omega)
  have k0 := Pt.dist_turn 0 s hs x1 x2 x3 y1 y2 y3
  have k1 := Pt.dist_turn 1 s hs x1 x2 x3 y1 y2 y3
  have k2 := Pt.vol_turn s hs a1 a2 a3 a4 a5 a6 he
  have KI := Lib.hid (Pt.in_turn s hs x1 x2 x3 a1 a2 a3 a4 a5 a6 he)
  rw [hx] at KI
  have HS := Lib.hid hi
  have HE := Lib.hid he
  have HI := Lib.hid hx
  clear hi he hx
  obtain ⟨u, hu, r0, r1, r2, g0⟩ := rows3 w [.int .i64 x1, .int .i64 x2, .int .i64 x3] 23 [.int .i64 y1, .int .i64 y2, .int .i64 y3] 23 [.int .i64 a1, .int .i64 a2, .int .i64 a3, .int .i64 a4, .int .i64 a5, .int .i64 a6] 31
  have R0 := Lib.hid r0
  have R1 := Lib.hid r1
  have R2 := Lib.hid r2
  have G0 := Lib.hid g0
  have HU := Lib.hid hu
  have HT := Lib.hid (hT.below g0)
  clear hT
  clear hu g0 r0 r1 r2
  go_enter Tryd.func7, Tryd.ntmps7
  go_upto_region 1 with fail
  rw [← HU.out]
  refine wpG_region ?_
  refine wpG_tk (some 10) (v := .int .u8 a) rfl (.val (by rfl) (fun _ _ => rfl)) ?_
  simp only [Act.put, List.setIfInBounds_toArray, List.set_cons_zero, List.set_cons_succ]
  refine wpG_tk (some 11) (v := .int .i64 a) rfl (.val (by rfl) (fun W hg => by (go_simp <;> exact IntWalk.i64_in _ (by omega)))) ?_
  simp only [Act.put, List.setIfInBounds_toArray, List.set_cons_zero, List.set_cons_succ]
  refine wpG_tk (some 12) (v := .int .i64 (s : Int)) rfl (.val (by rfl) (fun W hg => by have q := HQ.out; go_simp)) ?_
  simp only [Act.put, List.setIfInBounds_toArray, List.set_cons_zero, List.set_cons_succ]
  refine wpG_tk (some 9) (v := .int .i64 (s : Int)) rfl (.val (by rfl) (fun _ _ => rfl)) ?_
  simp only [Act.put, List.setIfInBounds_toArray, List.set_cons_zero, List.set_cons_succ]
  refine wpG_done (fun V1 hv2 => ?_)
  have GC3 := Lib.hid hv2
  clear hv2
  go_upto_region 2 with fail
  refine wpG_region ?_
  refine wpG_tk (some 13) (v := .agg #[.int .i64 x1, .int .i64 x2, .int .i64 x3]) rfl (.load_mid (by rfl) 23 (.tmp 5) rfl (w.heap.size) 0 rfl [.int .i64 x1, .int .i64 x2, .int .i64 x3] _ (fun W hg => (R0.out.below (GC3.out.trans hg)).range) Tryd.underlying23 rfl (by kernel_rfl)) ?_
  simp only [Act.put, List.setIfInBounds_toArray, List.set_cons_zero, List.set_cons_succ]
  refine wpG_tk (some 14) (v := .agg #[.int .i64 y1, .int .i64 y2, .int .i64 y3]) rfl (.load_mid (by rfl) 23 (.tmp 6) rfl (w.heap.size + 1) 0 rfl [.int .i64 y1, .int .i64 y2, .int .i64 y3] _ (fun W hg => (R1.out.below (GC3.out.trans hg)).range) Tryd.underlying23 rfl (by kernel_rfl)) ?_
  simp only [Act.put, List.setIfInBounds_toArray, List.set_cons_zero, List.set_cons_succ]
  refine wpG_tk (some 15) (v := .pointer (some ⟨w.heap.size + 1 + 1, 0, none⟩)) rfl (.val (by rfl) (fun W hg => by go_simp)) ?_
  simp only [Act.put, List.setIfInBounds_toArray, List.set_cons_zero, List.set_cons_succ]
  refine wpG_tk (some 16) (v := .agg #[.int .i64 a1, .int .i64 a2, .int .i64 a3]) rfl (.load_mid (by rfl) 23 (.tmp 15) rfl (w.heap.size + 1 + 1) 0 rfl [.int .i64 a1, .int .i64 a2, .int .i64 a3] _ (fun W hg => (R2.out.below (GC3.out.trans hg)).lo) Tryd.underlying23 rfl (by kernel_rfl)) ?_
  simp only [Act.put, List.setIfInBounds_toArray, List.set_cons_zero, List.set_cons_succ]
  refine wpG_tk (some 17) (v := .pointer (some ⟨w.heap.size + 1 + 1, 3, none⟩)) rfl (.val (by rfl) (fun W hg => by go_simp)) ?_
  simp only [Act.put, List.setIfInBounds_toArray, List.set_cons_zero, List.set_cons_succ]
  refine wpG_tk (some 18) (v := .agg #[.int .i64 a4, .int .i64 a5, .int .i64 a6]) rfl (.load_mid (by rfl) 23 (.tmp 17) rfl (w.heap.size + 1 + 1) 3 rfl [.int .i64 a4, .int .i64 a5, .int .i64 a6] _ (fun W hg => (R2.out.below (GC3.out.trans hg)).hi) Tryd.underlying23 rfl (by kernel_rfl)) ?_
  simp only [Act.put, List.setIfInBounds_toArray, List.set_cons_zero, List.set_cons_succ]
  refine wpG_val (some 19) rfl (by rfl) (fun W4 hg5 => ⟨.slice (some ⟨W4.heap.size, 0, none⟩) 4 4, W4.alloc (.cells #[.int .i64 x1, .int .i64 x2, .int .i64 x3, .int .i64 y1, .int .i64 y2, .int .i64 y3, .int .i64 a1, .int .i64 a2, .int .i64 a3, .int .i64 a4, .int .i64 a5, .int .i64 a6] 23), by (go_simp <;> rfl), ?_⟩)
  simp only [Act.put, List.setIfInBounds_toArray, List.set_cons_zero, List.set_cons_succ]
  obtain ⟨U6, hu, rn, gn⟩ : ∃ z, z = W4.alloc (.cells #[.int .i64 x1, .int .i64 x2, .int .i64 x3, .int .i64 y1, .int .i64 y2, .int .i64 y3, .int .i64 a1, .int .i64 a2, .int .i64 a3, .int .i64 a4, .int .i64 a5, .int .i64 a6] 23) ∧ Row W4.heap.size [.int .i64 x1, .int .i64 x2, .int .i64 x3, .int .i64 y1, .int .i64 y2, .int .i64 y3, .int .i64 a1, .int .i64 a2, .int .i64 a3, .int .i64 a4, .int .i64 a5, .int .i64 a6] z ∧ Gr W4 z := ⟨_, rfl, Row.newl W4 [.int .i64 x1, .int .i64 x2, .int .i64 x3, .int .i64 y1, .int .i64 y2, .int .i64 y3, .int .i64 a1, .int .i64 a2, .int .i64 a3, .int .i64 a4, .int .i64 a5, .int .i64 a6] 23, Gr.al _ _⟩
  rw [← hu]
  have RN7 := Lib.hid rn
  have GB8 := Lib.hid (Gr.trans (GC3.out.trans hg5) gn)
  clear hu rn gn hg5
  refine wpG_tk (some 20) (v := .bool true) rfl (.call (f := 61) (args := #[.slice (some ⟨W4.heap.size, 0, none⟩) 4 4]) (by rfl) (fun W => by go_simp) (fun W hg => inner_is [(x1, x2, x3), (y1, y2, y3), (a1, a2, a3), (a4, a5, a6)] W4.heap.size 4 true W rfl (by decide) (RN7.out.below hg) (List.forall_mem_cons.2 ⟨i1, (List.forall_mem_cons.2 ⟨i2, (List.forall_mem_cons.2 ⟨i3, (List.forall_mem_cons.2 ⟨i4, (fun _ h => absurd h List.not_mem_nil)⟩)⟩)⟩)⟩) HS.out)) ?_
  simp only [Act.put, List.setIfInBounds_toArray, List.set_cons_zero, List.set_cons_succ]
  refine wpG_tk (some 21) (v := .bool false) rfl (.val (by rfl) (fun W hg => by go_simp)) ?_
  simp only [Act.put, List.setIfInBounds_toArray, List.set_cons_zero, List.set_cons_succ]
  refine wpG_done (fun V9 hv10 => ?_)
  have GC11 := Lib.hid (GB8.out.trans hv10)
  clear hv10
  go_upto_region 4 with fail
  refine wpK_region (by kernel_rfl) ?_
  refine wpK_tk (i := 0) (some 23) (v := .bool true) rfl rfl (by kernel_rfl) (fun _ _ _ h => h) (.call (f := 12) (args := #[]) (by rfl) (fun W => by go_simp) (fun W hg => sanity_any W (HT.out.below (GC11.out.trans (Gr.un hg))))) ?_
  simp only [Act.put, List.setIfInBounds_toArray, List.set_cons_zero, List.set_cons_succ]
  refine wpK_ta (i := 1) (some 24) (v := .bool true) rfl rfl (by kernel_rfl) (fun _ _ _ h => h) (Or.inl ⟨rfl, fun _ => rfl⟩) ?_
  simp only [Act.put, List.setIfInBounds_toArray, List.set_cons_zero, List.set_cons_succ]
  refine wpK_ta (i := 2) (some 25) (v := .int .i64 (s : Int)) rfl rfl (by kernel_rfl) (fun _ _ _ h => h) (Or.inl ⟨rfl, fun _ => rfl⟩) ?_
  simp only [Act.put, List.setIfInBounds_toArray, List.set_cons_zero, List.set_cons_succ]
  refine wpK_tk (i := 3) (some 26) (v := .agg #[.int .i64 x1, .int .i64 x2, .int .i64 x3]) rfl rfl (by kernel_rfl) (fun _ _ _ h => h) (.load_mid (by rfl) 23 (.tmp 5) rfl (w.heap.size) 0 rfl [.int .i64 x1, .int .i64 x2, .int .i64 x3] _ (fun W hg => (R0.out.below (GC11.out.trans (Gr.un hg))).range) Tryd.underlying23 rfl (by kernel_rfl)) ?_
  simp only [Act.put, List.setIfInBounds_toArray, List.set_cons_zero, List.set_cons_succ]
  refine wpK_tk (i := 4) (some 27) (v := .agg #[.int .i64 (Pt.tc 0 s 0 x1 x2 x3), .int .i64 (Pt.tc 0 s 1 x1 x2 x3), .int .i64 (Pt.tc 0 s 2 x1 x2 x3)]) rfl rfl (by kernel_rfl) (fun _ _ _ h => h) (.call (f := 47) (args := #[.int .i64 (s : Int), .agg #[.int .i64 x1, .int .i64 x2, .int .i64 x3]]) (by rfl) (fun W => by go_simp) (fun W hg => turn_any s x1 x2 x3 W (HT.out.below (GC11.out.trans (Gr.un hg))) hs (by omega))) ?_
  simp only [Act.put, List.setIfInBounds_toArray, List.set_cons_zero, List.set_cons_succ]
  refine wpK_ta (i := 5) (some 28) (v := .int .i64 (s : Int)) rfl rfl (by kernel_rfl) (fun _ _ _ h => h) (Or.inl ⟨rfl, fun _ => rfl⟩) ?_
  simp only [Act.put, List.setIfInBounds_toArray, List.set_cons_zero, List.set_cons_succ]
  refine wpK_tk (i := 6) (some 29) (v := .agg #[.int .i64 y1, .int .i64 y2, .int .i64 y3]) rfl rfl (by kernel_rfl) (fun _ _ _ h => h) (.load_mid (by rfl) 23 (.tmp 6) rfl (w.heap.size + 1) 0 rfl [.int .i64 y1, .int .i64 y2, .int .i64 y3] _ (fun W hg => (R1.out.below (GC11.out.trans (Gr.un hg))).range) Tryd.underlying23 rfl (by kernel_rfl)) ?_
  simp only [Act.put, List.setIfInBounds_toArray, List.set_cons_zero, List.set_cons_succ]
  refine wpK_tk (i := 7) (some 30) (v := .agg #[.int .i64 (Pt.tc 0 s 0 y1 y2 y3), .int .i64 (Pt.tc 0 s 1 y1 y2 y3), .int .i64 (Pt.tc 0 s 2 y1 y2 y3)]) rfl rfl (by kernel_rfl) (fun _ _ _ h => h) (.call (f := 47) (args := #[.int .i64 (s : Int), .agg #[.int .i64 y1, .int .i64 y2, .int .i64 y3]]) (by rfl) (fun W => by go_simp) (fun W hg => turn_any s y1 y2 y3 W (HT.out.below (GC11.out.trans (Gr.un hg))) hs (by omega))) ?_
  simp only [Act.put, List.setIfInBounds_toArray, List.set_cons_zero, List.set_cons_succ]
  refine wpK_tk (i := 8) (some 31) (v := .int .i64 (Pt.dist (Pt.tc 0 s 0 x1 x2 x3) (Pt.tc 0 s 1 x1 x2 x3) (Pt.tc 0 s 2 x1 x2 x3) (Pt.tc 0 s 0 y1 y2 y3) (Pt.tc 0 s 1 y1 y2 y3) (Pt.tc 0 s 2 y1 y2 y3))) rfl rfl (by kernel_rfl) (fun _ _ _ h => h) (.call (f := 19) (args := #[.agg #[.int .i64 (Pt.tc 0 s 0 x1 x2 x3), .int .i64 (Pt.tc 0 s 1 x1 x2 x3), .int .i64 (Pt.tc 0 s 2 x1 x2 x3)], .agg #[.int .i64 (Pt.tc 0 s 0 y1 y2 y3), .int .i64 (Pt.tc 0 s 1 y1 y2 y3), .int .i64 (Pt.tc 0 s 2 y1 y2 y3)]]) (by rfl) (fun W => by go_simp) (fun W hg => distance_any (Pt.tc 0 s 0 x1 x2 x3) (Pt.tc 0 s 1 x1 x2 x3) (Pt.tc 0 s 2 x1 x2 x3) (Pt.tc 0 s 0 y1 y2 y3) (Pt.tc 0 s 1 y1 y2 y3) (Pt.tc 0 s 2 y1 y2 y3) W (by omega))) ?_
  simp only [Act.put, List.setIfInBounds_toArray, List.set_cons_zero, List.set_cons_succ]
  refine wpK_tk (i := 9) (some 32) (v := .agg #[.int .i64 x1, .int .i64 x2, .int .i64 x3]) rfl rfl (by kernel_rfl) (fun _ _ _ h => h) (.load_mid (by rfl) 23 (.tmp 5) rfl (w.heap.size) 0 rfl [.int .i64 x1, .int .i64 x2, .int .i64 x3] _ (fun W hg => (R0.out.below (GC11.out.trans (Gr.un hg))).range) Tryd.underlying23 rfl (by kernel_rfl)) ?_
  simp only [Act.put, List.setIfInBounds_toArray, List.set_cons_zero, List.set_cons_succ]
  refine wpK_tk (i := 10) (some 33) (v := .agg #[.int .i64 y1, .int .i64 y2, .int .i64 y3]) rfl rfl (by kernel_rfl) (fun _ _ _ h => h) (.load_mid (by rfl) 23 (.tmp 6) rfl (w.heap.size + 1) 0 rfl [.int .i64 y1, .int .i64 y2, .int .i64 y3] _ (fun W hg => (R1.out.below (GC11.out.trans (Gr.un hg))).range) Tryd.underlying23 rfl (by kernel_rfl)) ?_
  simp only [Act.put, List.setIfInBounds_toArray, List.set_cons_zero, List.set_cons_succ]
  refine wpK_tk (i := 11) (some 34) (v := .int .i64 (Pt.dist x1 x2 x3 y1 y2 y3)) rfl rfl (by kernel_rfl) (fun _ _ _ h => h) (.call (f := 19) (args := #[.agg #[.int .i64 x1, .int .i64 x2, .int .i64 x3], .agg #[.int .i64 y1, .int .i64 y2, .int .i64 y3]]) (by rfl) (fun W => by go_simp) (fun W hg => distance_any x1 x2 x3 y1 y2 y3 W (by omega))) ?_
  simp only [Act.put, List.setIfInBounds_toArray, List.set_cons_zero, List.set_cons_succ]
  refine wpK_ta (i := 12) (some 35) (v := .bool true) rfl rfl (by kernel_rfl) (fun _ _ _ h => h) (Or.inl ⟨by rfl, fun W => by have hq : (Pt.dist (Pt.tc 0 s 0 x1 x2 x3) (Pt.tc 0 s 1 x1 x2 x3) (Pt.tc 0 s 2 x1 x2 x3) (Pt.tc 0 s 0 y1 y2 y3) (Pt.tc 0 s 1 y1 y2 y3) (Pt.tc 0 s 2 y1 y2 y3) = Pt.dist x1 x2 x3 y1 y2 y3) := (by omega); first | (go_simp; done) | (go_simp <;> omega)⟩) ?_
  simp only [Act.put, List.setIfInBounds_toArray, List.set_cons_zero, List.set_cons_succ]
  refine wpK_ta (i := 13) (some 36) (v := .bool true) rfl rfl (by kernel_rfl) (fun _ _ _ h => h) (Or.inl ⟨by rfl, fun W => by go_simp⟩) ?_
  simp only [Act.put, List.setIfInBounds_toArray, List.set_cons_zero, List.set_cons_succ]
  refine wpK_ta (i := 14) (some 37) (v := .bool true) rfl rfl (by kernel_rfl) (fun _ _ _ h => h) (Or.inl ⟨rfl, fun _ => rfl⟩) ?_
  simp only [Act.put, List.setIfInBounds_toArray, List.set_cons_zero, List.set_cons_succ]
  refine wpK_ta (i := 15) (some 38) (v := .int .i64 (s : Int)) rfl rfl (by kernel_rfl) (fun _ _ _ h => h) (Or.inl ⟨rfl, fun _ => rfl⟩) ?_
  simp only [Act.put, List.setIfInBounds_toArray, List.set_cons_zero, List.set_cons_succ]
  refine wpK_tk (i := 16) (some 39) (v := .agg #[.int .i64 x1, .int .i64 x2, .int .i64 x3]) rfl rfl (by kernel_rfl) (fun _ _ _ h => h) (.load_mid (by rfl) 23 (.tmp 5) rfl (w.heap.size) 0 rfl [.int .i64 x1, .int .i64 x2, .int .i64 x3] _ (fun W hg => (R0.out.below (GC11.out.trans (Gr.un hg))).range) Tryd.underlying23 rfl (by kernel_rfl)) ?_
  simp only [Act.put, List.setIfInBounds_toArray, List.set_cons_zero, List.set_cons_succ]
  refine wpK_tk (i := 17) (some 40) (v := .agg #[.int .i64 (Pt.tc 1 s 0 x1 x2 x3), .int .i64 (Pt.tc 1 s 1 x1 x2 x3), .int .i64 (Pt.tc 1 s 2 x1 x2 x3)]) rfl rfl (by kernel_rfl) (fun _ _ _ h => h) (.call (f := 49) (args := #[.int .i64 (s : Int), .agg #[.int .i64 x1, .int .i64 x2, .int .i64 x3]]) (by rfl) (fun W => by go_simp) (fun W hg => turncell_any s x1 x2 x3 W (HT.out.below (GC11.out.trans (Gr.un hg))) hs (by omega))) ?_
  simp only [Act.put, List.setIfInBounds_toArray, List.set_cons_zero, List.set_cons_succ]
  refine wpK_ta (i := 18) (some 41) (v := .int .i64 (s : Int)) rfl rfl (by kernel_rfl) (fun _ _ _ h => h) (Or.inl ⟨rfl, fun _ => rfl⟩) ?_
  simp only [Act.put, List.setIfInBounds_toArray, List.set_cons_zero, List.set_cons_succ]
  refine wpK_tk (i := 19) (some 42) (v := .agg #[.int .i64 y1, .int .i64 y2, .int .i64 y3]) rfl rfl (by kernel_rfl) (fun _ _ _ h => h) (.load_mid (by rfl) 23 (.tmp 6) rfl (w.heap.size + 1) 0 rfl [.int .i64 y1, .int .i64 y2, .int .i64 y3] _ (fun W hg => (R1.out.below (GC11.out.trans (Gr.un hg))).range) Tryd.underlying23 rfl (by kernel_rfl)) ?_
  simp only [Act.put, List.setIfInBounds_toArray, List.set_cons_zero, List.set_cons_succ]
  refine wpK_tk (i := 20) (some 43) (v := .agg #[.int .i64 (Pt.tc 1 s 0 y1 y2 y3), .int .i64 (Pt.tc 1 s 1 y1 y2 y3), .int .i64 (Pt.tc 1 s 2 y1 y2 y3)]) rfl rfl (by kernel_rfl) (fun _ _ _ h => h) (.call (f := 49) (args := #[.int .i64 (s : Int), .agg #[.int .i64 y1, .int .i64 y2, .int .i64 y3]]) (by rfl) (fun W => by go_simp) (fun W hg => turncell_any s y1 y2 y3 W (HT.out.below (GC11.out.trans (Gr.un hg))) hs (by omega))) ?_
  simp only [Act.put, List.setIfInBounds_toArray, List.set_cons_zero, List.set_cons_succ]
  refine wpK_tk (i := 21) (some 44) (v := .int .i64 (Pt.dist (Pt.tc 1 s 0 x1 x2 x3) (Pt.tc 1 s 1 x1 x2 x3) (Pt.tc 1 s 2 x1 x2 x3) (Pt.tc 1 s 0 y1 y2 y3) (Pt.tc 1 s 1 y1 y2 y3) (Pt.tc 1 s 2 y1 y2 y3))) rfl rfl (by kernel_rfl) (fun _ _ _ h => h) (.call (f := 19) (args := #[.agg #[.int .i64 (Pt.tc 1 s 0 x1 x2 x3), .int .i64 (Pt.tc 1 s 1 x1 x2 x3), .int .i64 (Pt.tc 1 s 2 x1 x2 x3)], .agg #[.int .i64 (Pt.tc 1 s 0 y1 y2 y3), .int .i64 (Pt.tc 1 s 1 y1 y2 y3), .int .i64 (Pt.tc 1 s 2 y1 y2 y3)]]) (by rfl) (fun W => by go_simp) (fun W hg => distance_any (Pt.tc 1 s 0 x1 x2 x3) (Pt.tc 1 s 1 x1 x2 x3) (Pt.tc 1 s 2 x1 x2 x3) (Pt.tc 1 s 0 y1 y2 y3) (Pt.tc 1 s 1 y1 y2 y3) (Pt.tc 1 s 2 y1 y2 y3) W (by omega))) ?_
  simp only [Act.put, List.setIfInBounds_toArray, List.set_cons_zero, List.set_cons_succ]
  refine wpK_tk (i := 22) (some 45) (v := .agg #[.int .i64 x1, .int .i64 x2, .int .i64 x3]) rfl rfl (by kernel_rfl) (fun _ _ _ h => h) (.load_mid (by rfl) 23 (.tmp 5) rfl (w.heap.size) 0 rfl [.int .i64 x1, .int .i64 x2, .int .i64 x3] _ (fun W hg => (R0.out.below (GC11.out.trans (Gr.un hg))).range) Tryd.underlying23 rfl (by kernel_rfl)) ?_
  simp only [Act.put, List.setIfInBounds_toArray, List.set_cons_zero, List.set_cons_succ]
  refine wpK_tk (i := 23) (some 46) (v := .agg #[.int .i64 y1, .int .i64 y2, .int .i64 y3]) rfl rfl (by kernel_rfl) (fun _ _ _ h => h) (.load_mid (by rfl) 23 (.tmp 6) rfl (w.heap.size + 1) 0 rfl [.int .i64 y1, .int .i64 y2, .int .i64 y3] _ (fun W hg => (R1.out.below (GC11.out.trans (Gr.un hg))).range) Tryd.underlying23 rfl (by kernel_rfl)) ?_
  simp only [Act.put, List.setIfInBounds_toArray, List.set_cons_zero, List.set_cons_succ]
  refine wpK_tk (i := 24) (some 47) (v := .int .i64 (Pt.dist x1 x2 x3 y1 y2 y3)) rfl rfl (by kernel_rfl) (fun _ _ _ h => h) (.call (f := 19) (args := #[.agg #[.int .i64 x1, .int .i64 x2, .int .i64 x3], .agg #[.int .i64 y1, .int .i64 y2, .int .i64 y3]]) (by rfl) (fun W => by go_simp) (fun W hg => distance_any x1 x2 x3 y1 y2 y3 W (by omega))) ?_
  simp only [Act.put, List.setIfInBounds_toArray, List.set_cons_zero, List.set_cons_succ]
  refine wpK_ta (i := 25) (some 48) (v := .bool true) rfl rfl (by kernel_rfl) (fun _ _ _ h => h) (Or.inl ⟨by rfl, fun W => by have hq : (Pt.dist (Pt.tc 1 s 0 x1 x2 x3) (Pt.tc 1 s 1 x1 x2 x3) (Pt.tc 1 s 2 x1 x2 x3) (Pt.tc 1 s 0 y1 y2 y3) (Pt.tc 1 s 1 y1 y2 y3) (Pt.tc 1 s 2 y1 y2 y3) = Pt.dist x1 x2 x3 y1 y2 y3) := (by omega); first | (go_simp; done) | (go_simp <;> omega)⟩) ?_
  simp only [Act.put, List.setIfInBounds_toArray, List.set_cons_zero, List.set_cons_succ]
  refine wpK_ta (i := 26) (some 49) (v := .bool true) rfl rfl (by kernel_rfl) (fun _ _ _ h => h) (Or.inl ⟨by rfl, fun W => by go_simp⟩) ?_
  simp only [Act.put, List.setIfInBounds_toArray, List.set_cons_zero, List.set_cons_succ]
  refine wpK_ta (i := 27) (some 50) (v := .bool true) rfl rfl (by kernel_rfl) (fun _ _ _ h => h) (Or.inl ⟨rfl, fun _ => rfl⟩) ?_
  simp only [Act.put, List.setIfInBounds_toArray, List.set_cons_zero, List.set_cons_succ]
  refine wpK_ta (i := 28) (some 51) (v := .int .i64 (s : Int)) rfl rfl (by kernel_rfl) (fun _ _ _ h => h) (Or.inl ⟨rfl, fun _ => rfl⟩) ?_
  simp only [Act.put, List.setIfInBounds_toArray, List.set_cons_zero, List.set_cons_succ]
  refine wpK_tk (i := 29) (some 52) (v := .agg #[.int .i64 a1, .int .i64 a2, .int .i64 a3, .int .i64 a4, .int .i64 a5, .int .i64 a6]) rfl rfl (by kernel_rfl) (fun _ _ _ h => h) (.load_mid (by rfl) 31 (.tmp 7) rfl (w.heap.size + 1 + 1) 0 rfl [.int .i64 a1, .int .i64 a2, .int .i64 a3, .int .i64 a4, .int .i64 a5, .int .i64 a6] _ (fun W hg => (R2.out.below (GC11.out.trans (Gr.un hg))).range) Tryd.underlying31 rfl (by kernel_rfl)) ?_
  simp only [Act.put, List.setIfInBounds_toArray, List.set_cons_zero, List.set_cons_succ]
  refine wpK_tk (i := 30) (some 53) (v := .agg #[.int .i64 (min (Pt.tc 0 s 0 a1 a2 a3) (Pt.tc 0 s 0 a4 a5 a6)), .int .i64 (min (Pt.tc 0 s 1 a1 a2 a3) (Pt.tc 0 s 1 a4 a5 a6)), .int .i64 (min (Pt.tc 0 s 2 a1 a2 a3) (Pt.tc 0 s 2 a4 a5 a6)), .int .i64 (max (Pt.tc 0 s 0 a1 a2 a3) (Pt.tc 0 s 0 a4 a5 a6)), .int .i64 (max (Pt.tc 0 s 1 a1 a2 a3) (Pt.tc 0 s 1 a4 a5 a6)), .int .i64 (max (Pt.tc 0 s 2 a1 a2 a3) (Pt.tc 0 s 2 a4 a5 a6))]) rfl rfl (by kernel_rfl) (fun _ _ _ h => h) (.call (f := 51) (args := #[.int .i64 (s : Int), .agg #[.int .i64 a1, .int .i64 a2, .int .i64 a3, .int .i64 a4, .int .i64 a5, .int .i64 a6]]) (by rfl) (fun W => by go_simp) (fun W hg => turnbox_f s a1 a2 a3 a4 a5 a6 W (HT.out.below (GC11.out.trans (Gr.un hg))) hs (by omega) HE.out)) ?_
  simp only [Act.put, List.setIfInBounds_toArray, List.set_cons_zero, List.set_cons_succ]
  refine wpK_tk (i := 31) (some 54) (v := .int .i64 (Pt.vol (min (Pt.tc 0 s 0 a1 a2 a3) (Pt.tc 0 s 0 a4 a5 a6)) (min (Pt.tc 0 s 1 a1 a2 a3) (Pt.tc 0 s 1 a4 a5 a6)) (min (Pt.tc 0 s 2 a1 a2 a3) (Pt.tc 0 s 2 a4 a5 a6)) (max (Pt.tc 0 s 0 a1 a2 a3) (Pt.tc 0 s 0 a4 a5 a6)) (max (Pt.tc 0 s 1 a1 a2 a3) (Pt.tc 0 s 1 a4 a5 a6)) (max (Pt.tc 0 s 2 a1 a2 a3) (Pt.tc 0 s 2 a4 a5 a6)))) rfl rfl (by kernel_rfl) (fun _ _ _ h => h) (.call (f := 29) (args := #[.agg #[.int .i64 (min (Pt.tc 0 s 0 a1 a2 a3) (Pt.tc 0 s 0 a4 a5 a6)), .int .i64 (min (Pt.tc 0 s 1 a1 a2 a3) (Pt.tc 0 s 1 a4 a5 a6)), .int .i64 (min (Pt.tc 0 s 2 a1 a2 a3) (Pt.tc 0 s 2 a4 a5 a6)), .int .i64 (max (Pt.tc 0 s 0 a1 a2 a3) (Pt.tc 0 s 0 a4 a5 a6)), .int .i64 (max (Pt.tc 0 s 1 a1 a2 a3) (Pt.tc 0 s 1 a4 a5 a6)), .int .i64 (max (Pt.tc 0 s 2 a1 a2 a3) (Pt.tc 0 s 2 a4 a5 a6))]]) (by rfl) (fun W => by go_simp) (fun W hg => volume_any (min (Pt.tc 0 s 0 a1 a2 a3) (Pt.tc 0 s 0 a4 a5 a6)) (min (Pt.tc 0 s 1 a1 a2 a3) (Pt.tc 0 s 1 a4 a5 a6)) (min (Pt.tc 0 s 2 a1 a2 a3) (Pt.tc 0 s 2 a4 a5 a6)) (max (Pt.tc 0 s 0 a1 a2 a3) (Pt.tc 0 s 0 a4 a5 a6)) (max (Pt.tc 0 s 1 a1 a2 a3) (Pt.tc 0 s 1 a4 a5 a6)) (max (Pt.tc 0 s 2 a1 a2 a3) (Pt.tc 0 s 2 a4 a5 a6)) W (by omega))) ?_
  simp only [Act.put, List.setIfInBounds_toArray, List.set_cons_zero, List.set_cons_succ]
  refine wpK_tk (i := 32) (some 55) (v := .agg #[.int .i64 a1, .int .i64 a2, .int .i64 a3, .int .i64 a4, .int .i64 a5, .int .i64 a6]) rfl rfl (by kernel_rfl) (fun _ _ _ h => h) (.load_mid (by rfl) 31 (.tmp 7) rfl (w.heap.size + 1 + 1) 0 rfl [.int .i64 a1, .int .i64 a2, .int .i64 a3, .int .i64 a4, .int .i64 a5, .int .i64 a6] _ (fun W hg => (R2.out.below (GC11.out.trans (Gr.un hg))).range) Tryd.underlying31 rfl (by kernel_rfl)) ?_
  simp only [Act.put, List.setIfInBounds_toArray, List.set_cons_zero, List.set_cons_succ]
  refine wpK_tk (i := 33) (some 56) (v := .int .i64 (Pt.vol a1 a2 a3 a4 a5 a6)) rfl rfl (by kernel_rfl) (fun _ _ _ h => h) (.call (f := 29) (args := #[.agg #[.int .i64 a1, .int .i64 a2, .int .i64 a3, .int .i64 a4, .int .i64 a5, .int .i64 a6]]) (by rfl) (fun W => by go_simp) (fun W hg => volume_any a1 a2 a3 a4 a5 a6 W (by omega))) ?_
  simp only [Act.put, List.setIfInBounds_toArray, List.set_cons_zero, List.set_cons_succ]
  refine wpK_ta (i := 34) (some 57) (v := .bool true) rfl rfl (by kernel_rfl) (fun _ _ _ h => h) (Or.inl ⟨by rfl, fun W => by have hq : (Pt.vol (min (Pt.tc 0 s 0 a1 a2 a3) (Pt.tc 0 s 0 a4 a5 a6)) (min (Pt.tc 0 s 1 a1 a2 a3) (Pt.tc 0 s 1 a4 a5 a6)) (min (Pt.tc 0 s 2 a1 a2 a3) (Pt.tc 0 s 2 a4 a5 a6)) (max (Pt.tc 0 s 0 a1 a2 a3) (Pt.tc 0 s 0 a4 a5 a6)) (max (Pt.tc 0 s 1 a1 a2 a3) (Pt.tc 0 s 1 a4 a5 a6)) (max (Pt.tc 0 s 2 a1 a2 a3) (Pt.tc 0 s 2 a4 a5 a6)) = Pt.vol a1 a2 a3 a4 a5 a6) := (by omega); first | (go_simp; done) | (go_simp <;> omega)⟩) ?_
  simp only [Act.put, List.setIfInBounds_toArray, List.set_cons_zero, List.set_cons_succ]
  refine wpK_ta (i := 35) (some 58) (v := .bool true) rfl rfl (by kernel_rfl) (fun _ _ _ h => h) (Or.inl ⟨by rfl, fun W => by go_simp⟩) ?_
  simp only [Act.put, List.setIfInBounds_toArray, List.set_cons_zero, List.set_cons_succ]
  refine wpK_ta (i := 36) (some 59) (v := .bool true) rfl rfl (by kernel_rfl) (fun _ _ _ h => h) (Or.inl ⟨rfl, fun _ => rfl⟩) ?_
  simp only [Act.put, List.setIfInBounds_toArray, List.set_cons_zero, List.set_cons_succ]
  refine wpK_ta (i := 37) (some 60) (v := .int .i64 (s : Int)) rfl rfl (by kernel_rfl) (fun _ _ _ h => h) (Or.inl ⟨rfl, fun _ => rfl⟩) ?_
  simp only [Act.put, List.setIfInBounds_toArray, List.set_cons_zero, List.set_cons_succ]
  refine wpK_tk (i := 38) (some 61) (v := .agg #[.int .i64 x1, .int .i64 x2, .int .i64 x3]) rfl rfl (by kernel_rfl) (fun _ _ _ h => h) (.load_mid (by rfl) 23 (.tmp 5) rfl (w.heap.size) 0 rfl [.int .i64 x1, .int .i64 x2, .int .i64 x3] _ (fun W hg => (R0.out.below (GC11.out.trans (Gr.un hg))).range) Tryd.underlying23 rfl (by kernel_rfl)) ?_
  simp only [Act.put, List.setIfInBounds_toArray, List.set_cons_zero, List.set_cons_succ]
  refine wpK_tk (i := 39) (some 62) (v := .agg #[.int .i64 (Pt.tc 1 s 0 x1 x2 x3), .int .i64 (Pt.tc 1 s 1 x1 x2 x3), .int .i64 (Pt.tc 1 s 2 x1 x2 x3)]) rfl rfl (by kernel_rfl) (fun _ _ _ h => h) (.call (f := 49) (args := #[.int .i64 (s : Int), .agg #[.int .i64 x1, .int .i64 x2, .int .i64 x3]]) (by rfl) (fun W => by go_simp) (fun W hg => turncell_any s x1 x2 x3 W (HT.out.below (GC11.out.trans (Gr.un hg))) hs (by omega))) ?_
  simp only [Act.put, List.setIfInBounds_toArray, List.set_cons_zero, List.set_cons_succ]
  refine wpK_ta (i := 40) (some 63) (v := .int .i64 (s : Int)) rfl rfl (by kernel_rfl) (fun _ _ _ h => h) (Or.inl ⟨rfl, fun _ => rfl⟩) ?_
  simp only [Act.put, List.setIfInBounds_toArray, List.set_cons_zero, List.set_cons_succ]
  refine wpK_tk (i := 41) (some 64) (v := .agg #[.int .i64 a1, .int .i64 a2, .int .i64 a3, .int .i64 a4, .int .i64 a5, .int .i64 a6]) rfl rfl (by kernel_rfl) (fun _ _ _ h => h) (.load_mid (by rfl) 31 (.tmp 7) rfl (w.heap.size + 1 + 1) 0 rfl [.int .i64 a1, .int .i64 a2, .int .i64 a3, .int .i64 a4, .int .i64 a5, .int .i64 a6] _ (fun W hg => (R2.out.below (GC11.out.trans (Gr.un hg))).range) Tryd.underlying31 rfl (by kernel_rfl)) ?_
  simp only [Act.put, List.setIfInBounds_toArray, List.set_cons_zero, List.set_cons_succ]
  refine wpK_tk (i := 42) (some 65) (v := .agg #[.int .i64 (min (Pt.tc 0 s 0 a1 a2 a3) (Pt.tc 0 s 0 a4 a5 a6)), .int .i64 (min (Pt.tc 0 s 1 a1 a2 a3) (Pt.tc 0 s 1 a4 a5 a6)), .int .i64 (min (Pt.tc 0 s 2 a1 a2 a3) (Pt.tc 0 s 2 a4 a5 a6)), .int .i64 (max (Pt.tc 0 s 0 a1 a2 a3) (Pt.tc 0 s 0 a4 a5 a6)), .int .i64 (max (Pt.tc 0 s 1 a1 a2 a3) (Pt.tc 0 s 1 a4 a5 a6)), .int .i64 (max (Pt.tc 0 s 2 a1 a2 a3) (Pt.tc 0 s 2 a4 a5 a6))]) rfl rfl (by kernel_rfl) (fun _ _ _ h => h) (.call (f := 51) (args := #[.int .i64 (s : Int), .agg #[.int .i64 a1, .int .i64 a2, .int .i64 a3, .int .i64 a4, .int .i64 a5, .int .i64 a6]]) (by rfl) (fun W => by go_simp) (fun W hg => turnbox_f s a1 a2 a3 a4 a5 a6 W (HT.out.below (GC11.out.trans (Gr.un hg))) hs (by omega) HE.out)) ?_
  simp only [Act.put, List.setIfInBounds_toArray, List.set_cons_zero, List.set_cons_succ]
  refine wpK_tk (i := 43) (some 66) (v := .bool true) rfl rfl (by kernel_rfl) (fun _ _ _ h => h) (.call (f := 25) (args := #[.agg #[.int .i64 (Pt.tc 1 s 0 x1 x2 x3), .int .i64 (Pt.tc 1 s 1 x1 x2 x3), .int .i64 (Pt.tc 1 s 2 x1 x2 x3)], .agg #[.int .i64 (min (Pt.tc 0 s 0 a1 a2 a3) (Pt.tc 0 s 0 a4 a5 a6)), .int .i64 (min (Pt.tc 0 s 1 a1 a2 a3) (Pt.tc 0 s 1 a4 a5 a6)), .int .i64 (min (Pt.tc 0 s 2 a1 a2 a3) (Pt.tc 0 s 2 a4 a5 a6)), .int .i64 (max (Pt.tc 0 s 0 a1 a2 a3) (Pt.tc 0 s 0 a4 a5 a6)), .int .i64 (max (Pt.tc 0 s 1 a1 a2 a3) (Pt.tc 0 s 1 a4 a5 a6)), .int .i64 (max (Pt.tc 0 s 2 a1 a2 a3) (Pt.tc 0 s 2 a4 a5 a6))]]) (by rfl) (fun W => by go_simp) (fun W hg => in_any (Pt.tc 1 s 0 x1 x2 x3) (Pt.tc 1 s 1 x1 x2 x3) (Pt.tc 1 s 2 x1 x2 x3) (min (Pt.tc 0 s 0 a1 a2 a3) (Pt.tc 0 s 0 a4 a5 a6)) (min (Pt.tc 0 s 1 a1 a2 a3) (Pt.tc 0 s 1 a4 a5 a6)) (min (Pt.tc 0 s 2 a1 a2 a3) (Pt.tc 0 s 2 a4 a5 a6)) (max (Pt.tc 0 s 0 a1 a2 a3) (Pt.tc 0 s 0 a4 a5 a6)) (max (Pt.tc 0 s 1 a1 a2 a3) (Pt.tc 0 s 1 a4 a5 a6)) (max (Pt.tc 0 s 2 a1 a2 a3) (Pt.tc 0 s 2 a4 a5 a6)) true W KI.out)) ?_
  simp only [Act.put, List.setIfInBounds_toArray, List.set_cons_zero, List.set_cons_succ]
  refine wpK_tk (i := 44) (some 67) (v := .agg #[.int .i64 x1, .int .i64 x2, .int .i64 x3]) rfl rfl (by kernel_rfl) (fun _ _ _ h => h) (.load_mid (by rfl) 23 (.tmp 5) rfl (w.heap.size) 0 rfl [.int .i64 x1, .int .i64 x2, .int .i64 x3] _ (fun W hg => (R0.out.below (GC11.out.trans (Gr.un hg))).range) Tryd.underlying23 rfl (by kernel_rfl)) ?_
  simp only [Act.put, List.setIfInBounds_toArray, List.set_cons_zero, List.set_cons_succ]
  refine wpK_tk (i := 45) (some 68) (v := .agg #[.int .i64 a1, .int .i64 a2, .int .i64 a3, .int .i64 a4, .int .i64 a5, .int .i64 a6]) rfl rfl (by kernel_rfl) (fun _ _ _ h => h) (.load_mid (by rfl) 31 (.tmp 7) rfl (w.heap.size + 1 + 1) 0 rfl [.int .i64 a1, .int .i64 a2, .int .i64 a3, .int .i64 a4, .int .i64 a5, .int .i64 a6] _ (fun W hg => (R2.out.below (GC11.out.trans (Gr.un hg))).range) Tryd.underlying31 rfl (by kernel_rfl)) ?_
  simp only [Act.put, List.setIfInBounds_toArray, List.set_cons_zero, List.set_cons_succ]
  refine wpK_tk (i := 46) (some 69) (v := .bool true) rfl rfl (by kernel_rfl) (fun _ _ _ h => h) (.call (f := 25) (args := #[.agg #[.int .i64 x1, .int .i64 x2, .int .i64 x3], .agg #[.int .i64 a1, .int .i64 a2, .int .i64 a3, .int .i64 a4, .int .i64 a5, .int .i64 a6]]) (by rfl) (fun W => by go_simp) (fun W hg => in_any x1 x2 x3 a1 a2 a3 a4 a5 a6 true W HI.out)) ?_
  simp only [Act.put, List.setIfInBounds_toArray, List.set_cons_zero, List.set_cons_succ]
  refine wpK_ta (i := 47) (some 70) (v := .bool true) rfl rfl (by kernel_rfl) (fun _ _ _ h => h) (Or.inl ⟨by rfl, fun W => by go_simp⟩) ?_
  simp only [Act.put, List.setIfInBounds_toArray, List.set_cons_zero, List.set_cons_succ]
  refine wpK_ta (i := 48) (some 71) (v := .bool true) rfl rfl (by kernel_rfl) (fun _ _ _ h => h) (Or.inl ⟨by rfl, fun W => by go_simp⟩) ?_
  simp only [Act.put, List.setIfInBounds_toArray, List.set_cons_zero, List.set_cons_succ]
  refine wpK_ta (i := 49) (some 8) (v := .bool true) rfl rfl (by kernel_rfl) (fun _ _ _ h => h) (Or.inl ⟨rfl, fun _ => rfl⟩) ?_
  simp only [Act.put, List.setIfInBounds_toArray, List.set_cons_zero, List.set_cons_succ]
  refine wpK_done (by kernel_rfl) (fun V12 hv13 => ?_) _
  have GC14 := Lib.hid (GC11.out.trans (Gr.un hv13))
  clear hv13
  go_wp2_with fail
  go_ret
  exact ⟨rfl, Gr.to G0.out GC14.out⟩
set_option maxRecDepth 1000000 in
set_option maxHeartbeats 8000000 in
theorem law7_ff (a x1 x2 x3 y1 y2 y3 a1 a2 a3 a4 a5 a6 : Int) (w : World) (hT : Tab w) (h8 : 0 ≤ a ∧ a < 256) (i1 : In64 (x1, x2, x3)) (i2 : In64 (y1, y2, y3)) (i3 : In64 (a1, a2, a3)) (i4 : In64 (a4, a5, a6)) (hi : [(x1, x2, x3), (y1, y2, y3), (a1, a2, a3), (a4, a5, a6)].all inI = true) (he : Pt.emp a1 a2 a3 a4 a5 a6 = false) (hx : Pt.inB x1 x2 x3 a1 a2 a3 a4 a5 a6 = false) :
    Calls Tryd.prog 7 #[.int .u8 a, .agg #[.int .i64 x1, .int .i64 x2, .int .i64 x3], .agg #[.int .i64 y1, .int .i64 y2, .int .i64 y3], .agg #[.int .i64 a1, .int .i64 a2, .int .i64 a3, .int .i64 a4, .int .i64 a5, .int .i64 a6]] w fun e w' => e = .returned (.bool true) ∧ Below w.heap.size w w' := by
  obtain ⟨s, hsa⟩ : ∃ s : Nat, (s : Int) = a % 48 := ⟨(a % 48).toNat, by omega⟩
  have hs : s < 48 := by omega
  have HQ : Hid (a.tmod 48 = (s : Int)) := Lib.hid (by rw [Int.tmod_eq_emod_of_nonneg h8.1, hsa])
  clear hsa
  have bb := hi
  simp only [List.all_cons, List.all_nil, Bool.and_true, Bool.and_eq_true, inI_true] at bb
  have t0 := Pt.tc_bd (L := 524287) (less := 0) (s := s) (i := 0) (x := x1) (y := x2) (z := x3) (by omega) (by omega)
  have t1 := Pt.tc_bd (L := 524287) (less := 0) (s := s) (i := 1) (x := x1) (y := x2) (z := x3) (by omega) (by omega)
  have t2 := Pt.tc_bd (L := 524287) (less := 0) (s := s) (i := 2) (x := x1) (y := x2) (z := x3) (by omega) (by omega)
  have t3 := Pt.tc_bd (L := 524287) (less := 0) (s := s) (i := 0) (x := y1) (y := y2) (z := y3) (by omega) (by omega)
  have t4 := Pt.tc_bd (L := 524287) (less := 0) (s := s) (i := 1) (x := y1) (y := y2) (z := y3) (by omega) (by omega)
  have t5 := Pt.tc_bd (L := 524287) (less := 0) (s := s) (i := 2) (x := y1) (y := y2) (z := y3) (by omega) (by omega)
  have t6 := Pt.tc_bd (L := 524287) (less := 1) (s := s) (i := 0) (x := x1) (y := x2) (z := x3) (by omega) (by omega)
  have t7 := Pt.tc_bd (L := 524287) (less := 1) (s := s) (i := 1) (x := x1) (y := x2) (z := x3) (by omega) (by omega)
  have t8 := Pt.tc_bd (L := 524287) (less := 1) (s := s) (i := 2) (x := x1) (y := x2) (z := x3) (by omega) (by omega)
  have t9 := Pt.tc_bd (L := 524287) (less := 1) (s := s) (i := 0) (x := y1) (y := y2) (z := y3) (by omega) (by omega)
  have t10 := Pt.tc_bd (L := 524287) (less := 1) (s := s) (i := 1) (x := y1) (y := y2) (z := y3) (by omega) (by omega)
  have t11 := Pt.tc_bd (L := 524287) (less := 1) (s := s) (i := 2) (x := y1) (y := y2) (z := y3) (by omega) (by omega)
  have t12 := Pt.tc_bd0 (L := 524287) (s := s) (i := 0) (x := a1) (y := a2) (z := a3) (by omega)
  have t13 := Pt.tc_bd0 (L := 524287) (s := s) (i := 1) (x := a1) (y := a2) (z := a3) (by omega)
  have t14 := Pt.tc_bd0 (L := 524287) (s := s) (i := 2) (x := a1) (y := a2) (z := a3) (by omega)
  have t15 := Pt.tc_bd0 (L := 524287) (s := s) (i := 0) (x := a4) (y := a5) (z := a6) (by omega)
  have t16 := Pt.tc_bd0 (L := 524287) (s := s) (i := 1) (x := a4) (y := a5) (z := a6) (by omega)
  have t17 := Pt.tc_bd0 (L := 524287) (s := s) (i := 2) (x := a4) (y := a5) (z := a6) (by omega)
  have k0 := Pt.dist_turn 0 s hs x1 x2 x3 y1 y2 y3
  have k1 := Pt.dist_turn 1 s hs x1 x2 x3 y1 y2 y3
  have k2 := Pt.vol_turn s hs a1 a2 a3 a4 a5 a6 he
  have KI := Lib.hid (Pt.in_turn s hs x1 x2 x3 a1 a2 a3 a4 a5 a6 he)
  rw [hx] at KI
  have HS := Lib.hid hi
  have HE := Lib.hid he
  have HI := Lib.hid hx
  clear hi he hx
  obtain ⟨u, hu, r0, r1, r2, g0⟩ := rows3 w [.int .i64 x1, .int .i64 x2, .int .i64 x3] 23 [.int .i64 y1, .int .i64 y2, .int .i64 y3] 23 [.int .i64 a1, .int .i64 a2, .int .i64 a3, .int .i64 a4, .int .i64 a5, .int .i64 a6] 31
  have R0 := Lib.hid r0
  have R1 := Lib.hid r1
  have R2 := Lib.hid r2
  have G0 := Lib.hid g0
  have HU := Lib.hid hu
  have HT := Lib.hid (hT.below g0)
  clear hT
  clear hu g0 r0 r1 r2
  go_enter Tryd.func7, Tryd.ntmps7
  go_upto_region 1 with fail
  rw [← HU.out]
  refine wpG_region ?_
  refine wpG_tk (some 10) (v := .int .u8 a) rfl (.val (by rfl) (fun _ _ => rfl)) ?_
  simp only [Act.put, List.setIfInBounds_toArray, List.set_cons_zero, List.set_cons_succ]
  refine wpG_tk (some 11) (v := .int .i64 a) rfl (.val (by rfl) (fun W hg => by (go_simp <;> exact IntWalk.i64_in _ (by omega)))) ?_
  simp only [Act.put, List.setIfInBounds_toArray, List.set_cons_zero, List.set_cons_succ]
  refine wpG_tk (some 12) (v := .int .i64 (s : Int)) rfl (.val (by rfl) (fun W hg => by have q := HQ.out; go_simp)) ?_
  simp only [Act.put, List.setIfInBounds_toArray, List.set_cons_zero, List.set_cons_succ]
  refine wpG_tk (some 9) (v := .int .i64 (s : Int)) rfl (.val (by rfl) (fun _ _ => rfl)) ?_
  simp only [Act.put, List.setIfInBounds_toArray, List.set_cons_zero, List.set_cons_succ]
  refine wpG_done (fun V1 hv2 => ?_)
  have GC3 := Lib.hid hv2
  clear hv2
  go_upto_region 2 with fail
  refine wpG_region ?_
  refine wpG_tk (some 13) (v := .agg #[.int .i64 x1, .int .i64 x2, .int .i64 x3]) rfl (.load_mid (by rfl) 23 (.tmp 5) rfl (w.heap.size) 0 rfl [.int .i64 x1, .int .i64 x2, .int .i64 x3] _ (fun W hg => (R0.out.below (GC3.out.trans hg)).range) Tryd.underlying23 rfl (by kernel_rfl)) ?_
  simp only [Act.put, List.setIfInBounds_toArray, List.set_cons_zero, List.set_cons_succ]
  refine wpG_tk (some 14) (v := .agg #[.int .i64 y1, .int .i64 y2, .int .i64 y3]) rfl (.load_mid (by rfl) 23 (.tmp 6) rfl (w.heap.size + 1) 0 rfl [.int .i64 y1, .int .i64 y2, .int .i64 y3] _ (fun W hg => (R1.out.below (GC3.out.trans hg)).range) Tryd.underlying23 rfl (by kernel_rfl)) ?_
  simp only [Act.put, List.setIfInBounds_toArray, List.set_cons_zero, List.set_cons_succ]
  refine wpG_tk (some 15) (v := .pointer (some ⟨w.heap.size + 1 + 1, 0, none⟩)) rfl (.val (by rfl) (fun W hg => by go_simp)) ?_
  simp only [Act.put, List.setIfInBounds_toArray, List.set_cons_zero, List.set_cons_succ]
  refine wpG_tk (some 16) (v := .agg #[.int .i64 a1, .int .i64 a2, .int .i64 a3]) rfl (.load_mid (by rfl) 23 (.tmp 15) rfl (w.heap.size + 1 + 1) 0 rfl [.int .i64 a1, .int .i64 a2, .int .i64 a3] _ (fun W hg => (R2.out.below (GC3.out.trans hg)).lo) Tryd.underlying23 rfl (by kernel_rfl)) ?_
  simp only [Act.put, List.setIfInBounds_toArray, List.set_cons_zero, List.set_cons_succ]
  refine wpG_tk (some 17) (v := .pointer (some ⟨w.heap.size + 1 + 1, 3, none⟩)) rfl (.val (by rfl) (fun W hg => by go_simp)) ?_
  simp only [Act.put, List.setIfInBounds_toArray, List.set_cons_zero, List.set_cons_succ]
  refine wpG_tk (some 18) (v := .agg #[.int .i64 a4, .int .i64 a5, .int .i64 a6]) rfl (.load_mid (by rfl) 23 (.tmp 17) rfl (w.heap.size + 1 + 1) 3 rfl [.int .i64 a4, .int .i64 a5, .int .i64 a6] _ (fun W hg => (R2.out.below (GC3.out.trans hg)).hi) Tryd.underlying23 rfl (by kernel_rfl)) ?_
  simp only [Act.put, List.setIfInBounds_toArray, List.set_cons_zero, List.set_cons_succ]
  refine wpG_val (some 19) rfl (by rfl) (fun W4 hg5 => ⟨.slice (some ⟨W4.heap.size, 0, none⟩) 4 4, W4.alloc (.cells #[.int .i64 x1, .int .i64 x2, .int .i64 x3, .int .i64 y1, .int .i64 y2, .int .i64 y3, .int .i64 a1, .int .i64 a2, .int .i64 a3, .int .i64 a4, .int .i64 a5, .int .i64 a6] 23), by (go_simp <;> rfl), ?_⟩)
  simp only [Act.put, List.setIfInBounds_toArray, List.set_cons_zero, List.set_cons_succ]
  obtain ⟨U6, hu, rn, gn⟩ : ∃ z, z = W4.alloc (.cells #[.int .i64 x1, .int .i64 x2, .int .i64 x3, .int .i64 y1, .int .i64 y2, .int .i64 y3, .int .i64 a1, .int .i64 a2, .int .i64 a3, .int .i64 a4, .int .i64 a5, .int .i64 a6] 23) ∧ Row W4.heap.size [.int .i64 x1, .int .i64 x2, .int .i64 x3, .int .i64 y1, .int .i64 y2, .int .i64 y3, .int .i64 a1, .int .i64 a2, .int .i64 a3, .int .i64 a4, .int .i64 a5, .int .i64 a6] z ∧ Gr W4 z := ⟨_, rfl, Row.newl W4 [.int .i64 x1, .int .i64 x2, .int .i64 x3, .int .i64 y1, .int .i64 y2, .int .i64 y3, .int .i64 a1, .int .i64 a2, .int .i64 a3, .int .i64 a4, .int .i64 a5, .int .i64 a6] 23, Gr.al _ _⟩
  rw [← hu]
  have RN7 := Lib.hid rn
  have GB8 := Lib.hid (Gr.trans (GC3.out.trans hg5) gn)
  clear hu rn gn hg5
  refine wpG_tk (some 20) (v := .bool true) rfl (.call (f := 61) (args := #[.slice (some ⟨W4.heap.size, 0, none⟩) 4 4]) (by rfl) (fun W => by go_simp) (fun W hg => inner_is [(x1, x2, x3), (y1, y2, y3), (a1, a2, a3), (a4, a5, a6)] W4.heap.size 4 true W rfl (by decide) (RN7.out.below hg) (List.forall_mem_cons.2 ⟨i1, (List.forall_mem_cons.2 ⟨i2, (List.forall_mem_cons.2 ⟨i3, (List.forall_mem_cons.2 ⟨i4, (fun _ h => absurd h List.not_mem_nil)⟩)⟩)⟩)⟩) HS.out)) ?_
  simp only [Act.put, List.setIfInBounds_toArray, List.set_cons_zero, List.set_cons_succ]
  refine wpG_tk (some 21) (v := .bool false) rfl (.val (by rfl) (fun W hg => by go_simp)) ?_
  simp only [Act.put, List.setIfInBounds_toArray, List.set_cons_zero, List.set_cons_succ]
  refine wpG_done (fun V9 hv10 => ?_)
  have GC11 := Lib.hid (GB8.out.trans hv10)
  clear hv10
  go_upto_region 4 with fail
  refine wpK_region (by kernel_rfl) ?_
  refine wpK_tk (i := 0) (some 23) (v := .bool true) rfl rfl (by kernel_rfl) (fun _ _ _ h => h) (.call (f := 12) (args := #[]) (by rfl) (fun W => by go_simp) (fun W hg => sanity_any W (HT.out.below (GC11.out.trans (Gr.un hg))))) ?_
  simp only [Act.put, List.setIfInBounds_toArray, List.set_cons_zero, List.set_cons_succ]
  refine wpK_ta (i := 1) (some 24) (v := .bool true) rfl rfl (by kernel_rfl) (fun _ _ _ h => h) (Or.inl ⟨rfl, fun _ => rfl⟩) ?_
  simp only [Act.put, List.setIfInBounds_toArray, List.set_cons_zero, List.set_cons_succ]
  refine wpK_ta (i := 2) (some 25) (v := .int .i64 (s : Int)) rfl rfl (by kernel_rfl) (fun _ _ _ h => h) (Or.inl ⟨rfl, fun _ => rfl⟩) ?_
  simp only [Act.put, List.setIfInBounds_toArray, List.set_cons_zero, List.set_cons_succ]
  refine wpK_tk (i := 3) (some 26) (v := .agg #[.int .i64 x1, .int .i64 x2, .int .i64 x3]) rfl rfl (by kernel_rfl) (fun _ _ _ h => h) (.load_mid (by rfl) 23 (.tmp 5) rfl (w.heap.size) 0 rfl [.int .i64 x1, .int .i64 x2, .int .i64 x3] _ (fun W hg => (R0.out.below (GC11.out.trans (Gr.un hg))).range) Tryd.underlying23 rfl (by kernel_rfl)) ?_
  simp only [Act.put, List.setIfInBounds_toArray, List.set_cons_zero, List.set_cons_succ]
  refine wpK_tk (i := 4) (some 27) (v := .agg #[.int .i64 (Pt.tc 0 s 0 x1 x2 x3), .int .i64 (Pt.tc 0 s 1 x1 x2 x3), .int .i64 (Pt.tc 0 s 2 x1 x2 x3)]) rfl rfl (by kernel_rfl) (fun _ _ _ h => h) (.call (f := 47) (args := #[.int .i64 (s : Int), .agg #[.int .i64 x1, .int .i64 x2, .int .i64 x3]]) (by rfl) (fun W => by go_simp) (fun W hg => turn_any s x1 x2 x3 W (HT.out.below (GC11.out.trans (Gr.un hg))) hs (by omega))) ?_
  simp only [Act.put, List.setIfInBounds_toArray, List.set_cons_zero, List.set_cons_succ]
  refine wpK_ta (i := 5) (some 28) (v := .int .i64 (s : Int)) rfl rfl (by kernel_rfl) (fun _ _ _ h => h) (Or.inl ⟨rfl, fun _ => rfl⟩) ?_
  simp only [Act.put, List.setIfInBounds_toArray, List.set_cons_zero, List.set_cons_succ]
  refine wpK_tk (i := 6) (some 29) (v := .agg #[.int .i64 y1, .int .i64 y2, .int .i64 y3]) rfl rfl (by kernel_rfl) (fun _ _ _ h => h) (.load_mid (by rfl) 23 (.tmp 6) rfl (w.heap.size + 1) 0 rfl [.int .i64 y1, .int .i64 y2, .int .i64 y3] _ (fun W hg => (R1.out.below (GC11.out.trans (Gr.un hg))).range) Tryd.underlying23 rfl (by kernel_rfl)) ?_
  simp only [Act.put, List.setIfInBounds_toArray, List.set_cons_zero, List.set_cons_succ]
  refine wpK_tk (i := 7) (some 30) (v := .agg #[.int .i64 (Pt.tc 0 s 0 y1 y2 y3), .int .i64 (Pt.tc 0 s 1 y1 y2 y3), .int .i64 (Pt.tc 0 s 2 y1 y2 y3)]) rfl rfl (by kernel_rfl) (fun _ _ _ h => h) (.call (f := 47) (args := #[.int .i64 (s : Int), .agg #[.int .i64 y1, .int .i64 y2, .int .i64 y3]]) (by rfl) (fun W => by go_simp) (fun W hg => turn_any s y1 y2 y3 W (HT.out.below (GC11.out.trans (Gr.un hg))) hs (by omega))) ?_
  simp only [Act.put, List.setIfInBounds_toArray, List.set_cons_zero, List.set_cons_succ]
  refine wpK_tk (i := 8) (some 31) (v := .int .i64 (Pt.dist (Pt.tc 0 s 0 x1 x2 x3) (Pt.tc 0 s 1 x1 x2 x3) (Pt.tc 0 s 2 x1 x2 x3) (Pt.tc 0 s 0 y1 y2 y3) (Pt.tc 0 s 1 y1 y2 y3) (Pt.tc 0 s 2 y1 y2 y3))) rfl rfl (by kernel_rfl) (fun _ _ _ h => h) (.call (f := 19) (args := #[.agg #[.int .i64 (Pt.tc 0 s 0 x1 x2 x3), .int .i64 (Pt.tc 0 s 1 x1 x2 x3), .int .i64 (Pt.tc 0 s 2 x1 x2 x3)], .agg #[.int .i64 (Pt.tc 0 s 0 y1 y2 y3), .int .i64 (Pt.tc 0 s 1 y1 y2 y3), .int .i64 (Pt.tc 0 s 2 y1 y2 y3)]]) (by rfl) (fun W => by go_simp) (fun W hg => distance_any (Pt.tc 0 s 0 x1 x2 x3) (Pt.tc 0 s 1 x1 x2 x3) (Pt.tc 0 s 2 x1 x2 x3) (Pt.tc 0 s 0 y1 y2 y3) (Pt.tc 0 s 1 y1 y2 y3) (Pt.tc 0 s 2 y1 y2 y3) W (by omega))) ?_
  simp only [Act.put, List.setIfInBounds_toArray, List.set_cons_zero, List.set_cons_succ]
  refine wpK_tk (i := 9) (some 32) (v := .agg #[.int .i64 x1, .int .i64 x2, .int .i64 x3]) rfl rfl (by kernel_rfl) (fun _ _ _ h => h) (.load_mid (by rfl) 23 (.tmp 5) rfl (w.heap.size) 0 rfl [.int .i64 x1, .int .i64 x2, .int .i64 x3] _ (fun W hg => (R0.out.below (GC11.out.trans (Gr.un hg))).range) Tryd.underlying23 rfl (by kernel_rfl)) ?_
  simp only [Act.put, List.setIfInBounds_toArray, List.set_cons_zero, List.set_cons_succ]
  refine wpK_tk (i := 10) (some 33) (v := .agg #[.int .i64 y1, .int .i64 y2, .int .i64 y3]) rfl rfl (by kernel_rfl) (fun _ _ _ h => h) (.load_mid (by rfl) 23 (.tmp 6) rfl (w.heap.size + 1) 0 rfl [.int .i64 y1, .int .i64 y2, .int .i64 y3] _ (fun W hg => (R1.out.below (GC11.out.trans (Gr.un hg))).range) Tryd.underlying23 rfl (by kernel_rfl)) ?_
  simp only [Act.put, List.setIfInBounds_toArray, List.set_cons_zero, List.set_cons_succ]
  refine wpK_tk (i := 11) (some 34) (v := .int .i64 (Pt.dist x1 x2 x3 y1 y2 y3)) rfl rfl (by kernel_rfl) (fun _ _ _ h => h) (.call (f := 19) (args := #[.agg #[.int .i64 x1, .int .i64 x2, .int .i64 x3], .agg #[.int .i64 y1, .int .i64 y2, .int .i64 y3]]) (by rfl) (fun W => by go_simp) (fun W hg => distance_any x1 x2 x3 y1 y2 y3 W (by omega))) ?_
  simp only [Act.put, List.setIfInBounds_toArray, List.set_cons_zero, List.set_cons_succ]
  refine wpK_ta (i := 12) (some 35) (v := .bool true) rfl rfl (by kernel_rfl) (fun _ _ _ h => h) (Or.inl ⟨by rfl, fun W => by have hq : (Pt.dist (Pt.tc 0 s 0 x1 x2 x3) (Pt.tc 0 s 1 x1 x2 x3) (Pt.tc 0 s 2 x1 x2 x3) (Pt.tc 0 s 0 y1 y2 y3) (Pt.tc 0 s 1 y1 y2 y3) (Pt.tc 0 s 2 y1 y2 y3) = Pt.dist x1 x2 x3 y1 y2 y3) := (by omega); first | (go_simp; done) | (go_simp <;> omega)⟩) ?_
  simp only [Act.put, List.setIfInBounds_toArray, List.set_cons_zero, List.set_cons_succ]
  refine wpK_ta (i := 13) (some 36) (v := .bool true) rfl rfl (by kernel_rfl) (fun _ _ _ h => h) (Or.inl ⟨by rfl, fun W => by go_simp⟩) ?_
  simp only [Act.put, List.setIfInBounds_toArray, List.set_cons_zero, List.set_cons_succ]
  refine wpK_ta (i := 14) (some 37) (v := .bool true) rfl rfl (by kernel_rfl) (fun _ _ _ h => h) (Or.inl ⟨rfl, fun _ => rfl⟩) ?_
  simp only [Act.put, List.setIfInBounds_toArray, List.set_cons_zero, List.set_cons_succ]
  refine wpK_ta (i := 15) (some 38) (v := .int .i64 (s : Int)) rfl rfl (by kernel_rfl) (fun _ _ _ h => h) (Or.inl ⟨rfl, fun _ => rfl⟩) ?_
  simp only [Act.put, List.setIfInBounds_toArray, List.set_cons_zero, List.set_cons_succ]
  refine wpK_tk (i := 16) (some 39) (v := .agg #[.int .i64 x1, .int .i64 x2, .int .i64 x3]) rfl rfl (by kernel_rfl) (fun _ _ _ h => h) (.load_mid (by rfl) 23 (.tmp 5) rfl (w.heap.size) 0 rfl [.int .i64 x1, .int .i64 x2, .int .i64 x3] _ (fun W hg => (R0.out.below (GC11.out.trans (Gr.un hg))).range) Tryd.underlying23 rfl (by kernel_rfl)) ?_
  simp only [Act.put, List.setIfInBounds_toArray, List.set_cons_zero, List.set_cons_succ]
  refine wpK_tk (i := 17) (some 40) (v := .agg #[.int .i64 (Pt.tc 1 s 0 x1 x2 x3), .int .i64 (Pt.tc 1 s 1 x1 x2 x3), .int .i64 (Pt.tc 1 s 2 x1 x2 x3)]) rfl rfl (by kernel_rfl) (fun _ _ _ h => h) (.call (f := 49) (args := #[.int .i64 (s : Int), .agg #[.int .i64 x1, .int .i64 x2, .int .i64 x3]]) (by rfl) (fun W => by go_simp) (fun W hg => turncell_any s x1 x2 x3 W (HT.out.below (GC11.out.trans (Gr.un hg))) hs (by omega))) ?_
  simp only [Act.put, List.setIfInBounds_toArray, List.set_cons_zero, List.set_cons_succ]
  refine wpK_ta (i := 18) (some 41) (v := .int .i64 (s : Int)) rfl rfl (by kernel_rfl) (fun _ _ _ h => h) (Or.inl ⟨rfl, fun _ => rfl⟩) ?_
  simp only [Act.put, List.setIfInBounds_toArray, List.set_cons_zero, List.set_cons_succ]
  refine wpK_tk (i := 19) (some 42) (v := .agg #[.int .i64 y1, .int .i64 y2, .int .i64 y3]) rfl rfl (by kernel_rfl) (fun _ _ _ h => h) (.load_mid (by rfl) 23 (.tmp 6) rfl (w.heap.size + 1) 0 rfl [.int .i64 y1, .int .i64 y2, .int .i64 y3] _ (fun W hg => (R1.out.below (GC11.out.trans (Gr.un hg))).range) Tryd.underlying23 rfl (by kernel_rfl)) ?_
  simp only [Act.put, List.setIfInBounds_toArray, List.set_cons_zero, List.set_cons_succ]
  refine wpK_tk (i := 20) (some 43) (v := .agg #[.int .i64 (Pt.tc 1 s 0 y1 y2 y3), .int .i64 (Pt.tc 1 s 1 y1 y2 y3), .int .i64 (Pt.tc 1 s 2 y1 y2 y3)]) rfl rfl (by kernel_rfl) (fun _ _ _ h => h) (.call (f := 49) (args := #[.int .i64 (s : Int), .agg #[.int .i64 y1, .int .i64 y2, .int .i64 y3]]) (by rfl) (fun W => by go_simp) (fun W hg => turncell_any s y1 y2 y3 W (HT.out.below (GC11.out.trans (Gr.un hg))) hs (by omega))) ?_
  simp only [Act.put, List.setIfInBounds_toArray, List.set_cons_zero, List.set_cons_succ]
  refine wpK_tk (i := 21) (some 44) (v := .int .i64 (Pt.dist (Pt.tc 1 s 0 x1 x2 x3) (Pt.tc 1 s 1 x1 x2 x3) (Pt.tc 1 s 2 x1 x2 x3) (Pt.tc 1 s 0 y1 y2 y3) (Pt.tc 1 s 1 y1 y2 y3) (Pt.tc 1 s 2 y1 y2 y3))) rfl rfl (by kernel_rfl) (fun _ _ _ h => h) (.call (f := 19) (args := #[.agg #[.int .i64 (Pt.tc 1 s 0 x1 x2 x3), .int .i64 (Pt.tc 1 s 1 x1 x2 x3), .int .i64 (Pt.tc 1 s 2 x1 x2 x3)], .agg #[.int .i64 (Pt.tc 1 s 0 y1 y2 y3), .int .i64 (Pt.tc 1 s 1 y1 y2 y3), .int .i64 (Pt.tc 1 s 2 y1 y2 y3)]]) (by rfl) (fun W => by go_simp) (fun W hg => distance_any (Pt.tc 1 s 0 x1 x2 x3) (Pt.tc 1 s 1 x1 x2 x3) (Pt.tc 1 s 2 x1 x2 x3) (Pt.tc 1 s 0 y1 y2 y3) (Pt.tc 1 s 1 y1 y2 y3) (Pt.tc 1 s 2 y1 y2 y3) W (by omega))) ?_
  simp only [Act.put, List.setIfInBounds_toArray, List.set_cons_zero, List.set_cons_succ]
  refine wpK_tk (i := 22) (some 45) (v := .agg #[.int .i64 x1, .int .i64 x2, .int .i64 x3]) rfl rfl (by kernel_rfl) (fun _ _ _ h => h) (.load_mid (by rfl) 23 (.tmp 5) rfl (w.heap.size) 0 rfl [.int .i64 x1, .int .i64 x2, .int .i64 x3] _ (fun W hg => (R0.out.below (GC11.out.trans (Gr.un hg))).range) Tryd.underlying23 rfl (by kernel_rfl)) ?_
  simp only [Act.put, List.setIfInBounds_toArray, List.set_cons_zero, List.set_cons_succ]
  refine wpK_tk (i := 23) (some 46) (v := .agg #[.int .i64 y1, .int .i64 y2, .int .i64 y3]) rfl rfl (by kernel_rfl) (fun _ _ _ h => h) (.load_mid (by rfl) 23 (.tmp 6) rfl (w.heap.size + 1) 0 rfl [.int .i64 y1, .int .i64 y2, .int .i64 y3] _ (fun W hg => (R1.out.below (GC11.out.trans (Gr.un hg))).range) Tryd.underlying23 rfl (by kernel_rfl)) ?_
  simp only [Act.put, List.setIfInBounds_toArray, List.set_cons_zero, List.set_cons_succ]
  refine wpK_tk (i := 24) (some 47) (v := .int .i64 (Pt.dist x1 x2 x3 y1 y2 y3)) rfl rfl (by kernel_rfl) (fun _ _ _ h => h) (.call (f := 19) (args := #[.agg #[.int .i64 x1, .int .i64 x2, .int .i64 x3], .agg #[.int .i64 y1, .int .i64 y2, .int .i64 y3]]) (by rfl) (fun W => by go_simp) (fun W hg => distance_any x1 x2 x3 y1 y2 y3 W (by omega))) ?_
  simp only [Act.put, List.setIfInBounds_toArray, List.set_cons_zero, List.set_cons_succ]
  refine wpK_ta (i := 25) (some 48) (v := .bool true) rfl rfl (by kernel_rfl) (fun _ _ _ h => h) (Or.inl ⟨by rfl, fun W => by have hq : (Pt.dist (Pt.tc 1 s 0 x1 x2 x3) (Pt.tc 1 s 1 x1 x2 x3) (Pt.tc 1 s 2 x1 x2 x3) (Pt.tc 1 s 0 y1 y2 y3) (Pt.tc 1 s 1 y1 y2 y3) (Pt.tc 1 s 2 y1 y2 y3) = Pt.dist x1 x2 x3 y1 y2 y3) := (by omega); first | (go_simp; done) | (go_simp <;> omega)⟩) ?_
  simp only [Act.put, List.setIfInBounds_toArray, List.set_cons_zero, List.set_cons_succ]
  refine wpK_ta (i := 26) (some 49) (v := .bool true) rfl rfl (by kernel_rfl) (fun _ _ _ h => h) (Or.inl ⟨by rfl, fun W => by go_simp⟩) ?_
  simp only [Act.put, List.setIfInBounds_toArray, List.set_cons_zero, List.set_cons_succ]
  refine wpK_ta (i := 27) (some 50) (v := .bool true) rfl rfl (by kernel_rfl) (fun _ _ _ h => h) (Or.inl ⟨rfl, fun _ => rfl⟩) ?_
  simp only [Act.put, List.setIfInBounds_toArray, List.set_cons_zero, List.set_cons_succ]
  refine wpK_ta (i := 28) (some 51) (v := .int .i64 (s : Int)) rfl rfl (by kernel_rfl) (fun _ _ _ h => h) (Or.inl ⟨rfl, fun _ => rfl⟩) ?_
  simp only [Act.put, List.setIfInBounds_toArray, List.set_cons_zero, List.set_cons_succ]
  refine wpK_tk (i := 29) (some 52) (v := .agg #[.int .i64 a1, .int .i64 a2, .int .i64 a3, .int .i64 a4, .int .i64 a5, .int .i64 a6]) rfl rfl (by kernel_rfl) (fun _ _ _ h => h) (.load_mid (by rfl) 31 (.tmp 7) rfl (w.heap.size + 1 + 1) 0 rfl [.int .i64 a1, .int .i64 a2, .int .i64 a3, .int .i64 a4, .int .i64 a5, .int .i64 a6] _ (fun W hg => (R2.out.below (GC11.out.trans (Gr.un hg))).range) Tryd.underlying31 rfl (by kernel_rfl)) ?_
  simp only [Act.put, List.setIfInBounds_toArray, List.set_cons_zero, List.set_cons_succ]
  refine wpK_tk (i := 30) (some 53) (v := .agg #[.int .i64 (min (Pt.tc 0 s 0 a1 a2 a3) (Pt.tc 0 s 0 a4 a5 a6)), .int .i64 (min (Pt.tc 0 s 1 a1 a2 a3) (Pt.tc 0 s 1 a4 a5 a6)), .int .i64 (min (Pt.tc 0 s 2 a1 a2 a3) (Pt.tc 0 s 2 a4 a5 a6)), .int .i64 (max (Pt.tc 0 s 0 a1 a2 a3) (Pt.tc 0 s 0 a4 a5 a6)), .int .i64 (max (Pt.tc 0 s 1 a1 a2 a3) (Pt.tc 0 s 1 a4 a5 a6)), .int .i64 (max (Pt.tc 0 s 2 a1 a2 a3) (Pt.tc 0 s 2 a4 a5 a6))]) rfl rfl (by kernel_rfl) (fun _ _ _ h => h) (.call (f := 51) (args := #[.int .i64 (s : Int), .agg #[.int .i64 a1, .int .i64 a2, .int .i64 a3, .int .i64 a4, .int .i64 a5, .int .i64 a6]]) (by rfl) (fun W => by go_simp) (fun W hg => turnbox_f s a1 a2 a3 a4 a5 a6 W (HT.out.below (GC11.out.trans (Gr.un hg))) hs (by omega) HE.out)) ?_
  simp only [Act.put, List.setIfInBounds_toArray, List.set_cons_zero, List.set_cons_succ]
  refine wpK_tk (i := 31) (some 54) (v := .int .i64 (Pt.vol (min (Pt.tc 0 s 0 a1 a2 a3) (Pt.tc 0 s 0 a4 a5 a6)) (min (Pt.tc 0 s 1 a1 a2 a3) (Pt.tc 0 s 1 a4 a5 a6)) (min (Pt.tc 0 s 2 a1 a2 a3) (Pt.tc 0 s 2 a4 a5 a6)) (max (Pt.tc 0 s 0 a1 a2 a3) (Pt.tc 0 s 0 a4 a5 a6)) (max (Pt.tc 0 s 1 a1 a2 a3) (Pt.tc 0 s 1 a4 a5 a6)) (max (Pt.tc 0 s 2 a1 a2 a3) (Pt.tc 0 s 2 a4 a5 a6)))) rfl rfl (by kernel_rfl) (fun _ _ _ h => h) (.call (f := 29) (args := #[.agg #[.int .i64 (min (Pt.tc 0 s 0 a1 a2 a3) (Pt.tc 0 s 0 a4 a5 a6)), .int .i64 (min (Pt.tc 0 s 1 a1 a2 a3) (Pt.tc 0 s 1 a4 a5 a6)), .int .i64 (min (Pt.tc 0 s 2 a1 a2 a3) (Pt.tc 0 s 2 a4 a5 a6)), .int .i64 (max (Pt.tc 0 s 0 a1 a2 a3) (Pt.tc 0 s 0 a4 a5 a6)), .int .i64 (max (Pt.tc 0 s 1 a1 a2 a3) (Pt.tc 0 s 1 a4 a5 a6)), .int .i64 (max (Pt.tc 0 s 2 a1 a2 a3) (Pt.tc 0 s 2 a4 a5 a6))]]) (by rfl) (fun W => by go_simp) (fun W hg => volume_any (min (Pt.tc 0 s 0 a1 a2 a3) (Pt.tc 0 s 0 a4 a5 a6)) (min (Pt.tc 0 s 1 a1 a2 a3) (Pt.tc 0 s 1 a4 a5 a6)) (min (Pt.tc 0 s 2 a1 a2 a3) (Pt.tc 0 s 2 a4 a5 a6)) (max (Pt.tc 0 s 0 a1 a2 a3) (Pt.tc 0 s 0 a4 a5 a6)) (max (Pt.tc 0 s 1 a1 a2 a3) (Pt.tc 0 s 1 a4 a5 a6)) (max (Pt.tc 0 s 2 a1 a2 a3) (Pt.tc 0 s 2 a4 a5 a6)) W (by omega))) ?_
  simp only [Act.put, List.setIfInBounds_toArray, List.set_cons_zero, List.set_cons_succ]
  refine wpK_tk (i := 32) (some 55) (v := .agg #[.int .i64 a1, .int .i64 a2, .int .i64 a3, .int .i64 a4, .int .i64 a5, .int .i64 a6]) rfl rfl (by kernel_rfl) (fun _ _ _ h => h) (.load_mid (by rfl) 31 (.tmp 7) rfl (w.heap.size + 1 + 1) 0 rfl [.int .i64 a1, .int .i64 a2, .int .i64 a3, .int .i64 a4, .int .i64 a5, .int .i64 a6] _ (fun W hg => (R2.out.below (GC11.out.trans (Gr.un hg))).range) Tryd.underlying31 rfl (by kernel_rfl)) ?_
  simp only [Act.put, List.setIfInBounds_toArray, List.set_cons_zero, List.set_cons_succ]
  refine wpK_tk (i := 33) (some 56) (v := .int .i64 (Pt.vol a1 a2 a3 a4 a5 a6)) rfl rfl (by kernel_rfl) (fun _ _ _ h => h) (.call (f := 29) (args := #[.agg #[.int .i64 a1, .int .i64 a2, .int .i64 a3, .int .i64 a4, .int .i64 a5, .int .i64 a6]]) (by rfl) (fun W => by go_simp) (fun W hg => volume_any a1 a2 a3 a4 a5 a6 W (by omega))) ?_
  simp only [Act.put, List.setIfInBounds_toArray, List.set_cons_zero, List.set_cons_succ]
  refine wpK_ta (i := 34) (some 57) (v := .bool true) rfl rfl (by kernel_rfl) (fun _ _ _ h => h) (Or.inl ⟨by rfl, fun W => by have hq : (Pt.vol (min (Pt.tc 0 s 0 a1 a2 a3) (Pt.tc 0 s 0 a4 a5 a6)) (min (Pt.tc 0 s 1 a1 a2 a3) (Pt.tc 0 s 1 a4 a5 a6)) (min (Pt.tc 0 s 2 a1 a2 a3) (Pt.tc 0 s 2 a4 a5 a6)) (max (Pt.tc 0 s 0 a1 a2 a3) (Pt.tc 0 s 0 a4 a5 a6)) (max (Pt.tc 0 s 1 a1 a2 a3) (Pt.tc 0 s 1 a4 a5 a6)) (max (Pt.tc 0 s 2 a1 a2 a3) (Pt.tc 0 s 2 a4 a5 a6)) = Pt.vol a1 a2 a3 a4 a5 a6) := (by omega); first | (go_simp; done) | (go_simp <;> omega)⟩) ?_
  simp only [Act.put, List.setIfInBounds_toArray, List.set_cons_zero, List.set_cons_succ]
  refine wpK_ta (i := 35) (some 58) (v := .bool true) rfl rfl (by kernel_rfl) (fun _ _ _ h => h) (Or.inl ⟨by rfl, fun W => by go_simp⟩) ?_
  simp only [Act.put, List.setIfInBounds_toArray, List.set_cons_zero, List.set_cons_succ]
  refine wpK_ta (i := 36) (some 59) (v := .bool true) rfl rfl (by kernel_rfl) (fun _ _ _ h => h) (Or.inl ⟨rfl, fun _ => rfl⟩) ?_
  simp only [Act.put, List.setIfInBounds_toArray, List.set_cons_zero, List.set_cons_succ]
  refine wpK_ta (i := 37) (some 60) (v := .int .i64 (s : Int)) rfl rfl (by kernel_rfl) (fun _ _ _ h => h) (Or.inl ⟨rfl, fun _ => rfl⟩) ?_
  simp only [Act.put, List.setIfInBounds_toArray, List.set_cons_zero, List.set_cons_succ]
  refine wpK_tk (i := 38) (some 61) (v := .agg #[.int .i64 x1, .int .i64 x2, .int .i64 x3]) rfl rfl (by kernel_rfl) (fun _ _ _ h => h) (.load_mid (by rfl) 23 (.tmp 5) rfl (w.heap.size) 0 rfl [.int .i64 x1, .int .i64 x2, .int .i64 x3] _ (fun W hg => (R0.out.below (GC11.out.trans (Gr.un hg))).range) Tryd.underlying23 rfl (by kernel_rfl)) ?_
  simp only [Act.put, List.setIfInBounds_toArray, List.set_cons_zero, List.set_cons_succ]
  refine wpK_tk (i := 39) (some 62) (v := .agg #[.int .i64 (Pt.tc 1 s 0 x1 x2 x3), .int .i64 (Pt.tc 1 s 1 x1 x2 x3), .int .i64 (Pt.tc 1 s 2 x1 x2 x3)]) rfl rfl (by kernel_rfl) (fun _ _ _ h => h) (.call (f := 49) (args := #[.int .i64 (s : Int), .agg #[.int .i64 x1, .int .i64 x2, .int .i64 x3]]) (by rfl) (fun W => by go_simp) (fun W hg => turncell_any s x1 x2 x3 W (HT.out.below (GC11.out.trans (Gr.un hg))) hs (by omega))) ?_
  simp only [Act.put, List.setIfInBounds_toArray, List.set_cons_zero, List.set_cons_succ]
  refine wpK_ta (i := 40) (some 63) (v := .int .i64 (s : Int)) rfl rfl (by kernel_rfl) (fun _ _ _ h => h) (Or.inl ⟨rfl, fun _ => rfl⟩) ?_
  simp only [Act.put, List.setIfInBounds_toArray, List.set_cons_zero, List.set_cons_succ]
  refine wpK_tk (i := 41) (some 64) (v := .agg #[.int .i64 a1, .int .i64 a2, .int .i64 a3, .int .i64 a4, .int .i64 a5, .int .i64 a6]) rfl rfl (by kernel_rfl) (fun _ _ _ h => h) (.load_mid (by rfl) 31 (.tmp 7) rfl (w.heap.size + 1 + 1) 0 rfl [.int .i64 a1, .int .i64 a2, .int .i64 a3, .int .i64 a4, .int .i64 a5, .int .i64 a6] _ (fun W hg => (R2.out.below (GC11.out.trans (Gr.un hg))).range) Tryd.underlying31 rfl (by kernel_rfl)) ?_
  simp only [Act.put, List.setIfInBounds_toArray, List.set_cons_zero, List.set_cons_succ]
  refine wpK_tk (i := 42) (some 65) (v := .agg #[.int .i64 (min (Pt.tc 0 s 0 a1 a2 a3) (Pt.tc 0 s 0 a4 a5 a6)), .int .i64 (min (Pt.tc 0 s 1 a1 a2 a3) (Pt.tc 0 s 1 a4 a5 a6)), .int .i64 (min (Pt.tc 0 s 2 a1 a2 a3) (Pt.tc 0 s 2 a4 a5 a6)), .int .i64 (max (Pt.tc 0 s 0 a1 a2 a3) (Pt.tc 0 s 0 a4 a5 a6)), .int .i64 (max (Pt.tc 0 s 1 a1 a2 a3) (Pt.tc 0 s 1 a4 a5 a6)), .int .i64 (max (Pt.tc 0 s 2 a1 a2 a3) (Pt.tc 0 s 2 a4 a5 a6))]) rfl rfl (by kernel_rfl) (fun _ _ _ h => h) (.call (f := 51) (args := #[.int .i64 (s : Int), .agg #[.int .i64 a1, .int .i64 a2, .int .i64 a3, .int .i64 a4, .int .i64 a5, .int .i64 a6]]) (by rfl) (fun W => by go_simp) (fun W hg => turnbox_f s a1 a2 a3 a4 a5 a6 W (HT.out.below (GC11.out.trans (Gr.un hg))) hs (by omega) HE.out)) ?_
  simp only [Act.put, List.setIfInBounds_toArray, List.set_cons_zero, List.set_cons_succ]
  refine wpK_tk (i := 43) (some 66) (v := .bool false) rfl rfl (by kernel_rfl) (fun _ _ _ h => h) (.call (f := 25) (args := #[.agg #[.int .i64 (Pt.tc 1 s 0 x1 x2 x3), .int .i64 (Pt.tc 1 s 1 x1 x2 x3), .int .i64 (Pt.tc 1 s 2 x1 x2 x3)], .agg #[.int .i64 (min (Pt.tc 0 s 0 a1 a2 a3) (Pt.tc 0 s 0 a4 a5 a6)), .int .i64 (min (Pt.tc 0 s 1 a1 a2 a3) (Pt.tc 0 s 1 a4 a5 a6)), .int .i64 (min (Pt.tc 0 s 2 a1 a2 a3) (Pt.tc 0 s 2 a4 a5 a6)), .int .i64 (max (Pt.tc 0 s 0 a1 a2 a3) (Pt.tc 0 s 0 a4 a5 a6)), .int .i64 (max (Pt.tc 0 s 1 a1 a2 a3) (Pt.tc 0 s 1 a4 a5 a6)), .int .i64 (max (Pt.tc 0 s 2 a1 a2 a3) (Pt.tc 0 s 2 a4 a5 a6))]]) (by rfl) (fun W => by go_simp) (fun W hg => in_any (Pt.tc 1 s 0 x1 x2 x3) (Pt.tc 1 s 1 x1 x2 x3) (Pt.tc 1 s 2 x1 x2 x3) (min (Pt.tc 0 s 0 a1 a2 a3) (Pt.tc 0 s 0 a4 a5 a6)) (min (Pt.tc 0 s 1 a1 a2 a3) (Pt.tc 0 s 1 a4 a5 a6)) (min (Pt.tc 0 s 2 a1 a2 a3) (Pt.tc 0 s 2 a4 a5 a6)) (max (Pt.tc 0 s 0 a1 a2 a3) (Pt.tc 0 s 0 a4 a5 a6)) (max (Pt.tc 0 s 1 a1 a2 a3) (Pt.tc 0 s 1 a4 a5 a6)) (max (Pt.tc 0 s 2 a1 a2 a3) (Pt.tc 0 s 2 a4 a5 a6)) false W KI.out)) ?_
  simp only [Act.put, List.setIfInBounds_toArray, List.set_cons_zero, List.set_cons_succ]
  refine wpK_tk (i := 44) (some 67) (v := .agg #[.int .i64 x1, .int .i64 x2, .int .i64 x3]) rfl rfl (by kernel_rfl) (fun _ _ _ h => h) (.load_mid (by rfl) 23 (.tmp 5) rfl (w.heap.size) 0 rfl [.int .i64 x1, .int .i64 x2, .int .i64 x3] _ (fun W hg => (R0.out.below (GC11.out.trans (Gr.un hg))).range) Tryd.underlying23 rfl (by kernel_rfl)) ?_
  simp only [Act.put, List.setIfInBounds_toArray, List.set_cons_zero, List.set_cons_succ]
  refine wpK_tk (i := 45) (some 68) (v := .agg #[.int .i64 a1, .int .i64 a2, .int .i64 a3, .int .i64 a4, .int .i64 a5, .int .i64 a6]) rfl rfl (by kernel_rfl) (fun _ _ _ h => h) (.load_mid (by rfl) 31 (.tmp 7) rfl (w.heap.size + 1 + 1) 0 rfl [.int .i64 a1, .int .i64 a2, .int .i64 a3, .int .i64 a4, .int .i64 a5, .int .i64 a6] _ (fun W hg => (R2.out.below (GC11.out.trans (Gr.un hg))).range) Tryd.underlying31 rfl (by kernel_rfl)) ?_
  simp only [Act.put, List.setIfInBounds_toArray, List.set_cons_zero, List.set_cons_succ]
  refine wpK_tk (i := 46) (some 69) (v := .bool false) rfl rfl (by kernel_rfl) (fun _ _ _ h => h) (.call (f := 25) (args := #[.agg #[.int .i64 x1, .int .i64 x2, .int .i64 x3], .agg #[.int .i64 a1, .int .i64 a2, .int .i64 a3, .int .i64 a4, .int .i64 a5, .int .i64 a6]]) (by rfl) (fun W => by go_simp) (fun W hg => in_any x1 x2 x3 a1 a2 a3 a4 a5 a6 false W HI.out)) ?_
  simp only [Act.put, List.setIfInBounds_toArray, List.set_cons_zero, List.set_cons_succ]
  refine wpK_ta (i := 47) (some 70) (v := .bool true) rfl rfl (by kernel_rfl) (fun _ _ _ h => h) (Or.inl ⟨by rfl, fun W => by go_simp⟩) ?_
  simp only [Act.put, List.setIfInBounds_toArray, List.set_cons_zero, List.set_cons_succ]
  refine wpK_ta (i := 48) (some 71) (v := .bool true) rfl rfl (by kernel_rfl) (fun _ _ _ h => h) (Or.inl ⟨by rfl, fun W => by go_simp⟩) ?_
  simp only [Act.put, List.setIfInBounds_toArray, List.set_cons_zero, List.set_cons_succ]
  refine wpK_ta (i := 49) (some 8) (v := .bool true) rfl rfl (by kernel_rfl) (fun _ _ _ h => h) (Or.inl ⟨rfl, fun _ => rfl⟩) ?_
  simp only [Act.put, List.setIfInBounds_toArray, List.set_cons_zero, List.set_cons_succ]
  refine wpK_done (by kernel_rfl) (fun V12 hv13 => ?_) _
  have GC14 := Lib.hid (GC11.out.trans (Gr.un hv13))
  clear hv13
  go_wp2_with fail
  go_ret
  exact ⟨rfl, Gr.to G0.out GC14.out⟩
theorem law7 (a x1 x2 x3 y1 y2 y3 a1 a2 a3 a4 a5 a6 : Int) (w : World) (hT : Tab w) (h8 : 0 ≤ a ∧ a < 256) (i1 : In64 (x1, x2, x3)) (i2 : In64 (y1, y2, y3)) (i3 : In64 (a1, a2, a3)) (i4 : In64 (a4, a5, a6)) :
    Calls Tryd.prog 7 #[.int .u8 a, .agg #[.int .i64 x1, .int .i64 x2, .int .i64 x3], .agg #[.int .i64 y1, .int .i64 y2, .int .i64 y3], .agg #[.int .i64 a1, .int .i64 a2, .int .i64 a3, .int .i64 a4, .int .i64 a5, .int .i64 a6]] w fun e w' => e = .returned (.bool true) ∧ Below w.heap.size w w' := by
  cases hi : [(x1, x2, x3), (y1, y2, y3), (a1, a2, a3), (a4, a5, a6)].all inI with
  | false => exact law7_s _ _ _ _ _ _ _ _ _ _ _ _ _ w hT h8 i1 i2 i3 i4 hi
  | true =>
    cases he : Pt.emp a1 a2 a3 a4 a5 a6 with
    | true =>
      have hx : Pt.inB x1 x2 x3 a1 a2 a3 a4 a5 a6 = false := by have := Pt.emp_true.1 he; exact Pt.inB_false.2 (by omega)
      exact law7_tf _ _ _ _ _ _ _ _ _ _ _ _ _ w hT h8 i1 i2 i3 i4 hi he hx
    | false =>
      cases hx : Pt.inB x1 x2 x3 a1 a2 a3 a4 a5 a6 with
      | true => exact law7_ft _ _ _ _ _ _ _ _ _ _ _ _ _ w hT h8 i1 i2 i3 i4 hi he hx
      | false => exact law7_ff _ _ _ _ _ _ _ _ _ _ _ _ _ w hT h8 i1 i2 i3 i4 hi he hx

end Go.Proofs.YthadlgjobjnhcaaDoor
