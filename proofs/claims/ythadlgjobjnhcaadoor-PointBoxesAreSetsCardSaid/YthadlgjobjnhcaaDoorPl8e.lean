/-
  voxellaw04.PointBoxesAreSets, its walk (4).
-/
import Derived.Test.YthadlgjobjnhcaaDoorPsn
import Derived.Test.YthadlgjobjnhcaaDoorPty2
import Derived.Test.YthadlgjobjnhcaaDoorPtf
import Derived.Test.YthadlgjobjnhcaaDoorRo4
import Derived.Handy
namespace Go.Proofs.YthadlgjobjnhcaaDoor
open Go.RowKit
set_option linter.unusedVariables false
set_option maxRecDepth 1000000 in
set_option maxHeartbeats 8000000 in
theorem law8_ftteff (a1 a2 a3 a4 a5 a6 b1 b2 b3 b4 b5 b6 x1 x2 x3 y1 y2 y3 : Int) (w : World) (hT : Tab w) (i1 : In64 (a1, a2, a3)) (i2 : In64 (a4, a5, a6)) (i3 : In64 (b1, b2, b3)) (i4 : In64 (b4, b5, b6)) (i5 : In64 (x1, x2, x3)) (i6 : In64 (y1, y2, y3)) (hs : [(a1, a2, a3), (a4, a5, a6), (b1, b2, b3), (b4, b5, b6), (x1, x2, x3), (y1, y2, y3)].all inI = true) (ha : Pt.emp a1 a2 a3 a4 a5 a6 = false) (hb : Pt.emp b1 b2 b3 b4 b5 b6 = true) (hm : Pt.meet a1 a2 a3 a4 a5 a6 b1 b2 b3 b4 b5 b6 = true) (hia : Pt.inB x1 x2 x3 a1 a2 a3 a4 a5 a6 = false) (hib : Pt.inB x1 x2 x3 b1 b2 b3 b4 b5 b6 = false) :
    Calls Tryd.prog 8 #[.agg #[.int .i64 a1, .int .i64 a2, .int .i64 a3, .int .i64 a4, .int .i64 a5, .int .i64 a6], .agg #[.int .i64 b1, .int .i64 b2, .int .i64 b3, .int .i64 b4, .int .i64 b5, .int .i64 b6], .agg #[.int .i64 x1, .int .i64 x2, .int .i64 x3], .agg #[.int .i64 y1, .int .i64 y2, .int .i64 y3]] w fun e w' => e = .returned (.bool true) ∧ Below w.heap.size w w' := by
  have bb := hs
  simp only [List.all_cons, List.all_nil, Bool.and_true, Bool.and_eq_true, inI_true] at bb
  have fa := Pt.emp_false.1 ha
  have fb := Pt.emp_true.1 hb
  have fm := Pt.emp_true.1 (show Pt.emp (max a1 b1) (max a2 b2) (max a3 b3) (min a4 b4) (min a5 b5) (min a6 b6) = true from hm)
  have fia := Pt.inB_false.1 hia
  have fib := Pt.inB_false.1 hib
  have v1 : ¬ (Pt.vol a1 a2 a3 a4 a5 a6 = 0) := by rw [Pt.vol_zero, ha]; decide
  have v0 := Pt.vol_nonneg a1 a2 a3 a4 a5 a6
  have v2 : Pt.vol 0 0 0 0 0 0 = 0 := by decide
  have v3 : Pt.vol b1 b2 b3 b4 b5 b6 = 0 := Pt.vol_emp hb
  have HS := Lib.hid hs
  have HA := Lib.hid ha
  have HB := Lib.hid hb
  have HM := Lib.hid hm
  have HIA := Lib.hid hia
  have HIB := Lib.hid hib
  clear hs ha hb hm hia hib
  obtain ⟨u, hu, r0, r1, r2, r3, g0⟩ := rows4 w [.int .i64 a1, .int .i64 a2, .int .i64 a3, .int .i64 a4, .int .i64 a5, .int .i64 a6] 31 [.int .i64 b1, .int .i64 b2, .int .i64 b3, .int .i64 b4, .int .i64 b5, .int .i64 b6] 31 [.int .i64 x1, .int .i64 x2, .int .i64 x3] 23 [.int .i64 y1, .int .i64 y2, .int .i64 y3] 23
  have R0 := Lib.hid r0
  have R1 := Lib.hid r1
  have R2 := Lib.hid r2
  have R3 := Lib.hid r3
  have G0 := Lib.hid g0
  have HU := Lib.hid hu
  have HT := Lib.hid (hT.below g0)
  clear hT
  clear hu g0 r0 r1 r2 r3
  go_enter Tryd.func8, Tryd.ntmps8
  go_upto_region 1 with fail
  rw [← HU.out]
  refine wpG_region ?_
  refine wpG_tk (some 13) (v := .pointer (some ⟨w.heap.size, 0, none⟩)) rfl (.val (by rfl) (fun W hg => by go_simp)) ?_
  simp only [Act.put, List.setIfInBounds_toArray, List.set_cons_zero, List.set_cons_succ]
  refine wpG_tk (some 14) (v := .agg #[.int .i64 a1, .int .i64 a2, .int .i64 a3]) rfl (.load_mid (by rfl) 23 (.tmp 13) rfl (w.heap.size) 0 rfl [.int .i64 a1, .int .i64 a2, .int .i64 a3] _ (fun W hg => (R0.out.below hg).lo) Tryd.underlying23 rfl (by kernel_rfl)) ?_
  simp only [Act.put, List.setIfInBounds_toArray, List.set_cons_zero, List.set_cons_succ]
  refine wpG_tk (some 15) (v := .pointer (some ⟨w.heap.size, 3, none⟩)) rfl (.val (by rfl) (fun W hg => by go_simp)) ?_
  simp only [Act.put, List.setIfInBounds_toArray, List.set_cons_zero, List.set_cons_succ]
  refine wpG_tk (some 16) (v := .agg #[.int .i64 a4, .int .i64 a5, .int .i64 a6]) rfl (.load_mid (by rfl) 23 (.tmp 15) rfl (w.heap.size) 3 rfl [.int .i64 a4, .int .i64 a5, .int .i64 a6] _ (fun W hg => (R0.out.below hg).hi) Tryd.underlying23 rfl (by kernel_rfl)) ?_
  simp only [Act.put, List.setIfInBounds_toArray, List.set_cons_zero, List.set_cons_succ]
  refine wpG_tk (some 17) (v := .pointer (some ⟨w.heap.size + 1, 0, none⟩)) rfl (.val (by rfl) (fun W hg => by go_simp)) ?_
  simp only [Act.put, List.setIfInBounds_toArray, List.set_cons_zero, List.set_cons_succ]
  refine wpG_tk (some 18) (v := .agg #[.int .i64 b1, .int .i64 b2, .int .i64 b3]) rfl (.load_mid (by rfl) 23 (.tmp 17) rfl (w.heap.size + 1) 0 rfl [.int .i64 b1, .int .i64 b2, .int .i64 b3] _ (fun W hg => (R1.out.below hg).lo) Tryd.underlying23 rfl (by kernel_rfl)) ?_
  simp only [Act.put, List.setIfInBounds_toArray, List.set_cons_zero, List.set_cons_succ]
  refine wpG_tk (some 19) (v := .pointer (some ⟨w.heap.size + 1, 3, none⟩)) rfl (.val (by rfl) (fun W hg => by go_simp)) ?_
  simp only [Act.put, List.setIfInBounds_toArray, List.set_cons_zero, List.set_cons_succ]
  refine wpG_tk (some 20) (v := .agg #[.int .i64 b4, .int .i64 b5, .int .i64 b6]) rfl (.load_mid (by rfl) 23 (.tmp 19) rfl (w.heap.size + 1) 3 rfl [.int .i64 b4, .int .i64 b5, .int .i64 b6] _ (fun W hg => (R1.out.below hg).hi) Tryd.underlying23 rfl (by kernel_rfl)) ?_
  simp only [Act.put, List.setIfInBounds_toArray, List.set_cons_zero, List.set_cons_succ]
  refine wpG_tk (some 21) (v := .agg #[.int .i64 x1, .int .i64 x2, .int .i64 x3]) rfl (.load_mid (by rfl) 23 (.tmp 6) rfl (w.heap.size + 1 + 1) 0 rfl [.int .i64 x1, .int .i64 x2, .int .i64 x3] _ (fun W hg => (R2.out.below hg).range) Tryd.underlying23 rfl (by kernel_rfl)) ?_
  simp only [Act.put, List.setIfInBounds_toArray, List.set_cons_zero, List.set_cons_succ]
  refine wpG_tk (some 22) (v := .agg #[.int .i64 y1, .int .i64 y2, .int .i64 y3]) rfl (.load_mid (by rfl) 23 (.tmp 7) rfl (w.heap.size + 1 + 1 + 1) 0 rfl [.int .i64 y1, .int .i64 y2, .int .i64 y3] _ (fun W hg => (R3.out.below hg).range) Tryd.underlying23 rfl (by kernel_rfl)) ?_
  simp only [Act.put, List.setIfInBounds_toArray, List.set_cons_zero, List.set_cons_succ]
  refine wpG_val (some 23) rfl (by rfl) (fun W1 hg2 => ⟨.slice (some ⟨W1.heap.size, 0, none⟩) 6 6, W1.alloc (.cells #[.int .i64 a1, .int .i64 a2, .int .i64 a3, .int .i64 a4, .int .i64 a5, .int .i64 a6, .int .i64 b1, .int .i64 b2, .int .i64 b3, .int .i64 b4, .int .i64 b5, .int .i64 b6, .int .i64 x1, .int .i64 x2, .int .i64 x3, .int .i64 y1, .int .i64 y2, .int .i64 y3] 23), by (go_simp <;> rfl), ?_⟩)
  simp only [Act.put, List.setIfInBounds_toArray, List.set_cons_zero, List.set_cons_succ]
  obtain ⟨U3, hu, rn, gn⟩ : ∃ z, z = W1.alloc (.cells #[.int .i64 a1, .int .i64 a2, .int .i64 a3, .int .i64 a4, .int .i64 a5, .int .i64 a6, .int .i64 b1, .int .i64 b2, .int .i64 b3, .int .i64 b4, .int .i64 b5, .int .i64 b6, .int .i64 x1, .int .i64 x2, .int .i64 x3, .int .i64 y1, .int .i64 y2, .int .i64 y3] 23) ∧ Row W1.heap.size [.int .i64 a1, .int .i64 a2, .int .i64 a3, .int .i64 a4, .int .i64 a5, .int .i64 a6, .int .i64 b1, .int .i64 b2, .int .i64 b3, .int .i64 b4, .int .i64 b5, .int .i64 b6, .int .i64 x1, .int .i64 x2, .int .i64 x3, .int .i64 y1, .int .i64 y2, .int .i64 y3] z ∧ Gr W1 z := ⟨_, rfl, Row.newl W1 [.int .i64 a1, .int .i64 a2, .int .i64 a3, .int .i64 a4, .int .i64 a5, .int .i64 a6, .int .i64 b1, .int .i64 b2, .int .i64 b3, .int .i64 b4, .int .i64 b5, .int .i64 b6, .int .i64 x1, .int .i64 x2, .int .i64 x3, .int .i64 y1, .int .i64 y2, .int .i64 y3] 23, Gr.al _ _⟩
  rw [← hu]
  have RN4 := Lib.hid rn
  have GB5 := Lib.hid (Gr.trans hg2 gn)
  clear hu rn gn hg2
  refine wpG_tk (some 24) (v := .bool true) rfl (.call (f := 61) (args := #[.slice (some ⟨W1.heap.size, 0, none⟩) 6 6]) (by rfl) (fun W => by go_simp) (fun W hg => inner_is [(a1, a2, a3), (a4, a5, a6), (b1, b2, b3), (b4, b5, b6), (x1, x2, x3), (y1, y2, y3)] W1.heap.size 6 true W rfl (by decide) (RN4.out.below hg) (List.forall_mem_cons.2 ⟨i1, (List.forall_mem_cons.2 ⟨i2, (List.forall_mem_cons.2 ⟨i3, (List.forall_mem_cons.2 ⟨i4, (List.forall_mem_cons.2 ⟨i5, (List.forall_mem_cons.2 ⟨i6, (fun _ h => absurd h List.not_mem_nil)⟩)⟩)⟩)⟩)⟩)⟩) HS.out)) ?_
  simp only [Act.put, List.setIfInBounds_toArray, List.set_cons_zero, List.set_cons_succ]
  refine wpG_tk (some 25) (v := .bool false) rfl (.val (by rfl) (fun W hg => by go_simp)) ?_
  simp only [Act.put, List.setIfInBounds_toArray, List.set_cons_zero, List.set_cons_succ]
  refine wpG_done (fun V6 hv7 => ?_)
  have GC8 := Lib.hid (GB5.out.trans hv7)
  clear hv7
  go_upto_region 3 with fail
  refine wpK_region (by kernel_rfl) ?_
  refine wpK_tk (i := 0) (some 27) (v := .agg #[.int .i64 x1, .int .i64 x2, .int .i64 x3]) rfl rfl (by kernel_rfl) (fun _ _ _ h => h) (.load_mid (by rfl) 23 (.tmp 6) rfl (w.heap.size + 1 + 1) 0 rfl [.int .i64 x1, .int .i64 x2, .int .i64 x3] _ (fun W hg => (R2.out.below (GC8.out.trans (Gr.un hg))).range) Tryd.underlying23 rfl (by kernel_rfl)) ?_
  simp only [Act.put, List.setIfInBounds_toArray, List.set_cons_zero, List.set_cons_succ]
  refine wpK_tk (i := 1) (some 28) (v := .agg #[.int .i64 a1, .int .i64 a2, .int .i64 a3, .int .i64 a4, .int .i64 a5, .int .i64 a6]) rfl rfl (by kernel_rfl) (fun _ _ _ h => h) (.load_mid (by rfl) 31 (.tmp 4) rfl (w.heap.size) 0 rfl [.int .i64 a1, .int .i64 a2, .int .i64 a3, .int .i64 a4, .int .i64 a5, .int .i64 a6] _ (fun W hg => (R0.out.below (GC8.out.trans (Gr.un hg))).range) Tryd.underlying31 rfl (by kernel_rfl)) ?_
  simp only [Act.put, List.setIfInBounds_toArray, List.set_cons_zero, List.set_cons_succ]
  refine wpK_tk (i := 2) (some 29) (v := .bool false) rfl rfl (by kernel_rfl) (fun _ _ _ h => h) (.call (f := 25) (args := #[.agg #[.int .i64 x1, .int .i64 x2, .int .i64 x3], .agg #[.int .i64 a1, .int .i64 a2, .int .i64 a3, .int .i64 a4, .int .i64 a5, .int .i64 a6]]) (by rfl) (fun W => by go_simp) (fun W hg => in_any x1 x2 x3 a1 a2 a3 a4 a5 a6 false W HIA.out)) ?_
  simp only [Act.put, List.setIfInBounds_toArray, List.set_cons_zero, List.set_cons_succ]
  refine wpK_tk (i := 3) (some 30) (v := .agg #[.int .i64 x1, .int .i64 x2, .int .i64 x3]) rfl rfl (by kernel_rfl) (fun _ _ _ h => h) (.load_mid (by rfl) 23 (.tmp 6) rfl (w.heap.size + 1 + 1) 0 rfl [.int .i64 x1, .int .i64 x2, .int .i64 x3] _ (fun W hg => (R2.out.below (GC8.out.trans (Gr.un hg))).range) Tryd.underlying23 rfl (by kernel_rfl)) ?_
  simp only [Act.put, List.setIfInBounds_toArray, List.set_cons_zero, List.set_cons_succ]
  refine wpK_tk (i := 4) (some 31) (v := .agg #[.int .i64 b1, .int .i64 b2, .int .i64 b3, .int .i64 b4, .int .i64 b5, .int .i64 b6]) rfl rfl (by kernel_rfl) (fun _ _ _ h => h) (.load_mid (by rfl) 31 (.tmp 5) rfl (w.heap.size + 1) 0 rfl [.int .i64 b1, .int .i64 b2, .int .i64 b3, .int .i64 b4, .int .i64 b5, .int .i64 b6] _ (fun W hg => (R1.out.below (GC8.out.trans (Gr.un hg))).range) Tryd.underlying31 rfl (by kernel_rfl)) ?_
  simp only [Act.put, List.setIfInBounds_toArray, List.set_cons_zero, List.set_cons_succ]
  refine wpK_tk (i := 5) (some 32) (v := .bool false) rfl rfl (by kernel_rfl) (fun _ _ _ h => h) (.call (f := 25) (args := #[.agg #[.int .i64 x1, .int .i64 x2, .int .i64 x3], .agg #[.int .i64 b1, .int .i64 b2, .int .i64 b3, .int .i64 b4, .int .i64 b5, .int .i64 b6]]) (by rfl) (fun W => by go_simp) (fun W hg => in_any x1 x2 x3 b1 b2 b3 b4 b5 b6 false W HIB.out)) ?_
  simp only [Act.put, List.setIfInBounds_toArray, List.set_cons_zero, List.set_cons_succ]
  refine wpK_ta (i := 6) (some 9) (v := .bool false) rfl rfl (by kernel_rfl) (fun _ _ _ h => h) (Or.inl ⟨rfl, fun _ => rfl⟩) ?_
  simp only [Act.put, List.setIfInBounds_toArray, List.set_cons_zero, List.set_cons_succ]
  refine wpK_ta (i := 7) (some 10) (v := .bool false) rfl rfl (by kernel_rfl) (fun _ _ _ h => h) (Or.inl ⟨rfl, fun _ => rfl⟩) ?_
  simp only [Act.put, List.setIfInBounds_toArray, List.set_cons_zero, List.set_cons_succ]
  refine wpK_done (by kernel_rfl) (fun V9 hv10 => ?_) _
  have GC11 := Lib.hid (GC8.out.trans (Gr.un hv10))
  clear hv10
  go_upto_region 4 with fail
  refine wpG_region ?_
  refine wpG_tk (some 33) (v := .agg #[.int .i64 a1, .int .i64 a2, .int .i64 a3, .int .i64 a4, .int .i64 a5, .int .i64 a6]) rfl (.load_mid (by rfl) 31 (.tmp 4) rfl (w.heap.size) 0 rfl [.int .i64 a1, .int .i64 a2, .int .i64 a3, .int .i64 a4, .int .i64 a5, .int .i64 a6] _ (fun W hg => (R0.out.below (GC11.out.trans hg)).range) Tryd.underlying31 rfl (by kernel_rfl)) ?_
  simp only [Act.put, List.setIfInBounds_toArray, List.set_cons_zero, List.set_cons_succ]
  refine wpG_tk (some 34) (v := .agg #[.int .i64 b1, .int .i64 b2, .int .i64 b3, .int .i64 b4, .int .i64 b5, .int .i64 b6]) rfl (.load_mid (by rfl) 31 (.tmp 5) rfl (w.heap.size + 1) 0 rfl [.int .i64 b1, .int .i64 b2, .int .i64 b3, .int .i64 b4, .int .i64 b5, .int .i64 b6] _ (fun W hg => (R1.out.below (GC11.out.trans hg)).range) Tryd.underlying31 rfl (by kernel_rfl)) ?_
  simp only [Act.put, List.setIfInBounds_toArray, List.set_cons_zero, List.set_cons_succ]
  refine wpG_tk (some 35) (v := .agg #[.int .i64 0, .int .i64 0, .int .i64 0, .int .i64 0, .int .i64 0, .int .i64 0]) rfl (.call (f := 35) (args := #[.agg #[.int .i64 a1, .int .i64 a2, .int .i64 a3, .int .i64 a4, .int .i64 a5, .int .i64 a6], .agg #[.int .i64 b1, .int .i64 b2, .int .i64 b3, .int .i64 b4, .int .i64 b5, .int .i64 b6]]) (by rfl) (fun W => by go_simp) (fun W hg => inter_t a1 a2 a3 a4 a5 a6 b1 b2 b3 b4 b5 b6 W (by omega) HM.out)) ?_
  simp only [Act.put, List.setIfInBounds_toArray, List.set_cons_zero, List.set_cons_succ]
  refine wpG_val (some 11) rfl (by rfl) (fun W12 hg13 => ⟨.pointer (some ⟨W12.heap.size, 0, none⟩), W12.alloc (.cells #[.int .i64 0, .int .i64 0, .int .i64 0, .int .i64 0, .int .i64 0, .int .i64 0] 31), by (go_simp <;> rfl), ?_⟩)
  simp only [Act.put, List.setIfInBounds_toArray, List.set_cons_zero, List.set_cons_succ]
  refine wpG_store (none) rfl (by rfl) (fun W14 hg15 => ⟨_, run_store_mid 31 (.tmp 11) (.tmp 35) rfl (W12.heap.size) 0 #[.int .i64 0, .int .i64 0, .int .i64 0, .int .i64 0, .int .i64 0, .int .i64 0] rfl rfl (Row.room hg15 6 rfl) (by kernel_rfl) (by kernel_rfl), ?_⟩)
  simp only [Act.put]
  refine wpG_done (fun V16 hv17 => ?_)
  have l19 : w.heap.size < W12.heap.size := (R0.out.below (GC11.out.trans hg13)).lt
  have l20 : w.heap.size + 1 < W12.heap.size := (R1.out.below (GC11.out.trans hg13)).lt
  have l21 : w.heap.size + 1 + 1 < W12.heap.size := (R2.out.below (GC11.out.trans hg13)).lt
  have l22 : w.heap.size + 1 + 1 + 1 < W12.heap.size := (R3.out.below (GC11.out.trans hg13)).lt
  have l23 : w.heap.size ≤ W12.heap.size := (Gr.to G0.out (GC11.out.trans hg13)).size
  have R24 := Lib.hid ((R0.out.below (GC11.out.trans hg13)).past hg15 hv17)
  have R25 := Lib.hid ((R1.out.below (GC11.out.trans hg13)).past hg15 hv17)
  have R26 := Lib.hid ((R2.out.below (GC11.out.trans hg13)).past hg15 hv17)
  have R27 := Lib.hid ((R3.out.below (GC11.out.trans hg13)).past hg15 hv17)
  have R28 := Lib.hid (Row.made (zs := [.int .i64 0, .int .i64 0, .int .i64 0, .int .i64 0, .int .i64 0, .int .i64 0]) (ds := [.int .i64 0, .int .i64 0, .int .i64 0, .int .i64 0, .int .i64 0, .int .i64 0]) rfl hg15 hv17)
  have G18 := Lib.hid (Gr.to (Gr.to G0.out (GC11.out.trans hg13)) (Gr.past hg15 hv17))
  have HT := Lib.hid (HT.out.below ((GC11.out.trans hg13).trans (Gr.past hg15 hv17)))
  clear hg15 hv17 
  go_upto_region 5 with fail
  refine wpK_region (by kernel_rfl) ?_
  refine wpK_tk (i := 0) (some 36) (v := .agg #[.int .i64 x1, .int .i64 x2, .int .i64 x3]) rfl rfl (by kernel_rfl) (fun _ _ _ h => h) (.load_mid (by rfl) 23 (.tmp 6) rfl (w.heap.size + 1 + 1) 0 rfl [.int .i64 x1, .int .i64 x2, .int .i64 x3] _ (fun W hg => (R26.out.below (Gr.un hg)).range) Tryd.underlying23 rfl (by kernel_rfl)) ?_
  simp only [Act.put, List.setIfInBounds_toArray, List.set_cons_zero, List.set_cons_succ]
  refine wpK_tk (i := 1) (some 37) (v := .agg #[.int .i64 0, .int .i64 0, .int .i64 0, .int .i64 0, .int .i64 0, .int .i64 0]) rfl rfl (by kernel_rfl) (fun _ _ _ h => h) (.load_mid (by rfl) 31 (.tmp 11) rfl (W12.heap.size) 0 rfl [.int .i64 0, .int .i64 0, .int .i64 0, .int .i64 0, .int .i64 0, .int .i64 0] _ (fun W hg => (R28.out.below (Gr.un hg)).range) Tryd.underlying31 rfl (by kernel_rfl)) ?_
  simp only [Act.put, List.setIfInBounds_toArray, List.set_cons_zero, List.set_cons_succ]
  refine wpK_tk (i := 2) (some 38) (v := .bool false) rfl rfl (by kernel_rfl) (fun _ _ _ h => h) (.call (f := 25) (args := #[.agg #[.int .i64 x1, .int .i64 x2, .int .i64 x3], .agg #[.int .i64 0, .int .i64 0, .int .i64 0, .int .i64 0, .int .i64 0, .int .i64 0]]) (by rfl) (fun W => by go_simp) (fun W hg => in_any x1 x2 x3 0 0 0 0 0 0 false W (Pt.inB_false.2 (by omega)))) ?_
  simp only [Act.put, List.setIfInBounds_toArray, List.set_cons_zero, List.set_cons_succ]
  refine wpK_ta (i := 3) (some 39) (v := .bool false) rfl rfl (by kernel_rfl) (fun _ _ _ h => h) (Or.inl ⟨rfl, fun _ => rfl⟩) ?_
  simp only [Act.put, List.setIfInBounds_toArray, List.set_cons_zero, List.set_cons_succ]
  refine wpK_ta (i := 4) (some 40) (v := .bool false) rfl rfl (by kernel_rfl) (fun _ _ _ h => h) (Or.inl ⟨rfl, fun _ => rfl⟩) ?_
  simp only [Act.put, List.setIfInBounds_toArray, List.set_cons_zero, List.set_cons_succ]
  refine wpK_ta (i := 5) (some 41) (v := undef) rfl rfl (by kernel_rfl) (fun _ _ _ h => h) (Or.inr ⟨by rfl, rfl⟩) ?_
  simp only [Act.put, List.setIfInBounds_toArray, List.set_cons_zero, List.set_cons_succ]
  refine wpK_ta (i := 6) (some 42) (v := .bool false) rfl rfl (by kernel_rfl) (fun _ _ _ h => h) (Or.inl ⟨by rfl, fun W => by go_simp⟩) ?_
  simp only [Act.put, List.setIfInBounds_toArray, List.set_cons_zero, List.set_cons_succ]
  refine wpK_ta (i := 7) (some 43) (v := .bool false) rfl rfl (by kernel_rfl) (fun _ _ _ h => h) (Or.inl ⟨by rfl, fun W => by go_simp⟩) ?_
  simp only [Act.put, List.setIfInBounds_toArray, List.set_cons_zero, List.set_cons_succ]
  refine wpK_ta (i := 8) (some 44) (v := .bool false) rfl rfl (by kernel_rfl) (fun _ _ _ h => h) (Or.inl ⟨rfl, fun _ => rfl⟩) ?_
  simp only [Act.put, List.setIfInBounds_toArray, List.set_cons_zero, List.set_cons_succ]
  refine wpK_ta (i := 9) (some 45) (v := .bool false) rfl rfl (by kernel_rfl) (fun _ _ _ h => h) (Or.inl ⟨rfl, fun _ => rfl⟩) ?_
  simp only [Act.put, List.setIfInBounds_toArray, List.set_cons_zero, List.set_cons_succ]
  refine wpK_ta (i := 10) (some 46) (v := .bool false) rfl rfl (by kernel_rfl) (fun _ _ _ h => h) (Or.inl ⟨rfl, fun _ => rfl⟩) ?_
  simp only [Act.put, List.setIfInBounds_toArray, List.set_cons_zero, List.set_cons_succ]
  refine wpK_ta (i := 11) (some 47) (v := .bool false) rfl rfl (by kernel_rfl) (fun _ _ _ h => h) (Or.inl ⟨rfl, fun _ => rfl⟩) ?_
  simp only [Act.put, List.setIfInBounds_toArray, List.set_cons_zero, List.set_cons_succ]
  refine wpK_ta (i := 12) (some 48) (v := .bool false) rfl rfl (by kernel_rfl) (fun _ _ _ h => h) (Or.inl ⟨by rfl, fun W => by go_simp⟩) ?_
  simp only [Act.put, List.setIfInBounds_toArray, List.set_cons_zero, List.set_cons_succ]
  refine wpK_ta (i := 13) (some 49) (v := .bool false) rfl rfl (by kernel_rfl) (fun _ _ _ h => h) (Or.inl ⟨rfl, fun _ => rfl⟩) ?_
  simp only [Act.put, List.setIfInBounds_toArray, List.set_cons_zero, List.set_cons_succ]
  refine wpK_ta (i := 14) (some 50) (v := undef) rfl rfl (by kernel_rfl) (fun _ _ _ h => h) (Or.inr ⟨by rfl, rfl⟩) ?_
  simp only [Act.put, List.setIfInBounds_toArray, List.set_cons_zero, List.set_cons_succ]
  refine wpK_ta (i := 15) (some 51) (v := undef) rfl rfl (by kernel_rfl) (fun _ _ _ h => h) (Or.inr ⟨by rfl, rfl⟩) ?_
  simp only [Act.put, List.setIfInBounds_toArray, List.set_cons_zero, List.set_cons_succ]
  refine wpK_ta (i := 16) (some 52) (v := undef) rfl rfl (by kernel_rfl) (fun _ _ _ h => h) (Or.inr ⟨by rfl, rfl⟩) ?_
  simp only [Act.put, List.setIfInBounds_toArray, List.set_cons_zero, List.set_cons_succ]
  refine wpK_ta (i := 17) (some 53) (v := undef) rfl rfl (by kernel_rfl) (fun _ _ _ h => h) (Or.inr ⟨by rfl, rfl⟩) ?_
  simp only [Act.put, List.setIfInBounds_toArray, List.set_cons_zero, List.set_cons_succ]
  refine wpK_ta (i := 18) (some 54) (v := undef) rfl rfl (by kernel_rfl) (fun _ _ _ h => h) (Or.inr ⟨by rfl, rfl⟩) ?_
  simp only [Act.put, List.setIfInBounds_toArray, List.set_cons_zero, List.set_cons_succ]
  refine wpK_ta (i := 19) (some 55) (v := undef) rfl rfl (by kernel_rfl) (fun _ _ _ h => h) (Or.inr ⟨by rfl, rfl⟩) ?_
  simp only [Act.put, List.setIfInBounds_toArray, List.set_cons_zero, List.set_cons_succ]
  refine wpK_ta (i := 20) (some 56) (v := .bool false) rfl rfl (by kernel_rfl) (fun _ _ _ h => h) (Or.inl ⟨by rfl, fun W => by go_simp⟩) ?_
  simp only [Act.put, List.setIfInBounds_toArray, List.set_cons_zero, List.set_cons_succ]
  refine wpK_ta (i := 21) (some 57) (v := .bool false) rfl rfl (by kernel_rfl) (fun _ _ _ h => h) (Or.inl ⟨by rfl, fun W => by go_simp⟩) ?_
  simp only [Act.put, List.setIfInBounds_toArray, List.set_cons_zero, List.set_cons_succ]
  refine wpK_ta (i := 22) (some 58) (v := .bool false) rfl rfl (by kernel_rfl) (fun _ _ _ h => h) (Or.inl ⟨rfl, fun _ => rfl⟩) ?_
  simp only [Act.put, List.setIfInBounds_toArray, List.set_cons_zero, List.set_cons_succ]
  refine wpK_tk (i := 23) (some 59) (v := .agg #[.int .i64 0, .int .i64 0, .int .i64 0, .int .i64 0, .int .i64 0, .int .i64 0]) rfl rfl (by kernel_rfl) (fun _ _ _ h => h) (.load_mid (by rfl) 31 (.tmp 11) rfl (W12.heap.size) 0 rfl [.int .i64 0, .int .i64 0, .int .i64 0, .int .i64 0, .int .i64 0, .int .i64 0] _ (fun W hg => (R28.out.below (Gr.un hg)).range) Tryd.underlying31 rfl (by kernel_rfl)) ?_
  simp only [Act.put, List.setIfInBounds_toArray, List.set_cons_zero, List.set_cons_succ]
  refine wpK_tk (i := 24) (some 60) (v := .int .i64 (Pt.vol 0 0 0 0 0 0)) rfl rfl (by kernel_rfl) (fun _ _ _ h => h) (.call (f := 29) (args := #[.agg #[.int .i64 0, .int .i64 0, .int .i64 0, .int .i64 0, .int .i64 0, .int .i64 0]]) (by rfl) (fun W => by go_simp) (fun W hg => volume_any 0 0 0 0 0 0 W (by omega))) ?_
  simp only [Act.put, List.setIfInBounds_toArray, List.set_cons_zero, List.set_cons_succ]
  refine wpK_tk (i := 25) (some 61) (v := .agg #[.int .i64 a1, .int .i64 a2, .int .i64 a3, .int .i64 a4, .int .i64 a5, .int .i64 a6]) rfl rfl (by kernel_rfl) (fun _ _ _ h => h) (.load_mid (by rfl) 31 (.tmp 4) rfl (w.heap.size) 0 rfl [.int .i64 a1, .int .i64 a2, .int .i64 a3, .int .i64 a4, .int .i64 a5, .int .i64 a6] _ (fun W hg => (R24.out.below (Gr.un hg)).range) Tryd.underlying31 rfl (by kernel_rfl)) ?_
  simp only [Act.put, List.setIfInBounds_toArray, List.set_cons_zero, List.set_cons_succ]
  refine wpK_tk (i := 26) (some 62) (v := .int .i64 (Pt.vol a1 a2 a3 a4 a5 a6)) rfl rfl (by kernel_rfl) (fun _ _ _ h => h) (.call (f := 29) (args := #[.agg #[.int .i64 a1, .int .i64 a2, .int .i64 a3, .int .i64 a4, .int .i64 a5, .int .i64 a6]]) (by rfl) (fun W => by go_simp) (fun W hg => volume_any a1 a2 a3 a4 a5 a6 W (by omega))) ?_
  simp only [Act.put, List.setIfInBounds_toArray, List.set_cons_zero, List.set_cons_succ]
  refine wpK_ta (i := 27) (some 63) (v := .bool false) rfl rfl (by kernel_rfl) (fun _ _ _ h => h) (Or.inl ⟨by rfl, fun W => by have hq : ¬ (Pt.vol 0 0 0 0 0 0 > Pt.vol a1 a2 a3 a4 a5 a6) := (by omega); first | (go_simp; done) | (go_simp <;> omega)⟩) ?_
  simp only [Act.put, List.setIfInBounds_toArray, List.set_cons_zero, List.set_cons_succ]
  refine wpK_ta (i := 28) (some 64) (v := .bool false) rfl rfl (by kernel_rfl) (fun _ _ _ h => h) (Or.inl ⟨by rfl, fun W => by go_simp⟩) ?_
  simp only [Act.put, List.setIfInBounds_toArray, List.set_cons_zero, List.set_cons_succ]
  refine wpK_done (by kernel_rfl) (fun V29 hv30 => ?_) _
  have GC31 := Lib.hid (Gr.un hv30)
  clear hv30
  go_upto_region 7 with fail
  refine wpG_region ?_
  refine wpG_tk (some 65) (v := .agg #[.int .i64 a1, .int .i64 a2, .int .i64 a3, .int .i64 a4, .int .i64 a5, .int .i64 a6]) rfl (.load_mid (by rfl) 31 (.tmp 4) rfl (w.heap.size) 0 rfl [.int .i64 a1, .int .i64 a2, .int .i64 a3, .int .i64 a4, .int .i64 a5, .int .i64 a6] _ (fun W hg => (R24.out.below (GC31.out.trans hg)).range) Tryd.underlying31 rfl (by kernel_rfl)) ?_
  simp only [Act.put, List.setIfInBounds_toArray, List.set_cons_zero, List.set_cons_succ]
  refine wpG_tk (some 66) (v := .agg #[.int .i64 b1, .int .i64 b2, .int .i64 b3, .int .i64 b4, .int .i64 b5, .int .i64 b6]) rfl (.load_mid (by rfl) 31 (.tmp 5) rfl (w.heap.size + 1) 0 rfl [.int .i64 b1, .int .i64 b2, .int .i64 b3, .int .i64 b4, .int .i64 b5, .int .i64 b6] _ (fun W hg => (R25.out.below (GC31.out.trans hg)).range) Tryd.underlying31 rfl (by kernel_rfl)) ?_
  simp only [Act.put, List.setIfInBounds_toArray, List.set_cons_zero, List.set_cons_succ]
  refine wpG_tk (some 67) (v := .bool true) rfl (.call (f := 39) (args := #[.agg #[.int .i64 a1, .int .i64 a2, .int .i64 a3, .int .i64 a4, .int .i64 a5, .int .i64 a6], .agg #[.int .i64 b1, .int .i64 b2, .int .i64 b3, .int .i64 b4, .int .i64 b5, .int .i64 b6]]) (by rfl) (fun W => by go_simp) (fun W hg => contains_e a1 a2 a3 a4 a5 a6 b1 b2 b3 b4 b5 b6 W (by omega) HB.out)) ?_
  simp only [Act.put, List.setIfInBounds_toArray, List.set_cons_zero, List.set_cons_succ]
  refine wpG_tk (some 12) (v := .bool true) rfl (.val (by rfl) (fun _ _ => rfl)) ?_
  simp only [Act.put, List.setIfInBounds_toArray, List.set_cons_zero, List.set_cons_succ]
  refine wpG_done (fun V32 hv33 => ?_)
  have GC34 := Lib.hid (GC31.out.trans hv33)
  clear hv33
  go_upto_region 8 with fail
  refine wpK_region (by kernel_rfl) ?_
  refine wpK_tk (i := 0) (some 68) (v := .bool true) rfl rfl (by kernel_rfl) (fun _ _ _ h => h) (.call (f := 12) (args := #[]) (by rfl) (fun W => by go_simp) (fun W hg => sanity_any W (HT.out.below (GC34.out.trans (Gr.un hg))))) ?_
  simp only [Act.put, List.setIfInBounds_toArray, List.set_cons_zero, List.set_cons_succ]
  refine wpK_ta (i := 1) (some 69) (v := .bool true) rfl rfl (by kernel_rfl) (fun _ _ _ h => h) (Or.inl ⟨rfl, fun _ => rfl⟩) ?_
  simp only [Act.put, List.setIfInBounds_toArray, List.set_cons_zero, List.set_cons_succ]
  refine wpK_ta (i := 2) (some 70) (v := .bool true) rfl rfl (by kernel_rfl) (fun _ _ _ h => h) (Or.inl ⟨rfl, fun _ => rfl⟩) ?_
  simp only [Act.put, List.setIfInBounds_toArray, List.set_cons_zero, List.set_cons_succ]
  refine wpK_tk (i := 3) (some 71) (v := .agg #[.int .i64 0, .int .i64 0, .int .i64 0, .int .i64 0, .int .i64 0, .int .i64 0]) rfl rfl (by kernel_rfl) (fun _ _ _ h => h) (.load_mid (by rfl) 31 (.tmp 11) rfl (W12.heap.size) 0 rfl [.int .i64 0, .int .i64 0, .int .i64 0, .int .i64 0, .int .i64 0, .int .i64 0] _ (fun W hg => (R28.out.below (GC34.out.trans (Gr.un hg))).range) Tryd.underlying31 rfl (by kernel_rfl)) ?_
  simp only [Act.put, List.setIfInBounds_toArray, List.set_cons_zero, List.set_cons_succ]
  refine wpK_tk (i := 4) (some 72) (v := .int .i64 (Pt.vol 0 0 0 0 0 0)) rfl rfl (by kernel_rfl) (fun _ _ _ h => h) (.call (f := 29) (args := #[.agg #[.int .i64 0, .int .i64 0, .int .i64 0, .int .i64 0, .int .i64 0, .int .i64 0]]) (by rfl) (fun W => by go_simp) (fun W hg => volume_any 0 0 0 0 0 0 W (by omega))) ?_
  simp only [Act.put, List.setIfInBounds_toArray, List.set_cons_zero, List.set_cons_succ]
  refine wpK_tk (i := 5) (some 73) (v := .agg #[.int .i64 b1, .int .i64 b2, .int .i64 b3, .int .i64 b4, .int .i64 b5, .int .i64 b6]) rfl rfl (by kernel_rfl) (fun _ _ _ h => h) (.load_mid (by rfl) 31 (.tmp 5) rfl (w.heap.size + 1) 0 rfl [.int .i64 b1, .int .i64 b2, .int .i64 b3, .int .i64 b4, .int .i64 b5, .int .i64 b6] _ (fun W hg => (R25.out.below (GC34.out.trans (Gr.un hg))).range) Tryd.underlying31 rfl (by kernel_rfl)) ?_
  simp only [Act.put, List.setIfInBounds_toArray, List.set_cons_zero, List.set_cons_succ]
  refine wpK_tk (i := 6) (some 74) (v := .int .i64 (Pt.vol b1 b2 b3 b4 b5 b6)) rfl rfl (by kernel_rfl) (fun _ _ _ h => h) (.call (f := 29) (args := #[.agg #[.int .i64 b1, .int .i64 b2, .int .i64 b3, .int .i64 b4, .int .i64 b5, .int .i64 b6]]) (by rfl) (fun W => by go_simp) (fun W hg => volume_any b1 b2 b3 b4 b5 b6 W (by omega))) ?_
  simp only [Act.put, List.setIfInBounds_toArray, List.set_cons_zero, List.set_cons_succ]
  refine wpK_ta (i := 7) (some 75) (v := .bool true) rfl rfl (by kernel_rfl) (fun _ _ _ h => h) (Or.inl ⟨by rfl, fun W => by have hq : (Pt.vol 0 0 0 0 0 0 = Pt.vol b1 b2 b3 b4 b5 b6) := (by omega); first | (go_simp; done) | (go_simp <;> omega)⟩) ?_
  simp only [Act.put, List.setIfInBounds_toArray, List.set_cons_zero, List.set_cons_succ]
  refine wpK_ta (i := 8) (some 76) (v := .bool true) rfl rfl (by kernel_rfl) (fun _ _ _ h => h) (Or.inl ⟨by rfl, fun W => by go_simp⟩) ?_
  simp only [Act.put, List.setIfInBounds_toArray, List.set_cons_zero, List.set_cons_succ]
  refine wpK_ta (i := 9) (some 77) (v := .bool true) rfl rfl (by kernel_rfl) (fun _ _ _ h => h) (Or.inl ⟨by rfl, fun W => by go_simp⟩) ?_
  simp only [Act.put, List.setIfInBounds_toArray, List.set_cons_zero, List.set_cons_succ]
  refine wpK_ta (i := 10) (some 78) (v := .bool true) rfl rfl (by kernel_rfl) (fun _ _ _ h => h) (Or.inl ⟨rfl, fun _ => rfl⟩) ?_
  simp only [Act.put, List.setIfInBounds_toArray, List.set_cons_zero, List.set_cons_succ]
  refine wpK_ta (i := 11) (some 79) (v := .bool true) rfl rfl (by kernel_rfl) (fun _ _ _ h => h) (Or.inl ⟨rfl, fun _ => rfl⟩) ?_
  simp only [Act.put, List.setIfInBounds_toArray, List.set_cons_zero, List.set_cons_succ]
  refine wpK_ta (i := 12) (some 80) (v := .bool false) rfl rfl (by kernel_rfl) (fun _ _ _ h => h) (Or.inl ⟨by rfl, fun W => by go_simp⟩) ?_
  simp only [Act.put, List.setIfInBounds_toArray, List.set_cons_zero, List.set_cons_succ]
  refine wpK_ta (i := 13) (some 81) (v := .bool false) rfl rfl (by kernel_rfl) (fun _ _ _ h => h) (Or.inl ⟨rfl, fun _ => rfl⟩) ?_
  simp only [Act.put, List.setIfInBounds_toArray, List.set_cons_zero, List.set_cons_succ]
  refine wpK_ta (i := 14) (some 82) (v := .bool false) rfl rfl (by kernel_rfl) (fun _ _ _ h => h) (Or.inl ⟨rfl, fun _ => rfl⟩) ?_
  simp only [Act.put, List.setIfInBounds_toArray, List.set_cons_zero, List.set_cons_succ]
  refine wpK_ta (i := 15) (some 83) (v := .bool true) rfl rfl (by kernel_rfl) (fun _ _ _ h => h) (Or.inl ⟨by rfl, fun W => by go_simp⟩) ?_
  simp only [Act.put, List.setIfInBounds_toArray, List.set_cons_zero, List.set_cons_succ]
  refine wpK_ta (i := 16) (some 84) (v := .bool true) rfl rfl (by kernel_rfl) (fun _ _ _ h => h) (Or.inl ⟨by rfl, fun W => by go_simp⟩) ?_
  simp only [Act.put, List.setIfInBounds_toArray, List.set_cons_zero, List.set_cons_succ]
  refine wpK_ta (i := 17) (some 85) (v := .bool true) rfl rfl (by kernel_rfl) (fun _ _ _ h => h) (Or.inl ⟨rfl, fun _ => rfl⟩) ?_
  simp only [Act.put, List.setIfInBounds_toArray, List.set_cons_zero, List.set_cons_succ]
  refine wpK_ta (i := 18) (some 86) (v := undef) rfl rfl (by kernel_rfl) (fun _ _ _ h => h) (Or.inr ⟨by rfl, rfl⟩) ?_
  simp only [Act.put, List.setIfInBounds_toArray, List.set_cons_zero, List.set_cons_succ]
  refine wpK_ta (i := 19) (some 87) (v := .bool true) rfl rfl (by kernel_rfl) (fun _ _ _ h => h) (Or.inl ⟨by rfl, fun W => by go_simp⟩) ?_
  simp only [Act.put, List.setIfInBounds_toArray, List.set_cons_zero, List.set_cons_succ]
  refine wpK_ta (i := 20) (some 88) (v := .bool true) rfl rfl (by kernel_rfl) (fun _ _ _ h => h) (Or.inl ⟨by rfl, fun W => by go_simp⟩) ?_
  simp only [Act.put, List.setIfInBounds_toArray, List.set_cons_zero, List.set_cons_succ]
  refine wpK_ta (i := 21) (some 89) (v := .bool true) rfl rfl (by kernel_rfl) (fun _ _ _ h => h) (Or.inl ⟨rfl, fun _ => rfl⟩) ?_
  simp only [Act.put, List.setIfInBounds_toArray, List.set_cons_zero, List.set_cons_succ]
  refine wpK_tk (i := 22) (some 90) (v := .agg #[.int .i64 x1, .int .i64 x2, .int .i64 x3]) rfl rfl (by kernel_rfl) (fun _ _ _ h => h) (.load_mid (by rfl) 23 (.tmp 6) rfl (w.heap.size + 1 + 1) 0 rfl [.int .i64 x1, .int .i64 x2, .int .i64 x3] _ (fun W hg => (R26.out.below (GC34.out.trans (Gr.un hg))).range) Tryd.underlying23 rfl (by kernel_rfl)) ?_
  simp only [Act.put, List.setIfInBounds_toArray, List.set_cons_zero, List.set_cons_succ]
  refine wpK_tk (i := 23) (some 91) (v := .agg #[.int .i64 y1, .int .i64 y2, .int .i64 y3]) rfl rfl (by kernel_rfl) (fun _ _ _ h => h) (.load_mid (by rfl) 23 (.tmp 7) rfl (w.heap.size + 1 + 1 + 1) 0 rfl [.int .i64 y1, .int .i64 y2, .int .i64 y3] _ (fun W hg => (R27.out.below (GC34.out.trans (Gr.un hg))).range) Tryd.underlying23 rfl (by kernel_rfl)) ?_
  simp only [Act.put, List.setIfInBounds_toArray, List.set_cons_zero, List.set_cons_succ]
  refine wpK_tk (i := 24) (some 92) (v := .agg #[.int .i64 (x1 + y1), .int .i64 (x2 + y2), .int .i64 (x3 + y3)]) rfl rfl (by kernel_rfl) (fun _ _ _ h => h) (.call (f := 13) (args := #[.agg #[.int .i64 x1, .int .i64 x2, .int .i64 x3], .agg #[.int .i64 y1, .int .i64 y2, .int .i64 y3]]) (by rfl) (fun W => by go_simp) (fun W hg => add_any x1 x2 x3 y1 y2 y3 W (by omega))) ?_
  simp only [Act.put, List.setIfInBounds_toArray, List.set_cons_zero, List.set_cons_succ]
  refine wpK_tk (i := 25) (some 93) (v := .agg #[.int .i64 a1, .int .i64 a2, .int .i64 a3, .int .i64 a4, .int .i64 a5, .int .i64 a6]) rfl rfl (by kernel_rfl) (fun _ _ _ h => h) (.load_mid (by rfl) 31 (.tmp 4) rfl (w.heap.size) 0 rfl [.int .i64 a1, .int .i64 a2, .int .i64 a3, .int .i64 a4, .int .i64 a5, .int .i64 a6] _ (fun W hg => (R24.out.below (GC34.out.trans (Gr.un hg))).range) Tryd.underlying31 rfl (by kernel_rfl)) ?_
  simp only [Act.put, List.setIfInBounds_toArray, List.set_cons_zero, List.set_cons_succ]
  refine wpK_tk (i := 26) (some 94) (v := .agg #[.int .i64 y1, .int .i64 y2, .int .i64 y3]) rfl rfl (by kernel_rfl) (fun _ _ _ h => h) (.load_mid (by rfl) 23 (.tmp 7) rfl (w.heap.size + 1 + 1 + 1) 0 rfl [.int .i64 y1, .int .i64 y2, .int .i64 y3] _ (fun W hg => (R27.out.below (GC34.out.trans (Gr.un hg))).range) Tryd.underlying23 rfl (by kernel_rfl)) ?_
  simp only [Act.put, List.setIfInBounds_toArray, List.set_cons_zero, List.set_cons_succ]
  refine wpK_tk (i := 27) (some 95) (v := .agg #[.int .i64 (a1 + y1), .int .i64 (a2 + y2), .int .i64 (a3 + y3), .int .i64 (a4 + y1), .int .i64 (a5 + y2), .int .i64 (a6 + y3)]) rfl rfl (by kernel_rfl) (fun _ _ _ h => h) (.call (f := 33) (args := #[.agg #[.int .i64 a1, .int .i64 a2, .int .i64 a3, .int .i64 a4, .int .i64 a5, .int .i64 a6], .agg #[.int .i64 y1, .int .i64 y2, .int .i64 y3]]) (by rfl) (fun W => by go_simp) (fun W hg => shift_any a1 a2 a3 a4 a5 a6 y1 y2 y3 W (by omega))) ?_
  simp only [Act.put, List.setIfInBounds_toArray, List.set_cons_zero, List.set_cons_succ]
  refine wpK_tk (i := 28) (some 96) (v := .bool false) rfl rfl (by kernel_rfl) (fun _ _ _ h => h) (.call (f := 25) (args := #[.agg #[.int .i64 (x1 + y1), .int .i64 (x2 + y2), .int .i64 (x3 + y3)], .agg #[.int .i64 (a1 + y1), .int .i64 (a2 + y2), .int .i64 (a3 + y3), .int .i64 (a4 + y1), .int .i64 (a5 + y2), .int .i64 (a6 + y3)]]) (by rfl) (fun W => by go_simp) (fun W hg => in_any (x1 + y1) (x2 + y2) (x3 + y3) (a1 + y1) (a2 + y2) (a3 + y3) (a4 + y1) (a5 + y2) (a6 + y3) false W (Pt.inB_false.2 (by omega)))) ?_
  simp only [Act.put, List.setIfInBounds_toArray, List.set_cons_zero, List.set_cons_succ]
  refine wpK_ta (i := 29) (some 97) (v := .bool false) rfl rfl (by kernel_rfl) (fun _ _ _ h => h) (Or.inl ⟨rfl, fun _ => rfl⟩) ?_
  simp only [Act.put, List.setIfInBounds_toArray, List.set_cons_zero, List.set_cons_succ]
  refine wpK_ta (i := 30) (some 98) (v := .bool true) rfl rfl (by kernel_rfl) (fun _ _ _ h => h) (Or.inl ⟨by rfl, fun W => by go_simp⟩) ?_
  simp only [Act.put, List.setIfInBounds_toArray, List.set_cons_zero, List.set_cons_succ]
  refine wpK_ta (i := 31) (some 99) (v := .bool true) rfl rfl (by kernel_rfl) (fun _ _ _ h => h) (Or.inl ⟨by rfl, fun W => by go_simp⟩) ?_
  simp only [Act.put, List.setIfInBounds_toArray, List.set_cons_zero, List.set_cons_succ]
  refine wpK_ta (i := 32) (some 100) (v := .bool true) rfl rfl (by kernel_rfl) (fun _ _ _ h => h) (Or.inl ⟨rfl, fun _ => rfl⟩) ?_
  simp only [Act.put, List.setIfInBounds_toArray, List.set_cons_zero, List.set_cons_succ]
  refine wpK_tk (i := 33) (some 101) (v := .agg #[.int .i64 a1, .int .i64 a2, .int .i64 a3, .int .i64 a4, .int .i64 a5, .int .i64 a6]) rfl rfl (by kernel_rfl) (fun _ _ _ h => h) (.load_mid (by rfl) 31 (.tmp 4) rfl (w.heap.size) 0 rfl [.int .i64 a1, .int .i64 a2, .int .i64 a3, .int .i64 a4, .int .i64 a5, .int .i64 a6] _ (fun W hg => (R24.out.below (GC34.out.trans (Gr.un hg))).range) Tryd.underlying31 rfl (by kernel_rfl)) ?_
  simp only [Act.put, List.setIfInBounds_toArray, List.set_cons_zero, List.set_cons_succ]
  refine wpK_tk (i := 34) (some 102) (v := .int .i64 (Pt.vol a1 a2 a3 a4 a5 a6)) rfl rfl (by kernel_rfl) (fun _ _ _ h => h) (.call (f := 29) (args := #[.agg #[.int .i64 a1, .int .i64 a2, .int .i64 a3, .int .i64 a4, .int .i64 a5, .int .i64 a6]]) (by rfl) (fun W => by go_simp) (fun W hg => volume_any a1 a2 a3 a4 a5 a6 W (by omega))) ?_
  simp only [Act.put, List.setIfInBounds_toArray, List.set_cons_zero, List.set_cons_succ]
  refine wpK_ta (i := 35) (some 103) (v := .bool false) rfl rfl (by kernel_rfl) (fun _ _ _ h => h) (Or.inl ⟨by rfl, fun W => by have hq : ¬ (Pt.vol a1 a2 a3 a4 a5 a6 = 0) := (by omega); first | (go_simp; done) | (go_simp <;> omega)⟩) ?_
  simp only [Act.put, List.setIfInBounds_toArray, List.set_cons_zero, List.set_cons_succ]
  refine wpK_tk (i := 36) (some 104) (v := .agg #[.int .i64 a1, .int .i64 a2, .int .i64 a3, .int .i64 a4, .int .i64 a5, .int .i64 a6]) rfl rfl (by kernel_rfl) (fun _ _ _ h => h) (.load_mid (by rfl) 31 (.tmp 4) rfl (w.heap.size) 0 rfl [.int .i64 a1, .int .i64 a2, .int .i64 a3, .int .i64 a4, .int .i64 a5, .int .i64 a6] _ (fun W hg => (R24.out.below (GC34.out.trans (Gr.un hg))).range) Tryd.underlying31 rfl (by kernel_rfl)) ?_
  simp only [Act.put, List.setIfInBounds_toArray, List.set_cons_zero, List.set_cons_succ]
  refine wpK_tk (i := 37) (some 105) (v := .bool false) rfl rfl (by kernel_rfl) (fun _ _ _ h => h) (.call (f := 23) (args := #[.agg #[.int .i64 a1, .int .i64 a2, .int .i64 a3, .int .i64 a4, .int .i64 a5, .int .i64 a6]]) (by rfl) (fun W => by go_simp) (fun W hg => empty_any a1 a2 a3 a4 a5 a6 false W HA.out)) ?_
  simp only [Act.put, List.setIfInBounds_toArray, List.set_cons_zero, List.set_cons_succ]
  refine wpK_ta (i := 38) (some 106) (v := .bool true) rfl rfl (by kernel_rfl) (fun _ _ _ h => h) (Or.inl ⟨by rfl, fun W => by go_simp⟩) ?_
  simp only [Act.put, List.setIfInBounds_toArray, List.set_cons_zero, List.set_cons_succ]
  refine wpK_ta (i := 39) (some 107) (v := .bool true) rfl rfl (by kernel_rfl) (fun _ _ _ h => h) (Or.inl ⟨by rfl, fun W => by go_simp⟩) ?_
  simp only [Act.put, List.setIfInBounds_toArray, List.set_cons_zero, List.set_cons_succ]
  refine wpK_ta (i := 40) (some 108) (v := .bool true) rfl rfl (by kernel_rfl) (fun _ _ _ h => h) (Or.inl ⟨rfl, fun _ => rfl⟩) ?_
  simp only [Act.put, List.setIfInBounds_toArray, List.set_cons_zero, List.set_cons_succ]
  refine wpK_tk (i := 41) (some 109) (v := .agg #[.int .i64 a1, .int .i64 a2, .int .i64 a3, .int .i64 a4, .int .i64 a5, .int .i64 a6]) rfl rfl (by kernel_rfl) (fun _ _ _ h => h) (.load_mid (by rfl) 31 (.tmp 4) rfl (w.heap.size) 0 rfl [.int .i64 a1, .int .i64 a2, .int .i64 a3, .int .i64 a4, .int .i64 a5, .int .i64 a6] _ (fun W hg => (R24.out.below (GC34.out.trans (Gr.un hg))).range) Tryd.underlying31 rfl (by kernel_rfl)) ?_
  simp only [Act.put, List.setIfInBounds_toArray, List.set_cons_zero, List.set_cons_succ]
  refine wpK_tk (i := 42) (some 110) (v := .agg #[.int .i64 b1, .int .i64 b2, .int .i64 b3, .int .i64 b4, .int .i64 b5, .int .i64 b6]) rfl rfl (by kernel_rfl) (fun _ _ _ h => h) (.load_mid (by rfl) 31 (.tmp 5) rfl (w.heap.size + 1) 0 rfl [.int .i64 b1, .int .i64 b2, .int .i64 b3, .int .i64 b4, .int .i64 b5, .int .i64 b6] _ (fun W hg => (R25.out.below (GC34.out.trans (Gr.un hg))).range) Tryd.underlying31 rfl (by kernel_rfl)) ?_
  simp only [Act.put, List.setIfInBounds_toArray, List.set_cons_zero, List.set_cons_succ]
  refine wpK_tk (i := 43) (some 111) (v := .agg #[.int .i64 a1, .int .i64 a2, .int .i64 a3, .int .i64 a4, .int .i64 a5, .int .i64 a6]) rfl rfl (by kernel_rfl) (fun _ _ _ h => h) (.call (f := 37) (args := #[.agg #[.int .i64 a1, .int .i64 a2, .int .i64 a3, .int .i64 a4, .int .i64 a5, .int .i64 a6], .agg #[.int .i64 b1, .int .i64 b2, .int .i64 b3, .int .i64 b4, .int .i64 b5, .int .i64 b6]]) (by rfl) (fun W => by go_simp) (fun W hg => hull_ft a1 a2 a3 a4 a5 a6 b1 b2 b3 b4 b5 b6 W (by omega) HA.out HB.out)) ?_
  simp only [Act.put, List.setIfInBounds_toArray, List.set_cons_zero, List.set_cons_succ]
  refine wpK_tk (i := 44) (some 112) (v := .agg #[.int .i64 a1, .int .i64 a2, .int .i64 a3, .int .i64 a4, .int .i64 a5, .int .i64 a6]) rfl rfl (by kernel_rfl) (fun _ _ _ h => h) (.load_mid (by rfl) 31 (.tmp 4) rfl (w.heap.size) 0 rfl [.int .i64 a1, .int .i64 a2, .int .i64 a3, .int .i64 a4, .int .i64 a5, .int .i64 a6] _ (fun W hg => (R24.out.below (GC34.out.trans (Gr.un hg))).range) Tryd.underlying31 rfl (by kernel_rfl)) ?_
  simp only [Act.put, List.setIfInBounds_toArray, List.set_cons_zero, List.set_cons_succ]
  refine wpK_tk (i := 45) (some 113) (v := .bool true) rfl rfl (by kernel_rfl) (fun _ _ _ h => h) (.call (f := 39) (args := #[.agg #[.int .i64 a1, .int .i64 a2, .int .i64 a3, .int .i64 a4, .int .i64 a5, .int .i64 a6], .agg #[.int .i64 a1, .int .i64 a2, .int .i64 a3, .int .i64 a4, .int .i64 a5, .int .i64 a6]]) (by rfl) (fun W => by go_simp) (fun W hg => contains_y a1 a2 a3 a4 a5 a6 a1 a2 a3 a4 a5 a6 W (by omega) HA.out (by unfold Pt.meet; exact Pt.emp_false.2 (by omega)) (by omega))) ?_
  simp only [Act.put, List.setIfInBounds_toArray, List.set_cons_zero, List.set_cons_succ]
  refine wpK_ta (i := 46) (some 114) (v := .bool true) rfl rfl (by kernel_rfl) (fun _ _ _ h => h) (Or.inl ⟨by rfl, fun W => by go_simp⟩) ?_
  simp only [Act.put, List.setIfInBounds_toArray, List.set_cons_zero, List.set_cons_succ]
  refine wpK_ta (i := 47) (some 8) (v := .bool true) rfl rfl (by kernel_rfl) (fun _ _ _ h => h) (Or.inl ⟨rfl, fun _ => rfl⟩) ?_
  simp only [Act.put, List.setIfInBounds_toArray, List.set_cons_zero, List.set_cons_succ]
  refine wpK_done (by kernel_rfl) (fun V35 hv36 => ?_) _
  have GC37 := Lib.hid (GC34.out.trans (Gr.un hv36))
  clear hv36
  go_wp2_with fail
  go_ret
  exact ⟨rfl, Gr.to G18.out GC37.out⟩
set_option maxRecDepth 1000000 in
set_option maxHeartbeats 8000000 in
theorem law8_fffytf (a1 a2 a3 a4 a5 a6 b1 b2 b3 b4 b5 b6 x1 x2 x3 y1 y2 y3 : Int) (w : World) (hT : Tab w) (i1 : In64 (a1, a2, a3)) (i2 : In64 (a4, a5, a6)) (i3 : In64 (b1, b2, b3)) (i4 : In64 (b4, b5, b6)) (i5 : In64 (x1, x2, x3)) (i6 : In64 (y1, y2, y3)) (hs : [(a1, a2, a3), (a4, a5, a6), (b1, b2, b3), (b4, b5, b6), (x1, x2, x3), (y1, y2, y3)].all inI = true) (ha : Pt.emp a1 a2 a3 a4 a5 a6 = false) (hb : Pt.emp b1 b2 b3 b4 b5 b6 = false) (hm : Pt.meet a1 a2 a3 a4 a5 a6 b1 b2 b3 b4 b5 b6 = false) (hc : max a1 b1 = b1 ∧ max a2 b2 = b2 ∧ max a3 b3 = b3 ∧ min a4 b4 = b4 ∧ min a5 b5 = b5 ∧ min a6 b6 = b6) (hia : Pt.inB x1 x2 x3 a1 a2 a3 a4 a5 a6 = true) (hib : Pt.inB x1 x2 x3 b1 b2 b3 b4 b5 b6 = false) :
    Calls Tryd.prog 8 #[.agg #[.int .i64 a1, .int .i64 a2, .int .i64 a3, .int .i64 a4, .int .i64 a5, .int .i64 a6], .agg #[.int .i64 b1, .int .i64 b2, .int .i64 b3, .int .i64 b4, .int .i64 b5, .int .i64 b6], .agg #[.int .i64 x1, .int .i64 x2, .int .i64 x3], .agg #[.int .i64 y1, .int .i64 y2, .int .i64 y3]] w fun e w' => e = .returned (.bool true) ∧ Below w.heap.size w w' := by
  have bb := hs
  simp only [List.all_cons, List.all_nil, Bool.and_true, Bool.and_eq_true, inI_true] at bb
  have fa := Pt.emp_false.1 ha
  have fb := Pt.emp_false.1 hb
  have fm := Pt.emp_false.1 (show Pt.emp (max a1 b1) (max a2 b2) (max a3 b3) (min a4 b4) (min a5 b5) (min a6 b6) = false from hm)
  have fia := Pt.inB_true.1 hia
  have fib := Pt.inB_false.1 hib
  have v1 : ¬ (Pt.vol a1 a2 a3 a4 a5 a6 = 0) := by rw [Pt.vol_zero, ha]; decide
  have v0 := Pt.vol_nonneg a1 a2 a3 a4 a5 a6
  have v2 : Pt.vol (max a1 b1) (max a2 b2) (max a3 b3) (min a4 b4) (min a5 b5) (min a6 b6) ≤ Pt.vol a1 a2 a3 a4 a5 a6 := Pt.sub_vol hm (by omega) (by omega) (by omega) (by omega) (by omega) (by omega)
  have v3 : Pt.vol (max a1 b1) (max a2 b2) (max a3 b3) (min a4 b4) (min a5 b5) (min a6 b6) = Pt.vol b1 b2 b3 b4 b5 b6 := by rw [hc.1, hc.2.1, hc.2.2.1, hc.2.2.2.1, hc.2.2.2.2.1, hc.2.2.2.2.2]
  have HS := Lib.hid hs
  have HA := Lib.hid ha
  have HB := Lib.hid hb
  have HM := Lib.hid hm
  have HIA := Lib.hid hia
  have HIB := Lib.hid hib
  have HC := Lib.hid hc
  clear hs ha hb hm hia hib hc
  obtain ⟨u, hu, r0, r1, r2, r3, g0⟩ := rows4 w [.int .i64 a1, .int .i64 a2, .int .i64 a3, .int .i64 a4, .int .i64 a5, .int .i64 a6] 31 [.int .i64 b1, .int .i64 b2, .int .i64 b3, .int .i64 b4, .int .i64 b5, .int .i64 b6] 31 [.int .i64 x1, .int .i64 x2, .int .i64 x3] 23 [.int .i64 y1, .int .i64 y2, .int .i64 y3] 23
  have R0 := Lib.hid r0
  have R1 := Lib.hid r1
  have R2 := Lib.hid r2
  have R3 := Lib.hid r3
  have G0 := Lib.hid g0
  have HU := Lib.hid hu
  have HT := Lib.hid (hT.below g0)
  clear hT
  clear hu g0 r0 r1 r2 r3
  go_enter Tryd.func8, Tryd.ntmps8
  go_upto_region 1 with fail
  rw [← HU.out]
  refine wpG_region ?_
  refine wpG_tk (some 13) (v := .pointer (some ⟨w.heap.size, 0, none⟩)) rfl (.val (by rfl) (fun W hg => by go_simp)) ?_
  simp only [Act.put, List.setIfInBounds_toArray, List.set_cons_zero, List.set_cons_succ]
  refine wpG_tk (some 14) (v := .agg #[.int .i64 a1, .int .i64 a2, .int .i64 a3]) rfl (.load_mid (by rfl) 23 (.tmp 13) rfl (w.heap.size) 0 rfl [.int .i64 a1, .int .i64 a2, .int .i64 a3] _ (fun W hg => (R0.out.below hg).lo) Tryd.underlying23 rfl (by kernel_rfl)) ?_
  simp only [Act.put, List.setIfInBounds_toArray, List.set_cons_zero, List.set_cons_succ]
  refine wpG_tk (some 15) (v := .pointer (some ⟨w.heap.size, 3, none⟩)) rfl (.val (by rfl) (fun W hg => by go_simp)) ?_
  simp only [Act.put, List.setIfInBounds_toArray, List.set_cons_zero, List.set_cons_succ]
  refine wpG_tk (some 16) (v := .agg #[.int .i64 a4, .int .i64 a5, .int .i64 a6]) rfl (.load_mid (by rfl) 23 (.tmp 15) rfl (w.heap.size) 3 rfl [.int .i64 a4, .int .i64 a5, .int .i64 a6] _ (fun W hg => (R0.out.below hg).hi) Tryd.underlying23 rfl (by kernel_rfl)) ?_
  simp only [Act.put, List.setIfInBounds_toArray, List.set_cons_zero, List.set_cons_succ]
  refine wpG_tk (some 17) (v := .pointer (some ⟨w.heap.size + 1, 0, none⟩)) rfl (.val (by rfl) (fun W hg => by go_simp)) ?_
  simp only [Act.put, List.setIfInBounds_toArray, List.set_cons_zero, List.set_cons_succ]
  refine wpG_tk (some 18) (v := .agg #[.int .i64 b1, .int .i64 b2, .int .i64 b3]) rfl (.load_mid (by rfl) 23 (.tmp 17) rfl (w.heap.size + 1) 0 rfl [.int .i64 b1, .int .i64 b2, .int .i64 b3] _ (fun W hg => (R1.out.below hg).lo) Tryd.underlying23 rfl (by kernel_rfl)) ?_
  simp only [Act.put, List.setIfInBounds_toArray, List.set_cons_zero, List.set_cons_succ]
  refine wpG_tk (some 19) (v := .pointer (some ⟨w.heap.size + 1, 3, none⟩)) rfl (.val (by rfl) (fun W hg => by go_simp)) ?_
  simp only [Act.put, List.setIfInBounds_toArray, List.set_cons_zero, List.set_cons_succ]
  refine wpG_tk (some 20) (v := .agg #[.int .i64 b4, .int .i64 b5, .int .i64 b6]) rfl (.load_mid (by rfl) 23 (.tmp 19) rfl (w.heap.size + 1) 3 rfl [.int .i64 b4, .int .i64 b5, .int .i64 b6] _ (fun W hg => (R1.out.below hg).hi) Tryd.underlying23 rfl (by kernel_rfl)) ?_
  simp only [Act.put, List.setIfInBounds_toArray, List.set_cons_zero, List.set_cons_succ]
  refine wpG_tk (some 21) (v := .agg #[.int .i64 x1, .int .i64 x2, .int .i64 x3]) rfl (.load_mid (by rfl) 23 (.tmp 6) rfl (w.heap.size + 1 + 1) 0 rfl [.int .i64 x1, .int .i64 x2, .int .i64 x3] _ (fun W hg => (R2.out.below hg).range) Tryd.underlying23 rfl (by kernel_rfl)) ?_
  simp only [Act.put, List.setIfInBounds_toArray, List.set_cons_zero, List.set_cons_succ]
  refine wpG_tk (some 22) (v := .agg #[.int .i64 y1, .int .i64 y2, .int .i64 y3]) rfl (.load_mid (by rfl) 23 (.tmp 7) rfl (w.heap.size + 1 + 1 + 1) 0 rfl [.int .i64 y1, .int .i64 y2, .int .i64 y3] _ (fun W hg => (R3.out.below hg).range) Tryd.underlying23 rfl (by kernel_rfl)) ?_
  simp only [Act.put, List.setIfInBounds_toArray, List.set_cons_zero, List.set_cons_succ]
  refine wpG_val (some 23) rfl (by rfl) (fun W1 hg2 => ⟨.slice (some ⟨W1.heap.size, 0, none⟩) 6 6, W1.alloc (.cells #[.int .i64 a1, .int .i64 a2, .int .i64 a3, .int .i64 a4, .int .i64 a5, .int .i64 a6, .int .i64 b1, .int .i64 b2, .int .i64 b3, .int .i64 b4, .int .i64 b5, .int .i64 b6, .int .i64 x1, .int .i64 x2, .int .i64 x3, .int .i64 y1, .int .i64 y2, .int .i64 y3] 23), by (go_simp <;> rfl), ?_⟩)
  simp only [Act.put, List.setIfInBounds_toArray, List.set_cons_zero, List.set_cons_succ]
  obtain ⟨U3, hu, rn, gn⟩ : ∃ z, z = W1.alloc (.cells #[.int .i64 a1, .int .i64 a2, .int .i64 a3, .int .i64 a4, .int .i64 a5, .int .i64 a6, .int .i64 b1, .int .i64 b2, .int .i64 b3, .int .i64 b4, .int .i64 b5, .int .i64 b6, .int .i64 x1, .int .i64 x2, .int .i64 x3, .int .i64 y1, .int .i64 y2, .int .i64 y3] 23) ∧ Row W1.heap.size [.int .i64 a1, .int .i64 a2, .int .i64 a3, .int .i64 a4, .int .i64 a5, .int .i64 a6, .int .i64 b1, .int .i64 b2, .int .i64 b3, .int .i64 b4, .int .i64 b5, .int .i64 b6, .int .i64 x1, .int .i64 x2, .int .i64 x3, .int .i64 y1, .int .i64 y2, .int .i64 y3] z ∧ Gr W1 z := ⟨_, rfl, Row.newl W1 [.int .i64 a1, .int .i64 a2, .int .i64 a3, .int .i64 a4, .int .i64 a5, .int .i64 a6, .int .i64 b1, .int .i64 b2, .int .i64 b3, .int .i64 b4, .int .i64 b5, .int .i64 b6, .int .i64 x1, .int .i64 x2, .int .i64 x3, .int .i64 y1, .int .i64 y2, .int .i64 y3] 23, Gr.al _ _⟩
  rw [← hu]
  have RN4 := Lib.hid rn
  have GB5 := Lib.hid (Gr.trans hg2 gn)
  clear hu rn gn hg2
  refine wpG_tk (some 24) (v := .bool true) rfl (.call (f := 61) (args := #[.slice (some ⟨W1.heap.size, 0, none⟩) 6 6]) (by rfl) (fun W => by go_simp) (fun W hg => inner_is [(a1, a2, a3), (a4, a5, a6), (b1, b2, b3), (b4, b5, b6), (x1, x2, x3), (y1, y2, y3)] W1.heap.size 6 true W rfl (by decide) (RN4.out.below hg) (List.forall_mem_cons.2 ⟨i1, (List.forall_mem_cons.2 ⟨i2, (List.forall_mem_cons.2 ⟨i3, (List.forall_mem_cons.2 ⟨i4, (List.forall_mem_cons.2 ⟨i5, (List.forall_mem_cons.2 ⟨i6, (fun _ h => absurd h List.not_mem_nil)⟩)⟩)⟩)⟩)⟩)⟩) HS.out)) ?_
  simp only [Act.put, List.setIfInBounds_toArray, List.set_cons_zero, List.set_cons_succ]
  refine wpG_tk (some 25) (v := .bool false) rfl (.val (by rfl) (fun W hg => by go_simp)) ?_
  simp only [Act.put, List.setIfInBounds_toArray, List.set_cons_zero, List.set_cons_succ]
  refine wpG_done (fun V6 hv7 => ?_)
  have GC8 := Lib.hid (GB5.out.trans hv7)
  clear hv7
  go_upto_region 3 with fail
  refine wpK_region (by kernel_rfl) ?_
  refine wpK_tk (i := 0) (some 27) (v := .agg #[.int .i64 x1, .int .i64 x2, .int .i64 x3]) rfl rfl (by kernel_rfl) (fun _ _ _ h => h) (.load_mid (by rfl) 23 (.tmp 6) rfl (w.heap.size + 1 + 1) 0 rfl [.int .i64 x1, .int .i64 x2, .int .i64 x3] _ (fun W hg => (R2.out.below (GC8.out.trans (Gr.un hg))).range) Tryd.underlying23 rfl (by kernel_rfl)) ?_
  simp only [Act.put, List.setIfInBounds_toArray, List.set_cons_zero, List.set_cons_succ]
  refine wpK_tk (i := 1) (some 28) (v := .agg #[.int .i64 a1, .int .i64 a2, .int .i64 a3, .int .i64 a4, .int .i64 a5, .int .i64 a6]) rfl rfl (by kernel_rfl) (fun _ _ _ h => h) (.load_mid (by rfl) 31 (.tmp 4) rfl (w.heap.size) 0 rfl [.int .i64 a1, .int .i64 a2, .int .i64 a3, .int .i64 a4, .int .i64 a5, .int .i64 a6] _ (fun W hg => (R0.out.below (GC8.out.trans (Gr.un hg))).range) Tryd.underlying31 rfl (by kernel_rfl)) ?_
  simp only [Act.put, List.setIfInBounds_toArray, List.set_cons_zero, List.set_cons_succ]
  refine wpK_tk (i := 2) (some 29) (v := .bool true) rfl rfl (by kernel_rfl) (fun _ _ _ h => h) (.call (f := 25) (args := #[.agg #[.int .i64 x1, .int .i64 x2, .int .i64 x3], .agg #[.int .i64 a1, .int .i64 a2, .int .i64 a3, .int .i64 a4, .int .i64 a5, .int .i64 a6]]) (by rfl) (fun W => by go_simp) (fun W hg => in_any x1 x2 x3 a1 a2 a3 a4 a5 a6 true W HIA.out)) ?_
  simp only [Act.put, List.setIfInBounds_toArray, List.set_cons_zero, List.set_cons_succ]
  refine wpK_tk (i := 3) (some 30) (v := .agg #[.int .i64 x1, .int .i64 x2, .int .i64 x3]) rfl rfl (by kernel_rfl) (fun _ _ _ h => h) (.load_mid (by rfl) 23 (.tmp 6) rfl (w.heap.size + 1 + 1) 0 rfl [.int .i64 x1, .int .i64 x2, .int .i64 x3] _ (fun W hg => (R2.out.below (GC8.out.trans (Gr.un hg))).range) Tryd.underlying23 rfl (by kernel_rfl)) ?_
  simp only [Act.put, List.setIfInBounds_toArray, List.set_cons_zero, List.set_cons_succ]
  refine wpK_tk (i := 4) (some 31) (v := .agg #[.int .i64 b1, .int .i64 b2, .int .i64 b3, .int .i64 b4, .int .i64 b5, .int .i64 b6]) rfl rfl (by kernel_rfl) (fun _ _ _ h => h) (.load_mid (by rfl) 31 (.tmp 5) rfl (w.heap.size + 1) 0 rfl [.int .i64 b1, .int .i64 b2, .int .i64 b3, .int .i64 b4, .int .i64 b5, .int .i64 b6] _ (fun W hg => (R1.out.below (GC8.out.trans (Gr.un hg))).range) Tryd.underlying31 rfl (by kernel_rfl)) ?_
  simp only [Act.put, List.setIfInBounds_toArray, List.set_cons_zero, List.set_cons_succ]
  refine wpK_tk (i := 5) (some 32) (v := .bool false) rfl rfl (by kernel_rfl) (fun _ _ _ h => h) (.call (f := 25) (args := #[.agg #[.int .i64 x1, .int .i64 x2, .int .i64 x3], .agg #[.int .i64 b1, .int .i64 b2, .int .i64 b3, .int .i64 b4, .int .i64 b5, .int .i64 b6]]) (by rfl) (fun W => by go_simp) (fun W hg => in_any x1 x2 x3 b1 b2 b3 b4 b5 b6 false W HIB.out)) ?_
  simp only [Act.put, List.setIfInBounds_toArray, List.set_cons_zero, List.set_cons_succ]
  refine wpK_ta (i := 6) (some 9) (v := .bool true) rfl rfl (by kernel_rfl) (fun _ _ _ h => h) (Or.inl ⟨rfl, fun _ => rfl⟩) ?_
  simp only [Act.put, List.setIfInBounds_toArray, List.set_cons_zero, List.set_cons_succ]
  refine wpK_ta (i := 7) (some 10) (v := .bool false) rfl rfl (by kernel_rfl) (fun _ _ _ h => h) (Or.inl ⟨rfl, fun _ => rfl⟩) ?_
  simp only [Act.put, List.setIfInBounds_toArray, List.set_cons_zero, List.set_cons_succ]
  refine wpK_done (by kernel_rfl) (fun V9 hv10 => ?_) _
  have GC11 := Lib.hid (GC8.out.trans (Gr.un hv10))
  clear hv10
  go_upto_region 4 with fail
  refine wpG_region ?_
  refine wpG_tk (some 33) (v := .agg #[.int .i64 a1, .int .i64 a2, .int .i64 a3, .int .i64 a4, .int .i64 a5, .int .i64 a6]) rfl (.load_mid (by rfl) 31 (.tmp 4) rfl (w.heap.size) 0 rfl [.int .i64 a1, .int .i64 a2, .int .i64 a3, .int .i64 a4, .int .i64 a5, .int .i64 a6] _ (fun W hg => (R0.out.below (GC11.out.trans hg)).range) Tryd.underlying31 rfl (by kernel_rfl)) ?_
  simp only [Act.put, List.setIfInBounds_toArray, List.set_cons_zero, List.set_cons_succ]
  refine wpG_tk (some 34) (v := .agg #[.int .i64 b1, .int .i64 b2, .int .i64 b3, .int .i64 b4, .int .i64 b5, .int .i64 b6]) rfl (.load_mid (by rfl) 31 (.tmp 5) rfl (w.heap.size + 1) 0 rfl [.int .i64 b1, .int .i64 b2, .int .i64 b3, .int .i64 b4, .int .i64 b5, .int .i64 b6] _ (fun W hg => (R1.out.below (GC11.out.trans hg)).range) Tryd.underlying31 rfl (by kernel_rfl)) ?_
  simp only [Act.put, List.setIfInBounds_toArray, List.set_cons_zero, List.set_cons_succ]
  refine wpG_tk (some 35) (v := .agg #[.int .i64 (max a1 b1), .int .i64 (max a2 b2), .int .i64 (max a3 b3), .int .i64 (min a4 b4), .int .i64 (min a5 b5), .int .i64 (min a6 b6)]) rfl (.call (f := 35) (args := #[.agg #[.int .i64 a1, .int .i64 a2, .int .i64 a3, .int .i64 a4, .int .i64 a5, .int .i64 a6], .agg #[.int .i64 b1, .int .i64 b2, .int .i64 b3, .int .i64 b4, .int .i64 b5, .int .i64 b6]]) (by rfl) (fun W => by go_simp) (fun W hg => inter_f a1 a2 a3 a4 a5 a6 b1 b2 b3 b4 b5 b6 W (by omega) HM.out)) ?_
  simp only [Act.put, List.setIfInBounds_toArray, List.set_cons_zero, List.set_cons_succ]
  refine wpG_val (some 11) rfl (by rfl) (fun W12 hg13 => ⟨.pointer (some ⟨W12.heap.size, 0, none⟩), W12.alloc (.cells #[.int .i64 0, .int .i64 0, .int .i64 0, .int .i64 0, .int .i64 0, .int .i64 0] 31), by (go_simp <;> rfl), ?_⟩)
  simp only [Act.put, List.setIfInBounds_toArray, List.set_cons_zero, List.set_cons_succ]
  refine wpG_store (none) rfl (by rfl) (fun W14 hg15 => ⟨_, run_store_mid 31 (.tmp 11) (.tmp 35) rfl (W12.heap.size) 0 #[.int .i64 (max a1 b1), .int .i64 (max a2 b2), .int .i64 (max a3 b3), .int .i64 (min a4 b4), .int .i64 (min a5 b5), .int .i64 (min a6 b6)] rfl rfl (Row.room hg15 6 rfl) (by kernel_rfl) (by kernel_rfl), ?_⟩)
  simp only [Act.put]
  refine wpG_done (fun V16 hv17 => ?_)
  have l19 : w.heap.size < W12.heap.size := (R0.out.below (GC11.out.trans hg13)).lt
  have l20 : w.heap.size + 1 < W12.heap.size := (R1.out.below (GC11.out.trans hg13)).lt
  have l21 : w.heap.size + 1 + 1 < W12.heap.size := (R2.out.below (GC11.out.trans hg13)).lt
  have l22 : w.heap.size + 1 + 1 + 1 < W12.heap.size := (R3.out.below (GC11.out.trans hg13)).lt
  have l23 : w.heap.size ≤ W12.heap.size := (Gr.to G0.out (GC11.out.trans hg13)).size
  have R24 := Lib.hid ((R0.out.below (GC11.out.trans hg13)).past hg15 hv17)
  have R25 := Lib.hid ((R1.out.below (GC11.out.trans hg13)).past hg15 hv17)
  have R26 := Lib.hid ((R2.out.below (GC11.out.trans hg13)).past hg15 hv17)
  have R27 := Lib.hid ((R3.out.below (GC11.out.trans hg13)).past hg15 hv17)
  have R28 := Lib.hid (Row.made (zs := [.int .i64 0, .int .i64 0, .int .i64 0, .int .i64 0, .int .i64 0, .int .i64 0]) (ds := [.int .i64 (max a1 b1), .int .i64 (max a2 b2), .int .i64 (max a3 b3), .int .i64 (min a4 b4), .int .i64 (min a5 b5), .int .i64 (min a6 b6)]) rfl hg15 hv17)
  have G18 := Lib.hid (Gr.to (Gr.to G0.out (GC11.out.trans hg13)) (Gr.past hg15 hv17))
  have HT := Lib.hid (HT.out.below ((GC11.out.trans hg13).trans (Gr.past hg15 hv17)))
  clear hg15 hv17 
  go_upto_region 5 with fail
  refine wpK_region (by kernel_rfl) ?_
  refine wpK_tk (i := 0) (some 36) (v := .agg #[.int .i64 x1, .int .i64 x2, .int .i64 x3]) rfl rfl (by kernel_rfl) (fun _ _ _ h => h) (.load_mid (by rfl) 23 (.tmp 6) rfl (w.heap.size + 1 + 1) 0 rfl [.int .i64 x1, .int .i64 x2, .int .i64 x3] _ (fun W hg => (R26.out.below (Gr.un hg)).range) Tryd.underlying23 rfl (by kernel_rfl)) ?_
  simp only [Act.put, List.setIfInBounds_toArray, List.set_cons_zero, List.set_cons_succ]
  refine wpK_tk (i := 1) (some 37) (v := .agg #[.int .i64 (max a1 b1), .int .i64 (max a2 b2), .int .i64 (max a3 b3), .int .i64 (min a4 b4), .int .i64 (min a5 b5), .int .i64 (min a6 b6)]) rfl rfl (by kernel_rfl) (fun _ _ _ h => h) (.load_mid (by rfl) 31 (.tmp 11) rfl (W12.heap.size) 0 rfl [.int .i64 (max a1 b1), .int .i64 (max a2 b2), .int .i64 (max a3 b3), .int .i64 (min a4 b4), .int .i64 (min a5 b5), .int .i64 (min a6 b6)] _ (fun W hg => (R28.out.below (Gr.un hg)).range) Tryd.underlying31 rfl (by kernel_rfl)) ?_
  simp only [Act.put, List.setIfInBounds_toArray, List.set_cons_zero, List.set_cons_succ]
  refine wpK_tk (i := 2) (some 38) (v := .bool false) rfl rfl (by kernel_rfl) (fun _ _ _ h => h) (.call (f := 25) (args := #[.agg #[.int .i64 x1, .int .i64 x2, .int .i64 x3], .agg #[.int .i64 (max a1 b1), .int .i64 (max a2 b2), .int .i64 (max a3 b3), .int .i64 (min a4 b4), .int .i64 (min a5 b5), .int .i64 (min a6 b6)]]) (by rfl) (fun W => by go_simp) (fun W hg => in_any x1 x2 x3 (max a1 b1) (max a2 b2) (max a3 b3) (min a4 b4) (min a5 b5) (min a6 b6) false W (Pt.inB_false.2 (by omega)))) ?_
  simp only [Act.put, List.setIfInBounds_toArray, List.set_cons_zero, List.set_cons_succ]
  refine wpK_ta (i := 3) (some 39) (v := .bool true) rfl rfl (by kernel_rfl) (fun _ _ _ h => h) (Or.inl ⟨rfl, fun _ => rfl⟩) ?_
  simp only [Act.put, List.setIfInBounds_toArray, List.set_cons_zero, List.set_cons_succ]
  refine wpK_ta (i := 4) (some 40) (v := .bool true) rfl rfl (by kernel_rfl) (fun _ _ _ h => h) (Or.inl ⟨rfl, fun _ => rfl⟩) ?_
  simp only [Act.put, List.setIfInBounds_toArray, List.set_cons_zero, List.set_cons_succ]
  refine wpK_ta (i := 5) (some 41) (v := .bool false) rfl rfl (by kernel_rfl) (fun _ _ _ h => h) (Or.inl ⟨rfl, fun _ => rfl⟩) ?_
  simp only [Act.put, List.setIfInBounds_toArray, List.set_cons_zero, List.set_cons_succ]
  refine wpK_ta (i := 6) (some 42) (v := .bool false) rfl rfl (by kernel_rfl) (fun _ _ _ h => h) (Or.inl ⟨by rfl, fun W => by go_simp⟩) ?_
  simp only [Act.put, List.setIfInBounds_toArray, List.set_cons_zero, List.set_cons_succ]
  refine wpK_ta (i := 7) (some 43) (v := .bool false) rfl rfl (by kernel_rfl) (fun _ _ _ h => h) (Or.inl ⟨by rfl, fun W => by go_simp⟩) ?_
  simp only [Act.put, List.setIfInBounds_toArray, List.set_cons_zero, List.set_cons_succ]
  refine wpK_ta (i := 8) (some 44) (v := .bool false) rfl rfl (by kernel_rfl) (fun _ _ _ h => h) (Or.inl ⟨rfl, fun _ => rfl⟩) ?_
  simp only [Act.put, List.setIfInBounds_toArray, List.set_cons_zero, List.set_cons_succ]
  refine wpK_ta (i := 9) (some 45) (v := .bool true) rfl rfl (by kernel_rfl) (fun _ _ _ h => h) (Or.inl ⟨rfl, fun _ => rfl⟩) ?_
  simp only [Act.put, List.setIfInBounds_toArray, List.set_cons_zero, List.set_cons_succ]
  refine wpK_ta (i := 10) (some 46) (v := .bool true) rfl rfl (by kernel_rfl) (fun _ _ _ h => h) (Or.inl ⟨rfl, fun _ => rfl⟩) ?_
  simp only [Act.put, List.setIfInBounds_toArray, List.set_cons_zero, List.set_cons_succ]
  refine wpK_ta (i := 11) (some 47) (v := undef) rfl rfl (by kernel_rfl) (fun _ _ _ h => h) (Or.inr ⟨by rfl, rfl⟩) ?_
  simp only [Act.put, List.setIfInBounds_toArray, List.set_cons_zero, List.set_cons_succ]
  refine wpK_ta (i := 12) (some 48) (v := .bool true) rfl rfl (by kernel_rfl) (fun _ _ _ h => h) (Or.inl ⟨by rfl, fun W => by go_simp⟩) ?_
  simp only [Act.put, List.setIfInBounds_toArray, List.set_cons_zero, List.set_cons_succ]
  refine wpK_ta (i := 13) (some 49) (v := .bool true) rfl rfl (by kernel_rfl) (fun _ _ _ h => h) (Or.inl ⟨rfl, fun _ => rfl⟩) ?_
  simp only [Act.put, List.setIfInBounds_toArray, List.set_cons_zero, List.set_cons_succ]
  refine wpK_tk (i := 14) (some 50) (v := .agg #[.int .i64 x1, .int .i64 x2, .int .i64 x3]) rfl rfl (by kernel_rfl) (fun _ _ _ h => h) (.load_mid (by rfl) 23 (.tmp 6) rfl (w.heap.size + 1 + 1) 0 rfl [.int .i64 x1, .int .i64 x2, .int .i64 x3] _ (fun W hg => (R26.out.below (Gr.un hg)).range) Tryd.underlying23 rfl (by kernel_rfl)) ?_
  simp only [Act.put, List.setIfInBounds_toArray, List.set_cons_zero, List.set_cons_succ]
  refine wpK_tk (i := 15) (some 51) (v := .agg #[.int .i64 a1, .int .i64 a2, .int .i64 a3, .int .i64 a4, .int .i64 a5, .int .i64 a6]) rfl rfl (by kernel_rfl) (fun _ _ _ h => h) (.load_mid (by rfl) 31 (.tmp 4) rfl (w.heap.size) 0 rfl [.int .i64 a1, .int .i64 a2, .int .i64 a3, .int .i64 a4, .int .i64 a5, .int .i64 a6] _ (fun W hg => (R24.out.below (Gr.un hg)).range) Tryd.underlying31 rfl (by kernel_rfl)) ?_
  simp only [Act.put, List.setIfInBounds_toArray, List.set_cons_zero, List.set_cons_succ]
  refine wpK_tk (i := 16) (some 52) (v := .agg #[.int .i64 b1, .int .i64 b2, .int .i64 b3, .int .i64 b4, .int .i64 b5, .int .i64 b6]) rfl rfl (by kernel_rfl) (fun _ _ _ h => h) (.load_mid (by rfl) 31 (.tmp 5) rfl (w.heap.size + 1) 0 rfl [.int .i64 b1, .int .i64 b2, .int .i64 b3, .int .i64 b4, .int .i64 b5, .int .i64 b6] _ (fun W hg => (R25.out.below (Gr.un hg)).range) Tryd.underlying31 rfl (by kernel_rfl)) ?_
  simp only [Act.put, List.setIfInBounds_toArray, List.set_cons_zero, List.set_cons_succ]
  refine wpK_tk (i := 17) (some 53) (v := .agg #[.int .i64 (min a1 b1), .int .i64 (min a2 b2), .int .i64 (min a3 b3), .int .i64 (max a4 b4), .int .i64 (max a5 b5), .int .i64 (max a6 b6)]) rfl rfl (by kernel_rfl) (fun _ _ _ h => h) (.call (f := 37) (args := #[.agg #[.int .i64 a1, .int .i64 a2, .int .i64 a3, .int .i64 a4, .int .i64 a5, .int .i64 a6], .agg #[.int .i64 b1, .int .i64 b2, .int .i64 b3, .int .i64 b4, .int .i64 b5, .int .i64 b6]]) (by rfl) (fun W => by go_simp) (fun W hg => hull_ff a1 a2 a3 a4 a5 a6 b1 b2 b3 b4 b5 b6 W (by omega) HA.out HB.out)) ?_
  simp only [Act.put, List.setIfInBounds_toArray, List.set_cons_zero, List.set_cons_succ]
  refine wpK_tk (i := 18) (some 54) (v := .bool true) rfl rfl (by kernel_rfl) (fun _ _ _ h => h) (.call (f := 25) (args := #[.agg #[.int .i64 x1, .int .i64 x2, .int .i64 x3], .agg #[.int .i64 (min a1 b1), .int .i64 (min a2 b2), .int .i64 (min a3 b3), .int .i64 (max a4 b4), .int .i64 (max a5 b5), .int .i64 (max a6 b6)]]) (by rfl) (fun W => by go_simp) (fun W hg => in_any x1 x2 x3 (min a1 b1) (min a2 b2) (min a3 b3) (max a4 b4) (max a5 b5) (max a6 b6) true W (Pt.inB_true.2 (by omega)))) ?_
  simp only [Act.put, List.setIfInBounds_toArray, List.set_cons_zero, List.set_cons_succ]
  refine wpK_ta (i := 19) (some 55) (v := .bool false) rfl rfl (by kernel_rfl) (fun _ _ _ h => h) (Or.inl ⟨by rfl, fun W => by go_simp⟩) ?_
  simp only [Act.put, List.setIfInBounds_toArray, List.set_cons_zero, List.set_cons_succ]
  refine wpK_ta (i := 20) (some 56) (v := .bool false) rfl rfl (by kernel_rfl) (fun _ _ _ h => h) (Or.inl ⟨by rfl, fun W => by go_simp⟩) ?_
  simp only [Act.put, List.setIfInBounds_toArray, List.set_cons_zero, List.set_cons_succ]
  refine wpK_ta (i := 21) (some 57) (v := .bool false) rfl rfl (by kernel_rfl) (fun _ _ _ h => h) (Or.inl ⟨by rfl, fun W => by go_simp⟩) ?_
  simp only [Act.put, List.setIfInBounds_toArray, List.set_cons_zero, List.set_cons_succ]
  refine wpK_ta (i := 22) (some 58) (v := .bool false) rfl rfl (by kernel_rfl) (fun _ _ _ h => h) (Or.inl ⟨rfl, fun _ => rfl⟩) ?_
  simp only [Act.put, List.setIfInBounds_toArray, List.set_cons_zero, List.set_cons_succ]
  refine wpK_tk (i := 23) (some 59) (v := .agg #[.int .i64 (max a1 b1), .int .i64 (max a2 b2), .int .i64 (max a3 b3), .int .i64 (min a4 b4), .int .i64 (min a5 b5), .int .i64 (min a6 b6)]) rfl rfl (by kernel_rfl) (fun _ _ _ h => h) (.load_mid (by rfl) 31 (.tmp 11) rfl (W12.heap.size) 0 rfl [.int .i64 (max a1 b1), .int .i64 (max a2 b2), .int .i64 (max a3 b3), .int .i64 (min a4 b4), .int .i64 (min a5 b5), .int .i64 (min a6 b6)] _ (fun W hg => (R28.out.below (Gr.un hg)).range) Tryd.underlying31 rfl (by kernel_rfl)) ?_
  simp only [Act.put, List.setIfInBounds_toArray, List.set_cons_zero, List.set_cons_succ]
  refine wpK_tk (i := 24) (some 60) (v := .int .i64 (Pt.vol (max a1 b1) (max a2 b2) (max a3 b3) (min a4 b4) (min a5 b5) (min a6 b6))) rfl rfl (by kernel_rfl) (fun _ _ _ h => h) (.call (f := 29) (args := #[.agg #[.int .i64 (max a1 b1), .int .i64 (max a2 b2), .int .i64 (max a3 b3), .int .i64 (min a4 b4), .int .i64 (min a5 b5), .int .i64 (min a6 b6)]]) (by rfl) (fun W => by go_simp) (fun W hg => volume_any (max a1 b1) (max a2 b2) (max a3 b3) (min a4 b4) (min a5 b5) (min a6 b6) W (by omega))) ?_
  simp only [Act.put, List.setIfInBounds_toArray, List.set_cons_zero, List.set_cons_succ]
  refine wpK_tk (i := 25) (some 61) (v := .agg #[.int .i64 a1, .int .i64 a2, .int .i64 a3, .int .i64 a4, .int .i64 a5, .int .i64 a6]) rfl rfl (by kernel_rfl) (fun _ _ _ h => h) (.load_mid (by rfl) 31 (.tmp 4) rfl (w.heap.size) 0 rfl [.int .i64 a1, .int .i64 a2, .int .i64 a3, .int .i64 a4, .int .i64 a5, .int .i64 a6] _ (fun W hg => (R24.out.below (Gr.un hg)).range) Tryd.underlying31 rfl (by kernel_rfl)) ?_
  simp only [Act.put, List.setIfInBounds_toArray, List.set_cons_zero, List.set_cons_succ]
  refine wpK_tk (i := 26) (some 62) (v := .int .i64 (Pt.vol a1 a2 a3 a4 a5 a6)) rfl rfl (by kernel_rfl) (fun _ _ _ h => h) (.call (f := 29) (args := #[.agg #[.int .i64 a1, .int .i64 a2, .int .i64 a3, .int .i64 a4, .int .i64 a5, .int .i64 a6]]) (by rfl) (fun W => by go_simp) (fun W hg => volume_any a1 a2 a3 a4 a5 a6 W (by omega))) ?_
  simp only [Act.put, List.setIfInBounds_toArray, List.set_cons_zero, List.set_cons_succ]
  refine wpK_ta (i := 27) (some 63) (v := .bool false) rfl rfl (by kernel_rfl) (fun _ _ _ h => h) (Or.inl ⟨by rfl, fun W => by have hq : ¬ (Pt.vol (max a1 b1) (max a2 b2) (max a3 b3) (min a4 b4) (min a5 b5) (min a6 b6) > Pt.vol a1 a2 a3 a4 a5 a6) := (by omega); first | (go_simp; done) | (go_simp <;> omega)⟩) ?_
  simp only [Act.put, List.setIfInBounds_toArray, List.set_cons_zero, List.set_cons_succ]
  refine wpK_ta (i := 28) (some 64) (v := .bool false) rfl rfl (by kernel_rfl) (fun _ _ _ h => h) (Or.inl ⟨by rfl, fun W => by go_simp⟩) ?_
  simp only [Act.put, List.setIfInBounds_toArray, List.set_cons_zero, List.set_cons_succ]
  refine wpK_done (by kernel_rfl) (fun V29 hv30 => ?_) _
  have GC31 := Lib.hid (Gr.un hv30)
  clear hv30
  go_upto_region 7 with fail
  refine wpG_region ?_
  refine wpG_tk (some 65) (v := .agg #[.int .i64 a1, .int .i64 a2, .int .i64 a3, .int .i64 a4, .int .i64 a5, .int .i64 a6]) rfl (.load_mid (by rfl) 31 (.tmp 4) rfl (w.heap.size) 0 rfl [.int .i64 a1, .int .i64 a2, .int .i64 a3, .int .i64 a4, .int .i64 a5, .int .i64 a6] _ (fun W hg => (R24.out.below (GC31.out.trans hg)).range) Tryd.underlying31 rfl (by kernel_rfl)) ?_
  simp only [Act.put, List.setIfInBounds_toArray, List.set_cons_zero, List.set_cons_succ]
  refine wpG_tk (some 66) (v := .agg #[.int .i64 b1, .int .i64 b2, .int .i64 b3, .int .i64 b4, .int .i64 b5, .int .i64 b6]) rfl (.load_mid (by rfl) 31 (.tmp 5) rfl (w.heap.size + 1) 0 rfl [.int .i64 b1, .int .i64 b2, .int .i64 b3, .int .i64 b4, .int .i64 b5, .int .i64 b6] _ (fun W hg => (R25.out.below (GC31.out.trans hg)).range) Tryd.underlying31 rfl (by kernel_rfl)) ?_
  simp only [Act.put, List.setIfInBounds_toArray, List.set_cons_zero, List.set_cons_succ]
  refine wpG_tk (some 67) (v := .bool true) rfl (.call (f := 39) (args := #[.agg #[.int .i64 a1, .int .i64 a2, .int .i64 a3, .int .i64 a4, .int .i64 a5, .int .i64 a6], .agg #[.int .i64 b1, .int .i64 b2, .int .i64 b3, .int .i64 b4, .int .i64 b5, .int .i64 b6]]) (by rfl) (fun W => by go_simp) (fun W hg => contains_y a1 a2 a3 a4 a5 a6 b1 b2 b3 b4 b5 b6 W (by omega) HB.out HM.out HC.out)) ?_
  simp only [Act.put, List.setIfInBounds_toArray, List.set_cons_zero, List.set_cons_succ]
  refine wpG_tk (some 12) (v := .bool true) rfl (.val (by rfl) (fun _ _ => rfl)) ?_
  simp only [Act.put, List.setIfInBounds_toArray, List.set_cons_zero, List.set_cons_succ]
  refine wpG_done (fun V32 hv33 => ?_)
  have GC34 := Lib.hid (GC31.out.trans hv33)
  clear hv33
  go_upto_region 8 with fail
  refine wpK_region (by kernel_rfl) ?_
  refine wpK_tk (i := 0) (some 68) (v := .bool true) rfl rfl (by kernel_rfl) (fun _ _ _ h => h) (.call (f := 12) (args := #[]) (by rfl) (fun W => by go_simp) (fun W hg => sanity_any W (HT.out.below (GC34.out.trans (Gr.un hg))))) ?_
  simp only [Act.put, List.setIfInBounds_toArray, List.set_cons_zero, List.set_cons_succ]
  refine wpK_ta (i := 1) (some 69) (v := .bool true) rfl rfl (by kernel_rfl) (fun _ _ _ h => h) (Or.inl ⟨rfl, fun _ => rfl⟩) ?_
  simp only [Act.put, List.setIfInBounds_toArray, List.set_cons_zero, List.set_cons_succ]
  refine wpK_ta (i := 2) (some 70) (v := .bool true) rfl rfl (by kernel_rfl) (fun _ _ _ h => h) (Or.inl ⟨rfl, fun _ => rfl⟩) ?_
  simp only [Act.put, List.setIfInBounds_toArray, List.set_cons_zero, List.set_cons_succ]
  refine wpK_tk (i := 3) (some 71) (v := .agg #[.int .i64 (max a1 b1), .int .i64 (max a2 b2), .int .i64 (max a3 b3), .int .i64 (min a4 b4), .int .i64 (min a5 b5), .int .i64 (min a6 b6)]) rfl rfl (by kernel_rfl) (fun _ _ _ h => h) (.load_mid (by rfl) 31 (.tmp 11) rfl (W12.heap.size) 0 rfl [.int .i64 (max a1 b1), .int .i64 (max a2 b2), .int .i64 (max a3 b3), .int .i64 (min a4 b4), .int .i64 (min a5 b5), .int .i64 (min a6 b6)] _ (fun W hg => (R28.out.below (GC34.out.trans (Gr.un hg))).range) Tryd.underlying31 rfl (by kernel_rfl)) ?_
  simp only [Act.put, List.setIfInBounds_toArray, List.set_cons_zero, List.set_cons_succ]
  refine wpK_tk (i := 4) (some 72) (v := .int .i64 (Pt.vol (max a1 b1) (max a2 b2) (max a3 b3) (min a4 b4) (min a5 b5) (min a6 b6))) rfl rfl (by kernel_rfl) (fun _ _ _ h => h) (.call (f := 29) (args := #[.agg #[.int .i64 (max a1 b1), .int .i64 (max a2 b2), .int .i64 (max a3 b3), .int .i64 (min a4 b4), .int .i64 (min a5 b5), .int .i64 (min a6 b6)]]) (by rfl) (fun W => by go_simp) (fun W hg => volume_any (max a1 b1) (max a2 b2) (max a3 b3) (min a4 b4) (min a5 b5) (min a6 b6) W (by omega))) ?_
  simp only [Act.put, List.setIfInBounds_toArray, List.set_cons_zero, List.set_cons_succ]
  refine wpK_tk (i := 5) (some 73) (v := .agg #[.int .i64 b1, .int .i64 b2, .int .i64 b3, .int .i64 b4, .int .i64 b5, .int .i64 b6]) rfl rfl (by kernel_rfl) (fun _ _ _ h => h) (.load_mid (by rfl) 31 (.tmp 5) rfl (w.heap.size + 1) 0 rfl [.int .i64 b1, .int .i64 b2, .int .i64 b3, .int .i64 b4, .int .i64 b5, .int .i64 b6] _ (fun W hg => (R25.out.below (GC34.out.trans (Gr.un hg))).range) Tryd.underlying31 rfl (by kernel_rfl)) ?_
  simp only [Act.put, List.setIfInBounds_toArray, List.set_cons_zero, List.set_cons_succ]
  refine wpK_tk (i := 6) (some 74) (v := .int .i64 (Pt.vol b1 b2 b3 b4 b5 b6)) rfl rfl (by kernel_rfl) (fun _ _ _ h => h) (.call (f := 29) (args := #[.agg #[.int .i64 b1, .int .i64 b2, .int .i64 b3, .int .i64 b4, .int .i64 b5, .int .i64 b6]]) (by rfl) (fun W => by go_simp) (fun W hg => volume_any b1 b2 b3 b4 b5 b6 W (by omega))) ?_
  simp only [Act.put, List.setIfInBounds_toArray, List.set_cons_zero, List.set_cons_succ]
  refine wpK_ta (i := 7) (some 75) (v := .bool true) rfl rfl (by kernel_rfl) (fun _ _ _ h => h) (Or.inl ⟨by rfl, fun W => by have hq : (Pt.vol (max a1 b1) (max a2 b2) (max a3 b3) (min a4 b4) (min a5 b5) (min a6 b6) = Pt.vol b1 b2 b3 b4 b5 b6) := (by omega); first | (go_simp; done) | (go_simp <;> omega)⟩) ?_
  simp only [Act.put, List.setIfInBounds_toArray, List.set_cons_zero, List.set_cons_succ]
  refine wpK_ta (i := 8) (some 76) (v := .bool true) rfl rfl (by kernel_rfl) (fun _ _ _ h => h) (Or.inl ⟨by rfl, fun W => by go_simp⟩) ?_
  simp only [Act.put, List.setIfInBounds_toArray, List.set_cons_zero, List.set_cons_succ]
  refine wpK_ta (i := 9) (some 77) (v := .bool true) rfl rfl (by kernel_rfl) (fun _ _ _ h => h) (Or.inl ⟨by rfl, fun W => by go_simp⟩) ?_
  simp only [Act.put, List.setIfInBounds_toArray, List.set_cons_zero, List.set_cons_succ]
  refine wpK_ta (i := 10) (some 78) (v := .bool true) rfl rfl (by kernel_rfl) (fun _ _ _ h => h) (Or.inl ⟨rfl, fun _ => rfl⟩) ?_
  simp only [Act.put, List.setIfInBounds_toArray, List.set_cons_zero, List.set_cons_succ]
  refine wpK_ta (i := 11) (some 79) (v := .bool true) rfl rfl (by kernel_rfl) (fun _ _ _ h => h) (Or.inl ⟨rfl, fun _ => rfl⟩) ?_
  simp only [Act.put, List.setIfInBounds_toArray, List.set_cons_zero, List.set_cons_succ]
  refine wpK_ta (i := 12) (some 80) (v := .bool false) rfl rfl (by kernel_rfl) (fun _ _ _ h => h) (Or.inl ⟨by rfl, fun W => by go_simp⟩) ?_
  simp only [Act.put, List.setIfInBounds_toArray, List.set_cons_zero, List.set_cons_succ]
  refine wpK_ta (i := 13) (some 81) (v := .bool false) rfl rfl (by kernel_rfl) (fun _ _ _ h => h) (Or.inl ⟨rfl, fun _ => rfl⟩) ?_
  simp only [Act.put, List.setIfInBounds_toArray, List.set_cons_zero, List.set_cons_succ]
  refine wpK_ta (i := 14) (some 82) (v := .bool false) rfl rfl (by kernel_rfl) (fun _ _ _ h => h) (Or.inl ⟨rfl, fun _ => rfl⟩) ?_
  simp only [Act.put, List.setIfInBounds_toArray, List.set_cons_zero, List.set_cons_succ]
  refine wpK_ta (i := 15) (some 83) (v := .bool true) rfl rfl (by kernel_rfl) (fun _ _ _ h => h) (Or.inl ⟨by rfl, fun W => by go_simp⟩) ?_
  simp only [Act.put, List.setIfInBounds_toArray, List.set_cons_zero, List.set_cons_succ]
  refine wpK_ta (i := 16) (some 84) (v := .bool true) rfl rfl (by kernel_rfl) (fun _ _ _ h => h) (Or.inl ⟨by rfl, fun W => by go_simp⟩) ?_
  simp only [Act.put, List.setIfInBounds_toArray, List.set_cons_zero, List.set_cons_succ]
  refine wpK_ta (i := 17) (some 85) (v := .bool true) rfl rfl (by kernel_rfl) (fun _ _ _ h => h) (Or.inl ⟨rfl, fun _ => rfl⟩) ?_
  simp only [Act.put, List.setIfInBounds_toArray, List.set_cons_zero, List.set_cons_succ]
  refine wpK_ta (i := 18) (some 86) (v := undef) rfl rfl (by kernel_rfl) (fun _ _ _ h => h) (Or.inr ⟨by rfl, rfl⟩) ?_
  simp only [Act.put, List.setIfInBounds_toArray, List.set_cons_zero, List.set_cons_succ]
  refine wpK_ta (i := 19) (some 87) (v := .bool true) rfl rfl (by kernel_rfl) (fun _ _ _ h => h) (Or.inl ⟨by rfl, fun W => by go_simp⟩) ?_
  simp only [Act.put, List.setIfInBounds_toArray, List.set_cons_zero, List.set_cons_succ]
  refine wpK_ta (i := 20) (some 88) (v := .bool true) rfl rfl (by kernel_rfl) (fun _ _ _ h => h) (Or.inl ⟨by rfl, fun W => by go_simp⟩) ?_
  simp only [Act.put, List.setIfInBounds_toArray, List.set_cons_zero, List.set_cons_succ]
  refine wpK_ta (i := 21) (some 89) (v := .bool true) rfl rfl (by kernel_rfl) (fun _ _ _ h => h) (Or.inl ⟨rfl, fun _ => rfl⟩) ?_
  simp only [Act.put, List.setIfInBounds_toArray, List.set_cons_zero, List.set_cons_succ]
  refine wpK_tk (i := 22) (some 90) (v := .agg #[.int .i64 x1, .int .i64 x2, .int .i64 x3]) rfl rfl (by kernel_rfl) (fun _ _ _ h => h) (.load_mid (by rfl) 23 (.tmp 6) rfl (w.heap.size + 1 + 1) 0 rfl [.int .i64 x1, .int .i64 x2, .int .i64 x3] _ (fun W hg => (R26.out.below (GC34.out.trans (Gr.un hg))).range) Tryd.underlying23 rfl (by kernel_rfl)) ?_
  simp only [Act.put, List.setIfInBounds_toArray, List.set_cons_zero, List.set_cons_succ]
  refine wpK_tk (i := 23) (some 91) (v := .agg #[.int .i64 y1, .int .i64 y2, .int .i64 y3]) rfl rfl (by kernel_rfl) (fun _ _ _ h => h) (.load_mid (by rfl) 23 (.tmp 7) rfl (w.heap.size + 1 + 1 + 1) 0 rfl [.int .i64 y1, .int .i64 y2, .int .i64 y3] _ (fun W hg => (R27.out.below (GC34.out.trans (Gr.un hg))).range) Tryd.underlying23 rfl (by kernel_rfl)) ?_
  simp only [Act.put, List.setIfInBounds_toArray, List.set_cons_zero, List.set_cons_succ]
  refine wpK_tk (i := 24) (some 92) (v := .agg #[.int .i64 (x1 + y1), .int .i64 (x2 + y2), .int .i64 (x3 + y3)]) rfl rfl (by kernel_rfl) (fun _ _ _ h => h) (.call (f := 13) (args := #[.agg #[.int .i64 x1, .int .i64 x2, .int .i64 x3], .agg #[.int .i64 y1, .int .i64 y2, .int .i64 y3]]) (by rfl) (fun W => by go_simp) (fun W hg => add_any x1 x2 x3 y1 y2 y3 W (by omega))) ?_
  simp only [Act.put, List.setIfInBounds_toArray, List.set_cons_zero, List.set_cons_succ]
  refine wpK_tk (i := 25) (some 93) (v := .agg #[.int .i64 a1, .int .i64 a2, .int .i64 a3, .int .i64 a4, .int .i64 a5, .int .i64 a6]) rfl rfl (by kernel_rfl) (fun _ _ _ h => h) (.load_mid (by rfl) 31 (.tmp 4) rfl (w.heap.size) 0 rfl [.int .i64 a1, .int .i64 a2, .int .i64 a3, .int .i64 a4, .int .i64 a5, .int .i64 a6] _ (fun W hg => (R24.out.below (GC34.out.trans (Gr.un hg))).range) Tryd.underlying31 rfl (by kernel_rfl)) ?_
  simp only [Act.put, List.setIfInBounds_toArray, List.set_cons_zero, List.set_cons_succ]
  refine wpK_tk (i := 26) (some 94) (v := .agg #[.int .i64 y1, .int .i64 y2, .int .i64 y3]) rfl rfl (by kernel_rfl) (fun _ _ _ h => h) (.load_mid (by rfl) 23 (.tmp 7) rfl (w.heap.size + 1 + 1 + 1) 0 rfl [.int .i64 y1, .int .i64 y2, .int .i64 y3] _ (fun W hg => (R27.out.below (GC34.out.trans (Gr.un hg))).range) Tryd.underlying23 rfl (by kernel_rfl)) ?_
  simp only [Act.put, List.setIfInBounds_toArray, List.set_cons_zero, List.set_cons_succ]
  refine wpK_tk (i := 27) (some 95) (v := .agg #[.int .i64 (a1 + y1), .int .i64 (a2 + y2), .int .i64 (a3 + y3), .int .i64 (a4 + y1), .int .i64 (a5 + y2), .int .i64 (a6 + y3)]) rfl rfl (by kernel_rfl) (fun _ _ _ h => h) (.call (f := 33) (args := #[.agg #[.int .i64 a1, .int .i64 a2, .int .i64 a3, .int .i64 a4, .int .i64 a5, .int .i64 a6], .agg #[.int .i64 y1, .int .i64 y2, .int .i64 y3]]) (by rfl) (fun W => by go_simp) (fun W hg => shift_any a1 a2 a3 a4 a5 a6 y1 y2 y3 W (by omega))) ?_
  simp only [Act.put, List.setIfInBounds_toArray, List.set_cons_zero, List.set_cons_succ]
  refine wpK_tk (i := 28) (some 96) (v := .bool true) rfl rfl (by kernel_rfl) (fun _ _ _ h => h) (.call (f := 25) (args := #[.agg #[.int .i64 (x1 + y1), .int .i64 (x2 + y2), .int .i64 (x3 + y3)], .agg #[.int .i64 (a1 + y1), .int .i64 (a2 + y2), .int .i64 (a3 + y3), .int .i64 (a4 + y1), .int .i64 (a5 + y2), .int .i64 (a6 + y3)]]) (by rfl) (fun W => by go_simp) (fun W hg => in_any (x1 + y1) (x2 + y2) (x3 + y3) (a1 + y1) (a2 + y2) (a3 + y3) (a4 + y1) (a5 + y2) (a6 + y3) true W (Pt.inB_true.2 (by omega)))) ?_
  simp only [Act.put, List.setIfInBounds_toArray, List.set_cons_zero, List.set_cons_succ]
  refine wpK_ta (i := 29) (some 97) (v := .bool true) rfl rfl (by kernel_rfl) (fun _ _ _ h => h) (Or.inl ⟨rfl, fun _ => rfl⟩) ?_
  simp only [Act.put, List.setIfInBounds_toArray, List.set_cons_zero, List.set_cons_succ]
  refine wpK_ta (i := 30) (some 98) (v := .bool true) rfl rfl (by kernel_rfl) (fun _ _ _ h => h) (Or.inl ⟨by rfl, fun W => by go_simp⟩) ?_
  simp only [Act.put, List.setIfInBounds_toArray, List.set_cons_zero, List.set_cons_succ]
  refine wpK_ta (i := 31) (some 99) (v := .bool true) rfl rfl (by kernel_rfl) (fun _ _ _ h => h) (Or.inl ⟨by rfl, fun W => by go_simp⟩) ?_
  simp only [Act.put, List.setIfInBounds_toArray, List.set_cons_zero, List.set_cons_succ]
  refine wpK_ta (i := 32) (some 100) (v := .bool true) rfl rfl (by kernel_rfl) (fun _ _ _ h => h) (Or.inl ⟨rfl, fun _ => rfl⟩) ?_
  simp only [Act.put, List.setIfInBounds_toArray, List.set_cons_zero, List.set_cons_succ]
  refine wpK_tk (i := 33) (some 101) (v := .agg #[.int .i64 a1, .int .i64 a2, .int .i64 a3, .int .i64 a4, .int .i64 a5, .int .i64 a6]) rfl rfl (by kernel_rfl) (fun _ _ _ h => h) (.load_mid (by rfl) 31 (.tmp 4) rfl (w.heap.size) 0 rfl [.int .i64 a1, .int .i64 a2, .int .i64 a3, .int .i64 a4, .int .i64 a5, .int .i64 a6] _ (fun W hg => (R24.out.below (GC34.out.trans (Gr.un hg))).range) Tryd.underlying31 rfl (by kernel_rfl)) ?_
  simp only [Act.put, List.setIfInBounds_toArray, List.set_cons_zero, List.set_cons_succ]
  refine wpK_tk (i := 34) (some 102) (v := .int .i64 (Pt.vol a1 a2 a3 a4 a5 a6)) rfl rfl (by kernel_rfl) (fun _ _ _ h => h) (.call (f := 29) (args := #[.agg #[.int .i64 a1, .int .i64 a2, .int .i64 a3, .int .i64 a4, .int .i64 a5, .int .i64 a6]]) (by rfl) (fun W => by go_simp) (fun W hg => volume_any a1 a2 a3 a4 a5 a6 W (by omega))) ?_
  simp only [Act.put, List.setIfInBounds_toArray, List.set_cons_zero, List.set_cons_succ]
  refine wpK_ta (i := 35) (some 103) (v := .bool false) rfl rfl (by kernel_rfl) (fun _ _ _ h => h) (Or.inl ⟨by rfl, fun W => by have hq : ¬ (Pt.vol a1 a2 a3 a4 a5 a6 = 0) := (by omega); first | (go_simp; done) | (go_simp <;> omega)⟩) ?_
  simp only [Act.put, List.setIfInBounds_toArray, List.set_cons_zero, List.set_cons_succ]
  refine wpK_tk (i := 36) (some 104) (v := .agg #[.int .i64 a1, .int .i64 a2, .int .i64 a3, .int .i64 a4, .int .i64 a5, .int .i64 a6]) rfl rfl (by kernel_rfl) (fun _ _ _ h => h) (.load_mid (by rfl) 31 (.tmp 4) rfl (w.heap.size) 0 rfl [.int .i64 a1, .int .i64 a2, .int .i64 a3, .int .i64 a4, .int .i64 a5, .int .i64 a6] _ (fun W hg => (R24.out.below (GC34.out.trans (Gr.un hg))).range) Tryd.underlying31 rfl (by kernel_rfl)) ?_
  simp only [Act.put, List.setIfInBounds_toArray, List.set_cons_zero, List.set_cons_succ]
  refine wpK_tk (i := 37) (some 105) (v := .bool false) rfl rfl (by kernel_rfl) (fun _ _ _ h => h) (.call (f := 23) (args := #[.agg #[.int .i64 a1, .int .i64 a2, .int .i64 a3, .int .i64 a4, .int .i64 a5, .int .i64 a6]]) (by rfl) (fun W => by go_simp) (fun W hg => empty_any a1 a2 a3 a4 a5 a6 false W HA.out)) ?_
  simp only [Act.put, List.setIfInBounds_toArray, List.set_cons_zero, List.set_cons_succ]
  refine wpK_ta (i := 38) (some 106) (v := .bool true) rfl rfl (by kernel_rfl) (fun _ _ _ h => h) (Or.inl ⟨by rfl, fun W => by go_simp⟩) ?_
  simp only [Act.put, List.setIfInBounds_toArray, List.set_cons_zero, List.set_cons_succ]
  refine wpK_ta (i := 39) (some 107) (v := .bool true) rfl rfl (by kernel_rfl) (fun _ _ _ h => h) (Or.inl ⟨by rfl, fun W => by go_simp⟩) ?_
  simp only [Act.put, List.setIfInBounds_toArray, List.set_cons_zero, List.set_cons_succ]
  refine wpK_ta (i := 40) (some 108) (v := .bool true) rfl rfl (by kernel_rfl) (fun _ _ _ h => h) (Or.inl ⟨rfl, fun _ => rfl⟩) ?_
  simp only [Act.put, List.setIfInBounds_toArray, List.set_cons_zero, List.set_cons_succ]
  refine wpK_tk (i := 41) (some 109) (v := .agg #[.int .i64 a1, .int .i64 a2, .int .i64 a3, .int .i64 a4, .int .i64 a5, .int .i64 a6]) rfl rfl (by kernel_rfl) (fun _ _ _ h => h) (.load_mid (by rfl) 31 (.tmp 4) rfl (w.heap.size) 0 rfl [.int .i64 a1, .int .i64 a2, .int .i64 a3, .int .i64 a4, .int .i64 a5, .int .i64 a6] _ (fun W hg => (R24.out.below (GC34.out.trans (Gr.un hg))).range) Tryd.underlying31 rfl (by kernel_rfl)) ?_
  simp only [Act.put, List.setIfInBounds_toArray, List.set_cons_zero, List.set_cons_succ]
  refine wpK_tk (i := 42) (some 110) (v := .agg #[.int .i64 b1, .int .i64 b2, .int .i64 b3, .int .i64 b4, .int .i64 b5, .int .i64 b6]) rfl rfl (by kernel_rfl) (fun _ _ _ h => h) (.load_mid (by rfl) 31 (.tmp 5) rfl (w.heap.size + 1) 0 rfl [.int .i64 b1, .int .i64 b2, .int .i64 b3, .int .i64 b4, .int .i64 b5, .int .i64 b6] _ (fun W hg => (R25.out.below (GC34.out.trans (Gr.un hg))).range) Tryd.underlying31 rfl (by kernel_rfl)) ?_
  simp only [Act.put, List.setIfInBounds_toArray, List.set_cons_zero, List.set_cons_succ]
  refine wpK_tk (i := 43) (some 111) (v := .agg #[.int .i64 (min a1 b1), .int .i64 (min a2 b2), .int .i64 (min a3 b3), .int .i64 (max a4 b4), .int .i64 (max a5 b5), .int .i64 (max a6 b6)]) rfl rfl (by kernel_rfl) (fun _ _ _ h => h) (.call (f := 37) (args := #[.agg #[.int .i64 a1, .int .i64 a2, .int .i64 a3, .int .i64 a4, .int .i64 a5, .int .i64 a6], .agg #[.int .i64 b1, .int .i64 b2, .int .i64 b3, .int .i64 b4, .int .i64 b5, .int .i64 b6]]) (by rfl) (fun W => by go_simp) (fun W hg => hull_ff a1 a2 a3 a4 a5 a6 b1 b2 b3 b4 b5 b6 W (by omega) HA.out HB.out)) ?_
  simp only [Act.put, List.setIfInBounds_toArray, List.set_cons_zero, List.set_cons_succ]
  refine wpK_tk (i := 44) (some 112) (v := .agg #[.int .i64 a1, .int .i64 a2, .int .i64 a3, .int .i64 a4, .int .i64 a5, .int .i64 a6]) rfl rfl (by kernel_rfl) (fun _ _ _ h => h) (.load_mid (by rfl) 31 (.tmp 4) rfl (w.heap.size) 0 rfl [.int .i64 a1, .int .i64 a2, .int .i64 a3, .int .i64 a4, .int .i64 a5, .int .i64 a6] _ (fun W hg => (R24.out.below (GC34.out.trans (Gr.un hg))).range) Tryd.underlying31 rfl (by kernel_rfl)) ?_
  simp only [Act.put, List.setIfInBounds_toArray, List.set_cons_zero, List.set_cons_succ]
  refine wpK_tk (i := 45) (some 113) (v := .bool true) rfl rfl (by kernel_rfl) (fun _ _ _ h => h) (.call (f := 39) (args := #[.agg #[.int .i64 (min a1 b1), .int .i64 (min a2 b2), .int .i64 (min a3 b3), .int .i64 (max a4 b4), .int .i64 (max a5 b5), .int .i64 (max a6 b6)], .agg #[.int .i64 a1, .int .i64 a2, .int .i64 a3, .int .i64 a4, .int .i64 a5, .int .i64 a6]]) (by rfl) (fun W => by go_simp) (fun W hg => contains_y (min a1 b1) (min a2 b2) (min a3 b3) (max a4 b4) (max a5 b5) (max a6 b6) a1 a2 a3 a4 a5 a6 W (by omega) HA.out (by unfold Pt.meet; exact Pt.emp_false.2 (by omega)) (by omega))) ?_
  simp only [Act.put, List.setIfInBounds_toArray, List.set_cons_zero, List.set_cons_succ]
  refine wpK_ta (i := 46) (some 114) (v := .bool true) rfl rfl (by kernel_rfl) (fun _ _ _ h => h) (Or.inl ⟨by rfl, fun W => by go_simp⟩) ?_
  simp only [Act.put, List.setIfInBounds_toArray, List.set_cons_zero, List.set_cons_succ]
  refine wpK_ta (i := 47) (some 8) (v := .bool true) rfl rfl (by kernel_rfl) (fun _ _ _ h => h) (Or.inl ⟨rfl, fun _ => rfl⟩) ?_
  simp only [Act.put, List.setIfInBounds_toArray, List.set_cons_zero, List.set_cons_succ]
  refine wpK_done (by kernel_rfl) (fun V35 hv36 => ?_) _
  have GC37 := Lib.hid (GC34.out.trans (Gr.un hv36))
  clear hv36
  go_wp2_with fail
  go_ret
  exact ⟨rfl, Gr.to G18.out GC37.out⟩
set_option maxRecDepth 1000000 in
set_option maxHeartbeats 8000000 in
theorem law8_fffnff (a1 a2 a3 a4 a5 a6 b1 b2 b3 b4 b5 b6 x1 x2 x3 y1 y2 y3 : Int) (w : World) (hT : Tab w) (i1 : In64 (a1, a2, a3)) (i2 : In64 (a4, a5, a6)) (i3 : In64 (b1, b2, b3)) (i4 : In64 (b4, b5, b6)) (i5 : In64 (x1, x2, x3)) (i6 : In64 (y1, y2, y3)) (hs : [(a1, a2, a3), (a4, a5, a6), (b1, b2, b3), (b4, b5, b6), (x1, x2, x3), (y1, y2, y3)].all inI = true) (ha : Pt.emp a1 a2 a3 a4 a5 a6 = false) (hb : Pt.emp b1 b2 b3 b4 b5 b6 = false) (hm : Pt.meet a1 a2 a3 a4 a5 a6 b1 b2 b3 b4 b5 b6 = false) (hc : ¬ (max a1 b1 = b1 ∧ max a2 b2 = b2 ∧ max a3 b3 = b3 ∧ min a4 b4 = b4 ∧ min a5 b5 = b5 ∧ min a6 b6 = b6)) (hia : Pt.inB x1 x2 x3 a1 a2 a3 a4 a5 a6 = false) (hib : Pt.inB x1 x2 x3 b1 b2 b3 b4 b5 b6 = false) :
    Calls Tryd.prog 8 #[.agg #[.int .i64 a1, .int .i64 a2, .int .i64 a3, .int .i64 a4, .int .i64 a5, .int .i64 a6], .agg #[.int .i64 b1, .int .i64 b2, .int .i64 b3, .int .i64 b4, .int .i64 b5, .int .i64 b6], .agg #[.int .i64 x1, .int .i64 x2, .int .i64 x3], .agg #[.int .i64 y1, .int .i64 y2, .int .i64 y3]] w fun e w' => e = .returned (.bool true) ∧ Below w.heap.size w w' := by
  have bb := hs
  simp only [List.all_cons, List.all_nil, Bool.and_true, Bool.and_eq_true, inI_true] at bb
  have fa := Pt.emp_false.1 ha
  have fb := Pt.emp_false.1 hb
  have fm := Pt.emp_false.1 (show Pt.emp (max a1 b1) (max a2 b2) (max a3 b3) (min a4 b4) (min a5 b5) (min a6 b6) = false from hm)
  have fia := Pt.inB_false.1 hia
  have fib := Pt.inB_false.1 hib
  have v1 : ¬ (Pt.vol a1 a2 a3 a4 a5 a6 = 0) := by rw [Pt.vol_zero, ha]; decide
  have v0 := Pt.vol_nonneg a1 a2 a3 a4 a5 a6
  have v2 : Pt.vol (max a1 b1) (max a2 b2) (max a3 b3) (min a4 b4) (min a5 b5) (min a6 b6) ≤ Pt.vol a1 a2 a3 a4 a5 a6 := Pt.sub_vol hm (by omega) (by omega) (by omega) (by omega) (by omega) (by omega)
  have v3 : ¬ (Pt.vol (max a1 b1) (max a2 b2) (max a3 b3) (min a4 b4) (min a5 b5) (min a6 b6) = Pt.vol b1 b2 b3 b4 b5 b6) := fun h => hc (Pt.sub_vol_eq hm (by omega) (by omega) (by omega) (by omega) (by omega) (by omega) h)
  have HS := Lib.hid hs
  have HA := Lib.hid ha
  have HB := Lib.hid hb
  have HM := Lib.hid hm
  have HIA := Lib.hid hia
  have HIB := Lib.hid hib
  have HC := Lib.hid hc
  clear hs ha hb hm hia hib
  obtain ⟨u, hu, r0, r1, r2, r3, g0⟩ := rows4 w [.int .i64 a1, .int .i64 a2, .int .i64 a3, .int .i64 a4, .int .i64 a5, .int .i64 a6] 31 [.int .i64 b1, .int .i64 b2, .int .i64 b3, .int .i64 b4, .int .i64 b5, .int .i64 b6] 31 [.int .i64 x1, .int .i64 x2, .int .i64 x3] 23 [.int .i64 y1, .int .i64 y2, .int .i64 y3] 23
  have R0 := Lib.hid r0
  have R1 := Lib.hid r1
  have R2 := Lib.hid r2
  have R3 := Lib.hid r3
  have G0 := Lib.hid g0
  have HU := Lib.hid hu
  have HT := Lib.hid (hT.below g0)
  clear hT
  clear hu g0 r0 r1 r2 r3
  go_enter Tryd.func8, Tryd.ntmps8
  go_upto_region 1 with fail
  rw [← HU.out]
  refine wpG_region ?_
  refine wpG_tk (some 13) (v := .pointer (some ⟨w.heap.size, 0, none⟩)) rfl (.val (by rfl) (fun W hg => by go_simp)) ?_
  simp only [Act.put, List.setIfInBounds_toArray, List.set_cons_zero, List.set_cons_succ]
  refine wpG_tk (some 14) (v := .agg #[.int .i64 a1, .int .i64 a2, .int .i64 a3]) rfl (.load_mid (by rfl) 23 (.tmp 13) rfl (w.heap.size) 0 rfl [.int .i64 a1, .int .i64 a2, .int .i64 a3] _ (fun W hg => (R0.out.below hg).lo) Tryd.underlying23 rfl (by kernel_rfl)) ?_
  simp only [Act.put, List.setIfInBounds_toArray, List.set_cons_zero, List.set_cons_succ]
  refine wpG_tk (some 15) (v := .pointer (some ⟨w.heap.size, 3, none⟩)) rfl (.val (by rfl) (fun W hg => by go_simp)) ?_
  simp only [Act.put, List.setIfInBounds_toArray, List.set_cons_zero, List.set_cons_succ]
  refine wpG_tk (some 16) (v := .agg #[.int .i64 a4, .int .i64 a5, .int .i64 a6]) rfl (.load_mid (by rfl) 23 (.tmp 15) rfl (w.heap.size) 3 rfl [.int .i64 a4, .int .i64 a5, .int .i64 a6] _ (fun W hg => (R0.out.below hg).hi) Tryd.underlying23 rfl (by kernel_rfl)) ?_
  simp only [Act.put, List.setIfInBounds_toArray, List.set_cons_zero, List.set_cons_succ]
  refine wpG_tk (some 17) (v := .pointer (some ⟨w.heap.size + 1, 0, none⟩)) rfl (.val (by rfl) (fun W hg => by go_simp)) ?_
  simp only [Act.put, List.setIfInBounds_toArray, List.set_cons_zero, List.set_cons_succ]
  refine wpG_tk (some 18) (v := .agg #[.int .i64 b1, .int .i64 b2, .int .i64 b3]) rfl (.load_mid (by rfl) 23 (.tmp 17) rfl (w.heap.size + 1) 0 rfl [.int .i64 b1, .int .i64 b2, .int .i64 b3] _ (fun W hg => (R1.out.below hg).lo) Tryd.underlying23 rfl (by kernel_rfl)) ?_
  simp only [Act.put, List.setIfInBounds_toArray, List.set_cons_zero, List.set_cons_succ]
  refine wpG_tk (some 19) (v := .pointer (some ⟨w.heap.size + 1, 3, none⟩)) rfl (.val (by rfl) (fun W hg => by go_simp)) ?_
  simp only [Act.put, List.setIfInBounds_toArray, List.set_cons_zero, List.set_cons_succ]
  refine wpG_tk (some 20) (v := .agg #[.int .i64 b4, .int .i64 b5, .int .i64 b6]) rfl (.load_mid (by rfl) 23 (.tmp 19) rfl (w.heap.size + 1) 3 rfl [.int .i64 b4, .int .i64 b5, .int .i64 b6] _ (fun W hg => (R1.out.below hg).hi) Tryd.underlying23 rfl (by kernel_rfl)) ?_
  simp only [Act.put, List.setIfInBounds_toArray, List.set_cons_zero, List.set_cons_succ]
  refine wpG_tk (some 21) (v := .agg #[.int .i64 x1, .int .i64 x2, .int .i64 x3]) rfl (.load_mid (by rfl) 23 (.tmp 6) rfl (w.heap.size + 1 + 1) 0 rfl [.int .i64 x1, .int .i64 x2, .int .i64 x3] _ (fun W hg => (R2.out.below hg).range) Tryd.underlying23 rfl (by kernel_rfl)) ?_
  simp only [Act.put, List.setIfInBounds_toArray, List.set_cons_zero, List.set_cons_succ]
  refine wpG_tk (some 22) (v := .agg #[.int .i64 y1, .int .i64 y2, .int .i64 y3]) rfl (.load_mid (by rfl) 23 (.tmp 7) rfl (w.heap.size + 1 + 1 + 1) 0 rfl [.int .i64 y1, .int .i64 y2, .int .i64 y3] _ (fun W hg => (R3.out.below hg).range) Tryd.underlying23 rfl (by kernel_rfl)) ?_
  simp only [Act.put, List.setIfInBounds_toArray, List.set_cons_zero, List.set_cons_succ]
  refine wpG_val (some 23) rfl (by rfl) (fun W1 hg2 => ⟨.slice (some ⟨W1.heap.size, 0, none⟩) 6 6, W1.alloc (.cells #[.int .i64 a1, .int .i64 a2, .int .i64 a3, .int .i64 a4, .int .i64 a5, .int .i64 a6, .int .i64 b1, .int .i64 b2, .int .i64 b3, .int .i64 b4, .int .i64 b5, .int .i64 b6, .int .i64 x1, .int .i64 x2, .int .i64 x3, .int .i64 y1, .int .i64 y2, .int .i64 y3] 23), by (go_simp <;> rfl), ?_⟩)
  simp only [Act.put, List.setIfInBounds_toArray, List.set_cons_zero, List.set_cons_succ]
  obtain ⟨U3, hu, rn, gn⟩ : ∃ z, z = W1.alloc (.cells #[.int .i64 a1, .int .i64 a2, .int .i64 a3, .int .i64 a4, .int .i64 a5, .int .i64 a6, .int .i64 b1, .int .i64 b2, .int .i64 b3, .int .i64 b4, .int .i64 b5, .int .i64 b6, .int .i64 x1, .int .i64 x2, .int .i64 x3, .int .i64 y1, .int .i64 y2, .int .i64 y3] 23) ∧ Row W1.heap.size [.int .i64 a1, .int .i64 a2, .int .i64 a3, .int .i64 a4, .int .i64 a5, .int .i64 a6, .int .i64 b1, .int .i64 b2, .int .i64 b3, .int .i64 b4, .int .i64 b5, .int .i64 b6, .int .i64 x1, .int .i64 x2, .int .i64 x3, .int .i64 y1, .int .i64 y2, .int .i64 y3] z ∧ Gr W1 z := ⟨_, rfl, Row.newl W1 [.int .i64 a1, .int .i64 a2, .int .i64 a3, .int .i64 a4, .int .i64 a5, .int .i64 a6, .int .i64 b1, .int .i64 b2, .int .i64 b3, .int .i64 b4, .int .i64 b5, .int .i64 b6, .int .i64 x1, .int .i64 x2, .int .i64 x3, .int .i64 y1, .int .i64 y2, .int .i64 y3] 23, Gr.al _ _⟩
  rw [← hu]
  have RN4 := Lib.hid rn
  have GB5 := Lib.hid (Gr.trans hg2 gn)
  clear hu rn gn hg2
  refine wpG_tk (some 24) (v := .bool true) rfl (.call (f := 61) (args := #[.slice (some ⟨W1.heap.size, 0, none⟩) 6 6]) (by rfl) (fun W => by go_simp) (fun W hg => inner_is [(a1, a2, a3), (a4, a5, a6), (b1, b2, b3), (b4, b5, b6), (x1, x2, x3), (y1, y2, y3)] W1.heap.size 6 true W rfl (by decide) (RN4.out.below hg) (List.forall_mem_cons.2 ⟨i1, (List.forall_mem_cons.2 ⟨i2, (List.forall_mem_cons.2 ⟨i3, (List.forall_mem_cons.2 ⟨i4, (List.forall_mem_cons.2 ⟨i5, (List.forall_mem_cons.2 ⟨i6, (fun _ h => absurd h List.not_mem_nil)⟩)⟩)⟩)⟩)⟩)⟩) HS.out)) ?_
  simp only [Act.put, List.setIfInBounds_toArray, List.set_cons_zero, List.set_cons_succ]
  refine wpG_tk (some 25) (v := .bool false) rfl (.val (by rfl) (fun W hg => by go_simp)) ?_
  simp only [Act.put, List.setIfInBounds_toArray, List.set_cons_zero, List.set_cons_succ]
  refine wpG_done (fun V6 hv7 => ?_)
  have GC8 := Lib.hid (GB5.out.trans hv7)
  clear hv7
  go_upto_region 3 with fail
  refine wpK_region (by kernel_rfl) ?_
  refine wpK_tk (i := 0) (some 27) (v := .agg #[.int .i64 x1, .int .i64 x2, .int .i64 x3]) rfl rfl (by kernel_rfl) (fun _ _ _ h => h) (.load_mid (by rfl) 23 (.tmp 6) rfl (w.heap.size + 1 + 1) 0 rfl [.int .i64 x1, .int .i64 x2, .int .i64 x3] _ (fun W hg => (R2.out.below (GC8.out.trans (Gr.un hg))).range) Tryd.underlying23 rfl (by kernel_rfl)) ?_
  simp only [Act.put, List.setIfInBounds_toArray, List.set_cons_zero, List.set_cons_succ]
  refine wpK_tk (i := 1) (some 28) (v := .agg #[.int .i64 a1, .int .i64 a2, .int .i64 a3, .int .i64 a4, .int .i64 a5, .int .i64 a6]) rfl rfl (by kernel_rfl) (fun _ _ _ h => h) (.load_mid (by rfl) 31 (.tmp 4) rfl (w.heap.size) 0 rfl [.int .i64 a1, .int .i64 a2, .int .i64 a3, .int .i64 a4, .int .i64 a5, .int .i64 a6] _ (fun W hg => (R0.out.below (GC8.out.trans (Gr.un hg))).range) Tryd.underlying31 rfl (by kernel_rfl)) ?_
  simp only [Act.put, List.setIfInBounds_toArray, List.set_cons_zero, List.set_cons_succ]
  refine wpK_tk (i := 2) (some 29) (v := .bool false) rfl rfl (by kernel_rfl) (fun _ _ _ h => h) (.call (f := 25) (args := #[.agg #[.int .i64 x1, .int .i64 x2, .int .i64 x3], .agg #[.int .i64 a1, .int .i64 a2, .int .i64 a3, .int .i64 a4, .int .i64 a5, .int .i64 a6]]) (by rfl) (fun W => by go_simp) (fun W hg => in_any x1 x2 x3 a1 a2 a3 a4 a5 a6 false W HIA.out)) ?_
  simp only [Act.put, List.setIfInBounds_toArray, List.set_cons_zero, List.set_cons_succ]
  refine wpK_tk (i := 3) (some 30) (v := .agg #[.int .i64 x1, .int .i64 x2, .int .i64 x3]) rfl rfl (by kernel_rfl) (fun _ _ _ h => h) (.load_mid (by rfl) 23 (.tmp 6) rfl (w.heap.size + 1 + 1) 0 rfl [.int .i64 x1, .int .i64 x2, .int .i64 x3] _ (fun W hg => (R2.out.below (GC8.out.trans (Gr.un hg))).range) Tryd.underlying23 rfl (by kernel_rfl)) ?_
  simp only [Act.put, List.setIfInBounds_toArray, List.set_cons_zero, List.set_cons_succ]
  refine wpK_tk (i := 4) (some 31) (v := .agg #[.int .i64 b1, .int .i64 b2, .int .i64 b3, .int .i64 b4, .int .i64 b5, .int .i64 b6]) rfl rfl (by kernel_rfl) (fun _ _ _ h => h) (.load_mid (by rfl) 31 (.tmp 5) rfl (w.heap.size + 1) 0 rfl [.int .i64 b1, .int .i64 b2, .int .i64 b3, .int .i64 b4, .int .i64 b5, .int .i64 b6] _ (fun W hg => (R1.out.below (GC8.out.trans (Gr.un hg))).range) Tryd.underlying31 rfl (by kernel_rfl)) ?_
  simp only [Act.put, List.setIfInBounds_toArray, List.set_cons_zero, List.set_cons_succ]
  refine wpK_tk (i := 5) (some 32) (v := .bool false) rfl rfl (by kernel_rfl) (fun _ _ _ h => h) (.call (f := 25) (args := #[.agg #[.int .i64 x1, .int .i64 x2, .int .i64 x3], .agg #[.int .i64 b1, .int .i64 b2, .int .i64 b3, .int .i64 b4, .int .i64 b5, .int .i64 b6]]) (by rfl) (fun W => by go_simp) (fun W hg => in_any x1 x2 x3 b1 b2 b3 b4 b5 b6 false W HIB.out)) ?_
  simp only [Act.put, List.setIfInBounds_toArray, List.set_cons_zero, List.set_cons_succ]
  refine wpK_ta (i := 6) (some 9) (v := .bool false) rfl rfl (by kernel_rfl) (fun _ _ _ h => h) (Or.inl ⟨rfl, fun _ => rfl⟩) ?_
  simp only [Act.put, List.setIfInBounds_toArray, List.set_cons_zero, List.set_cons_succ]
  refine wpK_ta (i := 7) (some 10) (v := .bool false) rfl rfl (by kernel_rfl) (fun _ _ _ h => h) (Or.inl ⟨rfl, fun _ => rfl⟩) ?_
  simp only [Act.put, List.setIfInBounds_toArray, List.set_cons_zero, List.set_cons_succ]
  refine wpK_done (by kernel_rfl) (fun V9 hv10 => ?_) _
  have GC11 := Lib.hid (GC8.out.trans (Gr.un hv10))
  clear hv10
  go_upto_region 4 with fail
  refine wpG_region ?_
  refine wpG_tk (some 33) (v := .agg #[.int .i64 a1, .int .i64 a2, .int .i64 a3, .int .i64 a4, .int .i64 a5, .int .i64 a6]) rfl (.load_mid (by rfl) 31 (.tmp 4) rfl (w.heap.size) 0 rfl [.int .i64 a1, .int .i64 a2, .int .i64 a3, .int .i64 a4, .int .i64 a5, .int .i64 a6] _ (fun W hg => (R0.out.below (GC11.out.trans hg)).range) Tryd.underlying31 rfl (by kernel_rfl)) ?_
  simp only [Act.put, List.setIfInBounds_toArray, List.set_cons_zero, List.set_cons_succ]
  refine wpG_tk (some 34) (v := .agg #[.int .i64 b1, .int .i64 b2, .int .i64 b3, .int .i64 b4, .int .i64 b5, .int .i64 b6]) rfl (.load_mid (by rfl) 31 (.tmp 5) rfl (w.heap.size + 1) 0 rfl [.int .i64 b1, .int .i64 b2, .int .i64 b3, .int .i64 b4, .int .i64 b5, .int .i64 b6] _ (fun W hg => (R1.out.below (GC11.out.trans hg)).range) Tryd.underlying31 rfl (by kernel_rfl)) ?_
  simp only [Act.put, List.setIfInBounds_toArray, List.set_cons_zero, List.set_cons_succ]
  refine wpG_tk (some 35) (v := .agg #[.int .i64 (max a1 b1), .int .i64 (max a2 b2), .int .i64 (max a3 b3), .int .i64 (min a4 b4), .int .i64 (min a5 b5), .int .i64 (min a6 b6)]) rfl (.call (f := 35) (args := #[.agg #[.int .i64 a1, .int .i64 a2, .int .i64 a3, .int .i64 a4, .int .i64 a5, .int .i64 a6], .agg #[.int .i64 b1, .int .i64 b2, .int .i64 b3, .int .i64 b4, .int .i64 b5, .int .i64 b6]]) (by rfl) (fun W => by go_simp) (fun W hg => inter_f a1 a2 a3 a4 a5 a6 b1 b2 b3 b4 b5 b6 W (by omega) HM.out)) ?_
  simp only [Act.put, List.setIfInBounds_toArray, List.set_cons_zero, List.set_cons_succ]
  refine wpG_val (some 11) rfl (by rfl) (fun W12 hg13 => ⟨.pointer (some ⟨W12.heap.size, 0, none⟩), W12.alloc (.cells #[.int .i64 0, .int .i64 0, .int .i64 0, .int .i64 0, .int .i64 0, .int .i64 0] 31), by (go_simp <;> rfl), ?_⟩)
  simp only [Act.put, List.setIfInBounds_toArray, List.set_cons_zero, List.set_cons_succ]
  refine wpG_store (none) rfl (by rfl) (fun W14 hg15 => ⟨_, run_store_mid 31 (.tmp 11) (.tmp 35) rfl (W12.heap.size) 0 #[.int .i64 (max a1 b1), .int .i64 (max a2 b2), .int .i64 (max a3 b3), .int .i64 (min a4 b4), .int .i64 (min a5 b5), .int .i64 (min a6 b6)] rfl rfl (Row.room hg15 6 rfl) (by kernel_rfl) (by kernel_rfl), ?_⟩)
  simp only [Act.put]
  refine wpG_done (fun V16 hv17 => ?_)
  have l19 : w.heap.size < W12.heap.size := (R0.out.below (GC11.out.trans hg13)).lt
  have l20 : w.heap.size + 1 < W12.heap.size := (R1.out.below (GC11.out.trans hg13)).lt
  have l21 : w.heap.size + 1 + 1 < W12.heap.size := (R2.out.below (GC11.out.trans hg13)).lt
  have l22 : w.heap.size + 1 + 1 + 1 < W12.heap.size := (R3.out.below (GC11.out.trans hg13)).lt
  have l23 : w.heap.size ≤ W12.heap.size := (Gr.to G0.out (GC11.out.trans hg13)).size
  have R24 := Lib.hid ((R0.out.below (GC11.out.trans hg13)).past hg15 hv17)
  have R25 := Lib.hid ((R1.out.below (GC11.out.trans hg13)).past hg15 hv17)
  have R26 := Lib.hid ((R2.out.below (GC11.out.trans hg13)).past hg15 hv17)
  have R27 := Lib.hid ((R3.out.below (GC11.out.trans hg13)).past hg15 hv17)
  have R28 := Lib.hid (Row.made (zs := [.int .i64 0, .int .i64 0, .int .i64 0, .int .i64 0, .int .i64 0, .int .i64 0]) (ds := [.int .i64 (max a1 b1), .int .i64 (max a2 b2), .int .i64 (max a3 b3), .int .i64 (min a4 b4), .int .i64 (min a5 b5), .int .i64 (min a6 b6)]) rfl hg15 hv17)
  have G18 := Lib.hid (Gr.to (Gr.to G0.out (GC11.out.trans hg13)) (Gr.past hg15 hv17))
  have HT := Lib.hid (HT.out.below ((GC11.out.trans hg13).trans (Gr.past hg15 hv17)))
  clear hg15 hv17 
  go_upto_region 5 with fail
  refine wpK_region (by kernel_rfl) ?_
  refine wpK_tk (i := 0) (some 36) (v := .agg #[.int .i64 x1, .int .i64 x2, .int .i64 x3]) rfl rfl (by kernel_rfl) (fun _ _ _ h => h) (.load_mid (by rfl) 23 (.tmp 6) rfl (w.heap.size + 1 + 1) 0 rfl [.int .i64 x1, .int .i64 x2, .int .i64 x3] _ (fun W hg => (R26.out.below (Gr.un hg)).range) Tryd.underlying23 rfl (by kernel_rfl)) ?_
  simp only [Act.put, List.setIfInBounds_toArray, List.set_cons_zero, List.set_cons_succ]
  refine wpK_tk (i := 1) (some 37) (v := .agg #[.int .i64 (max a1 b1), .int .i64 (max a2 b2), .int .i64 (max a3 b3), .int .i64 (min a4 b4), .int .i64 (min a5 b5), .int .i64 (min a6 b6)]) rfl rfl (by kernel_rfl) (fun _ _ _ h => h) (.load_mid (by rfl) 31 (.tmp 11) rfl (W12.heap.size) 0 rfl [.int .i64 (max a1 b1), .int .i64 (max a2 b2), .int .i64 (max a3 b3), .int .i64 (min a4 b4), .int .i64 (min a5 b5), .int .i64 (min a6 b6)] _ (fun W hg => (R28.out.below (Gr.un hg)).range) Tryd.underlying31 rfl (by kernel_rfl)) ?_
  simp only [Act.put, List.setIfInBounds_toArray, List.set_cons_zero, List.set_cons_succ]
  refine wpK_tk (i := 2) (some 38) (v := .bool false) rfl rfl (by kernel_rfl) (fun _ _ _ h => h) (.call (f := 25) (args := #[.agg #[.int .i64 x1, .int .i64 x2, .int .i64 x3], .agg #[.int .i64 (max a1 b1), .int .i64 (max a2 b2), .int .i64 (max a3 b3), .int .i64 (min a4 b4), .int .i64 (min a5 b5), .int .i64 (min a6 b6)]]) (by rfl) (fun W => by go_simp) (fun W hg => in_any x1 x2 x3 (max a1 b1) (max a2 b2) (max a3 b3) (min a4 b4) (min a5 b5) (min a6 b6) false W (Pt.inB_false.2 (by omega)))) ?_
  simp only [Act.put, List.setIfInBounds_toArray, List.set_cons_zero, List.set_cons_succ]
  refine wpK_ta (i := 3) (some 39) (v := .bool false) rfl rfl (by kernel_rfl) (fun _ _ _ h => h) (Or.inl ⟨rfl, fun _ => rfl⟩) ?_
  simp only [Act.put, List.setIfInBounds_toArray, List.set_cons_zero, List.set_cons_succ]
  refine wpK_ta (i := 4) (some 40) (v := .bool false) rfl rfl (by kernel_rfl) (fun _ _ _ h => h) (Or.inl ⟨rfl, fun _ => rfl⟩) ?_
  simp only [Act.put, List.setIfInBounds_toArray, List.set_cons_zero, List.set_cons_succ]
  refine wpK_ta (i := 5) (some 41) (v := undef) rfl rfl (by kernel_rfl) (fun _ _ _ h => h) (Or.inr ⟨by rfl, rfl⟩) ?_
  simp only [Act.put, List.setIfInBounds_toArray, List.set_cons_zero, List.set_cons_succ]
  refine wpK_ta (i := 6) (some 42) (v := .bool false) rfl rfl (by kernel_rfl) (fun _ _ _ h => h) (Or.inl ⟨by rfl, fun W => by go_simp⟩) ?_
  simp only [Act.put, List.setIfInBounds_toArray, List.set_cons_zero, List.set_cons_succ]
  refine wpK_ta (i := 7) (some 43) (v := .bool false) rfl rfl (by kernel_rfl) (fun _ _ _ h => h) (Or.inl ⟨by rfl, fun W => by go_simp⟩) ?_
  simp only [Act.put, List.setIfInBounds_toArray, List.set_cons_zero, List.set_cons_succ]
  refine wpK_ta (i := 8) (some 44) (v := .bool false) rfl rfl (by kernel_rfl) (fun _ _ _ h => h) (Or.inl ⟨rfl, fun _ => rfl⟩) ?_
  simp only [Act.put, List.setIfInBounds_toArray, List.set_cons_zero, List.set_cons_succ]
  refine wpK_ta (i := 9) (some 45) (v := .bool false) rfl rfl (by kernel_rfl) (fun _ _ _ h => h) (Or.inl ⟨rfl, fun _ => rfl⟩) ?_
  simp only [Act.put, List.setIfInBounds_toArray, List.set_cons_zero, List.set_cons_succ]
  refine wpK_ta (i := 10) (some 46) (v := .bool false) rfl rfl (by kernel_rfl) (fun _ _ _ h => h) (Or.inl ⟨rfl, fun _ => rfl⟩) ?_
  simp only [Act.put, List.setIfInBounds_toArray, List.set_cons_zero, List.set_cons_succ]
  refine wpK_ta (i := 11) (some 47) (v := .bool false) rfl rfl (by kernel_rfl) (fun _ _ _ h => h) (Or.inl ⟨rfl, fun _ => rfl⟩) ?_
  simp only [Act.put, List.setIfInBounds_toArray, List.set_cons_zero, List.set_cons_succ]
  refine wpK_ta (i := 12) (some 48) (v := .bool false) rfl rfl (by kernel_rfl) (fun _ _ _ h => h) (Or.inl ⟨by rfl, fun W => by go_simp⟩) ?_
  simp only [Act.put, List.setIfInBounds_toArray, List.set_cons_zero, List.set_cons_succ]
  refine wpK_ta (i := 13) (some 49) (v := .bool false) rfl rfl (by kernel_rfl) (fun _ _ _ h => h) (Or.inl ⟨rfl, fun _ => rfl⟩) ?_
  simp only [Act.put, List.setIfInBounds_toArray, List.set_cons_zero, List.set_cons_succ]
  refine wpK_ta (i := 14) (some 50) (v := undef) rfl rfl (by kernel_rfl) (fun _ _ _ h => h) (Or.inr ⟨by rfl, rfl⟩) ?_
  simp only [Act.put, List.setIfInBounds_toArray, List.set_cons_zero, List.set_cons_succ]
  refine wpK_ta (i := 15) (some 51) (v := undef) rfl rfl (by kernel_rfl) (fun _ _ _ h => h) (Or.inr ⟨by rfl, rfl⟩) ?_
  simp only [Act.put, List.setIfInBounds_toArray, List.set_cons_zero, List.set_cons_succ]
  refine wpK_ta (i := 16) (some 52) (v := undef) rfl rfl (by kernel_rfl) (fun _ _ _ h => h) (Or.inr ⟨by rfl, rfl⟩) ?_
  simp only [Act.put, List.setIfInBounds_toArray, List.set_cons_zero, List.set_cons_succ]
  refine wpK_ta (i := 17) (some 53) (v := undef) rfl rfl (by kernel_rfl) (fun _ _ _ h => h) (Or.inr ⟨by rfl, rfl⟩) ?_
  simp only [Act.put, List.setIfInBounds_toArray, List.set_cons_zero, List.set_cons_succ]
  refine wpK_ta (i := 18) (some 54) (v := undef) rfl rfl (by kernel_rfl) (fun _ _ _ h => h) (Or.inr ⟨by rfl, rfl⟩) ?_
  simp only [Act.put, List.setIfInBounds_toArray, List.set_cons_zero, List.set_cons_succ]
  refine wpK_ta (i := 19) (some 55) (v := undef) rfl rfl (by kernel_rfl) (fun _ _ _ h => h) (Or.inr ⟨by rfl, rfl⟩) ?_
  simp only [Act.put, List.setIfInBounds_toArray, List.set_cons_zero, List.set_cons_succ]
  refine wpK_ta (i := 20) (some 56) (v := .bool false) rfl rfl (by kernel_rfl) (fun _ _ _ h => h) (Or.inl ⟨by rfl, fun W => by go_simp⟩) ?_
  simp only [Act.put, List.setIfInBounds_toArray, List.set_cons_zero, List.set_cons_succ]
  refine wpK_ta (i := 21) (some 57) (v := .bool false) rfl rfl (by kernel_rfl) (fun _ _ _ h => h) (Or.inl ⟨by rfl, fun W => by go_simp⟩) ?_
  simp only [Act.put, List.setIfInBounds_toArray, List.set_cons_zero, List.set_cons_succ]
  refine wpK_ta (i := 22) (some 58) (v := .bool false) rfl rfl (by kernel_rfl) (fun _ _ _ h => h) (Or.inl ⟨rfl, fun _ => rfl⟩) ?_
  simp only [Act.put, List.setIfInBounds_toArray, List.set_cons_zero, List.set_cons_succ]
  refine wpK_tk (i := 23) (some 59) (v := .agg #[.int .i64 (max a1 b1), .int .i64 (max a2 b2), .int .i64 (max a3 b3), .int .i64 (min a4 b4), .int .i64 (min a5 b5), .int .i64 (min a6 b6)]) rfl rfl (by kernel_rfl) (fun _ _ _ h => h) (.load_mid (by rfl) 31 (.tmp 11) rfl (W12.heap.size) 0 rfl [.int .i64 (max a1 b1), .int .i64 (max a2 b2), .int .i64 (max a3 b3), .int .i64 (min a4 b4), .int .i64 (min a5 b5), .int .i64 (min a6 b6)] _ (fun W hg => (R28.out.below (Gr.un hg)).range) Tryd.underlying31 rfl (by kernel_rfl)) ?_
  simp only [Act.put, List.setIfInBounds_toArray, List.set_cons_zero, List.set_cons_succ]
  refine wpK_tk (i := 24) (some 60) (v := .int .i64 (Pt.vol (max a1 b1) (max a2 b2) (max a3 b3) (min a4 b4) (min a5 b5) (min a6 b6))) rfl rfl (by kernel_rfl) (fun _ _ _ h => h) (.call (f := 29) (args := #[.agg #[.int .i64 (max a1 b1), .int .i64 (max a2 b2), .int .i64 (max a3 b3), .int .i64 (min a4 b4), .int .i64 (min a5 b5), .int .i64 (min a6 b6)]]) (by rfl) (fun W => by go_simp) (fun W hg => volume_any (max a1 b1) (max a2 b2) (max a3 b3) (min a4 b4) (min a5 b5) (min a6 b6) W (by omega))) ?_
  simp only [Act.put, List.setIfInBounds_toArray, List.set_cons_zero, List.set_cons_succ]
  refine wpK_tk (i := 25) (some 61) (v := .agg #[.int .i64 a1, .int .i64 a2, .int .i64 a3, .int .i64 a4, .int .i64 a5, .int .i64 a6]) rfl rfl (by kernel_rfl) (fun _ _ _ h => h) (.load_mid (by rfl) 31 (.tmp 4) rfl (w.heap.size) 0 rfl [.int .i64 a1, .int .i64 a2, .int .i64 a3, .int .i64 a4, .int .i64 a5, .int .i64 a6] _ (fun W hg => (R24.out.below (Gr.un hg)).range) Tryd.underlying31 rfl (by kernel_rfl)) ?_
  simp only [Act.put, List.setIfInBounds_toArray, List.set_cons_zero, List.set_cons_succ]
  refine wpK_tk (i := 26) (some 62) (v := .int .i64 (Pt.vol a1 a2 a3 a4 a5 a6)) rfl rfl (by kernel_rfl) (fun _ _ _ h => h) (.call (f := 29) (args := #[.agg #[.int .i64 a1, .int .i64 a2, .int .i64 a3, .int .i64 a4, .int .i64 a5, .int .i64 a6]]) (by rfl) (fun W => by go_simp) (fun W hg => volume_any a1 a2 a3 a4 a5 a6 W (by omega))) ?_
  simp only [Act.put, List.setIfInBounds_toArray, List.set_cons_zero, List.set_cons_succ]
  refine wpK_ta (i := 27) (some 63) (v := .bool false) rfl rfl (by kernel_rfl) (fun _ _ _ h => h) (Or.inl ⟨by rfl, fun W => by have hq : ¬ (Pt.vol (max a1 b1) (max a2 b2) (max a3 b3) (min a4 b4) (min a5 b5) (min a6 b6) > Pt.vol a1 a2 a3 a4 a5 a6) := (by omega); first | (go_simp; done) | (go_simp <;> omega)⟩) ?_
  simp only [Act.put, List.setIfInBounds_toArray, List.set_cons_zero, List.set_cons_succ]
  refine wpK_ta (i := 28) (some 64) (v := .bool false) rfl rfl (by kernel_rfl) (fun _ _ _ h => h) (Or.inl ⟨by rfl, fun W => by go_simp⟩) ?_
  simp only [Act.put, List.setIfInBounds_toArray, List.set_cons_zero, List.set_cons_succ]
  refine wpK_done (by kernel_rfl) (fun V29 hv30 => ?_) _
  have GC31 := Lib.hid (Gr.un hv30)
  clear hv30
  go_upto_region 7 with fail
  refine wpG_region ?_
  refine wpG_tk (some 65) (v := .agg #[.int .i64 a1, .int .i64 a2, .int .i64 a3, .int .i64 a4, .int .i64 a5, .int .i64 a6]) rfl (.load_mid (by rfl) 31 (.tmp 4) rfl (w.heap.size) 0 rfl [.int .i64 a1, .int .i64 a2, .int .i64 a3, .int .i64 a4, .int .i64 a5, .int .i64 a6] _ (fun W hg => (R24.out.below (GC31.out.trans hg)).range) Tryd.underlying31 rfl (by kernel_rfl)) ?_
  simp only [Act.put, List.setIfInBounds_toArray, List.set_cons_zero, List.set_cons_succ]
  refine wpG_tk (some 66) (v := .agg #[.int .i64 b1, .int .i64 b2, .int .i64 b3, .int .i64 b4, .int .i64 b5, .int .i64 b6]) rfl (.load_mid (by rfl) 31 (.tmp 5) rfl (w.heap.size + 1) 0 rfl [.int .i64 b1, .int .i64 b2, .int .i64 b3, .int .i64 b4, .int .i64 b5, .int .i64 b6] _ (fun W hg => (R25.out.below (GC31.out.trans hg)).range) Tryd.underlying31 rfl (by kernel_rfl)) ?_
  simp only [Act.put, List.setIfInBounds_toArray, List.set_cons_zero, List.set_cons_succ]
  refine wpG_tk (some 67) (v := .bool false) rfl (.call (f := 39) (args := #[.agg #[.int .i64 a1, .int .i64 a2, .int .i64 a3, .int .i64 a4, .int .i64 a5, .int .i64 a6], .agg #[.int .i64 b1, .int .i64 b2, .int .i64 b3, .int .i64 b4, .int .i64 b5, .int .i64 b6]]) (by rfl) (fun W => by go_simp) (fun W hg => contains_n a1 a2 a3 a4 a5 a6 b1 b2 b3 b4 b5 b6 W (by omega) HB.out HM.out HC.out)) ?_
  simp only [Act.put, List.setIfInBounds_toArray, List.set_cons_zero, List.set_cons_succ]
  refine wpG_tk (some 12) (v := .bool false) rfl (.val (by rfl) (fun _ _ => rfl)) ?_
  simp only [Act.put, List.setIfInBounds_toArray, List.set_cons_zero, List.set_cons_succ]
  refine wpG_done (fun V32 hv33 => ?_)
  have GC34 := Lib.hid (GC31.out.trans hv33)
  clear hv33
  go_upto_region 8 with fail
  refine wpK_region (by kernel_rfl) ?_
  refine wpK_tk (i := 0) (some 68) (v := .bool true) rfl rfl (by kernel_rfl) (fun _ _ _ h => h) (.call (f := 12) (args := #[]) (by rfl) (fun W => by go_simp) (fun W hg => sanity_any W (HT.out.below (GC34.out.trans (Gr.un hg))))) ?_
  simp only [Act.put, List.setIfInBounds_toArray, List.set_cons_zero, List.set_cons_succ]
  refine wpK_ta (i := 1) (some 69) (v := .bool true) rfl rfl (by kernel_rfl) (fun _ _ _ h => h) (Or.inl ⟨rfl, fun _ => rfl⟩) ?_
  simp only [Act.put, List.setIfInBounds_toArray, List.set_cons_zero, List.set_cons_succ]
  refine wpK_ta (i := 2) (some 70) (v := .bool false) rfl rfl (by kernel_rfl) (fun _ _ _ h => h) (Or.inl ⟨rfl, fun _ => rfl⟩) ?_
  simp only [Act.put, List.setIfInBounds_toArray, List.set_cons_zero, List.set_cons_succ]
  refine wpK_tk (i := 3) (some 71) (v := .agg #[.int .i64 (max a1 b1), .int .i64 (max a2 b2), .int .i64 (max a3 b3), .int .i64 (min a4 b4), .int .i64 (min a5 b5), .int .i64 (min a6 b6)]) rfl rfl (by kernel_rfl) (fun _ _ _ h => h) (.load_mid (by rfl) 31 (.tmp 11) rfl (W12.heap.size) 0 rfl [.int .i64 (max a1 b1), .int .i64 (max a2 b2), .int .i64 (max a3 b3), .int .i64 (min a4 b4), .int .i64 (min a5 b5), .int .i64 (min a6 b6)] _ (fun W hg => (R28.out.below (GC34.out.trans (Gr.un hg))).range) Tryd.underlying31 rfl (by kernel_rfl)) ?_
  simp only [Act.put, List.setIfInBounds_toArray, List.set_cons_zero, List.set_cons_succ]
  refine wpK_tk (i := 4) (some 72) (v := .int .i64 (Pt.vol (max a1 b1) (max a2 b2) (max a3 b3) (min a4 b4) (min a5 b5) (min a6 b6))) rfl rfl (by kernel_rfl) (fun _ _ _ h => h) (.call (f := 29) (args := #[.agg #[.int .i64 (max a1 b1), .int .i64 (max a2 b2), .int .i64 (max a3 b3), .int .i64 (min a4 b4), .int .i64 (min a5 b5), .int .i64 (min a6 b6)]]) (by rfl) (fun W => by go_simp) (fun W hg => volume_any (max a1 b1) (max a2 b2) (max a3 b3) (min a4 b4) (min a5 b5) (min a6 b6) W (by omega))) ?_
  simp only [Act.put, List.setIfInBounds_toArray, List.set_cons_zero, List.set_cons_succ]
  refine wpK_tk (i := 5) (some 73) (v := .agg #[.int .i64 b1, .int .i64 b2, .int .i64 b3, .int .i64 b4, .int .i64 b5, .int .i64 b6]) rfl rfl (by kernel_rfl) (fun _ _ _ h => h) (.load_mid (by rfl) 31 (.tmp 5) rfl (w.heap.size + 1) 0 rfl [.int .i64 b1, .int .i64 b2, .int .i64 b3, .int .i64 b4, .int .i64 b5, .int .i64 b6] _ (fun W hg => (R25.out.below (GC34.out.trans (Gr.un hg))).range) Tryd.underlying31 rfl (by kernel_rfl)) ?_
  simp only [Act.put, List.setIfInBounds_toArray, List.set_cons_zero, List.set_cons_succ]
  refine wpK_tk (i := 6) (some 74) (v := .int .i64 (Pt.vol b1 b2 b3 b4 b5 b6)) rfl rfl (by kernel_rfl) (fun _ _ _ h => h) (.call (f := 29) (args := #[.agg #[.int .i64 b1, .int .i64 b2, .int .i64 b3, .int .i64 b4, .int .i64 b5, .int .i64 b6]]) (by rfl) (fun W => by go_simp) (fun W hg => volume_any b1 b2 b3 b4 b5 b6 W (by omega))) ?_
  simp only [Act.put, List.setIfInBounds_toArray, List.set_cons_zero, List.set_cons_succ]
  refine wpK_ta (i := 7) (some 75) (v := .bool false) rfl rfl (by kernel_rfl) (fun _ _ _ h => h) (Or.inl ⟨by rfl, fun W => by have hq : ¬ (Pt.vol (max a1 b1) (max a2 b2) (max a3 b3) (min a4 b4) (min a5 b5) (min a6 b6) = Pt.vol b1 b2 b3 b4 b5 b6) := (by omega); first | (go_simp; done) | (go_simp <;> omega)⟩) ?_
  simp only [Act.put, List.setIfInBounds_toArray, List.set_cons_zero, List.set_cons_succ]
  refine wpK_ta (i := 8) (some 76) (v := .bool true) rfl rfl (by kernel_rfl) (fun _ _ _ h => h) (Or.inl ⟨by rfl, fun W => by go_simp⟩) ?_
  simp only [Act.put, List.setIfInBounds_toArray, List.set_cons_zero, List.set_cons_succ]
  refine wpK_ta (i := 9) (some 77) (v := .bool true) rfl rfl (by kernel_rfl) (fun _ _ _ h => h) (Or.inl ⟨by rfl, fun W => by go_simp⟩) ?_
  simp only [Act.put, List.setIfInBounds_toArray, List.set_cons_zero, List.set_cons_succ]
  refine wpK_ta (i := 10) (some 78) (v := .bool true) rfl rfl (by kernel_rfl) (fun _ _ _ h => h) (Or.inl ⟨rfl, fun _ => rfl⟩) ?_
  simp only [Act.put, List.setIfInBounds_toArray, List.set_cons_zero, List.set_cons_succ]
  refine wpK_ta (i := 11) (some 79) (v := .bool false) rfl rfl (by kernel_rfl) (fun _ _ _ h => h) (Or.inl ⟨rfl, fun _ => rfl⟩) ?_
  simp only [Act.put, List.setIfInBounds_toArray, List.set_cons_zero, List.set_cons_succ]
  refine wpK_ta (i := 12) (some 80) (v := .bool true) rfl rfl (by kernel_rfl) (fun _ _ _ h => h) (Or.inl ⟨by rfl, fun W => by go_simp⟩) ?_
  simp only [Act.put, List.setIfInBounds_toArray, List.set_cons_zero, List.set_cons_succ]
  refine wpK_ta (i := 13) (some 81) (v := .bool true) rfl rfl (by kernel_rfl) (fun _ _ _ h => h) (Or.inl ⟨rfl, fun _ => rfl⟩) ?_
  simp only [Act.put, List.setIfInBounds_toArray, List.set_cons_zero, List.set_cons_succ]
  refine wpK_ta (i := 14) (some 82) (v := undef) rfl rfl (by kernel_rfl) (fun _ _ _ h => h) (Or.inr ⟨by rfl, rfl⟩) ?_
  simp only [Act.put, List.setIfInBounds_toArray, List.set_cons_zero, List.set_cons_succ]
  refine wpK_ta (i := 15) (some 83) (v := undef) rfl rfl (by kernel_rfl) (fun _ _ _ h => h) (Or.inr ⟨by rfl, rfl⟩) ?_
  simp only [Act.put, List.setIfInBounds_toArray, List.set_cons_zero, List.set_cons_succ]
  refine wpK_ta (i := 16) (some 84) (v := .bool true) rfl rfl (by kernel_rfl) (fun _ _ _ h => h) (Or.inl ⟨by rfl, fun W => by go_simp⟩) ?_
  simp only [Act.put, List.setIfInBounds_toArray, List.set_cons_zero, List.set_cons_succ]
  refine wpK_ta (i := 17) (some 85) (v := .bool true) rfl rfl (by kernel_rfl) (fun _ _ _ h => h) (Or.inl ⟨rfl, fun _ => rfl⟩) ?_
  simp only [Act.put, List.setIfInBounds_toArray, List.set_cons_zero, List.set_cons_succ]
  refine wpK_ta (i := 18) (some 86) (v := undef) rfl rfl (by kernel_rfl) (fun _ _ _ h => h) (Or.inr ⟨by rfl, rfl⟩) ?_
  simp only [Act.put, List.setIfInBounds_toArray, List.set_cons_zero, List.set_cons_succ]
  refine wpK_ta (i := 19) (some 87) (v := .bool true) rfl rfl (by kernel_rfl) (fun _ _ _ h => h) (Or.inl ⟨by rfl, fun W => by go_simp⟩) ?_
  simp only [Act.put, List.setIfInBounds_toArray, List.set_cons_zero, List.set_cons_succ]
  refine wpK_ta (i := 20) (some 88) (v := .bool true) rfl rfl (by kernel_rfl) (fun _ _ _ h => h) (Or.inl ⟨by rfl, fun W => by go_simp⟩) ?_
  simp only [Act.put, List.setIfInBounds_toArray, List.set_cons_zero, List.set_cons_succ]
  refine wpK_ta (i := 21) (some 89) (v := .bool true) rfl rfl (by kernel_rfl) (fun _ _ _ h => h) (Or.inl ⟨rfl, fun _ => rfl⟩) ?_
  simp only [Act.put, List.setIfInBounds_toArray, List.set_cons_zero, List.set_cons_succ]
  refine wpK_tk (i := 22) (some 90) (v := .agg #[.int .i64 x1, .int .i64 x2, .int .i64 x3]) rfl rfl (by kernel_rfl) (fun _ _ _ h => h) (.load_mid (by rfl) 23 (.tmp 6) rfl (w.heap.size + 1 + 1) 0 rfl [.int .i64 x1, .int .i64 x2, .int .i64 x3] _ (fun W hg => (R26.out.below (GC34.out.trans (Gr.un hg))).range) Tryd.underlying23 rfl (by kernel_rfl)) ?_
  simp only [Act.put, List.setIfInBounds_toArray, List.set_cons_zero, List.set_cons_succ]
  refine wpK_tk (i := 23) (some 91) (v := .agg #[.int .i64 y1, .int .i64 y2, .int .i64 y3]) rfl rfl (by kernel_rfl) (fun _ _ _ h => h) (.load_mid (by rfl) 23 (.tmp 7) rfl (w.heap.size + 1 + 1 + 1) 0 rfl [.int .i64 y1, .int .i64 y2, .int .i64 y3] _ (fun W hg => (R27.out.below (GC34.out.trans (Gr.un hg))).range) Tryd.underlying23 rfl (by kernel_rfl)) ?_
  simp only [Act.put, List.setIfInBounds_toArray, List.set_cons_zero, List.set_cons_succ]
  refine wpK_tk (i := 24) (some 92) (v := .agg #[.int .i64 (x1 + y1), .int .i64 (x2 + y2), .int .i64 (x3 + y3)]) rfl rfl (by kernel_rfl) (fun _ _ _ h => h) (.call (f := 13) (args := #[.agg #[.int .i64 x1, .int .i64 x2, .int .i64 x3], .agg #[.int .i64 y1, .int .i64 y2, .int .i64 y3]]) (by rfl) (fun W => by go_simp) (fun W hg => add_any x1 x2 x3 y1 y2 y3 W (by omega))) ?_
  simp only [Act.put, List.setIfInBounds_toArray, List.set_cons_zero, List.set_cons_succ]
  refine wpK_tk (i := 25) (some 93) (v := .agg #[.int .i64 a1, .int .i64 a2, .int .i64 a3, .int .i64 a4, .int .i64 a5, .int .i64 a6]) rfl rfl (by kernel_rfl) (fun _ _ _ h => h) (.load_mid (by rfl) 31 (.tmp 4) rfl (w.heap.size) 0 rfl [.int .i64 a1, .int .i64 a2, .int .i64 a3, .int .i64 a4, .int .i64 a5, .int .i64 a6] _ (fun W hg => (R24.out.below (GC34.out.trans (Gr.un hg))).range) Tryd.underlying31 rfl (by kernel_rfl)) ?_
  simp only [Act.put, List.setIfInBounds_toArray, List.set_cons_zero, List.set_cons_succ]
  refine wpK_tk (i := 26) (some 94) (v := .agg #[.int .i64 y1, .int .i64 y2, .int .i64 y3]) rfl rfl (by kernel_rfl) (fun _ _ _ h => h) (.load_mid (by rfl) 23 (.tmp 7) rfl (w.heap.size + 1 + 1 + 1) 0 rfl [.int .i64 y1, .int .i64 y2, .int .i64 y3] _ (fun W hg => (R27.out.below (GC34.out.trans (Gr.un hg))).range) Tryd.underlying23 rfl (by kernel_rfl)) ?_
  simp only [Act.put, List.setIfInBounds_toArray, List.set_cons_zero, List.set_cons_succ]
  refine wpK_tk (i := 27) (some 95) (v := .agg #[.int .i64 (a1 + y1), .int .i64 (a2 + y2), .int .i64 (a3 + y3), .int .i64 (a4 + y1), .int .i64 (a5 + y2), .int .i64 (a6 + y3)]) rfl rfl (by kernel_rfl) (fun _ _ _ h => h) (.call (f := 33) (args := #[.agg #[.int .i64 a1, .int .i64 a2, .int .i64 a3, .int .i64 a4, .int .i64 a5, .int .i64 a6], .agg #[.int .i64 y1, .int .i64 y2, .int .i64 y3]]) (by rfl) (fun W => by go_simp) (fun W hg => shift_any a1 a2 a3 a4 a5 a6 y1 y2 y3 W (by omega))) ?_
  simp only [Act.put, List.setIfInBounds_toArray, List.set_cons_zero, List.set_cons_succ]
  refine wpK_tk (i := 28) (some 96) (v := .bool false) rfl rfl (by kernel_rfl) (fun _ _ _ h => h) (.call (f := 25) (args := #[.agg #[.int .i64 (x1 + y1), .int .i64 (x2 + y2), .int .i64 (x3 + y3)], .agg #[.int .i64 (a1 + y1), .int .i64 (a2 + y2), .int .i64 (a3 + y3), .int .i64 (a4 + y1), .int .i64 (a5 + y2), .int .i64 (a6 + y3)]]) (by rfl) (fun W => by go_simp) (fun W hg => in_any (x1 + y1) (x2 + y2) (x3 + y3) (a1 + y1) (a2 + y2) (a3 + y3) (a4 + y1) (a5 + y2) (a6 + y3) false W (Pt.inB_false.2 (by omega)))) ?_
  simp only [Act.put, List.setIfInBounds_toArray, List.set_cons_zero, List.set_cons_succ]
  refine wpK_ta (i := 29) (some 97) (v := .bool false) rfl rfl (by kernel_rfl) (fun _ _ _ h => h) (Or.inl ⟨rfl, fun _ => rfl⟩) ?_
  simp only [Act.put, List.setIfInBounds_toArray, List.set_cons_zero, List.set_cons_succ]
  refine wpK_ta (i := 30) (some 98) (v := .bool true) rfl rfl (by kernel_rfl) (fun _ _ _ h => h) (Or.inl ⟨by rfl, fun W => by go_simp⟩) ?_
  simp only [Act.put, List.setIfInBounds_toArray, List.set_cons_zero, List.set_cons_succ]
  refine wpK_ta (i := 31) (some 99) (v := .bool true) rfl rfl (by kernel_rfl) (fun _ _ _ h => h) (Or.inl ⟨by rfl, fun W => by go_simp⟩) ?_
  simp only [Act.put, List.setIfInBounds_toArray, List.set_cons_zero, List.set_cons_succ]
  refine wpK_ta (i := 32) (some 100) (v := .bool true) rfl rfl (by kernel_rfl) (fun _ _ _ h => h) (Or.inl ⟨rfl, fun _ => rfl⟩) ?_
  simp only [Act.put, List.setIfInBounds_toArray, List.set_cons_zero, List.set_cons_succ]
  refine wpK_tk (i := 33) (some 101) (v := .agg #[.int .i64 a1, .int .i64 a2, .int .i64 a3, .int .i64 a4, .int .i64 a5, .int .i64 a6]) rfl rfl (by kernel_rfl) (fun _ _ _ h => h) (.load_mid (by rfl) 31 (.tmp 4) rfl (w.heap.size) 0 rfl [.int .i64 a1, .int .i64 a2, .int .i64 a3, .int .i64 a4, .int .i64 a5, .int .i64 a6] _ (fun W hg => (R24.out.below (GC34.out.trans (Gr.un hg))).range) Tryd.underlying31 rfl (by kernel_rfl)) ?_
  simp only [Act.put, List.setIfInBounds_toArray, List.set_cons_zero, List.set_cons_succ]
  refine wpK_tk (i := 34) (some 102) (v := .int .i64 (Pt.vol a1 a2 a3 a4 a5 a6)) rfl rfl (by kernel_rfl) (fun _ _ _ h => h) (.call (f := 29) (args := #[.agg #[.int .i64 a1, .int .i64 a2, .int .i64 a3, .int .i64 a4, .int .i64 a5, .int .i64 a6]]) (by rfl) (fun W => by go_simp) (fun W hg => volume_any a1 a2 a3 a4 a5 a6 W (by omega))) ?_
  simp only [Act.put, List.setIfInBounds_toArray, List.set_cons_zero, List.set_cons_succ]
  refine wpK_ta (i := 35) (some 103) (v := .bool false) rfl rfl (by kernel_rfl) (fun _ _ _ h => h) (Or.inl ⟨by rfl, fun W => by have hq : ¬ (Pt.vol a1 a2 a3 a4 a5 a6 = 0) := (by omega); first | (go_simp; done) | (go_simp <;> omega)⟩) ?_
  simp only [Act.put, List.setIfInBounds_toArray, List.set_cons_zero, List.set_cons_succ]
  refine wpK_tk (i := 36) (some 104) (v := .agg #[.int .i64 a1, .int .i64 a2, .int .i64 a3, .int .i64 a4, .int .i64 a5, .int .i64 a6]) rfl rfl (by kernel_rfl) (fun _ _ _ h => h) (.load_mid (by rfl) 31 (.tmp 4) rfl (w.heap.size) 0 rfl [.int .i64 a1, .int .i64 a2, .int .i64 a3, .int .i64 a4, .int .i64 a5, .int .i64 a6] _ (fun W hg => (R24.out.below (GC34.out.trans (Gr.un hg))).range) Tryd.underlying31 rfl (by kernel_rfl)) ?_
  simp only [Act.put, List.setIfInBounds_toArray, List.set_cons_zero, List.set_cons_succ]
  refine wpK_tk (i := 37) (some 105) (v := .bool false) rfl rfl (by kernel_rfl) (fun _ _ _ h => h) (.call (f := 23) (args := #[.agg #[.int .i64 a1, .int .i64 a2, .int .i64 a3, .int .i64 a4, .int .i64 a5, .int .i64 a6]]) (by rfl) (fun W => by go_simp) (fun W hg => empty_any a1 a2 a3 a4 a5 a6 false W HA.out)) ?_
  simp only [Act.put, List.setIfInBounds_toArray, List.set_cons_zero, List.set_cons_succ]
  refine wpK_ta (i := 38) (some 106) (v := .bool true) rfl rfl (by kernel_rfl) (fun _ _ _ h => h) (Or.inl ⟨by rfl, fun W => by go_simp⟩) ?_
  simp only [Act.put, List.setIfInBounds_toArray, List.set_cons_zero, List.set_cons_succ]
  refine wpK_ta (i := 39) (some 107) (v := .bool true) rfl rfl (by kernel_rfl) (fun _ _ _ h => h) (Or.inl ⟨by rfl, fun W => by go_simp⟩) ?_
  simp only [Act.put, List.setIfInBounds_toArray, List.set_cons_zero, List.set_cons_succ]
  refine wpK_ta (i := 40) (some 108) (v := .bool true) rfl rfl (by kernel_rfl) (fun _ _ _ h => h) (Or.inl ⟨rfl, fun _ => rfl⟩) ?_
  simp only [Act.put, List.setIfInBounds_toArray, List.set_cons_zero, List.set_cons_succ]
  refine wpK_tk (i := 41) (some 109) (v := .agg #[.int .i64 a1, .int .i64 a2, .int .i64 a3, .int .i64 a4, .int .i64 a5, .int .i64 a6]) rfl rfl (by kernel_rfl) (fun _ _ _ h => h) (.load_mid (by rfl) 31 (.tmp 4) rfl (w.heap.size) 0 rfl [.int .i64 a1, .int .i64 a2, .int .i64 a3, .int .i64 a4, .int .i64 a5, .int .i64 a6] _ (fun W hg => (R24.out.below (GC34.out.trans (Gr.un hg))).range) Tryd.underlying31 rfl (by kernel_rfl)) ?_
  simp only [Act.put, List.setIfInBounds_toArray, List.set_cons_zero, List.set_cons_succ]
  refine wpK_tk (i := 42) (some 110) (v := .agg #[.int .i64 b1, .int .i64 b2, .int .i64 b3, .int .i64 b4, .int .i64 b5, .int .i64 b6]) rfl rfl (by kernel_rfl) (fun _ _ _ h => h) (.load_mid (by rfl) 31 (.tmp 5) rfl (w.heap.size + 1) 0 rfl [.int .i64 b1, .int .i64 b2, .int .i64 b3, .int .i64 b4, .int .i64 b5, .int .i64 b6] _ (fun W hg => (R25.out.below (GC34.out.trans (Gr.un hg))).range) Tryd.underlying31 rfl (by kernel_rfl)) ?_
  simp only [Act.put, List.setIfInBounds_toArray, List.set_cons_zero, List.set_cons_succ]
  refine wpK_tk (i := 43) (some 111) (v := .agg #[.int .i64 (min a1 b1), .int .i64 (min a2 b2), .int .i64 (min a3 b3), .int .i64 (max a4 b4), .int .i64 (max a5 b5), .int .i64 (max a6 b6)]) rfl rfl (by kernel_rfl) (fun _ _ _ h => h) (.call (f := 37) (args := #[.agg #[.int .i64 a1, .int .i64 a2, .int .i64 a3, .int .i64 a4, .int .i64 a5, .int .i64 a6], .agg #[.int .i64 b1, .int .i64 b2, .int .i64 b3, .int .i64 b4, .int .i64 b5, .int .i64 b6]]) (by rfl) (fun W => by go_simp) (fun W hg => hull_ff a1 a2 a3 a4 a5 a6 b1 b2 b3 b4 b5 b6 W (by omega) HA.out HB.out)) ?_
  simp only [Act.put, List.setIfInBounds_toArray, List.set_cons_zero, List.set_cons_succ]
  refine wpK_tk (i := 44) (some 112) (v := .agg #[.int .i64 a1, .int .i64 a2, .int .i64 a3, .int .i64 a4, .int .i64 a5, .int .i64 a6]) rfl rfl (by kernel_rfl) (fun _ _ _ h => h) (.load_mid (by rfl) 31 (.tmp 4) rfl (w.heap.size) 0 rfl [.int .i64 a1, .int .i64 a2, .int .i64 a3, .int .i64 a4, .int .i64 a5, .int .i64 a6] _ (fun W hg => (R24.out.below (GC34.out.trans (Gr.un hg))).range) Tryd.underlying31 rfl (by kernel_rfl)) ?_
  simp only [Act.put, List.setIfInBounds_toArray, List.set_cons_zero, List.set_cons_succ]
  refine wpK_tk (i := 45) (some 113) (v := .bool true) rfl rfl (by kernel_rfl) (fun _ _ _ h => h) (.call (f := 39) (args := #[.agg #[.int .i64 (min a1 b1), .int .i64 (min a2 b2), .int .i64 (min a3 b3), .int .i64 (max a4 b4), .int .i64 (max a5 b5), .int .i64 (max a6 b6)], .agg #[.int .i64 a1, .int .i64 a2, .int .i64 a3, .int .i64 a4, .int .i64 a5, .int .i64 a6]]) (by rfl) (fun W => by go_simp) (fun W hg => contains_y (min a1 b1) (min a2 b2) (min a3 b3) (max a4 b4) (max a5 b5) (max a6 b6) a1 a2 a3 a4 a5 a6 W (by omega) HA.out (by unfold Pt.meet; exact Pt.emp_false.2 (by omega)) (by omega))) ?_
  simp only [Act.put, List.setIfInBounds_toArray, List.set_cons_zero, List.set_cons_succ]
  refine wpK_ta (i := 46) (some 114) (v := .bool true) rfl rfl (by kernel_rfl) (fun _ _ _ h => h) (Or.inl ⟨by rfl, fun W => by go_simp⟩) ?_
  simp only [Act.put, List.setIfInBounds_toArray, List.set_cons_zero, List.set_cons_succ]
  refine wpK_ta (i := 47) (some 8) (v := .bool true) rfl rfl (by kernel_rfl) (fun _ _ _ h => h) (Or.inl ⟨rfl, fun _ => rfl⟩) ?_
  simp only [Act.put, List.setIfInBounds_toArray, List.set_cons_zero, List.set_cons_succ]
  refine wpK_done (by kernel_rfl) (fun V35 hv36 => ?_) _
  have GC37 := Lib.hid (GC34.out.trans (Gr.un hv36))
  clear hv36
  go_wp2_with fail
  go_ret
  exact ⟨rfl, Gr.to G18.out GC37.out⟩

end Go.Proofs.YthadlgjobjnhcaaDoor
