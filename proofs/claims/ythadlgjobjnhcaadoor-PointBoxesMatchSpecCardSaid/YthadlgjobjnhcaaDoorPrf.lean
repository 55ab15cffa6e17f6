/-
  Contracts of the specification of package point: the distance from a box.
-/
import Derived.Test.YthadlgjobjnhcaaDoorPre
import Derived.Handy
namespace Go.Proofs.YthadlgjobjnhcaaDoor
open Go.RowKit
set_option linter.unusedVariables false
set_option maxRecDepth 1000000 in
set_option maxHeartbeats 4000000 in
theorem rnear_t (x1 x2 x3 a1 a2 a3 a4 a5 a6 : Int) (w : World) (b : (-2097152 ≤ x1 ∧ x1 ≤ 2097152) ∧ (-2097152 ≤ x2 ∧ x2 ≤ 2097152) ∧ (-2097152 ≤ x3 ∧ x3 ≤ 2097152) ∧ (-2097152 ≤ a1 ∧ a1 ≤ 2097152) ∧ (-2097152 ≤ a2 ∧ a2 ≤ 2097152) ∧ (-2097152 ≤ a3 ∧ a3 ≤ 2097152) ∧ (-2097152 ≤ a4 ∧ a4 ≤ 2097152) ∧ (-2097152 ≤ a5 ∧ a5 ≤ 2097152) ∧ (-2097152 ≤ a6 ∧ a6 ≤ 2097152)) (h : Pt.emp a1 a2 a3 a4 a5 a6 = true) :
    Calls Tryd.prog 42 #[.agg #[.int .i64 x1, .int .i64 x2, .int .i64 x3], .agg #[.int .i64 a1, .int .i64 a2, .int .i64 a3, .int .i64 a4, .int .i64 a5, .int .i64 a6]] w fun e w' => e = .returned (.int .i64 (-1)) ∧ Below w.heap.size w w' := by
  have HE := Lib.hid h
  clear h
  obtain ⟨u, hu, r0, r1, g0⟩ := rows2 w [.int .i64 x1, .int .i64 x2, .int .i64 x3] 23 [.int .i64 a1, .int .i64 a2, .int .i64 a3, .int .i64 a4, .int .i64 a5, .int .i64 a6] 31
  have R0 := Lib.hid r0
  have R1 := Lib.hid r1
  have G0 := Lib.hid g0
  have HU := Lib.hid hu
  clear hu g0 r0 r1
  go_enter Tryd.func42, Tryd.ntmps42
  go_upto_region 1 with fail
  rw [← HU.out]
  refine wpG_region ?_
  refine wpG_tk (some 11) (v := .agg #[.int .i64 a1, .int .i64 a2, .int .i64 a3, .int .i64 a4, .int .i64 a5, .int .i64 a6]) rfl (.load_mid (by rfl) 31 (.tmp 3) rfl (w.heap.size + 1) 0 rfl [.int .i64 a1, .int .i64 a2, .int .i64 a3, .int .i64 a4, .int .i64 a5, .int .i64 a6] _ (fun W hg => (R1.out.below hg).range) Tryd.underlying31 rfl (by kernel_rfl)) ?_
  simp only [Act.put, List.setIfInBounds_toArray, List.set_cons_zero, List.set_cons_succ]
  refine wpG_tk (some 12) (v := .bool true) rfl (.call (f := 24) (args := #[.agg #[.int .i64 a1, .int .i64 a2, .int .i64 a3, .int .i64 a4, .int .i64 a5, .int .i64 a6]]) (by rfl) (fun W => by go_simp) (fun W hg => rempty_any a1 a2 a3 a4 a5 a6 true W HE.out)) ?_
  simp only [Act.put, List.setIfInBounds_toArray, List.set_cons_zero, List.set_cons_succ]
  refine wpG_tk (some 5) (v := .bool true) rfl (.val (by rfl) (fun _ _ => rfl)) ?_
  simp only [Act.put, List.setIfInBounds_toArray, List.set_cons_zero, List.set_cons_succ]
  refine wpG_done (fun V1 hv2 => ?_)
  have GC3 := Lib.hid hv2
  clear hv2
  go_upto_region 2 with fail
  refine wpG_region ?_
  refine wpG_tk (some 13) (v := .bool true) rfl (.val (by rfl) (fun _ _ => rfl)) ?_
  simp only [Act.put, List.setIfInBounds_toArray, List.set_cons_zero, List.set_cons_succ]
  refine wpG_done (fun V4 hv5 => ?_)
  have GC6 := Lib.hid (GC3.out.trans hv5)
  clear hv5
  go_upto_region 3 with fail
  refine wpG_region ?_
  refine wpG_tk (some 4) (v := .int .i64 (-1)) rfl (.val (by rfl) (fun _ _ => rfl)) ?_
  simp only [Act.put, List.setIfInBounds_toArray, List.set_cons_zero, List.set_cons_succ]
  refine wpG_done (fun V7 hv8 => ?_)
  have GC9 := Lib.hid (GC6.out.trans hv8)
  clear hv8
  go_wp2_with fail
  go_ret
  exact ⟨rfl, Gr.to G0.out GC9.out⟩
set_option maxRecDepth 1000000 in
set_option maxHeartbeats 4000000 in
theorem rnear_f (x1 x2 x3 a1 a2 a3 a4 a5 a6 : Int) (w : World) (b : (-2097152 ≤ x1 ∧ x1 ≤ 2097152) ∧ (-2097152 ≤ x2 ∧ x2 ≤ 2097152) ∧ (-2097152 ≤ x3 ∧ x3 ≤ 2097152) ∧ (-2097152 ≤ a1 ∧ a1 ≤ 2097152) ∧ (-2097152 ≤ a2 ∧ a2 ≤ 2097152) ∧ (-2097152 ≤ a3 ∧ a3 ≤ 2097152) ∧ (-2097152 ≤ a4 ∧ a4 ≤ 2097152) ∧ (-2097152 ≤ a5 ∧ a5 ≤ 2097152) ∧ (-2097152 ≤ a6 ∧ a6 ≤ 2097152)) (h : Pt.emp a1 a2 a3 a4 a5 a6 = false) :
    Calls Tryd.prog 42 #[.agg #[.int .i64 x1, .int .i64 x2, .int .i64 x3], .agg #[.int .i64 a1, .int .i64 a2, .int .i64 a3, .int .i64 a4, .int .i64 a5, .int .i64 a6]] w fun e w' => e = .returned (.int .i64 (Pt.near x1 x2 x3 a1 a2 a3 a4 a5 a6)) ∧ Below w.heap.size w w' := by
  have HE := Lib.hid h
  clear h
  obtain ⟨u, hu, r0, r1, g0⟩ := rows2 w [.int .i64 x1, .int .i64 x2, .int .i64 x3] 23 [.int .i64 a1, .int .i64 a2, .int .i64 a3, .int .i64 a4, .int .i64 a5, .int .i64 a6] 31
  have R0 := Lib.hid r0
  have R1 := Lib.hid r1
  have G0 := Lib.hid g0
  have HU := Lib.hid hu
  clear hu g0 r0 r1
  go_enter Tryd.func42, Tryd.ntmps42
  go_upto_region 1 with fail
  rw [← HU.out]
  refine wpG_region ?_
  refine wpG_tk (some 11) (v := .agg #[.int .i64 a1, .int .i64 a2, .int .i64 a3, .int .i64 a4, .int .i64 a5, .int .i64 a6]) rfl (.load_mid (by rfl) 31 (.tmp 3) rfl (w.heap.size + 1) 0 rfl [.int .i64 a1, .int .i64 a2, .int .i64 a3, .int .i64 a4, .int .i64 a5, .int .i64 a6] _ (fun W hg => (R1.out.below hg).range) Tryd.underlying31 rfl (by kernel_rfl)) ?_
  simp only [Act.put, List.setIfInBounds_toArray, List.set_cons_zero, List.set_cons_succ]
  refine wpG_tk (some 12) (v := .bool false) rfl (.call (f := 24) (args := #[.agg #[.int .i64 a1, .int .i64 a2, .int .i64 a3, .int .i64 a4, .int .i64 a5, .int .i64 a6]]) (by rfl) (fun W => by go_simp) (fun W hg => rempty_any a1 a2 a3 a4 a5 a6 false W HE.out)) ?_
  simp only [Act.put, List.setIfInBounds_toArray, List.set_cons_zero, List.set_cons_succ]
  refine wpG_tk (some 5) (v := .bool false) rfl (.val (by rfl) (fun _ _ => rfl)) ?_
  simp only [Act.put, List.setIfInBounds_toArray, List.set_cons_zero, List.set_cons_succ]
  refine wpG_done (fun V1 hv2 => ?_)
  have GC3 := Lib.hid hv2
  clear hv2
  go_upto_region 2 with fail
  refine wpG_region ?_
  refine wpG_tk (some 13) (v := .bool false) rfl (.val (by rfl) (fun _ _ => rfl)) ?_
  simp only [Act.put, List.setIfInBounds_toArray, List.set_cons_zero, List.set_cons_succ]
  refine wpG_done (fun V4 hv5 => ?_)
  have GC6 := Lib.hid (GC3.out.trans hv5)
  clear hv5
  go_upto_region 4 with fail
  refine wpG_region ?_
  refine wpG_tk (some 14) (v := .agg #[.int .i64 x1, .int .i64 x2, .int .i64 x3]) rfl (.load_mid (by rfl) 23 (.tmp 2) rfl (w.heap.size) 0 rfl [.int .i64 x1, .int .i64 x2, .int .i64 x3] _ (fun W hg => (R0.out.below (GC6.out.trans hg)).range) Tryd.underlying23 rfl (by kernel_rfl)) ?_
  simp only [Act.put, List.setIfInBounds_toArray, List.set_cons_zero, List.set_cons_succ]
  refine wpG_tk (some 15) (v := .agg #[.int .i64 x1, .int .i64 x2, .int .i64 x3]) rfl (.call (f := 70) (args := #[.agg #[.int .i64 x1, .int .i64 x2, .int .i64 x3]]) (by rfl) (fun W => by go_simp) (fun W hg => rlist_any x1 x2 x3 W)) ?_
  simp only [Act.put, List.setIfInBounds_toArray, List.set_cons_zero, List.set_cons_succ]
  refine wpG_val (some 6) rfl (by rfl) (fun W7 hg8 => ⟨.pointer (some ⟨W7.heap.size, 0, none⟩), W7.alloc (.cells #[.int .i64 0, .int .i64 0, .int .i64 0] 64), by (go_simp <;> rfl), ?_⟩)
  simp only [Act.put, List.setIfInBounds_toArray, List.set_cons_zero, List.set_cons_succ]
  refine wpG_store (none) rfl (by rfl) (fun W9 hg10 => ⟨_, run_store_mid 64 (.tmp 6) (.tmp 15) rfl (W7.heap.size) 0 #[.int .i64 x1, .int .i64 x2, .int .i64 x3] rfl rfl (Row.room hg10 3 rfl) (by kernel_rfl) (by kernel_rfl), ?_⟩)
  simp only [Act.put]
  refine wpG_done (fun V11 hv12 => ?_)
  have l14 : w.heap.size < W7.heap.size := (R0.out.below (GC6.out.trans hg8)).lt
  have l15 : w.heap.size + 1 < W7.heap.size := (R1.out.below (GC6.out.trans hg8)).lt
  have l16 : w.heap.size ≤ W7.heap.size := (Gr.to G0.out (GC6.out.trans hg8)).size
  have R17 := Lib.hid ((R0.out.below (GC6.out.trans hg8)).past hg10 hv12)
  have R18 := Lib.hid ((R1.out.below (GC6.out.trans hg8)).past hg10 hv12)
  have R19 := Lib.hid (Row.made (zs := [.int .i64 0, .int .i64 0, .int .i64 0]) (ds := [.int .i64 x1, .int .i64 x2, .int .i64 x3]) rfl hg10 hv12)
  have G13 := Lib.hid (Gr.to (Gr.to G0.out (GC6.out.trans hg8)) (Gr.past hg10 hv12))
  clear hg10 hv12 
  go_upto_region 5 with fail
  refine wpG_region ?_
  refine wpG_tk (some 16) (v := .pointer (some ⟨w.heap.size + 1, 0, none⟩)) rfl (.val (by rfl) (fun W hg => by go_simp)) ?_
  simp only [Act.put, List.setIfInBounds_toArray, List.set_cons_zero, List.set_cons_succ]
  refine wpG_tk (some 17) (v := .agg #[.int .i64 a1, .int .i64 a2, .int .i64 a3]) rfl (.load_mid (by rfl) 23 (.tmp 16) rfl (w.heap.size + 1) 0 rfl [.int .i64 a1, .int .i64 a2, .int .i64 a3] _ (fun W hg => (R18.out.below hg).lo) Tryd.underlying23 rfl (by kernel_rfl)) ?_
  simp only [Act.put, List.setIfInBounds_toArray, List.set_cons_zero, List.set_cons_succ]
  refine wpG_tk (some 18) (v := .agg #[.int .i64 a1, .int .i64 a2, .int .i64 a3]) rfl (.call (f := 70) (args := #[.agg #[.int .i64 a1, .int .i64 a2, .int .i64 a3]]) (by rfl) (fun W => by go_simp) (fun W hg => rlist_any a1 a2 a3 W)) ?_
  simp only [Act.put, List.setIfInBounds_toArray, List.set_cons_zero, List.set_cons_succ]
  refine wpG_val (some 7) rfl (by rfl) (fun W20 hg21 => ⟨.pointer (some ⟨W20.heap.size, 0, none⟩), W20.alloc (.cells #[.int .i64 0, .int .i64 0, .int .i64 0] 64), by (go_simp <;> rfl), ?_⟩)
  simp only [Act.put, List.setIfInBounds_toArray, List.set_cons_zero, List.set_cons_succ]
  refine wpG_store (none) rfl (by rfl) (fun W22 hg23 => ⟨_, run_store_mid 64 (.tmp 7) (.tmp 18) rfl (W20.heap.size) 0 #[.int .i64 a1, .int .i64 a2, .int .i64 a3] rfl rfl (Row.room hg23 3 rfl) (by kernel_rfl) (by kernel_rfl), ?_⟩)
  simp only [Act.put]
  refine wpG_done (fun V24 hv25 => ?_)
  have l27 : w.heap.size < W20.heap.size := (R17.out.below hg21).lt
  have l28 : w.heap.size + 1 < W20.heap.size := (R18.out.below hg21).lt
  have l29 : W7.heap.size < W20.heap.size := (R19.out.below hg21).lt
  have l30 : w.heap.size ≤ W20.heap.size := (Gr.to G13.out hg21).size
  have R31 := Lib.hid ((R17.out.below hg21).past hg23 hv25)
  have R32 := Lib.hid ((R18.out.below hg21).past hg23 hv25)
  have R33 := Lib.hid ((R19.out.below hg21).past hg23 hv25)
  have R34 := Lib.hid (Row.made (zs := [.int .i64 0, .int .i64 0, .int .i64 0]) (ds := [.int .i64 a1, .int .i64 a2, .int .i64 a3]) rfl hg23 hv25)
  have G26 := Lib.hid (Gr.to (Gr.to G13.out hg21) (Gr.past hg23 hv25))
  clear hg23 hv25 
  go_upto_region 6 with fail
  refine wpG_region ?_
  refine wpG_tk (some 19) (v := .pointer (some ⟨w.heap.size + 1, 3, none⟩)) rfl (.val (by rfl) (fun W hg => by go_simp)) ?_
  simp only [Act.put, List.setIfInBounds_toArray, List.set_cons_zero, List.set_cons_succ]
  refine wpG_tk (some 20) (v := .agg #[.int .i64 a4, .int .i64 a5, .int .i64 a6]) rfl (.load_mid (by rfl) 23 (.tmp 19) rfl (w.heap.size + 1) 3 rfl [.int .i64 a4, .int .i64 a5, .int .i64 a6] _ (fun W hg => (R32.out.below hg).hi) Tryd.underlying23 rfl (by kernel_rfl)) ?_
  simp only [Act.put, List.setIfInBounds_toArray, List.set_cons_zero, List.set_cons_succ]
  refine wpG_tk (some 21) (v := .agg #[.int .i64 a4, .int .i64 a5, .int .i64 a6]) rfl (.call (f := 70) (args := #[.agg #[.int .i64 a4, .int .i64 a5, .int .i64 a6]]) (by rfl) (fun W => by go_simp) (fun W hg => rlist_any a4 a5 a6 W)) ?_
  simp only [Act.put, List.setIfInBounds_toArray, List.set_cons_zero, List.set_cons_succ]
  refine wpG_val (some 8) rfl (by rfl) (fun W35 hg36 => ⟨.pointer (some ⟨W35.heap.size, 0, none⟩), W35.alloc (.cells #[.int .i64 0, .int .i64 0, .int .i64 0] 64), by (go_simp <;> rfl), ?_⟩)
  simp only [Act.put, List.setIfInBounds_toArray, List.set_cons_zero, List.set_cons_succ]
  refine wpG_store (none) rfl (by rfl) (fun W37 hg38 => ⟨_, run_store_mid 64 (.tmp 8) (.tmp 21) rfl (W35.heap.size) 0 #[.int .i64 a4, .int .i64 a5, .int .i64 a6] rfl rfl (Row.room hg38 3 rfl) (by kernel_rfl) (by kernel_rfl), ?_⟩)
  simp only [Act.put]
  refine wpG_done (fun V39 hv40 => ?_)
  have l42 : w.heap.size < W35.heap.size := (R31.out.below hg36).lt
  have l43 : w.heap.size + 1 < W35.heap.size := (R32.out.below hg36).lt
  have l44 : W7.heap.size < W35.heap.size := (R33.out.below hg36).lt
  have l45 : W20.heap.size < W35.heap.size := (R34.out.below hg36).lt
  have l46 : w.heap.size ≤ W35.heap.size := (Gr.to G26.out hg36).size
  have R47 := Lib.hid ((R31.out.below hg36).past hg38 hv40)
  have R48 := Lib.hid ((R32.out.below hg36).past hg38 hv40)
  have R49 := Lib.hid ((R33.out.below hg36).past hg38 hv40)
  have R50 := Lib.hid ((R34.out.below hg36).past hg38 hv40)
  have R51 := Lib.hid (Row.made (zs := [.int .i64 0, .int .i64 0, .int .i64 0]) (ds := [.int .i64 a4, .int .i64 a5, .int .i64 a6]) rfl hg38 hv40)
  have G41 := Lib.hid (Gr.to (Gr.to G26.out hg36) (Gr.past hg38 hv40))
  clear hg38 hv40 
  go_upto_region 7 with fail
  refine wpG_region ?_
  refine wpG_tk (some 9) (v := .int .i64 0) rfl (.val (by rfl) (fun _ _ => rfl)) ?_
  simp only [Act.put, List.setIfInBounds_toArray, List.set_cons_zero, List.set_cons_succ]
  refine wpG_done (fun V52 hv53 => ?_)
  have GC54 := Lib.hid hv53
  clear hv53
  go_upto_region 8 with fail
  refine wpG_region ?_
  refine wpG_tk (some 10) (v := .int .i64 0) rfl (.val (by rfl) (fun _ _ => rfl)) ?_
  simp only [Act.put, List.setIfInBounds_toArray, List.set_cons_zero, List.set_cons_succ]
  refine wpG_done (fun V55 hv56 => ?_)
  have GC57 := Lib.hid (GC54.out.trans hv56)
  clear hv56
  go_wp2_with fail
  refine wp_loop_rounds 4 ?_
  rw [rounds_succ]
  go_upto_region 9 with fail
  refine wpG_region ?_
  refine wpG_tk (some 22) (v := .int .i64 0) rfl (.val (by rfl) (fun _ _ => rfl)) ?_
  simp only [Act.put, List.setIfInBounds_toArray, List.set_cons_zero, List.set_cons_succ]
  refine wpG_tk (some 23) (v := .bool true) rfl (.val (by rfl) (fun W hg => by go_simp)) ?_
  simp only [Act.put, List.setIfInBounds_toArray, List.set_cons_zero, List.set_cons_succ]
  refine wpG_done (fun V58 hv59 => ?_)
  have GC60 := Lib.hid (GC57.out.trans hv59)
  clear hv59
  go_upto_region 11 with fail
  refine wpK_region (by kernel_rfl) ?_
  refine wpK_ta (i := 0) (some 26) (v := .int .i64 0) rfl rfl (by kernel_rfl) (fun _ _ _ h => h) (Or.inl ⟨rfl, fun _ => rfl⟩) ?_
  simp only [Act.put, List.setIfInBounds_toArray, List.set_cons_zero, List.set_cons_succ]
  refine wpK_ta (i := 1) (some 27) (v := .int .i64 0) rfl rfl (by kernel_rfl) (fun _ _ _ h => h) (Or.inl ⟨rfl, fun _ => rfl⟩) ?_
  simp only [Act.put, List.setIfInBounds_toArray, List.set_cons_zero, List.set_cons_succ]
  refine wpK_ta (i := 2) (some 28) (v := .pointer (some ⟨W20.heap.size, 0, none⟩)) rfl rfl (by kernel_rfl) (fun _ _ _ h => h) (Or.inl ⟨by rfl, fun W => by go_simp⟩) ?_
  simp only [Act.put, List.setIfInBounds_toArray, List.set_cons_zero, List.set_cons_succ]
  refine wpK_tk (i := 3) (some 29) (v := .int .i64 a1) rfl rfl (by kernel_rfl) (fun _ _ _ h => h) (.val (by rfl) (fun W hg => by have c := (R50.out.below (GC60.out.trans (Gr.un hg)) 0 _ rfl).1; go_simp)) ?_
  simp only [Act.put, List.setIfInBounds_toArray, List.set_cons_zero, List.set_cons_succ]
  refine wpK_ta (i := 4) (some 30) (v := .int .i64 0) rfl rfl (by kernel_rfl) (fun _ _ _ h => h) (Or.inl ⟨rfl, fun _ => rfl⟩) ?_
  simp only [Act.put, List.setIfInBounds_toArray, List.set_cons_zero, List.set_cons_succ]
  refine wpK_ta (i := 5) (some 31) (v := .pointer (some ⟨W7.heap.size, 0, none⟩)) rfl rfl (by kernel_rfl) (fun _ _ _ h => h) (Or.inl ⟨by rfl, fun W => by go_simp⟩) ?_
  simp only [Act.put, List.setIfInBounds_toArray, List.set_cons_zero, List.set_cons_succ]
  refine wpK_tk (i := 6) (some 32) (v := .int .i64 x1) rfl rfl (by kernel_rfl) (fun _ _ _ h => h) (.val (by rfl) (fun W hg => by have c := (R49.out.below (GC60.out.trans (Gr.un hg)) 0 _ rfl).1; go_simp)) ?_
  simp only [Act.put, List.setIfInBounds_toArray, List.set_cons_zero, List.set_cons_succ]
  refine wpK_ta (i := 7) (some 33) (v := .int .i64 (a1 - x1)) rfl rfl (by kernel_rfl) (fun _ _ _ h => h) (Or.inl ⟨by rfl, fun W => by (first | (go_simp; done) | (go_simp; rw [IntWalk.i64_in _ (by omega)]))⟩) ?_
  simp only [Act.put, List.setIfInBounds_toArray, List.set_cons_zero, List.set_cons_succ]
  refine wpK_ta (i := 8) (some 34) (v := .int .i64 0) rfl rfl (by kernel_rfl) (fun _ _ _ h => h) (Or.inl ⟨rfl, fun _ => rfl⟩) ?_
  simp only [Act.put, List.setIfInBounds_toArray, List.set_cons_zero, List.set_cons_succ]
  refine wpK_ta (i := 9) (some 35) (v := .pointer (some ⟨W7.heap.size, 0, none⟩)) rfl rfl (by kernel_rfl) (fun _ _ _ h => h) (Or.inl ⟨by rfl, fun W => by go_simp⟩) ?_
  simp only [Act.put, List.setIfInBounds_toArray, List.set_cons_zero, List.set_cons_succ]
  refine wpK_tk (i := 10) (some 36) (v := .int .i64 x1) rfl rfl (by kernel_rfl) (fun _ _ _ h => h) (.val (by rfl) (fun W hg => by have c := (R49.out.below (GC60.out.trans (Gr.un hg)) 0 _ rfl).1; go_simp)) ?_
  simp only [Act.put, List.setIfInBounds_toArray, List.set_cons_zero, List.set_cons_succ]
  refine wpK_ta (i := 11) (some 37) (v := .int .i64 0) rfl rfl (by kernel_rfl) (fun _ _ _ h => h) (Or.inl ⟨rfl, fun _ => rfl⟩) ?_
  simp only [Act.put, List.setIfInBounds_toArray, List.set_cons_zero, List.set_cons_succ]
  refine wpK_ta (i := 12) (some 38) (v := .pointer (some ⟨W35.heap.size, 0, none⟩)) rfl rfl (by kernel_rfl) (fun _ _ _ h => h) (Or.inl ⟨by rfl, fun W => by go_simp⟩) ?_
  simp only [Act.put, List.setIfInBounds_toArray, List.set_cons_zero, List.set_cons_succ]
  refine wpK_tk (i := 13) (some 39) (v := .int .i64 a4) rfl rfl (by kernel_rfl) (fun _ _ _ h => h) (.val (by rfl) (fun W hg => by have c := (R51.out.below (GC60.out.trans (Gr.un hg)) 0 _ rfl).1; go_simp)) ?_
  simp only [Act.put, List.setIfInBounds_toArray, List.set_cons_zero, List.set_cons_succ]
  refine wpK_ta (i := 14) (some 40) (v := .int .i64 (x1 - a4)) rfl rfl (by kernel_rfl) (fun _ _ _ h => h) (Or.inl ⟨by rfl, fun W => by (first | (go_simp; done) | (go_simp; rw [IntWalk.i64_in _ (by omega)]))⟩) ?_
  simp only [Act.put, List.setIfInBounds_toArray, List.set_cons_zero, List.set_cons_succ]
  refine wpK_ta (i := 15) (some 41) (v := .int .i64 (max 0 (max (a1 - x1) (x1 - a4)))) rfl rfl (by kernel_rfl) (fun _ _ _ h => h) (Or.inl ⟨by rfl, fun W => by (go_simp <;> (repeat' split) <;> omega)⟩) ?_
  simp only [Act.put, List.setIfInBounds_toArray, List.set_cons_zero, List.set_cons_succ]
  refine wpK_ta (i := 16) (some 9) (v := .int .i64 (max 0 (max (a1 - x1) (x1 - a4)))) rfl rfl (by kernel_rfl) (fun _ _ _ h => h) (Or.inl ⟨rfl, fun _ => rfl⟩) ?_
  simp only [Act.put, List.setIfInBounds_toArray, List.set_cons_zero, List.set_cons_succ]
  refine wpK_done (by kernel_rfl) (fun V61 hv62 => ?_) _
  have GC63 := Lib.hid (GC60.out.trans (Gr.un hv62))
  clear hv62
  go_upto_region 10 with fail
  refine wpG_region ?_
  refine wpG_tk (some 24) (v := .int .i64 0) rfl (.val (by rfl) (fun _ _ => rfl)) ?_
  simp only [Act.put, List.setIfInBounds_toArray, List.set_cons_zero, List.set_cons_succ]
  refine wpG_tk (some 25) (v := .int .i64 1) rfl (.val (by rfl) (fun W hg => by go_simp <;> rfl)) ?_
  simp only [Act.put, List.setIfInBounds_toArray, List.set_cons_zero, List.set_cons_succ]
  refine wpG_tk (some 10) (v := .int .i64 1) rfl (.val (by rfl) (fun _ _ => rfl)) ?_
  simp only [Act.put, List.setIfInBounds_toArray, List.set_cons_zero, List.set_cons_succ]
  refine wpG_done (fun V64 hv65 => ?_)
  have GC66 := Lib.hid (GC63.out.trans hv65)
  clear hv65
  go_wp2_with fail
  rw [rounds_succ]
  go_upto_region 9 with fail
  refine wpG_region ?_
  refine wpG_tk (some 22) (v := .int .i64 1) rfl (.val (by rfl) (fun _ _ => rfl)) ?_
  simp only [Act.put, List.setIfInBounds_toArray, List.set_cons_zero, List.set_cons_succ]
  refine wpG_tk (some 23) (v := .bool true) rfl (.val (by rfl) (fun W hg => by go_simp)) ?_
  simp only [Act.put, List.setIfInBounds_toArray, List.set_cons_zero, List.set_cons_succ]
  refine wpG_done (fun V67 hv68 => ?_)
  have GC69 := Lib.hid (GC66.out.trans hv68)
  clear hv68
  go_upto_region 11 with fail
  refine wpK_region (by kernel_rfl) ?_
  refine wpK_ta (i := 0) (some 26) (v := .int .i64 (max 0 (max (a1 - x1) (x1 - a4)))) rfl rfl (by kernel_rfl) (fun _ _ _ h => h) (Or.inl ⟨rfl, fun _ => rfl⟩) ?_
  simp only [Act.put, List.setIfInBounds_toArray, List.set_cons_zero, List.set_cons_succ]
  refine wpK_ta (i := 1) (some 27) (v := .int .i64 1) rfl rfl (by kernel_rfl) (fun _ _ _ h => h) (Or.inl ⟨rfl, fun _ => rfl⟩) ?_
  simp only [Act.put, List.setIfInBounds_toArray, List.set_cons_zero, List.set_cons_succ]
  refine wpK_ta (i := 2) (some 28) (v := .pointer (some ⟨W20.heap.size, 1, none⟩)) rfl rfl (by kernel_rfl) (fun _ _ _ h => h) (Or.inl ⟨by rfl, fun W => by go_simp⟩) ?_
  simp only [Act.put, List.setIfInBounds_toArray, List.set_cons_zero, List.set_cons_succ]
  refine wpK_tk (i := 3) (some 29) (v := .int .i64 a2) rfl rfl (by kernel_rfl) (fun _ _ _ h => h) (.val (by rfl) (fun W hg => by have c := (R50.out.below (GC69.out.trans (Gr.un hg)) 1 _ rfl).1; go_simp)) ?_
  simp only [Act.put, List.setIfInBounds_toArray, List.set_cons_zero, List.set_cons_succ]
  refine wpK_ta (i := 4) (some 30) (v := .int .i64 1) rfl rfl (by kernel_rfl) (fun _ _ _ h => h) (Or.inl ⟨rfl, fun _ => rfl⟩) ?_
  simp only [Act.put, List.setIfInBounds_toArray, List.set_cons_zero, List.set_cons_succ]
  refine wpK_ta (i := 5) (some 31) (v := .pointer (some ⟨W7.heap.size, 1, none⟩)) rfl rfl (by kernel_rfl) (fun _ _ _ h => h) (Or.inl ⟨by rfl, fun W => by go_simp⟩) ?_
  simp only [Act.put, List.setIfInBounds_toArray, List.set_cons_zero, List.set_cons_succ]
  refine wpK_tk (i := 6) (some 32) (v := .int .i64 x2) rfl rfl (by kernel_rfl) (fun _ _ _ h => h) (.val (by rfl) (fun W hg => by have c := (R49.out.below (GC69.out.trans (Gr.un hg)) 1 _ rfl).1; go_simp)) ?_
  simp only [Act.put, List.setIfInBounds_toArray, List.set_cons_zero, List.set_cons_succ]
  refine wpK_ta (i := 7) (some 33) (v := .int .i64 (a2 - x2)) rfl rfl (by kernel_rfl) (fun _ _ _ h => h) (Or.inl ⟨by rfl, fun W => by (first | (go_simp; done) | (go_simp; rw [IntWalk.i64_in _ (by omega)]))⟩) ?_
  simp only [Act.put, List.setIfInBounds_toArray, List.set_cons_zero, List.set_cons_succ]
  refine wpK_ta (i := 8) (some 34) (v := .int .i64 1) rfl rfl (by kernel_rfl) (fun _ _ _ h => h) (Or.inl ⟨rfl, fun _ => rfl⟩) ?_
  simp only [Act.put, List.setIfInBounds_toArray, List.set_cons_zero, List.set_cons_succ]
  refine wpK_ta (i := 9) (some 35) (v := .pointer (some ⟨W7.heap.size, 1, none⟩)) rfl rfl (by kernel_rfl) (fun _ _ _ h => h) (Or.inl ⟨by rfl, fun W => by go_simp⟩) ?_
  simp only [Act.put, List.setIfInBounds_toArray, List.set_cons_zero, List.set_cons_succ]
  refine wpK_tk (i := 10) (some 36) (v := .int .i64 x2) rfl rfl (by kernel_rfl) (fun _ _ _ h => h) (.val (by rfl) (fun W hg => by have c := (R49.out.below (GC69.out.trans (Gr.un hg)) 1 _ rfl).1; go_simp)) ?_
  simp only [Act.put, List.setIfInBounds_toArray, List.set_cons_zero, List.set_cons_succ]
  refine wpK_ta (i := 11) (some 37) (v := .int .i64 1) rfl rfl (by kernel_rfl) (fun _ _ _ h => h) (Or.inl ⟨rfl, fun _ => rfl⟩) ?_
  simp only [Act.put, List.setIfInBounds_toArray, List.set_cons_zero, List.set_cons_succ]
  refine wpK_ta (i := 12) (some 38) (v := .pointer (some ⟨W35.heap.size, 1, none⟩)) rfl rfl (by kernel_rfl) (fun _ _ _ h => h) (Or.inl ⟨by rfl, fun W => by go_simp⟩) ?_
  simp only [Act.put, List.setIfInBounds_toArray, List.set_cons_zero, List.set_cons_succ]
  refine wpK_tk (i := 13) (some 39) (v := .int .i64 a5) rfl rfl (by kernel_rfl) (fun _ _ _ h => h) (.val (by rfl) (fun W hg => by have c := (R51.out.below (GC69.out.trans (Gr.un hg)) 1 _ rfl).1; go_simp)) ?_
  simp only [Act.put, List.setIfInBounds_toArray, List.set_cons_zero, List.set_cons_succ]
  refine wpK_ta (i := 14) (some 40) (v := .int .i64 (x2 - a5)) rfl rfl (by kernel_rfl) (fun _ _ _ h => h) (Or.inl ⟨by rfl, fun W => by (first | (go_simp; done) | (go_simp; rw [IntWalk.i64_in _ (by omega)]))⟩) ?_
  simp only [Act.put, List.setIfInBounds_toArray, List.set_cons_zero, List.set_cons_succ]
  refine wpK_ta (i := 15) (some 41) (v := .int .i64 (max (max 0 (max (a1 - x1) (x1 - a4))) (max (a2 - x2) (x2 - a5)))) rfl rfl (by kernel_rfl) (fun _ _ _ h => h) (Or.inl ⟨by rfl, fun W => by (generalize max 0 (max (a1 - x1) (x1 - a4)) = zz; go_simp <;> (repeat' split) <;> omega)⟩) ?_
  simp only [Act.put, List.setIfInBounds_toArray, List.set_cons_zero, List.set_cons_succ]
  refine wpK_ta (i := 16) (some 9) (v := .int .i64 (max (max 0 (max (a1 - x1) (x1 - a4))) (max (a2 - x2) (x2 - a5)))) rfl rfl (by kernel_rfl) (fun _ _ _ h => h) (Or.inl ⟨rfl, fun _ => rfl⟩) ?_
  simp only [Act.put, List.setIfInBounds_toArray, List.set_cons_zero, List.set_cons_succ]
  refine wpK_done (by kernel_rfl) (fun V70 hv71 => ?_) _
  have GC72 := Lib.hid (GC69.out.trans (Gr.un hv71))
  clear hv71
  go_upto_region 10 with fail
  refine wpG_region ?_
  refine wpG_tk (some 24) (v := .int .i64 1) rfl (.val (by rfl) (fun _ _ => rfl)) ?_
  simp only [Act.put, List.setIfInBounds_toArray, List.set_cons_zero, List.set_cons_succ]
  refine wpG_tk (some 25) (v := .int .i64 2) rfl (.val (by rfl) (fun W hg => by go_simp <;> rfl)) ?_
  simp only [Act.put, List.setIfInBounds_toArray, List.set_cons_zero, List.set_cons_succ]
  refine wpG_tk (some 10) (v := .int .i64 2) rfl (.val (by rfl) (fun _ _ => rfl)) ?_
  simp only [Act.put, List.setIfInBounds_toArray, List.set_cons_zero, List.set_cons_succ]
  refine wpG_done (fun V73 hv74 => ?_)
  have GC75 := Lib.hid (GC72.out.trans hv74)
  clear hv74
  go_wp2_with fail
  rw [rounds_succ]
  go_upto_region 9 with fail
  refine wpG_region ?_
  refine wpG_tk (some 22) (v := .int .i64 2) rfl (.val (by rfl) (fun _ _ => rfl)) ?_
  simp only [Act.put, List.setIfInBounds_toArray, List.set_cons_zero, List.set_cons_succ]
  refine wpG_tk (some 23) (v := .bool true) rfl (.val (by rfl) (fun W hg => by go_simp)) ?_
  simp only [Act.put, List.setIfInBounds_toArray, List.set_cons_zero, List.set_cons_succ]
  refine wpG_done (fun V76 hv77 => ?_)
  have GC78 := Lib.hid (GC75.out.trans hv77)
  clear hv77
  go_upto_region 11 with fail
  refine wpK_region (by kernel_rfl) ?_
  refine wpK_ta (i := 0) (some 26) (v := .int .i64 (max (max 0 (max (a1 - x1) (x1 - a4))) (max (a2 - x2) (x2 - a5)))) rfl rfl (by kernel_rfl) (fun _ _ _ h => h) (Or.inl ⟨rfl, fun _ => rfl⟩) ?_
  simp only [Act.put, List.setIfInBounds_toArray, List.set_cons_zero, List.set_cons_succ]
  refine wpK_ta (i := 1) (some 27) (v := .int .i64 2) rfl rfl (by kernel_rfl) (fun _ _ _ h => h) (Or.inl ⟨rfl, fun _ => rfl⟩) ?_
  simp only [Act.put, List.setIfInBounds_toArray, List.set_cons_zero, List.set_cons_succ]
  refine wpK_ta (i := 2) (some 28) (v := .pointer (some ⟨W20.heap.size, 2, none⟩)) rfl rfl (by kernel_rfl) (fun _ _ _ h => h) (Or.inl ⟨by rfl, fun W => by go_simp⟩) ?_
  simp only [Act.put, List.setIfInBounds_toArray, List.set_cons_zero, List.set_cons_succ]
  refine wpK_tk (i := 3) (some 29) (v := .int .i64 a3) rfl rfl (by kernel_rfl) (fun _ _ _ h => h) (.val (by rfl) (fun W hg => by have c := (R50.out.below (GC78.out.trans (Gr.un hg)) 2 _ rfl).1; go_simp)) ?_
  simp only [Act.put, List.setIfInBounds_toArray, List.set_cons_zero, List.set_cons_succ]
  refine wpK_ta (i := 4) (some 30) (v := .int .i64 2) rfl rfl (by kernel_rfl) (fun _ _ _ h => h) (Or.inl ⟨rfl, fun _ => rfl⟩) ?_
  simp only [Act.put, List.setIfInBounds_toArray, List.set_cons_zero, List.set_cons_succ]
  refine wpK_ta (i := 5) (some 31) (v := .pointer (some ⟨W7.heap.size, 2, none⟩)) rfl rfl (by kernel_rfl) (fun _ _ _ h => h) (Or.inl ⟨by rfl, fun W => by go_simp⟩) ?_
  simp only [Act.put, List.setIfInBounds_toArray, List.set_cons_zero, List.set_cons_succ]
  refine wpK_tk (i := 6) (some 32) (v := .int .i64 x3) rfl rfl (by kernel_rfl) (fun _ _ _ h => h) (.val (by rfl) (fun W hg => by have c := (R49.out.below (GC78.out.trans (Gr.un hg)) 2 _ rfl).1; go_simp)) ?_
  simp only [Act.put, List.setIfInBounds_toArray, List.set_cons_zero, List.set_cons_succ]
  refine wpK_ta (i := 7) (some 33) (v := .int .i64 (a3 - x3)) rfl rfl (by kernel_rfl) (fun _ _ _ h => h) (Or.inl ⟨by rfl, fun W => by (first | (go_simp; done) | (go_simp; rw [IntWalk.i64_in _ (by omega)]))⟩) ?_
  simp only [Act.put, List.setIfInBounds_toArray, List.set_cons_zero, List.set_cons_succ]
  refine wpK_ta (i := 8) (some 34) (v := .int .i64 2) rfl rfl (by kernel_rfl) (fun _ _ _ h => h) (Or.inl ⟨rfl, fun _ => rfl⟩) ?_
  simp only [Act.put, List.setIfInBounds_toArray, List.set_cons_zero, List.set_cons_succ]
  refine wpK_ta (i := 9) (some 35) (v := .pointer (some ⟨W7.heap.size, 2, none⟩)) rfl rfl (by kernel_rfl) (fun _ _ _ h => h) (Or.inl ⟨by rfl, fun W => by go_simp⟩) ?_
  simp only [Act.put, List.setIfInBounds_toArray, List.set_cons_zero, List.set_cons_succ]
  refine wpK_tk (i := 10) (some 36) (v := .int .i64 x3) rfl rfl (by kernel_rfl) (fun _ _ _ h => h) (.val (by rfl) (fun W hg => by have c := (R49.out.below (GC78.out.trans (Gr.un hg)) 2 _ rfl).1; go_simp)) ?_
  simp only [Act.put, List.setIfInBounds_toArray, List.set_cons_zero, List.set_cons_succ]
  refine wpK_ta (i := 11) (some 37) (v := .int .i64 2) rfl rfl (by kernel_rfl) (fun _ _ _ h => h) (Or.inl ⟨rfl, fun _ => rfl⟩) ?_
  simp only [Act.put, List.setIfInBounds_toArray, List.set_cons_zero, List.set_cons_succ]
  refine wpK_ta (i := 12) (some 38) (v := .pointer (some ⟨W35.heap.size, 2, none⟩)) rfl rfl (by kernel_rfl) (fun _ _ _ h => h) (Or.inl ⟨by rfl, fun W => by go_simp⟩) ?_
  simp only [Act.put, List.setIfInBounds_toArray, List.set_cons_zero, List.set_cons_succ]
  refine wpK_tk (i := 13) (some 39) (v := .int .i64 a6) rfl rfl (by kernel_rfl) (fun _ _ _ h => h) (.val (by rfl) (fun W hg => by have c := (R51.out.below (GC78.out.trans (Gr.un hg)) 2 _ rfl).1; go_simp)) ?_
  simp only [Act.put, List.setIfInBounds_toArray, List.set_cons_zero, List.set_cons_succ]
  refine wpK_ta (i := 14) (some 40) (v := .int .i64 (x3 - a6)) rfl rfl (by kernel_rfl) (fun _ _ _ h => h) (Or.inl ⟨by rfl, fun W => by (first | (go_simp; done) | (go_simp; rw [IntWalk.i64_in _ (by omega)]))⟩) ?_
  simp only [Act.put, List.setIfInBounds_toArray, List.set_cons_zero, List.set_cons_succ]
  refine wpK_ta (i := 15) (some 41) (v := .int .i64 (max (max (max 0 (max (a1 - x1) (x1 - a4))) (max (a2 - x2) (x2 - a5))) (max (a3 - x3) (x3 - a6)))) rfl rfl (by kernel_rfl) (fun _ _ _ h => h) (Or.inl ⟨by rfl, fun W => by (generalize max (max 0 (max (a1 - x1) (x1 - a4))) (max (a2 - x2) (x2 - a5)) = zz; go_simp <;> (repeat' split) <;> omega)⟩) ?_
  simp only [Act.put, List.setIfInBounds_toArray, List.set_cons_zero, List.set_cons_succ]
  refine wpK_ta (i := 16) (some 9) (v := .int .i64 (max (max (max 0 (max (a1 - x1) (x1 - a4))) (max (a2 - x2) (x2 - a5))) (max (a3 - x3) (x3 - a6)))) rfl rfl (by kernel_rfl) (fun _ _ _ h => h) (Or.inl ⟨rfl, fun _ => rfl⟩) ?_
  simp only [Act.put, List.setIfInBounds_toArray, List.set_cons_zero, List.set_cons_succ]
  refine wpK_done (by kernel_rfl) (fun V79 hv80 => ?_) _
  have GC81 := Lib.hid (GC78.out.trans (Gr.un hv80))
  clear hv80
  go_upto_region 10 with fail
  refine wpG_region ?_
  refine wpG_tk (some 24) (v := .int .i64 2) rfl (.val (by rfl) (fun _ _ => rfl)) ?_
  simp only [Act.put, List.setIfInBounds_toArray, List.set_cons_zero, List.set_cons_succ]
  refine wpG_tk (some 25) (v := .int .i64 3) rfl (.val (by rfl) (fun W hg => by go_simp <;> rfl)) ?_
  simp only [Act.put, List.setIfInBounds_toArray, List.set_cons_zero, List.set_cons_succ]
  refine wpG_tk (some 10) (v := .int .i64 3) rfl (.val (by rfl) (fun _ _ => rfl)) ?_
  simp only [Act.put, List.setIfInBounds_toArray, List.set_cons_zero, List.set_cons_succ]
  refine wpG_done (fun V82 hv83 => ?_)
  have GC84 := Lib.hid (GC81.out.trans hv83)
  clear hv83
  go_wp2_with fail
  rw [rounds_succ]
  go_upto_region 9 with fail
  refine wpG_region ?_
  refine wpG_tk (some 22) (v := .int .i64 3) rfl (.val (by rfl) (fun _ _ => rfl)) ?_
  simp only [Act.put, List.setIfInBounds_toArray, List.set_cons_zero, List.set_cons_succ]
  refine wpG_tk (some 23) (v := .bool false) rfl (.val (by rfl) (fun W hg => by go_simp)) ?_
  simp only [Act.put, List.setIfInBounds_toArray, List.set_cons_zero, List.set_cons_succ]
  refine wpG_done (fun V85 hv86 => ?_)
  have GC87 := Lib.hid (GC84.out.trans hv86)
  clear hv86
  go_upto_region 12 with fail
  refine wpG_region ?_
  refine wpG_tk (some 42) (v := .int .i64 (max (max (max 0 (max (a1 - x1) (x1 - a4))) (max (a2 - x2) (x2 - a5))) (max (a3 - x3) (x3 - a6)))) rfl (.val (by rfl) (fun _ _ => rfl)) ?_
  simp only [Act.put, List.setIfInBounds_toArray, List.set_cons_zero, List.set_cons_succ]
  refine wpG_tk (some 4) (v := .int .i64 (max (max (max 0 (max (a1 - x1) (x1 - a4))) (max (a2 - x2) (x2 - a5))) (max (a3 - x3) (x3 - a6)))) rfl (.val (by rfl) (fun _ _ => rfl)) ?_
  simp only [Act.put, List.setIfInBounds_toArray, List.set_cons_zero, List.set_cons_succ]
  refine wpG_done (fun V88 hv89 => ?_)
  have GC90 := Lib.hid (GC87.out.trans hv89)
  clear hv89
  go_wp2_with fail
  go_ret
  exact ⟨rfl, Gr.to G41.out GC90.out⟩

end Go.Proofs.YthadlgjobjnhcaaDoor
