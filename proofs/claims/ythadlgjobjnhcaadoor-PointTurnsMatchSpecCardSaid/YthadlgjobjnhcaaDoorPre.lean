/-
  Contracts of the specification of package point: distances.
-/
import Derived.Test.YthadlgjobjnhcaaDoorPra
import Derived.Test.YthadlgjobjnhcaaDoorPtg
import Derived.Test.YthadlgjobjnhcaaDoorPte
import Derived.Test.YthadlgjobjnhcaaDoorRoz
import Derived.Handy
namespace Go.Proofs.YthadlgjobjnhcaaDoor
open Go.RowKit
set_option linter.unusedVariables false
theorem max_zero {p1 p2 p3 : Int} (h : 0 ≤ p1) : max (max (max 0 p1) p2) p3 = max (max p1 p2) p3 := by omega
theorem abs_nn (x a : Int) : 0 ≤ max (x - a) (a - x) := by omega
theorem dist_fold (x1 x2 x3 y1 y2 y3 : Int) : max (max (max 0 (max (x1 - y1) (y1 - x1))) (max (x2 - y2) (y2 - x2))) (max (x3 - y3) (y3 - x3)) = Pt.dist x1 x2 x3 y1 y2 y3 := by
  unfold Pt.dist
  exact max_zero (abs_nn x1 y1)
set_option maxRecDepth 1000000 in
set_option maxHeartbeats 4000000 in
theorem rdistance_any (x1 x2 x3 y1 y2 y3 : Int) (w : World) (h : (-2097152 ≤ x1 ∧ x1 ≤ 2097152) ∧ (-2097152 ≤ x2 ∧ x2 ≤ 2097152) ∧ (-2097152 ≤ x3 ∧ x3 ≤ 2097152) ∧ (-2097152 ≤ y1 ∧ y1 ≤ 2097152) ∧ (-2097152 ≤ y2 ∧ y2 ≤ 2097152) ∧ (-2097152 ≤ y3 ∧ y3 ≤ 2097152)) :
    Calls Tryd.prog 20 #[.agg #[.int .i64 x1, .int .i64 x2, .int .i64 x3], .agg #[.int .i64 y1, .int .i64 y2, .int .i64 y3]] w fun e w' => e = .returned (.int .i64 (Pt.dist x1 x2 x3 y1 y2 y3)) ∧ Below w.heap.size w w' := by
  obtain ⟨u, hu, r0, r1, g0⟩ := rows2 w [.int .i64 x1, .int .i64 x2, .int .i64 x3] 23 [.int .i64 y1, .int .i64 y2, .int .i64 y3] 23
  have R0 := Lib.hid r0
  have R1 := Lib.hid r1
  have G0 := Lib.hid g0
  have HU := Lib.hid hu
  clear hu g0 r0 r1
  go_enter Tryd.func20, Tryd.ntmps20
  go_upto_region 1 with fail
  rw [← HU.out]
  refine wpG_region ?_
  refine wpG_tk (some 8) (v := .agg #[.int .i64 x1, .int .i64 x2, .int .i64 x3]) rfl (.load_mid (by rfl) 23 (.tmp 2) rfl (w.heap.size) 0 rfl [.int .i64 x1, .int .i64 x2, .int .i64 x3] _ (fun W hg => (R0.out.below hg).range) Tryd.underlying23 rfl (by kernel_rfl)) ?_
  simp only [Act.put, List.setIfInBounds_toArray, List.set_cons_zero, List.set_cons_succ]
  refine wpG_tk (some 9) (v := .agg #[.int .i64 y1, .int .i64 y2, .int .i64 y3]) rfl (.load_mid (by rfl) 23 (.tmp 3) rfl (w.heap.size + 1) 0 rfl [.int .i64 y1, .int .i64 y2, .int .i64 y3] _ (fun W hg => (R1.out.below hg).range) Tryd.underlying23 rfl (by kernel_rfl)) ?_
  simp only [Act.put, List.setIfInBounds_toArray, List.set_cons_zero, List.set_cons_succ]
  refine wpG_tk (some 10) (v := .agg #[.int .i64 (x1 - y1), .int .i64 (x2 - y2), .int .i64 (x3 - y3)]) rfl (.call (f := 16) (args := #[.agg #[.int .i64 x1, .int .i64 x2, .int .i64 x3], .agg #[.int .i64 y1, .int .i64 y2, .int .i64 y3]]) (by rfl) (fun W => by go_simp) (fun W hg => rsub_any x1 x2 x3 y1 y2 y3 W (by omega))) ?_
  simp only [Act.put, List.setIfInBounds_toArray, List.set_cons_zero, List.set_cons_succ]
  refine wpG_tk (some 11) (v := .agg #[.int .i64 (x1 - y1), .int .i64 (x2 - y2), .int .i64 (x3 - y3)]) rfl (.call (f := 70) (args := #[.agg #[.int .i64 (x1 - y1), .int .i64 (x2 - y2), .int .i64 (x3 - y3)]]) (by rfl) (fun W => by go_simp) (fun W hg => rlist_any (x1 - y1) (x2 - y2) (x3 - y3) W)) ?_
  simp only [Act.put, List.setIfInBounds_toArray, List.set_cons_zero, List.set_cons_succ]
  refine wpG_val (some 5) rfl (by rfl) (fun W1 hg2 => ⟨.pointer (some ⟨W1.heap.size, 0, none⟩), W1.alloc (.cells #[.int .i64 0, .int .i64 0, .int .i64 0] 64), by (go_simp <;> rfl), ?_⟩)
  simp only [Act.put, List.setIfInBounds_toArray, List.set_cons_zero, List.set_cons_succ]
  refine wpG_store (none) rfl (by rfl) (fun W3 hg4 => ⟨_, run_store_mid 64 (.tmp 5) (.tmp 11) rfl (W1.heap.size) 0 #[.int .i64 (x1 - y1), .int .i64 (x2 - y2), .int .i64 (x3 - y3)] rfl rfl (Row.room hg4 3 rfl) (by kernel_rfl) (by kernel_rfl), ?_⟩)
  simp only [Act.put]
  refine wpG_done (fun V5 hv6 => ?_)
  have l8 : w.heap.size < W1.heap.size := (R0.out.below hg2).lt
  have l9 : w.heap.size + 1 < W1.heap.size := (R1.out.below hg2).lt
  have l10 : w.heap.size ≤ W1.heap.size := (Gr.to G0.out hg2).size
  have R11 := Lib.hid ((R0.out.below hg2).past hg4 hv6)
  have R12 := Lib.hid ((R1.out.below hg2).past hg4 hv6)
  have R13 := Lib.hid (Row.made (zs := [.int .i64 0, .int .i64 0, .int .i64 0]) (ds := [.int .i64 (x1 - y1), .int .i64 (x2 - y2), .int .i64 (x3 - y3)]) rfl hg4 hv6)
  have G7 := Lib.hid (Gr.to (Gr.to G0.out hg2) (Gr.past hg4 hv6))
  clear hg4 hv6 
  go_upto_region 2 with fail
  refine wpG_region ?_
  refine wpG_tk (some 6) (v := .int .i64 0) rfl (.val (by rfl) (fun _ _ => rfl)) ?_
  simp only [Act.put, List.setIfInBounds_toArray, List.set_cons_zero, List.set_cons_succ]
  refine wpG_done (fun V14 hv15 => ?_)
  have GC16 := Lib.hid hv15
  clear hv15
  go_upto_region 3 with fail
  refine wpG_region ?_
  refine wpG_tk (some 7) (v := .int .i64 0) rfl (.val (by rfl) (fun _ _ => rfl)) ?_
  simp only [Act.put, List.setIfInBounds_toArray, List.set_cons_zero, List.set_cons_succ]
  refine wpG_done (fun V17 hv18 => ?_)
  have GC19 := Lib.hid (GC16.out.trans hv18)
  clear hv18
  go_wp2_with fail
  refine wp_loop_rounds 4 ?_
  rw [rounds_succ]
  go_upto_region 4 with fail
  refine wpG_region ?_
  refine wpG_tk (some 12) (v := .int .i64 0) rfl (.val (by rfl) (fun _ _ => rfl)) ?_
  simp only [Act.put, List.setIfInBounds_toArray, List.set_cons_zero, List.set_cons_succ]
  refine wpG_tk (some 13) (v := .bool true) rfl (.val (by rfl) (fun W hg => by go_simp)) ?_
  simp only [Act.put, List.setIfInBounds_toArray, List.set_cons_zero, List.set_cons_succ]
  refine wpG_done (fun V20 hv21 => ?_)
  have GC22 := Lib.hid (GC19.out.trans hv21)
  clear hv21
  go_upto_region 6 with fail
  refine wpK_region (by kernel_rfl) ?_
  refine wpK_ta (i := 0) (some 16) (v := .int .i64 0) rfl rfl (by kernel_rfl) (fun _ _ _ h => h) (Or.inl ⟨rfl, fun _ => rfl⟩) ?_
  simp only [Act.put, List.setIfInBounds_toArray, List.set_cons_zero, List.set_cons_succ]
  refine wpK_ta (i := 1) (some 17) (v := .int .i64 0) rfl rfl (by kernel_rfl) (fun _ _ _ h => h) (Or.inl ⟨rfl, fun _ => rfl⟩) ?_
  simp only [Act.put, List.setIfInBounds_toArray, List.set_cons_zero, List.set_cons_succ]
  refine wpK_ta (i := 2) (some 18) (v := .pointer (some ⟨W1.heap.size, 0, none⟩)) rfl rfl (by kernel_rfl) (fun _ _ _ h => h) (Or.inl ⟨by rfl, fun W => by go_simp⟩) ?_
  simp only [Act.put, List.setIfInBounds_toArray, List.set_cons_zero, List.set_cons_succ]
  refine wpK_tk (i := 3) (some 19) (v := .int .i64 (x1 - y1)) rfl rfl (by kernel_rfl) (fun _ _ _ h => h) (.val (by rfl) (fun W hg => by have c := (R13.out.below (GC22.out.trans (Gr.un hg)) 0 _ rfl).1; go_simp)) ?_
  simp only [Act.put, List.setIfInBounds_toArray, List.set_cons_zero, List.set_cons_succ]
  refine wpK_ta (i := 4) (some 20) (v := .int .i64 0) rfl rfl (by kernel_rfl) (fun _ _ _ h => h) (Or.inl ⟨rfl, fun _ => rfl⟩) ?_
  simp only [Act.put, List.setIfInBounds_toArray, List.set_cons_zero, List.set_cons_succ]
  refine wpK_ta (i := 5) (some 21) (v := .pointer (some ⟨W1.heap.size, 0, none⟩)) rfl rfl (by kernel_rfl) (fun _ _ _ h => h) (Or.inl ⟨by rfl, fun W => by go_simp⟩) ?_
  simp only [Act.put, List.setIfInBounds_toArray, List.set_cons_zero, List.set_cons_succ]
  refine wpK_tk (i := 6) (some 22) (v := .int .i64 (x1 - y1)) rfl rfl (by kernel_rfl) (fun _ _ _ h => h) (.val (by rfl) (fun W hg => by have c := (R13.out.below (GC22.out.trans (Gr.un hg)) 0 _ rfl).1; go_simp)) ?_
  simp only [Act.put, List.setIfInBounds_toArray, List.set_cons_zero, List.set_cons_succ]
  refine wpK_ta (i := 7) (some 23) (v := .int .i64 (-(x1 - y1))) rfl rfl (by kernel_rfl) (fun _ _ _ h => h) (Or.inl ⟨by rfl, fun W => by (first | (go_simp; done) | (go_simp; rw [IntWalk.i64_in _ (by omega)]))⟩) ?_
  simp only [Act.put, List.setIfInBounds_toArray, List.set_cons_zero, List.set_cons_succ]
  refine wpK_ta (i := 8) (some 24) (v := .int .i64 (max 0 (max (x1 - y1) (y1 - x1)))) rfl rfl (by kernel_rfl) (fun _ _ _ h => h) (Or.inl ⟨by rfl, fun W => by (go_simp <;> (repeat' split) <;> omega)⟩) ?_
  simp only [Act.put, List.setIfInBounds_toArray, List.set_cons_zero, List.set_cons_succ]
  refine wpK_ta (i := 9) (some 6) (v := .int .i64 (max 0 (max (x1 - y1) (y1 - x1)))) rfl rfl (by kernel_rfl) (fun _ _ _ h => h) (Or.inl ⟨rfl, fun _ => rfl⟩) ?_
  simp only [Act.put, List.setIfInBounds_toArray, List.set_cons_zero, List.set_cons_succ]
  refine wpK_done (by kernel_rfl) (fun V23 hv24 => ?_) _
  have GC25 := Lib.hid (GC22.out.trans (Gr.un hv24))
  clear hv24
  go_upto_region 5 with fail
  refine wpG_region ?_
  refine wpG_tk (some 14) (v := .int .i64 0) rfl (.val (by rfl) (fun _ _ => rfl)) ?_
  simp only [Act.put, List.setIfInBounds_toArray, List.set_cons_zero, List.set_cons_succ]
  refine wpG_tk (some 15) (v := .int .i64 1) rfl (.val (by rfl) (fun W hg => by go_simp <;> rfl)) ?_
  simp only [Act.put, List.setIfInBounds_toArray, List.set_cons_zero, List.set_cons_succ]
  refine wpG_tk (some 7) (v := .int .i64 1) rfl (.val (by rfl) (fun _ _ => rfl)) ?_
  simp only [Act.put, List.setIfInBounds_toArray, List.set_cons_zero, List.set_cons_succ]
  refine wpG_done (fun V26 hv27 => ?_)
  have GC28 := Lib.hid (GC25.out.trans hv27)
  clear hv27
  go_wp2_with fail
  rw [rounds_succ]
  go_upto_region 4 with fail
  refine wpG_region ?_
  refine wpG_tk (some 12) (v := .int .i64 1) rfl (.val (by rfl) (fun _ _ => rfl)) ?_
  simp only [Act.put, List.setIfInBounds_toArray, List.set_cons_zero, List.set_cons_succ]
  refine wpG_tk (some 13) (v := .bool true) rfl (.val (by rfl) (fun W hg => by go_simp)) ?_
  simp only [Act.put, List.setIfInBounds_toArray, List.set_cons_zero, List.set_cons_succ]
  refine wpG_done (fun V29 hv30 => ?_)
  have GC31 := Lib.hid (GC28.out.trans hv30)
  clear hv30
  go_upto_region 6 with fail
  refine wpK_region (by kernel_rfl) ?_
  refine wpK_ta (i := 0) (some 16) (v := .int .i64 (max 0 (max (x1 - y1) (y1 - x1)))) rfl rfl (by kernel_rfl) (fun _ _ _ h => h) (Or.inl ⟨rfl, fun _ => rfl⟩) ?_
  simp only [Act.put, List.setIfInBounds_toArray, List.set_cons_zero, List.set_cons_succ]
  refine wpK_ta (i := 1) (some 17) (v := .int .i64 1) rfl rfl (by kernel_rfl) (fun _ _ _ h => h) (Or.inl ⟨rfl, fun _ => rfl⟩) ?_
  simp only [Act.put, List.setIfInBounds_toArray, List.set_cons_zero, List.set_cons_succ]
  refine wpK_ta (i := 2) (some 18) (v := .pointer (some ⟨W1.heap.size, 1, none⟩)) rfl rfl (by kernel_rfl) (fun _ _ _ h => h) (Or.inl ⟨by rfl, fun W => by go_simp⟩) ?_
  simp only [Act.put, List.setIfInBounds_toArray, List.set_cons_zero, List.set_cons_succ]
  refine wpK_tk (i := 3) (some 19) (v := .int .i64 (x2 - y2)) rfl rfl (by kernel_rfl) (fun _ _ _ h => h) (.val (by rfl) (fun W hg => by have c := (R13.out.below (GC31.out.trans (Gr.un hg)) 1 _ rfl).1; go_simp)) ?_
  simp only [Act.put, List.setIfInBounds_toArray, List.set_cons_zero, List.set_cons_succ]
  refine wpK_ta (i := 4) (some 20) (v := .int .i64 1) rfl rfl (by kernel_rfl) (fun _ _ _ h => h) (Or.inl ⟨rfl, fun _ => rfl⟩) ?_
  simp only [Act.put, List.setIfInBounds_toArray, List.set_cons_zero, List.set_cons_succ]
  refine wpK_ta (i := 5) (some 21) (v := .pointer (some ⟨W1.heap.size, 1, none⟩)) rfl rfl (by kernel_rfl) (fun _ _ _ h => h) (Or.inl ⟨by rfl, fun W => by go_simp⟩) ?_
  simp only [Act.put, List.setIfInBounds_toArray, List.set_cons_zero, List.set_cons_succ]
  refine wpK_tk (i := 6) (some 22) (v := .int .i64 (x2 - y2)) rfl rfl (by kernel_rfl) (fun _ _ _ h => h) (.val (by rfl) (fun W hg => by have c := (R13.out.below (GC31.out.trans (Gr.un hg)) 1 _ rfl).1; go_simp)) ?_
  simp only [Act.put, List.setIfInBounds_toArray, List.set_cons_zero, List.set_cons_succ]
  refine wpK_ta (i := 7) (some 23) (v := .int .i64 (-(x2 - y2))) rfl rfl (by kernel_rfl) (fun _ _ _ h => h) (Or.inl ⟨by rfl, fun W => by (first | (go_simp; done) | (go_simp; rw [IntWalk.i64_in _ (by omega)]))⟩) ?_
  simp only [Act.put, List.setIfInBounds_toArray, List.set_cons_zero, List.set_cons_succ]
  refine wpK_ta (i := 8) (some 24) (v := .int .i64 (max (max 0 (max (x1 - y1) (y1 - x1))) (max (x2 - y2) (y2 - x2)))) rfl rfl (by kernel_rfl) (fun _ _ _ h => h) (Or.inl ⟨by rfl, fun W => by (generalize max 0 (max (x1 - y1) (y1 - x1)) = zz; go_simp <;> (repeat' split) <;> omega)⟩) ?_
  simp only [Act.put, List.setIfInBounds_toArray, List.set_cons_zero, List.set_cons_succ]
  refine wpK_ta (i := 9) (some 6) (v := .int .i64 (max (max 0 (max (x1 - y1) (y1 - x1))) (max (x2 - y2) (y2 - x2)))) rfl rfl (by kernel_rfl) (fun _ _ _ h => h) (Or.inl ⟨rfl, fun _ => rfl⟩) ?_
  simp only [Act.put, List.setIfInBounds_toArray, List.set_cons_zero, List.set_cons_succ]
  refine wpK_done (by kernel_rfl) (fun V32 hv33 => ?_) _
  have GC34 := Lib.hid (GC31.out.trans (Gr.un hv33))
  clear hv33
  go_upto_region 5 with fail
  refine wpG_region ?_
  refine wpG_tk (some 14) (v := .int .i64 1) rfl (.val (by rfl) (fun _ _ => rfl)) ?_
  simp only [Act.put, List.setIfInBounds_toArray, List.set_cons_zero, List.set_cons_succ]
  refine wpG_tk (some 15) (v := .int .i64 2) rfl (.val (by rfl) (fun W hg => by go_simp <;> rfl)) ?_
  simp only [Act.put, List.setIfInBounds_toArray, List.set_cons_zero, List.set_cons_succ]
  refine wpG_tk (some 7) (v := .int .i64 2) rfl (.val (by rfl) (fun _ _ => rfl)) ?_
  simp only [Act.put, List.setIfInBounds_toArray, List.set_cons_zero, List.set_cons_succ]
  refine wpG_done (fun V35 hv36 => ?_)
  have GC37 := Lib.hid (GC34.out.trans hv36)
  clear hv36
  go_wp2_with fail
  rw [rounds_succ]
  go_upto_region 4 with fail
  refine wpG_region ?_
  refine wpG_tk (some 12) (v := .int .i64 2) rfl (.val (by rfl) (fun _ _ => rfl)) ?_
  simp only [Act.put, List.setIfInBounds_toArray, List.set_cons_zero, List.set_cons_succ]
  refine wpG_tk (some 13) (v := .bool true) rfl (.val (by rfl) (fun W hg => by go_simp)) ?_
  simp only [Act.put, List.setIfInBounds_toArray, List.set_cons_zero, List.set_cons_succ]
  refine wpG_done (fun V38 hv39 => ?_)
  have GC40 := Lib.hid (GC37.out.trans hv39)
  clear hv39
  go_upto_region 6 with fail
  refine wpK_region (by kernel_rfl) ?_
  refine wpK_ta (i := 0) (some 16) (v := .int .i64 (max (max 0 (max (x1 - y1) (y1 - x1))) (max (x2 - y2) (y2 - x2)))) rfl rfl (by kernel_rfl) (fun _ _ _ h => h) (Or.inl ⟨rfl, fun _ => rfl⟩) ?_
  simp only [Act.put, List.setIfInBounds_toArray, List.set_cons_zero, List.set_cons_succ]
  refine wpK_ta (i := 1) (some 17) (v := .int .i64 2) rfl rfl (by kernel_rfl) (fun _ _ _ h => h) (Or.inl ⟨rfl, fun _ => rfl⟩) ?_
  simp only [Act.put, List.setIfInBounds_toArray, List.set_cons_zero, List.set_cons_succ]
  refine wpK_ta (i := 2) (some 18) (v := .pointer (some ⟨W1.heap.size, 2, none⟩)) rfl rfl (by kernel_rfl) (fun _ _ _ h => h) (Or.inl ⟨by rfl, fun W => by go_simp⟩) ?_
  simp only [Act.put, List.setIfInBounds_toArray, List.set_cons_zero, List.set_cons_succ]
  refine wpK_tk (i := 3) (some 19) (v := .int .i64 (x3 - y3)) rfl rfl (by kernel_rfl) (fun _ _ _ h => h) (.val (by rfl) (fun W hg => by have c := (R13.out.below (GC40.out.trans (Gr.un hg)) 2 _ rfl).1; go_simp)) ?_
  simp only [Act.put, List.setIfInBounds_toArray, List.set_cons_zero, List.set_cons_succ]
  refine wpK_ta (i := 4) (some 20) (v := .int .i64 2) rfl rfl (by kernel_rfl) (fun _ _ _ h => h) (Or.inl ⟨rfl, fun _ => rfl⟩) ?_
  simp only [Act.put, List.setIfInBounds_toArray, List.set_cons_zero, List.set_cons_succ]
  refine wpK_ta (i := 5) (some 21) (v := .pointer (some ⟨W1.heap.size, 2, none⟩)) rfl rfl (by kernel_rfl) (fun _ _ _ h => h) (Or.inl ⟨by rfl, fun W => by go_simp⟩) ?_
  simp only [Act.put, List.setIfInBounds_toArray, List.set_cons_zero, List.set_cons_succ]
  refine wpK_tk (i := 6) (some 22) (v := .int .i64 (x3 - y3)) rfl rfl (by kernel_rfl) (fun _ _ _ h => h) (.val (by rfl) (fun W hg => by have c := (R13.out.below (GC40.out.trans (Gr.un hg)) 2 _ rfl).1; go_simp)) ?_
  simp only [Act.put, List.setIfInBounds_toArray, List.set_cons_zero, List.set_cons_succ]
  refine wpK_ta (i := 7) (some 23) (v := .int .i64 (-(x3 - y3))) rfl rfl (by kernel_rfl) (fun _ _ _ h => h) (Or.inl ⟨by rfl, fun W => by (first | (go_simp; done) | (go_simp; rw [IntWalk.i64_in _ (by omega)]))⟩) ?_
  simp only [Act.put, List.setIfInBounds_toArray, List.set_cons_zero, List.set_cons_succ]
  refine wpK_ta (i := 8) (some 24) (v := .int .i64 (max (max (max 0 (max (x1 - y1) (y1 - x1))) (max (x2 - y2) (y2 - x2))) (max (x3 - y3) (y3 - x3)))) rfl rfl (by kernel_rfl) (fun _ _ _ h => h) (Or.inl ⟨by rfl, fun W => by (generalize max (max 0 (max (x1 - y1) (y1 - x1))) (max (x2 - y2) (y2 - x2)) = zz; go_simp <;> (repeat' split) <;> omega)⟩) ?_
  simp only [Act.put, List.setIfInBounds_toArray, List.set_cons_zero, List.set_cons_succ]
  refine wpK_ta (i := 9) (some 6) (v := .int .i64 (max (max (max 0 (max (x1 - y1) (y1 - x1))) (max (x2 - y2) (y2 - x2))) (max (x3 - y3) (y3 - x3)))) rfl rfl (by kernel_rfl) (fun _ _ _ h => h) (Or.inl ⟨rfl, fun _ => rfl⟩) ?_
  simp only [Act.put, List.setIfInBounds_toArray, List.set_cons_zero, List.set_cons_succ]
  refine wpK_done (by kernel_rfl) (fun V41 hv42 => ?_) _
  have GC43 := Lib.hid (GC40.out.trans (Gr.un hv42))
  clear hv42
  go_upto_region 5 with fail
  refine wpG_region ?_
  refine wpG_tk (some 14) (v := .int .i64 2) rfl (.val (by rfl) (fun _ _ => rfl)) ?_
  simp only [Act.put, List.setIfInBounds_toArray, List.set_cons_zero, List.set_cons_succ]
  refine wpG_tk (some 15) (v := .int .i64 3) rfl (.val (by rfl) (fun W hg => by go_simp <;> rfl)) ?_
  simp only [Act.put, List.setIfInBounds_toArray, List.set_cons_zero, List.set_cons_succ]
  refine wpG_tk (some 7) (v := .int .i64 3) rfl (.val (by rfl) (fun _ _ => rfl)) ?_
  simp only [Act.put, List.setIfInBounds_toArray, List.set_cons_zero, List.set_cons_succ]
  refine wpG_done (fun V44 hv45 => ?_)
  have GC46 := Lib.hid (GC43.out.trans hv45)
  clear hv45
  go_wp2_with fail
  rw [rounds_succ]
  go_upto_region 4 with fail
  refine wpG_region ?_
  refine wpG_tk (some 12) (v := .int .i64 3) rfl (.val (by rfl) (fun _ _ => rfl)) ?_
  simp only [Act.put, List.setIfInBounds_toArray, List.set_cons_zero, List.set_cons_succ]
  refine wpG_tk (some 13) (v := .bool false) rfl (.val (by rfl) (fun W hg => by go_simp)) ?_
  simp only [Act.put, List.setIfInBounds_toArray, List.set_cons_zero, List.set_cons_succ]
  refine wpG_done (fun V47 hv48 => ?_)
  have GC49 := Lib.hid (GC46.out.trans hv48)
  clear hv48
  go_upto_region 7 with fail
  refine wpG_region ?_
  refine wpG_tk (some 25) (v := .int .i64 (max (max (max 0 (max (x1 - y1) (y1 - x1))) (max (x2 - y2) (y2 - x2))) (max (x3 - y3) (y3 - x3)))) rfl (.val (by rfl) (fun _ _ => rfl)) ?_
  simp only [Act.put, List.setIfInBounds_toArray, List.set_cons_zero, List.set_cons_succ]
  refine wpG_tk (some 4) (v := .int .i64 (max (max (max 0 (max (x1 - y1) (y1 - x1))) (max (x2 - y2) (y2 - x2))) (max (x3 - y3) (y3 - x3)))) rfl (.val (by rfl) (fun _ _ => rfl)) ?_
  simp only [Act.put, List.setIfInBounds_toArray, List.set_cons_zero, List.set_cons_succ]
  refine wpG_done (fun V50 hv51 => ?_)
  have GC52 := Lib.hid (GC49.out.trans hv51)
  clear hv51
  go_wp2_with fail
  go_ret
  exact ⟨ret_int (dist_fold x1 x2 x3 y1 y2 y3), Gr.to G7.out GC52.out⟩
/-- what the distance from the origin computes, for every number -/
def rd (x1 x2 x3 : Int) : Int := max (max (max (max (max (max 0 x1) (IntKind.i64.wrap (-x1))) x2) (IntKind.i64.wrap (-x2))) x3) (IntKind.i64.wrap (-x3))
set_option maxRecDepth 1000000 in
set_option maxHeartbeats 4000000 in
theorem rdistance_zero (x1 x2 x3 : Int) (w : World) (h : (-9223372036854775808 ≤ x1 ∧ x1 ≤ 9223372036854775807) ∧ (-9223372036854775808 ≤ x2 ∧ x2 ≤ 9223372036854775807) ∧ (-9223372036854775808 ≤ x3 ∧ x3 ≤ 9223372036854775807)) :
    Calls Tryd.prog 20 #[.agg #[.int .i64 x1, .int .i64 x2, .int .i64 x3], .agg #[.int .i64 0, .int .i64 0, .int .i64 0]] w fun e w' => e = .returned (.int .i64 (rd x1 x2 x3)) ∧ Below w.heap.size w w' := by
  obtain ⟨u, hu, r0, r1, g0⟩ := rows2 w [.int .i64 x1, .int .i64 x2, .int .i64 x3] 23 [.int .i64 0, .int .i64 0, .int .i64 0] 23
  have R0 := Lib.hid r0
  have R1 := Lib.hid r1
  have G0 := Lib.hid g0
  have HU := Lib.hid hu
  clear hu g0 r0 r1
  go_enter Tryd.func20, Tryd.ntmps20
  go_upto_region 1 with fail
  rw [← HU.out]
  refine wpG_region ?_
  refine wpG_tk (some 8) (v := .agg #[.int .i64 x1, .int .i64 x2, .int .i64 x3]) rfl (.load_mid (by rfl) 23 (.tmp 2) rfl (w.heap.size) 0 rfl [.int .i64 x1, .int .i64 x2, .int .i64 x3] _ (fun W hg => (R0.out.below hg).range) Tryd.underlying23 rfl (by kernel_rfl)) ?_
  simp only [Act.put, List.setIfInBounds_toArray, List.set_cons_zero, List.set_cons_succ]
  refine wpG_tk (some 9) (v := .agg #[.int .i64 0, .int .i64 0, .int .i64 0]) rfl (.load_mid (by rfl) 23 (.tmp 3) rfl (w.heap.size + 1) 0 rfl [.int .i64 0, .int .i64 0, .int .i64 0] _ (fun W hg => (R1.out.below hg).range) Tryd.underlying23 rfl (by kernel_rfl)) ?_
  simp only [Act.put, List.setIfInBounds_toArray, List.set_cons_zero, List.set_cons_succ]
  refine wpG_tk (some 10) (v := .agg #[.int .i64 x1, .int .i64 x2, .int .i64 x3]) rfl (.call (f := 16) (args := #[.agg #[.int .i64 x1, .int .i64 x2, .int .i64 x3], .agg #[.int .i64 0, .int .i64 0, .int .i64 0]]) (by rfl) (fun W => by go_simp) (fun W hg => rsub_zero x1 x2 x3 W (by omega))) ?_
  simp only [Act.put, List.setIfInBounds_toArray, List.set_cons_zero, List.set_cons_succ]
  refine wpG_tk (some 11) (v := .agg #[.int .i64 x1, .int .i64 x2, .int .i64 x3]) rfl (.call (f := 70) (args := #[.agg #[.int .i64 x1, .int .i64 x2, .int .i64 x3]]) (by rfl) (fun W => by go_simp) (fun W hg => rlist_any x1 x2 x3 W)) ?_
  simp only [Act.put, List.setIfInBounds_toArray, List.set_cons_zero, List.set_cons_succ]
  refine wpG_val (some 5) rfl (by rfl) (fun W1 hg2 => ⟨.pointer (some ⟨W1.heap.size, 0, none⟩), W1.alloc (.cells #[.int .i64 0, .int .i64 0, .int .i64 0] 64), by (go_simp <;> rfl), ?_⟩)
  simp only [Act.put, List.setIfInBounds_toArray, List.set_cons_zero, List.set_cons_succ]
  refine wpG_store (none) rfl (by rfl) (fun W3 hg4 => ⟨_, run_store_mid 64 (.tmp 5) (.tmp 11) rfl (W1.heap.size) 0 #[.int .i64 x1, .int .i64 x2, .int .i64 x3] rfl rfl (Row.room hg4 3 rfl) (by kernel_rfl) (by kernel_rfl), ?_⟩)
  simp only [Act.put]
  refine wpG_done (fun V5 hv6 => ?_)
  have l8 : w.heap.size < W1.heap.size := (R0.out.below hg2).lt
  have l9 : w.heap.size + 1 < W1.heap.size := (R1.out.below hg2).lt
  have l10 : w.heap.size ≤ W1.heap.size := (Gr.to G0.out hg2).size
  have R11 := Lib.hid ((R0.out.below hg2).past hg4 hv6)
  have R12 := Lib.hid ((R1.out.below hg2).past hg4 hv6)
  have R13 := Lib.hid (Row.made (zs := [.int .i64 0, .int .i64 0, .int .i64 0]) (ds := [.int .i64 x1, .int .i64 x2, .int .i64 x3]) rfl hg4 hv6)
  have G7 := Lib.hid (Gr.to (Gr.to G0.out hg2) (Gr.past hg4 hv6))
  clear hg4 hv6 
  go_upto_region 2 with fail
  refine wpG_region ?_
  refine wpG_tk (some 6) (v := .int .i64 0) rfl (.val (by rfl) (fun _ _ => rfl)) ?_
  simp only [Act.put, List.setIfInBounds_toArray, List.set_cons_zero, List.set_cons_succ]
  refine wpG_done (fun V14 hv15 => ?_)
  have GC16 := Lib.hid hv15
  clear hv15
  go_upto_region 3 with fail
  refine wpG_region ?_
  refine wpG_tk (some 7) (v := .int .i64 0) rfl (.val (by rfl) (fun _ _ => rfl)) ?_
  simp only [Act.put, List.setIfInBounds_toArray, List.set_cons_zero, List.set_cons_succ]
  refine wpG_done (fun V17 hv18 => ?_)
  have GC19 := Lib.hid (GC16.out.trans hv18)
  clear hv18
  go_wp2_with fail
  refine wp_loop_rounds 4 ?_
  rw [rounds_succ]
  go_upto_region 4 with fail
  refine wpG_region ?_
  refine wpG_tk (some 12) (v := .int .i64 0) rfl (.val (by rfl) (fun _ _ => rfl)) ?_
  simp only [Act.put, List.setIfInBounds_toArray, List.set_cons_zero, List.set_cons_succ]
  refine wpG_tk (some 13) (v := .bool true) rfl (.val (by rfl) (fun W hg => by go_simp)) ?_
  simp only [Act.put, List.setIfInBounds_toArray, List.set_cons_zero, List.set_cons_succ]
  refine wpG_done (fun V20 hv21 => ?_)
  have GC22 := Lib.hid (GC19.out.trans hv21)
  clear hv21
  go_upto_region 6 with fail
  refine wpK_region (by kernel_rfl) ?_
  refine wpK_ta (i := 0) (some 16) (v := .int .i64 0) rfl rfl (by kernel_rfl) (fun _ _ _ h => h) (Or.inl ⟨rfl, fun _ => rfl⟩) ?_
  simp only [Act.put, List.setIfInBounds_toArray, List.set_cons_zero, List.set_cons_succ]
  refine wpK_ta (i := 1) (some 17) (v := .int .i64 0) rfl rfl (by kernel_rfl) (fun _ _ _ h => h) (Or.inl ⟨rfl, fun _ => rfl⟩) ?_
  simp only [Act.put, List.setIfInBounds_toArray, List.set_cons_zero, List.set_cons_succ]
  refine wpK_ta (i := 2) (some 18) (v := .pointer (some ⟨W1.heap.size, 0, none⟩)) rfl rfl (by kernel_rfl) (fun _ _ _ h => h) (Or.inl ⟨by rfl, fun W => by go_simp⟩) ?_
  simp only [Act.put, List.setIfInBounds_toArray, List.set_cons_zero, List.set_cons_succ]
  refine wpK_tk (i := 3) (some 19) (v := .int .i64 x1) rfl rfl (by kernel_rfl) (fun _ _ _ h => h) (.val (by rfl) (fun W hg => by have c := (R13.out.below (GC22.out.trans (Gr.un hg)) 0 _ rfl).1; go_simp)) ?_
  simp only [Act.put, List.setIfInBounds_toArray, List.set_cons_zero, List.set_cons_succ]
  refine wpK_ta (i := 4) (some 20) (v := .int .i64 0) rfl rfl (by kernel_rfl) (fun _ _ _ h => h) (Or.inl ⟨rfl, fun _ => rfl⟩) ?_
  simp only [Act.put, List.setIfInBounds_toArray, List.set_cons_zero, List.set_cons_succ]
  refine wpK_ta (i := 5) (some 21) (v := .pointer (some ⟨W1.heap.size, 0, none⟩)) rfl rfl (by kernel_rfl) (fun _ _ _ h => h) (Or.inl ⟨by rfl, fun W => by go_simp⟩) ?_
  simp only [Act.put, List.setIfInBounds_toArray, List.set_cons_zero, List.set_cons_succ]
  refine wpK_tk (i := 6) (some 22) (v := .int .i64 x1) rfl rfl (by kernel_rfl) (fun _ _ _ h => h) (.val (by rfl) (fun W hg => by have c := (R13.out.below (GC22.out.trans (Gr.un hg)) 0 _ rfl).1; go_simp)) ?_
  simp only [Act.put, List.setIfInBounds_toArray, List.set_cons_zero, List.set_cons_succ]
  refine wpK_ta (i := 7) (some 23) (v := .int .i64 (IntKind.i64.wrap (-x1))) rfl rfl (by kernel_rfl) (fun _ _ _ h => h) (Or.inl ⟨by rfl, fun W => by go_simp⟩) ?_
  simp only [Act.put, List.setIfInBounds_toArray, List.set_cons_zero, List.set_cons_succ]
  refine wpK_ta (i := 8) (some 24) (v := .int .i64 (max (max 0 x1) (IntKind.i64.wrap (-x1)))) rfl rfl (by kernel_rfl) (fun _ _ _ h => h) (Or.inl ⟨by rfl, fun W => by (generalize IntKind.i64.wrap (-x1) = zy; go_simp <;> (repeat' split) <;> omega)⟩) ?_
  simp only [Act.put, List.setIfInBounds_toArray, List.set_cons_zero, List.set_cons_succ]
  refine wpK_ta (i := 9) (some 6) (v := .int .i64 (max (max 0 x1) (IntKind.i64.wrap (-x1)))) rfl rfl (by kernel_rfl) (fun _ _ _ h => h) (Or.inl ⟨rfl, fun _ => rfl⟩) ?_
  simp only [Act.put, List.setIfInBounds_toArray, List.set_cons_zero, List.set_cons_succ]
  refine wpK_done (by kernel_rfl) (fun V23 hv24 => ?_) _
  have GC25 := Lib.hid (GC22.out.trans (Gr.un hv24))
  clear hv24
  go_upto_region 5 with fail
  refine wpG_region ?_
  refine wpG_tk (some 14) (v := .int .i64 0) rfl (.val (by rfl) (fun _ _ => rfl)) ?_
  simp only [Act.put, List.setIfInBounds_toArray, List.set_cons_zero, List.set_cons_succ]
  refine wpG_tk (some 15) (v := .int .i64 1) rfl (.val (by rfl) (fun W hg => by go_simp <;> rfl)) ?_
  simp only [Act.put, List.setIfInBounds_toArray, List.set_cons_zero, List.set_cons_succ]
  refine wpG_tk (some 7) (v := .int .i64 1) rfl (.val (by rfl) (fun _ _ => rfl)) ?_
  simp only [Act.put, List.setIfInBounds_toArray, List.set_cons_zero, List.set_cons_succ]
  refine wpG_done (fun V26 hv27 => ?_)
  have GC28 := Lib.hid (GC25.out.trans hv27)
  clear hv27
  go_wp2_with fail
  rw [rounds_succ]
  go_upto_region 4 with fail
  refine wpG_region ?_
  refine wpG_tk (some 12) (v := .int .i64 1) rfl (.val (by rfl) (fun _ _ => rfl)) ?_
  simp only [Act.put, List.setIfInBounds_toArray, List.set_cons_zero, List.set_cons_succ]
  refine wpG_tk (some 13) (v := .bool true) rfl (.val (by rfl) (fun W hg => by go_simp)) ?_
  simp only [Act.put, List.setIfInBounds_toArray, List.set_cons_zero, List.set_cons_succ]
  refine wpG_done (fun V29 hv30 => ?_)
  have GC31 := Lib.hid (GC28.out.trans hv30)
  clear hv30
  go_upto_region 6 with fail
  refine wpK_region (by kernel_rfl) ?_
  refine wpK_ta (i := 0) (some 16) (v := .int .i64 (max (max 0 x1) (IntKind.i64.wrap (-x1)))) rfl rfl (by kernel_rfl) (fun _ _ _ h => h) (Or.inl ⟨rfl, fun _ => rfl⟩) ?_
  simp only [Act.put, List.setIfInBounds_toArray, List.set_cons_zero, List.set_cons_succ]
  refine wpK_ta (i := 1) (some 17) (v := .int .i64 1) rfl rfl (by kernel_rfl) (fun _ _ _ h => h) (Or.inl ⟨rfl, fun _ => rfl⟩) ?_
  simp only [Act.put, List.setIfInBounds_toArray, List.set_cons_zero, List.set_cons_succ]
  refine wpK_ta (i := 2) (some 18) (v := .pointer (some ⟨W1.heap.size, 1, none⟩)) rfl rfl (by kernel_rfl) (fun _ _ _ h => h) (Or.inl ⟨by rfl, fun W => by go_simp⟩) ?_
  simp only [Act.put, List.setIfInBounds_toArray, List.set_cons_zero, List.set_cons_succ]
  refine wpK_tk (i := 3) (some 19) (v := .int .i64 x2) rfl rfl (by kernel_rfl) (fun _ _ _ h => h) (.val (by rfl) (fun W hg => by have c := (R13.out.below (GC31.out.trans (Gr.un hg)) 1 _ rfl).1; go_simp)) ?_
  simp only [Act.put, List.setIfInBounds_toArray, List.set_cons_zero, List.set_cons_succ]
  refine wpK_ta (i := 4) (some 20) (v := .int .i64 1) rfl rfl (by kernel_rfl) (fun _ _ _ h => h) (Or.inl ⟨rfl, fun _ => rfl⟩) ?_
  simp only [Act.put, List.setIfInBounds_toArray, List.set_cons_zero, List.set_cons_succ]
  refine wpK_ta (i := 5) (some 21) (v := .pointer (some ⟨W1.heap.size, 1, none⟩)) rfl rfl (by kernel_rfl) (fun _ _ _ h => h) (Or.inl ⟨by rfl, fun W => by go_simp⟩) ?_
  simp only [Act.put, List.setIfInBounds_toArray, List.set_cons_zero, List.set_cons_succ]
  refine wpK_tk (i := 6) (some 22) (v := .int .i64 x2) rfl rfl (by kernel_rfl) (fun _ _ _ h => h) (.val (by rfl) (fun W hg => by have c := (R13.out.below (GC31.out.trans (Gr.un hg)) 1 _ rfl).1; go_simp)) ?_
  simp only [Act.put, List.setIfInBounds_toArray, List.set_cons_zero, List.set_cons_succ]
  refine wpK_ta (i := 7) (some 23) (v := .int .i64 (IntKind.i64.wrap (-x2))) rfl rfl (by kernel_rfl) (fun _ _ _ h => h) (Or.inl ⟨by rfl, fun W => by go_simp⟩) ?_
  simp only [Act.put, List.setIfInBounds_toArray, List.set_cons_zero, List.set_cons_succ]
  refine wpK_ta (i := 8) (some 24) (v := .int .i64 (max (max (max (max 0 x1) (IntKind.i64.wrap (-x1))) x2) (IntKind.i64.wrap (-x2)))) rfl rfl (by kernel_rfl) (fun _ _ _ h => h) (Or.inl ⟨by rfl, fun W => by (generalize max (max 0 x1) (IntKind.i64.wrap (-x1)) = zz; generalize IntKind.i64.wrap (-x2) = zy; go_simp <;> (repeat' split) <;> omega)⟩) ?_
  simp only [Act.put, List.setIfInBounds_toArray, List.set_cons_zero, List.set_cons_succ]
  refine wpK_ta (i := 9) (some 6) (v := .int .i64 (max (max (max (max 0 x1) (IntKind.i64.wrap (-x1))) x2) (IntKind.i64.wrap (-x2)))) rfl rfl (by kernel_rfl) (fun _ _ _ h => h) (Or.inl ⟨rfl, fun _ => rfl⟩) ?_
  simp only [Act.put, List.setIfInBounds_toArray, List.set_cons_zero, List.set_cons_succ]
  refine wpK_done (by kernel_rfl) (fun V32 hv33 => ?_) _
  have GC34 := Lib.hid (GC31.out.trans (Gr.un hv33))
  clear hv33
  go_upto_region 5 with fail
  refine wpG_region ?_
  refine wpG_tk (some 14) (v := .int .i64 1) rfl (.val (by rfl) (fun _ _ => rfl)) ?_
  simp only [Act.put, List.setIfInBounds_toArray, List.set_cons_zero, List.set_cons_succ]
  refine wpG_tk (some 15) (v := .int .i64 2) rfl (.val (by rfl) (fun W hg => by go_simp <;> rfl)) ?_
  simp only [Act.put, List.setIfInBounds_toArray, List.set_cons_zero, List.set_cons_succ]
  refine wpG_tk (some 7) (v := .int .i64 2) rfl (.val (by rfl) (fun _ _ => rfl)) ?_
  simp only [Act.put, List.setIfInBounds_toArray, List.set_cons_zero, List.set_cons_succ]
  refine wpG_done (fun V35 hv36 => ?_)
  have GC37 := Lib.hid (GC34.out.trans hv36)
  clear hv36
  go_wp2_with fail
  rw [rounds_succ]
  go_upto_region 4 with fail
  refine wpG_region ?_
  refine wpG_tk (some 12) (v := .int .i64 2) rfl (.val (by rfl) (fun _ _ => rfl)) ?_
  simp only [Act.put, List.setIfInBounds_toArray, List.set_cons_zero, List.set_cons_succ]
  refine wpG_tk (some 13) (v := .bool true) rfl (.val (by rfl) (fun W hg => by go_simp)) ?_
  simp only [Act.put, List.setIfInBounds_toArray, List.set_cons_zero, List.set_cons_succ]
  refine wpG_done (fun V38 hv39 => ?_)
  have GC40 := Lib.hid (GC37.out.trans hv39)
  clear hv39
  go_upto_region 6 with fail
  refine wpK_region (by kernel_rfl) ?_
  refine wpK_ta (i := 0) (some 16) (v := .int .i64 (max (max (max (max 0 x1) (IntKind.i64.wrap (-x1))) x2) (IntKind.i64.wrap (-x2)))) rfl rfl (by kernel_rfl) (fun _ _ _ h => h) (Or.inl ⟨rfl, fun _ => rfl⟩) ?_
  simp only [Act.put, List.setIfInBounds_toArray, List.set_cons_zero, List.set_cons_succ]
  refine wpK_ta (i := 1) (some 17) (v := .int .i64 2) rfl rfl (by kernel_rfl) (fun _ _ _ h => h) (Or.inl ⟨rfl, fun _ => rfl⟩) ?_
  simp only [Act.put, List.setIfInBounds_toArray, List.set_cons_zero, List.set_cons_succ]
  refine wpK_ta (i := 2) (some 18) (v := .pointer (some ⟨W1.heap.size, 2, none⟩)) rfl rfl (by kernel_rfl) (fun _ _ _ h => h) (Or.inl ⟨by rfl, fun W => by go_simp⟩) ?_
  simp only [Act.put, List.setIfInBounds_toArray, List.set_cons_zero, List.set_cons_succ]
  refine wpK_tk (i := 3) (some 19) (v := .int .i64 x3) rfl rfl (by kernel_rfl) (fun _ _ _ h => h) (.val (by rfl) (fun W hg => by have c := (R13.out.below (GC40.out.trans (Gr.un hg)) 2 _ rfl).1; go_simp)) ?_
  simp only [Act.put, List.setIfInBounds_toArray, List.set_cons_zero, List.set_cons_succ]
  refine wpK_ta (i := 4) (some 20) (v := .int .i64 2) rfl rfl (by kernel_rfl) (fun _ _ _ h => h) (Or.inl ⟨rfl, fun _ => rfl⟩) ?_
  simp only [Act.put, List.setIfInBounds_toArray, List.set_cons_zero, List.set_cons_succ]
  refine wpK_ta (i := 5) (some 21) (v := .pointer (some ⟨W1.heap.size, 2, none⟩)) rfl rfl (by kernel_rfl) (fun _ _ _ h => h) (Or.inl ⟨by rfl, fun W => by go_simp⟩) ?_
  simp only [Act.put, List.setIfInBounds_toArray, List.set_cons_zero, List.set_cons_succ]
  refine wpK_tk (i := 6) (some 22) (v := .int .i64 x3) rfl rfl (by kernel_rfl) (fun _ _ _ h => h) (.val (by rfl) (fun W hg => by have c := (R13.out.below (GC40.out.trans (Gr.un hg)) 2 _ rfl).1; go_simp)) ?_
  simp only [Act.put, List.setIfInBounds_toArray, List.set_cons_zero, List.set_cons_succ]
  refine wpK_ta (i := 7) (some 23) (v := .int .i64 (IntKind.i64.wrap (-x3))) rfl rfl (by kernel_rfl) (fun _ _ _ h => h) (Or.inl ⟨by rfl, fun W => by go_simp⟩) ?_
  simp only [Act.put, List.setIfInBounds_toArray, List.set_cons_zero, List.set_cons_succ]
  refine wpK_ta (i := 8) (some 24) (v := .int .i64 (max (max (max (max (max (max 0 x1) (IntKind.i64.wrap (-x1))) x2) (IntKind.i64.wrap (-x2))) x3) (IntKind.i64.wrap (-x3)))) rfl rfl (by kernel_rfl) (fun _ _ _ h => h) (Or.inl ⟨by rfl, fun W => by (generalize max (max (max (max 0 x1) (IntKind.i64.wrap (-x1))) x2) (IntKind.i64.wrap (-x2)) = zz; generalize IntKind.i64.wrap (-x3) = zy; go_simp <;> (repeat' split) <;> omega)⟩) ?_
  simp only [Act.put, List.setIfInBounds_toArray, List.set_cons_zero, List.set_cons_succ]
  refine wpK_ta (i := 9) (some 6) (v := .int .i64 (max (max (max (max (max (max 0 x1) (IntKind.i64.wrap (-x1))) x2) (IntKind.i64.wrap (-x2))) x3) (IntKind.i64.wrap (-x3)))) rfl rfl (by kernel_rfl) (fun _ _ _ h => h) (Or.inl ⟨rfl, fun _ => rfl⟩) ?_
  simp only [Act.put, List.setIfInBounds_toArray, List.set_cons_zero, List.set_cons_succ]
  refine wpK_done (by kernel_rfl) (fun V41 hv42 => ?_) _
  have GC43 := Lib.hid (GC40.out.trans (Gr.un hv42))
  clear hv42
  go_upto_region 5 with fail
  refine wpG_region ?_
  refine wpG_tk (some 14) (v := .int .i64 2) rfl (.val (by rfl) (fun _ _ => rfl)) ?_
  simp only [Act.put, List.setIfInBounds_toArray, List.set_cons_zero, List.set_cons_succ]
  refine wpG_tk (some 15) (v := .int .i64 3) rfl (.val (by rfl) (fun W hg => by go_simp <;> rfl)) ?_
  simp only [Act.put, List.setIfInBounds_toArray, List.set_cons_zero, List.set_cons_succ]
  refine wpG_tk (some 7) (v := .int .i64 3) rfl (.val (by rfl) (fun _ _ => rfl)) ?_
  simp only [Act.put, List.setIfInBounds_toArray, List.set_cons_zero, List.set_cons_succ]
  refine wpG_done (fun V44 hv45 => ?_)
  have GC46 := Lib.hid (GC43.out.trans hv45)
  clear hv45
  go_wp2_with fail
  rw [rounds_succ]
  go_upto_region 4 with fail
  refine wpG_region ?_
  refine wpG_tk (some 12) (v := .int .i64 3) rfl (.val (by rfl) (fun _ _ => rfl)) ?_
  simp only [Act.put, List.setIfInBounds_toArray, List.set_cons_zero, List.set_cons_succ]
  refine wpG_tk (some 13) (v := .bool false) rfl (.val (by rfl) (fun W hg => by go_simp)) ?_
  simp only [Act.put, List.setIfInBounds_toArray, List.set_cons_zero, List.set_cons_succ]
  refine wpG_done (fun V47 hv48 => ?_)
  have GC49 := Lib.hid (GC46.out.trans hv48)
  clear hv48
  go_upto_region 7 with fail
  refine wpG_region ?_
  refine wpG_tk (some 25) (v := .int .i64 (max (max (max (max (max (max 0 x1) (IntKind.i64.wrap (-x1))) x2) (IntKind.i64.wrap (-x2))) x3) (IntKind.i64.wrap (-x3)))) rfl (.val (by rfl) (fun _ _ => rfl)) ?_
  simp only [Act.put, List.setIfInBounds_toArray, List.set_cons_zero, List.set_cons_succ]
  refine wpG_tk (some 4) (v := .int .i64 (max (max (max (max (max (max 0 x1) (IntKind.i64.wrap (-x1))) x2) (IntKind.i64.wrap (-x2))) x3) (IntKind.i64.wrap (-x3)))) rfl (.val (by rfl) (fun _ _ => rfl)) ?_
  simp only [Act.put, List.setIfInBounds_toArray, List.set_cons_zero, List.set_cons_succ]
  refine wpG_done (fun V50 hv51 => ?_)
  have GC52 := Lib.hid (GC49.out.trans hv51)
  clear hv51
  go_wp2_with fail
  go_ret
  exact ⟨rfl, Gr.to G7.out GC52.out⟩
theorem rd_in {x1 x2 x3 : Int} (h : (-1048575 ≤ x1 ∧ x1 ≤ 1048575) ∧ (-1048575 ≤ x2 ∧ x2 ≤ 1048575) ∧ (-1048575 ≤ x3 ∧ x3 ≤ 1048575)) : rd x1 x2 x3 ≤ 1048575 := by
  unfold rd
  rw [IntWalk.i64_in _ (by omega), IntWalk.i64_in _ (by omega), IntWalk.i64_in _ (by omega)]
  omega
theorem rd_inner {x1 x2 x3 : Int} (h : (-1048575 ≤ x1 ∧ x1 ≤ 1048575) ∧ (-1048575 ≤ x2 ∧ x2 ≤ 1048575) ∧ (-1048575 ≤ x3 ∧ x3 ≤ 1048575)) : (rd x1 x2 x3 ≤ 524287) ↔ ((-524287 ≤ x1 ∧ x1 ≤ 524287) ∧ (-524287 ≤ x2 ∧ x2 ≤ 524287) ∧ (-524287 ≤ x3 ∧ x3 ≤ 524287)) := by
  unfold rd
  rw [IntWalk.i64_in _ (by omega), IntWalk.i64_in _ (by omega), IntWalk.i64_in _ (by omega)]
  omega

end Go.Proofs.YthadlgjobjnhcaaDoor
