/-
  Contracts of package point: multiples, distances, cells in boxes, sizes.
-/
import Derived.Test.YthadlgjobjnhcaaDoorPta
import Derived.Handy
namespace Go.Proofs.YthadlgjobjnhcaaDoor
open Go.RowKit
set_option linter.unusedVariables false
set_option maxRecDepth 1000000 in
theorem scale_any (x1 x2 x3 n : Int) (w : World) (h : (-2097152 ≤ x1 ∧ x1 ≤ 2097152) ∧ (-2097152 ≤ x2 ∧ x2 ≤ 2097152) ∧ (-2097152 ≤ x3 ∧ x3 ≤ 2097152) ∧ (-2097152 ≤ n ∧ n ≤ 2097152)) :
    Calls Tryd.prog 17 #[.agg #[.int .i64 x1, .int .i64 x2, .int .i64 x3], .int .i64 n] w fun e w' => e = .returned (.agg #[.int .i64 (x1 * n), .int .i64 (x2 * n), .int .i64 (x3 * n)]) ∧ Below w.heap.size w w' := by
  obtain ⟨u, hu, r0, r1, r2, g0⟩ := rows3 w [.int .i64 x1, .int .i64 x2, .int .i64 x3] 23 [.int .i64 n] 3 [.int .i64 0, .int .i64 0, .int .i64 0] 23
  have R0 := Lib.hid r0
  have R1 := Lib.hid r1
  have R2 := Lib.hid r2
  have G0 := Lib.hid g0
  have HU := Lib.hid hu
  clear hu g0 r0 r1 r2
  go_enter Tryd.func17, Tryd.ntmps17
  go_upto_region 1 with fail
  rw [← HU.out]
  refine wpG_region ?_
  refine wpG_tk (some 5) (v := .agg #[.int .i64 x1, .int .i64 x2, .int .i64 x3]) rfl (.load_mid (by rfl) 23 (.tmp 2) rfl (w.heap.size) 0 rfl [.int .i64 x1, .int .i64 x2, .int .i64 x3] _ (fun W hg => (R0.out.below hg).range) Tryd.underlying23 rfl (by kernel_rfl)) ?_
  simp only [Act.put, List.setIfInBounds_toArray, List.set_cons_zero, List.set_cons_succ]
  refine wpG_tk (some 6) (v := .agg #[.int .i64 x1, .int .i64 x2, .int .i64 x3]) rfl (.load_mid (by rfl) 23 (.tmp 2) rfl (w.heap.size) 0 rfl [.int .i64 x1, .int .i64 x2, .int .i64 x3] _ (fun W hg => (R0.out.below hg).range) Tryd.underlying23 rfl (by kernel_rfl)) ?_
  simp only [Act.put, List.setIfInBounds_toArray, List.set_cons_zero, List.set_cons_succ]
  refine wpG_tk (some 7) (v := .func (.func 68) #[] #[.pointer (some ⟨w.heap.size + 1, 0, none⟩)]) rfl (.val (by rfl) (fun W hg => by go_simp)) ?_
  simp only [Act.put, List.setIfInBounds_toArray, List.set_cons_zero, List.set_cons_succ]
  refine wpG_tk (some 8) (v := .agg #[.int .i64 (x1 * n), .int .i64 (x2 * n), .int .i64 (x3 * n)]) rfl (.call (f := 65) (args := #[.agg #[.int .i64 x1, .int .i64 x2, .int .i64 x3], .agg #[.int .i64 x1, .int .i64 x2, .int .i64 x3], .func (.func 68) #[] #[.pointer (some ⟨w.heap.size + 1, 0, none⟩)]]) (by rfl) (fun W => by go_simp) (fun W hg => combine_scale x1 x2 x3 x1 x2 x3 n (w.heap.size + 1) W (by omega) (R1.out.below hg))) ?_
  simp only [Act.put, List.setIfInBounds_toArray, List.set_cons_zero, List.set_cons_succ]
  refine wpG_store (none) rfl (by rfl) (fun W1 hg2 => ⟨_, run_store_mid 23 (.tmp 4) (.tmp 8) rfl (w.heap.size + 1 + 1) 0 #[.int .i64 (x1 * n), .int .i64 (x2 * n), .int .i64 (x3 * n)] rfl rfl (((R2.out.below hg2).there 0 3 (by decide))) (by kernel_rfl) (by kernel_rfl), ?_⟩)
  simp only [Act.put]
  refine wpG_done (fun V3 hv4 => ?_)
  have R6 := Lib.hid (Row.put (ds := [.int .i64 (x1 * n), .int .i64 (x2 * n), .int .i64 (x3 * n)]) R2.out hg2 rfl hv4)
  have G5 := Lib.hid (Gr.put G0.out hg2 (by omega) hv4)
  go_wp2_with fail
  refine bodyPost_ret (results_cell_mid rfl _ _ _ (w.heap.size + 1 + 1) 0 [.int .i64 (x1 * n), .int .i64 (x2 * n), .int .i64 (x3 * n)] _ rfl R6.out.range Tryd.underlying23 rfl (by kernel_rfl)) rfl ?_
  exact ⟨rfl, G5.out⟩
set_option maxRecDepth 1000000 in
theorem distance_any (x1 x2 x3 y1 y2 y3 : Int) (w : World) (h : (-2097152 ≤ x1 ∧ x1 ≤ 2097152) ∧ (-2097152 ≤ x2 ∧ x2 ≤ 2097152) ∧ (-2097152 ≤ x3 ∧ x3 ≤ 2097152) ∧ (-2097152 ≤ y1 ∧ y1 ≤ 2097152) ∧ (-2097152 ≤ y2 ∧ y2 ≤ 2097152) ∧ (-2097152 ≤ y3 ∧ y3 ≤ 2097152)) :
    Calls Tryd.prog 19 #[.agg #[.int .i64 x1, .int .i64 x2, .int .i64 x3], .agg #[.int .i64 y1, .int .i64 y2, .int .i64 y3]] w fun e w' => e = .returned (.int .i64 (Pt.dist x1 x2 x3 y1 y2 y3)) ∧ Below w.heap.size w w' := by
  obtain ⟨u, hu, r0, r1, g0⟩ := rows2 w [.int .i64 x1, .int .i64 x2, .int .i64 x3] 23 [.int .i64 y1, .int .i64 y2, .int .i64 y3] 23
  have R0 := Lib.hid r0
  have R1 := Lib.hid r1
  have G0 := Lib.hid g0
  have HU := Lib.hid hu
  clear hu g0 r0 r1
  go_enter Tryd.func19, Tryd.ntmps19
  go_upto_region 1 with fail
  rw [← HU.out]
  refine wpG_region ?_
  refine wpG_tk (some 6) (v := .agg #[.int .i64 x1, .int .i64 x2, .int .i64 x3]) rfl (.load_mid (by rfl) 23 (.tmp 2) rfl (w.heap.size) 0 rfl [.int .i64 x1, .int .i64 x2, .int .i64 x3] _ (fun W hg => (R0.out.below hg).range) Tryd.underlying23 rfl (by kernel_rfl)) ?_
  simp only [Act.put, List.setIfInBounds_toArray, List.set_cons_zero, List.set_cons_succ]
  refine wpG_tk (some 7) (v := .agg #[.int .i64 y1, .int .i64 y2, .int .i64 y3]) rfl (.load_mid (by rfl) 23 (.tmp 3) rfl (w.heap.size + 1) 0 rfl [.int .i64 y1, .int .i64 y2, .int .i64 y3] _ (fun W hg => (R1.out.below hg).range) Tryd.underlying23 rfl (by kernel_rfl)) ?_
  simp only [Act.put, List.setIfInBounds_toArray, List.set_cons_zero, List.set_cons_succ]
  refine wpG_tk (some 8) (v := .agg #[.int .i64 (max (x1 - y1) (y1 - x1)), .int .i64 (max (x2 - y2) (y2 - x2)), .int .i64 (max (x3 - y3) (y3 - x3))]) rfl (.call (f := 65) (args := #[.agg #[.int .i64 x1, .int .i64 x2, .int .i64 x3], .agg #[.int .i64 y1, .int .i64 y2, .int .i64 y3], .func (.func 69) #[] #[]]) (by rfl) (fun W => by go_simp) (fun W hg => combine_distance x1 x2 x3 y1 y2 y3 W (by omega))) ?_
  simp only [Act.put, List.setIfInBounds_toArray, List.set_cons_zero, List.set_cons_succ]
  refine wpG_val (some 5) rfl (by rfl) (fun W1 hg2 => ⟨.pointer (some ⟨W1.heap.size, 0, none⟩), W1.alloc (.cells #[.int .i64 0, .int .i64 0, .int .i64 0] 23), by (go_simp <;> rfl), ?_⟩)
  simp only [Act.put, List.setIfInBounds_toArray, List.set_cons_zero, List.set_cons_succ]
  refine wpG_store (none) rfl (by rfl) (fun W3 hg4 => ⟨_, run_store_mid 23 (.tmp 5) (.tmp 8) rfl (W1.heap.size) 0 #[.int .i64 (max (x1 - y1) (y1 - x1)), .int .i64 (max (x2 - y2) (y2 - x2)), .int .i64 (max (x3 - y3) (y3 - x3))] rfl rfl (Row.room hg4 3 rfl) (by kernel_rfl) (by kernel_rfl), ?_⟩)
  simp only [Act.put]
  refine wpG_done (fun V5 hv6 => ?_)
  have R8 := Lib.hid ((R0.out.below hg2).past hg4 hv6)
  have R9 := Lib.hid ((R1.out.below hg2).past hg4 hv6)
  have R10 := Lib.hid (Row.made (zs := [.int .i64 0, .int .i64 0, .int .i64 0]) (ds := [.int .i64 (max (x1 - y1) (y1 - x1)), .int .i64 (max (x2 - y2) (y2 - x2)), .int .i64 (max (x3 - y3) (y3 - x3))]) rfl hg4 hv6)
  have G7 := Lib.hid (Gr.to (Gr.to G0.out hg2) (Gr.past hg4 hv6))
  clear hg4 hv6 
  go_upto_region 2 with fail
  have c0 := (R10.out 0 _ rfl).1
  have c1 := (R10.out 1 _ rfl).1
  have c2 := (R10.out 2 _ rfl).1
  clear HU
  go_wp2_with fail
  all_goals (go_ret; exact ⟨ret_int (by unfold Pt.dist; omega), G7.out⟩)
theorem in_any (x1 x2 x3 a1 a2 a3 a4 a5 a6 : Int) (r : Bool) (w : World) (h : Pt.inB x1 x2 x3 a1 a2 a3 a4 a5 a6 = r) :
    Calls Tryd.prog 25 #[.agg #[.int .i64 x1, .int .i64 x2, .int .i64 x3], .agg #[.int .i64 a1, .int .i64 a2, .int .i64 a3, .int .i64 a4, .int .i64 a5, .int .i64 a6]] w fun e w' => e = .returned (.bool r) ∧ Below w.heap.size w w' := by
  have H := Lib.hid h
  clear h
  go_enter Tryd.func25, Tryd.ntmps25
  go_wp2_with fail
  all_goals (go_ret; exact ⟨ret_bool (by rw [← H.out]; unfold Pt.inB; first | (symm; apply decide_eq_true; omega) | (symm; apply decide_eq_false; omega) | (apply decide_eq_decide.2; omega)), by go_grown⟩)
theorem empty_any (a1 a2 a3 a4 a5 a6 : Int) (r : Bool) (w : World) (h : Pt.emp a1 a2 a3 a4 a5 a6 = r) :
    Calls Tryd.prog 23 #[.agg #[.int .i64 a1, .int .i64 a2, .int .i64 a3, .int .i64 a4, .int .i64 a5, .int .i64 a6]] w fun e w' => e = .returned (.bool r) ∧ Below w.heap.size w w' := by
  rw [Pt.emp_in] at h
  cases r with
  | true =>
    have HE : Hid (Pt.inB a1 a2 a3 a1 a2 a3 a4 a5 a6 = false) := Lib.hid (by simpa using h)
    clear h
    obtain ⟨u, hu, r0, g0⟩ := rows1 w [.int .i64 a1, .int .i64 a2, .int .i64 a3, .int .i64 a4, .int .i64 a5, .int .i64 a6] 31
    have R0 := Lib.hid r0
    have G0 := Lib.hid g0
    have HU := Lib.hid hu
    clear hu g0 r0
    go_enter Tryd.func23, Tryd.ntmps23
    go_upto_region 1 with fail
    rw [← HU.out]
    refine wpG_region ?_
    refine wpG_tk (some 3) (v := .pointer (some ⟨w.heap.size, 0, none⟩)) rfl (.val (by rfl) (fun W hg => by go_simp)) ?_
    simp only [Act.put, List.setIfInBounds_toArray, List.set_cons_zero, List.set_cons_succ]
    refine wpG_tk (some 4) (v := .agg #[.int .i64 a1, .int .i64 a2, .int .i64 a3]) rfl (.load_mid (by rfl) 23 (.tmp 3) rfl (w.heap.size) 0 rfl [.int .i64 a1, .int .i64 a2, .int .i64 a3] _ (fun W hg => (R0.out.below hg).lo) Tryd.underlying23 rfl (by kernel_rfl)) ?_
    simp only [Act.put, List.setIfInBounds_toArray, List.set_cons_zero, List.set_cons_succ]
    refine wpG_tk (some 5) (v := .agg #[.int .i64 a1, .int .i64 a2, .int .i64 a3, .int .i64 a4, .int .i64 a5, .int .i64 a6]) rfl (.load_mid (by rfl) 31 (.tmp 1) rfl (w.heap.size) 0 rfl [.int .i64 a1, .int .i64 a2, .int .i64 a3, .int .i64 a4, .int .i64 a5, .int .i64 a6] _ (fun W hg => (R0.out.below hg).range) Tryd.underlying31 rfl (by kernel_rfl)) ?_
    simp only [Act.put, List.setIfInBounds_toArray, List.set_cons_zero, List.set_cons_succ]
    refine wpG_tk (some 6) (v := .bool false) rfl (.call (f := 25) (args := #[.agg #[.int .i64 a1, .int .i64 a2, .int .i64 a3], .agg #[.int .i64 a1, .int .i64 a2, .int .i64 a3, .int .i64 a4, .int .i64 a5, .int .i64 a6]]) (by rfl) (fun W => by go_simp) (fun W hg => in_any a1 a2 a3 a1 a2 a3 a4 a5 a6 false W HE.out)) ?_
    simp only [Act.put, List.setIfInBounds_toArray, List.set_cons_zero, List.set_cons_succ]
    refine wpG_tk (some 7) (v := .bool true) rfl (.val (by rfl) (fun W hg => by go_simp)) ?_
    simp only [Act.put, List.setIfInBounds_toArray, List.set_cons_zero, List.set_cons_succ]
    refine wpG_tk (some 2) (v := .bool true) rfl (.val (by rfl) (fun _ _ => rfl)) ?_
    simp only [Act.put, List.setIfInBounds_toArray, List.set_cons_zero, List.set_cons_succ]
    refine wpG_done (fun V1 hv2 => ?_)
    have GC3 := Lib.hid hv2
    clear hv2
    go_wp2_with fail
    go_ret
    exact ⟨rfl, Gr.to G0.out GC3.out⟩
  | false =>
    have HE : Hid (Pt.inB a1 a2 a3 a1 a2 a3 a4 a5 a6 = true) := Lib.hid (by simpa using h)
    clear h
    obtain ⟨u, hu, r0, g0⟩ := rows1 w [.int .i64 a1, .int .i64 a2, .int .i64 a3, .int .i64 a4, .int .i64 a5, .int .i64 a6] 31
    have R0 := Lib.hid r0
    have G0 := Lib.hid g0
    have HU := Lib.hid hu
    clear hu g0 r0
    go_enter Tryd.func23, Tryd.ntmps23
    go_upto_region 1 with fail
    rw [← HU.out]
    refine wpG_region ?_
    refine wpG_tk (some 3) (v := .pointer (some ⟨w.heap.size, 0, none⟩)) rfl (.val (by rfl) (fun W hg => by go_simp)) ?_
    simp only [Act.put, List.setIfInBounds_toArray, List.set_cons_zero, List.set_cons_succ]
    refine wpG_tk (some 4) (v := .agg #[.int .i64 a1, .int .i64 a2, .int .i64 a3]) rfl (.load_mid (by rfl) 23 (.tmp 3) rfl (w.heap.size) 0 rfl [.int .i64 a1, .int .i64 a2, .int .i64 a3] _ (fun W hg => (R0.out.below hg).lo) Tryd.underlying23 rfl (by kernel_rfl)) ?_
    simp only [Act.put, List.setIfInBounds_toArray, List.set_cons_zero, List.set_cons_succ]
    refine wpG_tk (some 5) (v := .agg #[.int .i64 a1, .int .i64 a2, .int .i64 a3, .int .i64 a4, .int .i64 a5, .int .i64 a6]) rfl (.load_mid (by rfl) 31 (.tmp 1) rfl (w.heap.size) 0 rfl [.int .i64 a1, .int .i64 a2, .int .i64 a3, .int .i64 a4, .int .i64 a5, .int .i64 a6] _ (fun W hg => (R0.out.below hg).range) Tryd.underlying31 rfl (by kernel_rfl)) ?_
    simp only [Act.put, List.setIfInBounds_toArray, List.set_cons_zero, List.set_cons_succ]
    refine wpG_tk (some 6) (v := .bool true) rfl (.call (f := 25) (args := #[.agg #[.int .i64 a1, .int .i64 a2, .int .i64 a3], .agg #[.int .i64 a1, .int .i64 a2, .int .i64 a3, .int .i64 a4, .int .i64 a5, .int .i64 a6]]) (by rfl) (fun W => by go_simp) (fun W hg => in_any a1 a2 a3 a1 a2 a3 a4 a5 a6 true W HE.out)) ?_
    simp only [Act.put, List.setIfInBounds_toArray, List.set_cons_zero, List.set_cons_succ]
    refine wpG_tk (some 7) (v := .bool false) rfl (.val (by rfl) (fun W hg => by go_simp)) ?_
    simp only [Act.put, List.setIfInBounds_toArray, List.set_cons_zero, List.set_cons_succ]
    refine wpG_tk (some 2) (v := .bool false) rfl (.val (by rfl) (fun _ _ => rfl)) ?_
    simp only [Act.put, List.setIfInBounds_toArray, List.set_cons_zero, List.set_cons_succ]
    refine wpG_done (fun V1 hv2 => ?_)
    have GC3 := Lib.hid hv2
    clear hv2
    go_wp2_with fail
    go_ret
    exact ⟨rfl, Gr.to G0.out GC3.out⟩
set_option maxRecDepth 1000000 in
theorem size_t (a1 a2 a3 a4 a5 a6 : Int) (w : World) (h : Pt.emp a1 a2 a3 a4 a5 a6 = true) :
    Calls Tryd.prog 27 #[.agg #[.int .i64 a1, .int .i64 a2, .int .i64 a3, .int .i64 a4, .int .i64 a5, .int .i64 a6]] w fun e w' => e = .returned (.agg #[.int .i64 0, .int .i64 0, .int .i64 0]) ∧ Below w.heap.size w w' := by
  have HE := Lib.hid h
  clear h
  obtain ⟨u, hu, r0, r1, g0⟩ := rows2 w [.int .i64 a1, .int .i64 a2, .int .i64 a3, .int .i64 a4, .int .i64 a5, .int .i64 a6] 31 [.int .i64 0, .int .i64 0, .int .i64 0] 23
  have R0 := Lib.hid r0
  have R1 := Lib.hid r1
  have G0 := Lib.hid g0
  have HU := Lib.hid hu
  clear hu g0 r0 r1
  go_enter Tryd.func27, Tryd.ntmps27
  go_upto_region 1 with fail
  rw [← HU.out]
  refine wpG_region ?_
  refine wpG_tk (some 3) (v := .agg #[.int .i64 a1, .int .i64 a2, .int .i64 a3, .int .i64 a4, .int .i64 a5, .int .i64 a6]) rfl (.load_mid (by rfl) 31 (.tmp 1) rfl (w.heap.size) 0 rfl [.int .i64 a1, .int .i64 a2, .int .i64 a3, .int .i64 a4, .int .i64 a5, .int .i64 a6] _ (fun W hg => (R0.out.below hg).range) Tryd.underlying31 rfl (by kernel_rfl)) ?_
  simp only [Act.put, List.setIfInBounds_toArray, List.set_cons_zero, List.set_cons_succ]
  refine wpG_tk (some 4) (v := .bool true) rfl (.call (f := 23) (args := #[.agg #[.int .i64 a1, .int .i64 a2, .int .i64 a3, .int .i64 a4, .int .i64 a5, .int .i64 a6]]) (by rfl) (fun W => by go_simp) (fun W hg => empty_any a1 a2 a3 a4 a5 a6 true W HE.out)) ?_
  simp only [Act.put, List.setIfInBounds_toArray, List.set_cons_zero, List.set_cons_succ]
  refine wpG_done (fun V1 hv2 => ?_)
  have GC3 := Lib.hid hv2
  clear hv2
  go_upto_region 2 with fail
  refine wpG_region ?_
  refine wpG_tk (some 5) (v := .agg #[.int .i64 0, .int .i64 0, .int .i64 0]) rfl (.val (by rfl) (fun W hg => by go_simp)) ?_
  simp only [Act.put, List.setIfInBounds_toArray, List.set_cons_zero, List.set_cons_succ]
  refine wpG_store (none) rfl (by rfl) (fun W4 hg5 => ⟨_, run_store_mid 23 (.tmp 2) (.tmp 5) rfl (w.heap.size + 1) 0 #[.int .i64 0, .int .i64 0, .int .i64 0] rfl rfl (((R1.out.below (GC3.out.trans hg5)).there 0 3 (by decide))) (by kernel_rfl) (by kernel_rfl), ?_⟩)
  simp only [Act.put]
  refine wpG_done (fun V6 hv7 => ?_)
  have R9 := Lib.hid (Row.put (ds := [.int .i64 0, .int .i64 0, .int .i64 0]) R1.out (GC3.out.trans hg5) rfl hv7)
  have G8 := Lib.hid (Gr.put G0.out (GC3.out.trans hg5) (by omega) hv7)
  go_wp2_with fail
  refine bodyPost_ret (results_cell_mid rfl _ _ _ (w.heap.size + 1) 0 [.int .i64 0, .int .i64 0, .int .i64 0] _ rfl R9.out.range Tryd.underlying23 rfl (by kernel_rfl)) rfl ?_
  exact ⟨rfl, G8.out⟩
set_option maxRecDepth 1000000 in
theorem size_f (a1 a2 a3 a4 a5 a6 : Int) (w : World) (b : (-2097152 ≤ a1 ∧ a1 ≤ 2097152) ∧ (-2097152 ≤ a2 ∧ a2 ≤ 2097152) ∧ (-2097152 ≤ a3 ∧ a3 ≤ 2097152) ∧ (-2097152 ≤ a4 ∧ a4 ≤ 2097152) ∧ (-2097152 ≤ a5 ∧ a5 ≤ 2097152) ∧ (-2097152 ≤ a6 ∧ a6 ≤ 2097152)) (h : Pt.emp a1 a2 a3 a4 a5 a6 = false) :
    Calls Tryd.prog 27 #[.agg #[.int .i64 a1, .int .i64 a2, .int .i64 a3, .int .i64 a4, .int .i64 a5, .int .i64 a6]] w fun e w' => e = .returned (.agg #[.int .i64 (a4 - a1), .int .i64 (a5 - a2), .int .i64 (a6 - a3)]) ∧ Below w.heap.size w w' := by
  have HE := Lib.hid h
  clear h
  obtain ⟨u, hu, r0, r1, g0⟩ := rows2 w [.int .i64 a1, .int .i64 a2, .int .i64 a3, .int .i64 a4, .int .i64 a5, .int .i64 a6] 31 [.int .i64 0, .int .i64 0, .int .i64 0] 23
  have R0 := Lib.hid r0
  have R1 := Lib.hid r1
  have G0 := Lib.hid g0
  have HU := Lib.hid hu
  clear hu g0 r0 r1
  go_enter Tryd.func27, Tryd.ntmps27
  go_upto_region 1 with fail
  rw [← HU.out]
  refine wpG_region ?_
  refine wpG_tk (some 3) (v := .agg #[.int .i64 a1, .int .i64 a2, .int .i64 a3, .int .i64 a4, .int .i64 a5, .int .i64 a6]) rfl (.load_mid (by rfl) 31 (.tmp 1) rfl (w.heap.size) 0 rfl [.int .i64 a1, .int .i64 a2, .int .i64 a3, .int .i64 a4, .int .i64 a5, .int .i64 a6] _ (fun W hg => (R0.out.below hg).range) Tryd.underlying31 rfl (by kernel_rfl)) ?_
  simp only [Act.put, List.setIfInBounds_toArray, List.set_cons_zero, List.set_cons_succ]
  refine wpG_tk (some 4) (v := .bool false) rfl (.call (f := 23) (args := #[.agg #[.int .i64 a1, .int .i64 a2, .int .i64 a3, .int .i64 a4, .int .i64 a5, .int .i64 a6]]) (by rfl) (fun W => by go_simp) (fun W hg => empty_any a1 a2 a3 a4 a5 a6 false W HE.out)) ?_
  simp only [Act.put, List.setIfInBounds_toArray, List.set_cons_zero, List.set_cons_succ]
  refine wpG_done (fun V1 hv2 => ?_)
  have GC3 := Lib.hid hv2
  clear hv2
  go_upto_region 3 with fail
  refine wpG_region ?_
  refine wpG_tk (some 6) (v := .pointer (some ⟨w.heap.size, 3, none⟩)) rfl (.val (by rfl) (fun W hg => by go_simp)) ?_
  simp only [Act.put, List.setIfInBounds_toArray, List.set_cons_zero, List.set_cons_succ]
  refine wpG_tk (some 7) (v := .agg #[.int .i64 a4, .int .i64 a5, .int .i64 a6]) rfl (.load_mid (by rfl) 23 (.tmp 6) rfl (w.heap.size) 3 rfl [.int .i64 a4, .int .i64 a5, .int .i64 a6] _ (fun W hg => (R0.out.below (GC3.out.trans hg)).hi) Tryd.underlying23 rfl (by kernel_rfl)) ?_
  simp only [Act.put, List.setIfInBounds_toArray, List.set_cons_zero, List.set_cons_succ]
  refine wpG_tk (some 8) (v := .pointer (some ⟨w.heap.size, 0, none⟩)) rfl (.val (by rfl) (fun W hg => by go_simp)) ?_
  simp only [Act.put, List.setIfInBounds_toArray, List.set_cons_zero, List.set_cons_succ]
  refine wpG_tk (some 9) (v := .agg #[.int .i64 a1, .int .i64 a2, .int .i64 a3]) rfl (.load_mid (by rfl) 23 (.tmp 8) rfl (w.heap.size) 0 rfl [.int .i64 a1, .int .i64 a2, .int .i64 a3] _ (fun W hg => (R0.out.below (GC3.out.trans hg)).lo) Tryd.underlying23 rfl (by kernel_rfl)) ?_
  simp only [Act.put, List.setIfInBounds_toArray, List.set_cons_zero, List.set_cons_succ]
  refine wpG_tk (some 10) (v := .agg #[.int .i64 (a4 - a1), .int .i64 (a5 - a2), .int .i64 (a6 - a3)]) rfl (.call (f := 15) (args := #[.agg #[.int .i64 a4, .int .i64 a5, .int .i64 a6], .agg #[.int .i64 a1, .int .i64 a2, .int .i64 a3]]) (by rfl) (fun W => by go_simp) (fun W hg => sub_any a4 a5 a6 a1 a2 a3 W (by omega))) ?_
  simp only [Act.put, List.setIfInBounds_toArray, List.set_cons_zero, List.set_cons_succ]
  refine wpG_store (none) rfl (by rfl) (fun W4 hg5 => ⟨_, run_store_mid 23 (.tmp 2) (.tmp 10) rfl (w.heap.size + 1) 0 #[.int .i64 (a4 - a1), .int .i64 (a5 - a2), .int .i64 (a6 - a3)] rfl rfl (((R1.out.below (GC3.out.trans hg5)).there 0 3 (by decide))) (by kernel_rfl) (by kernel_rfl), ?_⟩)
  simp only [Act.put]
  refine wpG_done (fun V6 hv7 => ?_)
  have R9 := Lib.hid (Row.put (ds := [.int .i64 (a4 - a1), .int .i64 (a5 - a2), .int .i64 (a6 - a3)]) R1.out (GC3.out.trans hg5) rfl hv7)
  have G8 := Lib.hid (Gr.put G0.out (GC3.out.trans hg5) (by omega) hv7)
  go_wp2_with fail
  refine bodyPost_ret (results_cell_mid rfl _ _ _ (w.heap.size + 1) 0 [.int .i64 (a4 - a1), .int .i64 (a5 - a2), .int .i64 (a6 - a3)] _ rfl R9.out.range Tryd.underlying23 rfl (by kernel_rfl)) rfl ?_
  exact ⟨rfl, G8.out⟩

end Go.Proofs.YthadlgjobjnhcaaDoor
