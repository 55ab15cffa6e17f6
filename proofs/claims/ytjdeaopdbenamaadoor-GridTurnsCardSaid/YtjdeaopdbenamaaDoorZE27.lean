/-
  Contracts of the specification: turned points and cells.
-/
import Derived.Test.YtjdeaopdbenamaaDoorZE19
import Derived.Test.YtjdeaopdbenamaaDoorZE26
import Derived.Handy
namespace Go.Proofs.YtjdeaopdbenamaaDoor
open Go.RowKit
set_option linter.unusedVariables false
theorem rturned_any (s : Nat) (x1 x2 x3 less : Int) (w : World) (hs : s < 48) (h : (-2097152 ≤ x1 ∧ x1 ≤ 2097152) ∧ (-2097152 ≤ x2 ∧ x2 ≤ 2097152) ∧ (-2097152 ≤ x3 ∧ x3 ≤ 2097152)) (hl : 0 ≤ less ∧ less ≤ 1) :
    Calls Tryd.prog 68 #[.int .i64 (s : Int), .agg #[.int .i64 x1, .int .i64 x2, .int .i64 x3], .int .i64 less] w fun e w'=>e = .returned (.agg #[.int .i64 (Pt.tc less s 0 x1 x2 x3), .int .i64 (Pt.tc less s 1 x1 x2 x3), .int .i64 (Pt.tc less s 2 x1 x2 x3)]) ∧ Below w.heap.size w w':=by
  have hk : (s : Int) / 8 = 0 ∨ (s : Int) / 8 = 1 ∨ (s : Int) / 8 = 2 ∨ (s : Int) / 8 = 3 ∨ (s : Int) / 8 = 4 ∨ (s : Int) / 8 = 5:=by omega
  rcases hk with hk | hk | hk | hk | hk | hk
  · exact rturned_o0 s x1 x2 x3 less w hs hk h hl
  · exact rturned_o1 s x1 x2 x3 less w hs hk h hl
  · exact rturned_o2 s x1 x2 x3 less w hs hk h hl
  · exact rturned_o3 s x1 x2 x3 less w hs hk h hl
  · exact rturned_o4 s x1 x2 x3 less w hs hk h hl
  · exact rturned_o5 s x1 x2 x3 less w hs hk h hl
set_option maxRecDepth 1000000 in
theorem rturned_out (s x1 x2 x3 less : Int) (w : World) (h : decide (0 ≤ s ∧ s < 48) = false) :
    Calls Tryd.prog 68 #[.int .i64 s, .agg #[.int .i64 x1, .int .i64 x2, .int .i64 x3], .int .i64 less] w fun e w'=>e = .returned (.agg #[.int .i64 x1, .int .i64 x2, .int .i64 x3]) ∧ Below w.heap.size w w':=by
  have HS:=Lib.hid h
  clear h
  obtain ⟨u,hu,r0,r1,g0⟩:=rows2 w [.int .i64 x1, .int .i64 x2, .int .i64 x3] 23 [.int .i64 0, .int .i64 0, .int .i64 0] 23
  have R0:=Lib.hid r0
  have R1:=Lib.hid r1
  have G0:=Lib.hid g0
  have HU:=Lib.hid hu
  clear hu g0 r0 r1
  go_enter Tryd.func68,Tryd.ntmps68
  go_upto_region 1 with fail
  rw [← HU.out]
  refine wpG_region ?_
  refine wpG_tk (some 13) (v:=.int .i64 s) rfl (.val (by rfl) (fun _ _=>rfl)) ?_
  simp only [Act.put,List.setIfInBounds_toArray,List.set_cons_zero,List.set_cons_succ]
  refine wpG_tk (some 14) (v:=.bool false) rfl (.call (f:=69) (args:=#[.int .i64 s]) (by rfl) (fun W=>by go_simp) (fun W hg=>is_is s false W HS.out)) ?_
  simp only [Act.put,List.setIfInBounds_toArray,List.set_cons_zero,List.set_cons_succ]
  refine wpG_tk (some 7) (v:=.bool false) rfl (.val (by rfl) (fun _ _=>rfl)) ?_
  simp only [Act.put,List.setIfInBounds_toArray,List.set_cons_zero,List.set_cons_succ]
  refine wpG_done (fun V1 hv2=>?_)
  have GC3:=Lib.hid hv2
  clear hv2
  go_upto_region 2 with fail
  refine wpG_region ?_
  refine wpG_tk (some 15) (v:=.bool false) rfl (.val (by rfl) (fun _ _=>rfl)) ?_
  simp only [Act.put,List.setIfInBounds_toArray,List.set_cons_zero,List.set_cons_succ]
  refine wpG_tk (some 16) (v:=.bool true) rfl (.val (by rfl) (fun W hg=>by go_simp)) ?_
  simp only [Act.put,List.setIfInBounds_toArray,List.set_cons_zero,List.set_cons_succ]
  refine wpG_done (fun V4 hv5=>?_)
  have GC6:=Lib.hid (GC3.out.trans hv5)
  clear hv5
  go_upto_region 3 with fail
  refine wpG_region ?_
  refine wpG_tk (some 17) (v:=.agg #[.int .i64 x1, .int .i64 x2, .int .i64 x3]) rfl (.load_mid (by rfl) 23 (.tmp 4) rfl (w.heap.size) 0 rfl [.int .i64 x1, .int .i64 x2, .int .i64 x3] _ (fun W hg=>(R0.out.below (GC6.out.trans hg)).range) Tryd.underlying23 rfl (by kernel_rfl)) ?_
  simp only [Act.put,List.setIfInBounds_toArray,List.set_cons_zero,List.set_cons_succ]
  refine wpG_store (none) rfl (by rfl) (fun W7 hg8=>⟨_,run_store_mid 23 (.tmp 6) (.tmp 17) rfl (w.heap.size + 1) 0 #[.int .i64 x1, .int .i64 x2, .int .i64 x3] rfl rfl (((R1.out.below (GC6.out.trans hg8)).there 0 3 (by decide))) (by kernel_rfl) (by kernel_rfl), ?_⟩)
  simp only [Act.put]
  refine wpG_done (fun V9 hv10=>?_)
  have R12:=Lib.hid (Row.put (ds:=[.int .i64 x1, .int .i64 x2, .int .i64 x3]) R1.out (GC6.out.trans hg8) rfl hv10)
  have G11:=Lib.hid (Gr.put G0.out (GC6.out.trans hg8) (by omega) hv10)
  go_wp2_with fail
  refine bodyPost_ret (results_cell_mid rfl _ _ _ (w.heap.size + 1) 0 [.int .i64 x1, .int .i64 x2, .int .i64 x3] _ rfl R12.out.range Tryd.underlying23 rfl (by kernel_rfl)) rfl ?_
  exact ⟨rfl,G11.out⟩
set_option maxRecDepth 1000000 in
theorem rturn_any (s : Nat) (x1 x2 x3 : Int) (w : World) (hs : s < 48) (h : (-2097152 ≤ x1 ∧ x1 ≤ 2097152) ∧ (-2097152 ≤ x2 ∧ x2 ≤ 2097152) ∧ (-2097152 ≤ x3 ∧ x3 ≤ 2097152)) :
    Calls Tryd.prog 70 #[.int .i64 (s : Int), .agg #[.int .i64 x1, .int .i64 x2, .int .i64 x3]] w fun e w'=>e = .returned (.agg #[.int .i64 (Pt.tc 0 s 0 x1 x2 x3), .int .i64 (Pt.tc 0 s 1 x1 x2 x3), .int .i64 (Pt.tc 0 s 2 x1 x2 x3)]) ∧ Below w.heap.size w w':=by
  obtain ⟨u,hu,r0,r1,g0⟩:=rows2 w [.int .i64 x1, .int .i64 x2, .int .i64 x3] 23 [.int .i64 0, .int .i64 0, .int .i64 0] 23
  have R0:=Lib.hid r0
  have R1:=Lib.hid r1
  have G0:=Lib.hid g0
  have HU:=Lib.hid hu
  clear hu g0 r0 r1
  go_enter Tryd.func70,Tryd.ntmps70
  go_upto_region 1 with fail
  rw [← HU.out]
  refine wpG_region ?_
  refine wpG_tk (some 5) (v:=.int .i64 (s : Int)) rfl (.val (by rfl) (fun _ _=>rfl)) ?_
  simp only [Act.put,List.setIfInBounds_toArray,List.set_cons_zero,List.set_cons_succ]
  refine wpG_tk (some 6) (v:=.agg #[.int .i64 x1, .int .i64 x2, .int .i64 x3]) rfl (.load_mid (by rfl) 23 (.tmp 3) rfl (w.heap.size) 0 rfl [.int .i64 x1, .int .i64 x2, .int .i64 x3] _ (fun W hg=>(R0.out.below hg).range) Tryd.underlying23 rfl (by kernel_rfl)) ?_
  simp only [Act.put,List.setIfInBounds_toArray,List.set_cons_zero,List.set_cons_succ]
  refine wpG_tk (some 7) (v:=.agg #[.int .i64 (Pt.tc 0 s 0 x1 x2 x3), .int .i64 (Pt.tc 0 s 1 x1 x2 x3), .int .i64 (Pt.tc 0 s 2 x1 x2 x3)]) rfl (.call (f:=68) (args:=#[.int .i64 (s : Int), .agg #[.int .i64 x1, .int .i64 x2, .int .i64 x3], .int .i64 0]) (by rfl) (fun W=>by go_simp) (fun W hg=>rturned_any s x1 x2 x3 0 W hs h (by omega))) ?_
  simp only [Act.put,List.setIfInBounds_toArray,List.set_cons_zero,List.set_cons_succ]
  refine wpG_store (none) rfl (by rfl) (fun W1 hg2=>⟨_,run_store_mid 23 (.tmp 4) (.tmp 7) rfl (w.heap.size + 1) 0 #[.int .i64 (Pt.tc 0 s 0 x1 x2 x3), .int .i64 (Pt.tc 0 s 1 x1 x2 x3), .int .i64 (Pt.tc 0 s 2 x1 x2 x3)] rfl rfl (((R1.out.below hg2).there 0 3 (by decide))) (by kernel_rfl) (by kernel_rfl), ?_⟩)
  simp only [Act.put]
  refine wpG_done (fun V3 hv4=>?_)
  have R6:=Lib.hid (Row.put (ds:=[.int .i64 (Pt.tc 0 s 0 x1 x2 x3), .int .i64 (Pt.tc 0 s 1 x1 x2 x3), .int .i64 (Pt.tc 0 s 2 x1 x2 x3)]) R1.out hg2 rfl hv4)
  have G5:=Lib.hid (Gr.put G0.out hg2 (by omega) hv4)
  go_wp2_with fail
  refine bodyPost_ret (results_cell_mid rfl _ _ _ (w.heap.size + 1) 0 [.int .i64 (Pt.tc 0 s 0 x1 x2 x3), .int .i64 (Pt.tc 0 s 1 x1 x2 x3), .int .i64 (Pt.tc 0 s 2 x1 x2 x3)] _ rfl R6.out.range Tryd.underlying23 rfl (by kernel_rfl)) rfl ?_
  exact ⟨rfl,G5.out⟩
set_option maxRecDepth 1000000 in
theorem rturncell_any (s : Nat) (x1 x2 x3 : Int) (w : World) (hs : s < 48) (h : (-2097152 ≤ x1 ∧ x1 ≤ 2097152) ∧ (-2097152 ≤ x2 ∧ x2 ≤ 2097152) ∧ (-2097152 ≤ x3 ∧ x3 ≤ 2097152)) :
    Calls Tryd.prog 29 #[.int .i64 (s : Int), .agg #[.int .i64 x1, .int .i64 x2, .int .i64 x3]] w fun e w'=>e = .returned (.agg #[.int .i64 (Pt.tc 1 s 0 x1 x2 x3), .int .i64 (Pt.tc 1 s 1 x1 x2 x3), .int .i64 (Pt.tc 1 s 2 x1 x2 x3)]) ∧ Below w.heap.size w w':=by
  obtain ⟨u,hu,r0,r1,g0⟩:=rows2 w [.int .i64 x1, .int .i64 x2, .int .i64 x3] 23 [.int .i64 0, .int .i64 0, .int .i64 0] 23
  have R0:=Lib.hid r0
  have R1:=Lib.hid r1
  have G0:=Lib.hid g0
  have HU:=Lib.hid hu
  clear hu g0 r0 r1
  go_enter Tryd.func29,Tryd.ntmps29
  go_upto_region 1 with fail
  rw [← HU.out]
  refine wpG_region ?_
  refine wpG_tk (some 5) (v:=.int .i64 (s : Int)) rfl (.val (by rfl) (fun _ _=>rfl)) ?_
  simp only [Act.put,List.setIfInBounds_toArray,List.set_cons_zero,List.set_cons_succ]
  refine wpG_tk (some 6) (v:=.agg #[.int .i64 x1, .int .i64 x2, .int .i64 x3]) rfl (.load_mid (by rfl) 23 (.tmp 3) rfl (w.heap.size) 0 rfl [.int .i64 x1, .int .i64 x2, .int .i64 x3] _ (fun W hg=>(R0.out.below hg).range) Tryd.underlying23 rfl (by kernel_rfl)) ?_
  simp only [Act.put,List.setIfInBounds_toArray,List.set_cons_zero,List.set_cons_succ]
  refine wpG_tk (some 7) (v:=.agg #[.int .i64 (Pt.tc 1 s 0 x1 x2 x3), .int .i64 (Pt.tc 1 s 1 x1 x2 x3), .int .i64 (Pt.tc 1 s 2 x1 x2 x3)]) rfl (.call (f:=68) (args:=#[.int .i64 (s : Int), .agg #[.int .i64 x1, .int .i64 x2, .int .i64 x3], .int .i64 1]) (by rfl) (fun W=>by go_simp) (fun W hg=>rturned_any s x1 x2 x3 1 W hs h (by omega))) ?_
  simp only [Act.put,List.setIfInBounds_toArray,List.set_cons_zero,List.set_cons_succ]
  refine wpG_store (none) rfl (by rfl) (fun W1 hg2=>⟨_,run_store_mid 23 (.tmp 4) (.tmp 7) rfl (w.heap.size + 1) 0 #[.int .i64 (Pt.tc 1 s 0 x1 x2 x3), .int .i64 (Pt.tc 1 s 1 x1 x2 x3), .int .i64 (Pt.tc 1 s 2 x1 x2 x3)] rfl rfl (((R1.out.below hg2).there 0 3 (by decide))) (by kernel_rfl) (by kernel_rfl), ?_⟩)
  simp only [Act.put]
  refine wpG_done (fun V3 hv4=>?_)
  have R6:=Lib.hid (Row.put (ds:=[.int .i64 (Pt.tc 1 s 0 x1 x2 x3), .int .i64 (Pt.tc 1 s 1 x1 x2 x3), .int .i64 (Pt.tc 1 s 2 x1 x2 x3)]) R1.out hg2 rfl hv4)
  have G5:=Lib.hid (Gr.put G0.out hg2 (by omega) hv4)
  go_wp2_with fail
  refine bodyPost_ret (results_cell_mid rfl _ _ _ (w.heap.size + 1) 0 [.int .i64 (Pt.tc 1 s 0 x1 x2 x3), .int .i64 (Pt.tc 1 s 1 x1 x2 x3), .int .i64 (Pt.tc 1 s 2 x1 x2 x3)] _ rfl R6.out.range Tryd.underlying23 rfl (by kernel_rfl)) rfl ?_
  exact ⟨rfl,G5.out⟩
set_option maxRecDepth 1000000 in
theorem rturncell_out (s x1 x2 x3 : Int) (w : World) (h : decide (0 ≤ s ∧ s < 48) = false) :
    Calls Tryd.prog 29 #[.int .i64 s, .agg #[.int .i64 x1, .int .i64 x2, .int .i64 x3]] w fun e w'=>e = .returned (.agg #[.int .i64 x1, .int .i64 x2, .int .i64 x3]) ∧ Below w.heap.size w w':=by
  have HS:=Lib.hid h
  clear h
  obtain ⟨u,hu,r0,r1,g0⟩:=rows2 w [.int .i64 x1, .int .i64 x2, .int .i64 x3] 23 [.int .i64 0, .int .i64 0, .int .i64 0] 23
  have R0:=Lib.hid r0
  have R1:=Lib.hid r1
  have G0:=Lib.hid g0
  have HU:=Lib.hid hu
  clear hu g0 r0 r1
  go_enter Tryd.func29,Tryd.ntmps29
  go_upto_region 1 with fail
  rw [← HU.out]
  refine wpG_region ?_
  refine wpG_tk (some 5) (v:=.int .i64 s) rfl (.val (by rfl) (fun _ _=>rfl)) ?_
  simp only [Act.put,List.setIfInBounds_toArray,List.set_cons_zero,List.set_cons_succ]
  refine wpG_tk (some 6) (v:=.agg #[.int .i64 x1, .int .i64 x2, .int .i64 x3]) rfl (.load_mid (by rfl) 23 (.tmp 3) rfl (w.heap.size) 0 rfl [.int .i64 x1, .int .i64 x2, .int .i64 x3] _ (fun W hg=>(R0.out.below hg).range) Tryd.underlying23 rfl (by kernel_rfl)) ?_
  simp only [Act.put,List.setIfInBounds_toArray,List.set_cons_zero,List.set_cons_succ]
  refine wpG_tk (some 7) (v:=.agg #[.int .i64 x1, .int .i64 x2, .int .i64 x3]) rfl (.call (f:=68) (args:=#[.int .i64 s, .agg #[.int .i64 x1, .int .i64 x2, .int .i64 x3], .int .i64 1]) (by rfl) (fun W=>by go_simp) (fun W hg=>rturned_out s x1 x2 x3 1 W HS.out)) ?_
  simp only [Act.put,List.setIfInBounds_toArray,List.set_cons_zero,List.set_cons_succ]
  refine wpG_store (none) rfl (by rfl) (fun W1 hg2=>⟨_,run_store_mid 23 (.tmp 4) (.tmp 7) rfl (w.heap.size + 1) 0 #[.int .i64 x1, .int .i64 x2, .int .i64 x3] rfl rfl (((R1.out.below hg2).there 0 3 (by decide))) (by kernel_rfl) (by kernel_rfl), ?_⟩)
  simp only [Act.put]
  refine wpG_done (fun V3 hv4=>?_)
  have R6:=Lib.hid (Row.put (ds:=[.int .i64 x1, .int .i64 x2, .int .i64 x3]) R1.out hg2 rfl hv4)
  have G5:=Lib.hid (Gr.put G0.out hg2 (by omega) hv4)
  go_wp2_with fail
  refine bodyPost_ret (results_cell_mid rfl _ _ _ (w.heap.size + 1) 0 [.int .i64 x1, .int .i64 x2, .int .i64 x3] _ rfl R6.out.range Tryd.underlying23 rfl (by kernel_rfl)) rfl ?_
  exact ⟨rfl,G5.out⟩
set_option maxRecDepth 1000000 in
theorem rmark_any (w : World) :
    Calls Tryd.prog 71 #[] w fun e w'=>e = .returned (.agg #[.int .i64 1, .int .i64 2, .int .i64 3]) ∧ Below w.heap.size w w':=by
  obtain ⟨u,hu,r0,g0⟩:=rows1 w [.int .i64 0, .int .i64 0, .int .i64 0] 23
  have R0:=Lib.hid r0
  have G0:=Lib.hid g0
  have HU:=Lib.hid hu
  clear hu g0 r0
  go_enter Tryd.func71,Tryd.ntmps71
  go_upto_region 1 with fail
  rw [← HU.out]
  refine wpG_region ?_
  refine wpG_tk (some 1) (v:=.agg #[.int .i64 1, .int .i64 2, .int .i64 3]) rfl (.val (by rfl) (fun W hg=>by go_simp)) ?_
  simp only [Act.put,List.setIfInBounds_toArray,List.set_cons_zero,List.set_cons_succ]
  refine wpG_store (none) rfl (by rfl) (fun W1 hg2=>⟨_,run_store_mid 23 (.tmp 0) (.tmp 1) rfl (w.heap.size) 0 #[.int .i64 1, .int .i64 2, .int .i64 3] rfl rfl (((R0.out.below hg2).there 0 3 (by decide))) (by kernel_rfl) (by kernel_rfl), ?_⟩)
  simp only [Act.put]
  refine wpG_done (fun V3 hv4=>?_)
  have R6:=Lib.hid (Row.put (ds:=[.int .i64 1, .int .i64 2, .int .i64 3]) R0.out hg2 rfl hv4)
  have G5:=Lib.hid (Gr.put G0.out hg2 (by omega) hv4)
  go_wp2_with fail
  refine bodyPost_ret (results_cell_mid rfl _ _ _ (w.heap.size) 0 [.int .i64 1, .int .i64 2, .int .i64 3] _ rfl R6.out.range Tryd.underlying23 rfl (by kernel_rfl)) rfl ?_
  exact ⟨rfl,G5.out⟩

end Go.Proofs.YtjdeaopdbenamaaDoor
