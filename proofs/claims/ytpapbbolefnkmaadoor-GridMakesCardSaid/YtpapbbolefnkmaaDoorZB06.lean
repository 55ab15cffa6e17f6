/-
  Contracts of package point: intersections, hulls.
-/
import Derived.Test.YtpapbbolefnkmaaDoorZB00
import Derived.Test.YtpapbbolefnkmaaDoorZB05
import Derived.Handy
namespace Go.Proofs.YtpapbbolefnkmaaDoor
open Go.RowKit
set_option linter.unusedVariables false
set_option maxRecDepth 1000000 in
theorem inter_t (a1 a2 a3 a4 a5 a6 b1 b2 b3 b4 b5 b6 : Int) (w : World) (b : (-2097152 ≤ a1 ∧ a1 ≤ 2097152) ∧ (-2097152 ≤ a2 ∧ a2 ≤ 2097152) ∧ (-2097152 ≤ a3 ∧ a3 ≤ 2097152) ∧ (-2097152 ≤ a4 ∧ a4 ≤ 2097152) ∧ (-2097152 ≤ a5 ∧ a5 ≤ 2097152) ∧ (-2097152 ≤ a6 ∧ a6 ≤ 2097152) ∧ (-2097152 ≤ b1 ∧ b1 ≤ 2097152) ∧ (-2097152 ≤ b2 ∧ b2 ≤ 2097152) ∧ (-2097152 ≤ b3 ∧ b3 ≤ 2097152) ∧ (-2097152 ≤ b4 ∧ b4 ≤ 2097152) ∧ (-2097152 ≤ b5 ∧ b5 ≤ 2097152) ∧ (-2097152 ≤ b6 ∧ b6 ≤ 2097152)) (h : Pt.meet a1 a2 a3 a4 a5 a6 b1 b2 b3 b4 b5 b6 = true) :
    Calls Tryd.prog 61 #[.agg #[a1, a2, a3, a4, a5, a6], .agg #[b1, b2, b3, b4, b5, b6]] w fun e w'=>e = .returned (.agg #[(), (), (), (), (), ()]) ∧ Below w.heap.size w w':=by
  have HE:=Lib.hid h
  unfold Pt.meet at HE
  clear h
  obtain ⟨u,hu,r0,r1,r2,g0⟩:=rows3 w [.int .i64 a1, .int .i64 a2, .int .i64 a3, .int .i64 a4, .int .i64 a5, .int .i64 a6] 25 [.int .i64 b1, .int .i64 b2, .int .i64 b3, .int .i64 b4, .int .i64 b5, .int .i64 b6] 25 [.int .i64 0, .int .i64 0, .int .i64 0, .int .i64 0, .int .i64 0, .int .i64 0] 25
  have R0:=Lib.hid r0
  have R1:=Lib.hid r1
  have R2:=Lib.hid r2
  have G0:=Lib.hid g0
  have HU:=Lib.hid hu
  clear hu g0 r0 r1 r2
  go_enter Tryd.func61,Tryd.ntmps61
  go_upto_region 1 with fail
  rw [← HU.out]
  refine wpK_region (by kernel_rfl) ?_
  refine wpK_ta (i:=0) (some 6) (v:=.pointer (some ⟨w.heap.size,0,none⟩)) rfl rfl (by kernel_rfl) (fun _ _ _ h=>h) (Or.inl ⟨by rfl,fun W=>by go_simp⟩) ?_
  simp only [Act.put,zA,zB,zC]
  refine wpK_tk (i:=1) (some 7) (v:=.agg #[a1, a2, a3]) rfl rfl (by kernel_rfl) (fun _ _ _ h=>h) (.load_mid (by rfl) 23 (.tmp 6) rfl (w.heap.size) 0 rfl [.int .i64 a1, .int .i64 a2, .int .i64 a3] _ (fun W hg=>(R0.out.below (Gr.un hg)).lo) Tryd.underlying23 rfl (by kernel_rfl)) ?_
  simp only [Act.put,zA,zB,zC]
  refine wpK_ta (i:=2) (some 8) (v:=.pointer (some ⟨w.heap.size + 1,0,none⟩)) rfl rfl (by kernel_rfl) (fun _ _ _ h=>h) (Or.inl ⟨by rfl,fun W=>by go_simp⟩) ?_
  simp only [Act.put,zA,zB,zC]
  refine wpK_tk (i:=3) (some 9) (v:=.agg #[b1, b2, b3]) rfl rfl (by kernel_rfl) (fun _ _ _ h=>h) (.load_mid (by rfl) 23 (.tmp 8) rfl (w.heap.size + 1) 0 rfl [.int .i64 b1, .int .i64 b2, .int .i64 b3] _ (fun W hg=>(R1.out.below (Gr.un hg)).lo) Tryd.underlying23 rfl (by kernel_rfl)) ?_
  simp only [Act.put,zA,zB,zC]
  refine wpK_tk (i:=4) (some 10) (v:=.agg #[(max a1 b1:Int), (max a2 b2:Int), (max a3 b3:Int)]) rfl rfl (by kernel_rfl) (fun _ _ _ h=>h) (.call (f:=88) (args:=#[.agg #[a1, a2, a3], .agg #[b1, b2, b3]]) (by rfl) (fun W=>by go_simp) (fun W hg=>greatest_any a1 a2 a3 b1 b2 b3 W (by omega))) ?_
  simp only [Act.put,zA,zB,zC]
  refine wpK_ta (i:=5) (some 11) (v:=.pointer (some ⟨w.heap.size,3,none⟩)) rfl rfl (by kernel_rfl) (fun _ _ _ h=>h) (Or.inl ⟨by rfl,fun W=>by go_simp⟩) ?_
  simp only [Act.put,zA,zB,zC]
  refine wpK_tk (i:=6) (some 12) (v:=.agg #[a4, a5, a6]) rfl rfl (by kernel_rfl) (fun _ _ _ h=>h) (.load_mid (by rfl) 23 (.tmp 11) rfl (w.heap.size) 3 rfl [.int .i64 a4, .int .i64 a5, .int .i64 a6] _ (fun W hg=>(R0.out.below (Gr.un hg)).hi) Tryd.underlying23 rfl (by kernel_rfl)) ?_
  simp only [Act.put,zA,zB,zC]
  refine wpK_ta (i:=7) (some 13) (v:=.pointer (some ⟨w.heap.size + 1,3,none⟩)) rfl rfl (by kernel_rfl) (fun _ _ _ h=>h) (Or.inl ⟨by rfl,fun W=>by go_simp⟩) ?_
  simp only [Act.put,zA,zB,zC]
  refine wpK_tk (i:=8) (some 14) (v:=.agg #[b4, b5, b6]) rfl rfl (by kernel_rfl) (fun _ _ _ h=>h) (.load_mid (by rfl) 23 (.tmp 13) rfl (w.heap.size + 1) 3 rfl [.int .i64 b4, .int .i64 b5, .int .i64 b6] _ (fun W hg=>(R1.out.below (Gr.un hg)).hi) Tryd.underlying23 rfl (by kernel_rfl)) ?_
  simp only [Act.put,zA,zB,zC]
  refine wpK_tk (i:=9) (some 15) (v:=.agg #[(min a4 b4:Int), (min a5 b5:Int), (min a6 b6:Int)]) rfl rfl (by kernel_rfl) (fun _ _ _ h=>h) (.call (f:=89) (args:=#[.agg #[a4, a5, a6], .agg #[b4, b5, b6]]) (by rfl) (fun W=>by go_simp) (fun W hg=>least_any a4 a5 a6 b4 b5 b6 W (by omega))) ?_
  simp only [Act.put,zA,zB,zC]
  refine wpK_ta (i:=10) (some 16) (v:=.agg #[(max a1 b1:Int), (max a2 b2:Int), (max a3 b3:Int), (min a4 b4:Int), (min a5 b5:Int), (min a6 b6:Int)]) rfl rfl (by kernel_rfl) (fun _ _ _ h=>h) (Or.inl ⟨by rfl,fun W=>by go_simp⟩) ?_
  simp only [Act.put,zA,zB,zC]
  refine wpK_val (i:=11) (some 5) rfl rfl (by kernel_rfl) (by rfl) (fun W1 hg2=>⟨.pointer (some ⟨W1.heap.size,0,none⟩),W1.alloc (.cells #[(), (), (), (), (), ()] 25),by (go_simp <;> rfl),Gr.al _ _, ?_⟩)
  simp only [Act.put,zA,zB,zC]
  refine wpK_store (i:=12) (none) rfl rfl (by kernel_rfl) (by rfl) (by rfl) (fun W3 hg4=>⟨_,run_store_mid 25 (.tmp 5) (.tmp 16) rfl (W1.heap.size) 0 #[(max a1 b1:Int), (max a2 b2:Int), (max a3 b3:Int), (min a4 b4:Int), (min a5 b5:Int), (min a6 b6:Int)] rfl rfl (Row.room hg4 6 rfl) (by kernel_rfl) (by kernel_rfl), ?_⟩)
  simp only [Act.put]
  refine wpK_done (by kernel_rfl) (fun V5 hv6=>?_) _
  have R8:=Lib.hid ((R0.out.below (Gr.un hg2)).past hg4 hv6)
  have R9:=Lib.hid ((R1.out.below (Gr.un hg2)).past hg4 hv6)
  have R10:=Lib.hid ((R2.out.below (Gr.un hg2)).past hg4 hv6)
  have R11:=Lib.hid (Row.made (zs:=[.int .i64 0, .int .i64 0, .int .i64 0, .int .i64 0, .int .i64 0, .int .i64 0]) (ds:=[.int .i64 (max a1 b1), .int .i64 (max a2 b2), .int .i64 (max a3 b3), .int .i64 (min a4 b4), .int .i64 (min a5 b5), .int .i64 (min a6 b6)]) rfl hg4 hv6)
  have G7:=Lib.hid (Gr.to (Gr.to G0.out (Gr.un hg2)) (Gr.past hg4 hv6))
  clear hg4 hv6 
  go_upto_region 2 with fail
  refine wpG_region ?_
  refine wpG_tk (some 17) (v:=.agg #[(max a1 b1:Int), (max a2 b2:Int), (max a3 b3:Int), (min a4 b4:Int), (min a5 b5:Int), (min a6 b6:Int)]) rfl (.load_mid (by rfl) 25 (.tmp 5) rfl (W1.heap.size) 0 rfl [.int .i64 (max a1 b1), .int .i64 (max a2 b2), .int .i64 (max a3 b3), .int .i64 (min a4 b4), .int .i64 (min a5 b5), .int .i64 (min a6 b6)] _ (fun W hg=>(R11.out.below hg).range) Tryd.underlying25 rfl (by kernel_rfl)) ?_
  simp only [Act.put,zA,zB,zC]
  refine wpG_tk (some 18) (v:=.bool true) rfl (.call (f:=47) (args:=#[.agg #[(max a1 b1:Int), (max a2 b2:Int), (max a3 b3:Int), (min a4 b4:Int), (min a5 b5:Int), (min a6 b6:Int)]]) (by rfl) (fun W=>by go_simp) (fun W hg=>empty_any (max a1 b1) (max a2 b2) (max a3 b3) (min a4 b4) (min a5 b5) (min a6 b6) true W HE.out)) ?_
  simp only [Act.put,zA,zB,zC]
  refine wpG_done (fun V12 hv13=>?_)
  have GC14:=Lib.hid hv13
  clear hv13
  go_upto_region 3 with fail
  refine wpG_region ?_
  refine wpG_tk (some 19) (v:=.agg #[(), (), (), (), (), ()]) rfl (.val (by rfl) (fun W hg=>by go_simp)) ?_
  simp only [Act.put,zA,zB,zC]
  refine wpG_store (none) rfl (by rfl) (fun W15 hg16=>⟨_,run_store_mid 25 (.tmp 4) (.tmp 19) rfl (w.heap.size + 1 + 1) 0 #[(), (), (), (), (), ()] rfl rfl (((R10.out.below (GC14.out.trans hg16)).there 0 6 (by decide))) (by kernel_rfl) (by kernel_rfl), ?_⟩)
  simp only [Act.put]
  refine wpG_done (fun V17 hv18=>?_)
  have R20:=Lib.hid (Row.put (ds:=[.int .i64 0, .int .i64 0, .int .i64 0, .int .i64 0, .int .i64 0, .int .i64 0]) R10.out (GC14.out.trans hg16) rfl hv18)
  have G19:=Lib.hid (Gr.put G7.out (GC14.out.trans hg16) (by omega) hv18)
  go_wp2_with fail
  refine bodyPost_ret (results_cell_mid rfl _ _ _ (w.heap.size + 1 + 1) 0 [.int .i64 0, .int .i64 0, .int .i64 0, .int .i64 0, .int .i64 0, .int .i64 0] _ rfl R20.out.range Tryd.underlying25 rfl (by kernel_rfl)) rfl ?_
  exact ⟨rfl,G19.out⟩
set_option maxRecDepth 1000000 in
theorem inter_f (a1 a2 a3 a4 a5 a6 b1 b2 b3 b4 b5 b6 : Int) (w : World) (b : (-2097152 ≤ a1 ∧ a1 ≤ 2097152) ∧ (-2097152 ≤ a2 ∧ a2 ≤ 2097152) ∧ (-2097152 ≤ a3 ∧ a3 ≤ 2097152) ∧ (-2097152 ≤ a4 ∧ a4 ≤ 2097152) ∧ (-2097152 ≤ a5 ∧ a5 ≤ 2097152) ∧ (-2097152 ≤ a6 ∧ a6 ≤ 2097152) ∧ (-2097152 ≤ b1 ∧ b1 ≤ 2097152) ∧ (-2097152 ≤ b2 ∧ b2 ≤ 2097152) ∧ (-2097152 ≤ b3 ∧ b3 ≤ 2097152) ∧ (-2097152 ≤ b4 ∧ b4 ≤ 2097152) ∧ (-2097152 ≤ b5 ∧ b5 ≤ 2097152) ∧ (-2097152 ≤ b6 ∧ b6 ≤ 2097152)) (h : Pt.meet a1 a2 a3 a4 a5 a6 b1 b2 b3 b4 b5 b6 = false) :
    Calls Tryd.prog 61 #[.agg #[a1, a2, a3, a4, a5, a6], .agg #[b1, b2, b3, b4, b5, b6]] w fun e w'=>e = .returned (.agg #[(max a1 b1:Int), (max a2 b2:Int), (max a3 b3:Int), (min a4 b4:Int), (min a5 b5:Int), (min a6 b6:Int)]) ∧ Below w.heap.size w w':=by
  have HE:=Lib.hid h
  unfold Pt.meet at HE
  clear h
  obtain ⟨u,hu,r0,r1,r2,g0⟩:=rows3 w [.int .i64 a1, .int .i64 a2, .int .i64 a3, .int .i64 a4, .int .i64 a5, .int .i64 a6] 25 [.int .i64 b1, .int .i64 b2, .int .i64 b3, .int .i64 b4, .int .i64 b5, .int .i64 b6] 25 [.int .i64 0, .int .i64 0, .int .i64 0, .int .i64 0, .int .i64 0, .int .i64 0] 25
  have R0:=Lib.hid r0
  have R1:=Lib.hid r1
  have R2:=Lib.hid r2
  have G0:=Lib.hid g0
  have HU:=Lib.hid hu
  clear hu g0 r0 r1 r2
  go_enter Tryd.func61,Tryd.ntmps61
  go_upto_region 1 with fail
  rw [← HU.out]
  refine wpK_region (by kernel_rfl) ?_
  refine wpK_ta (i:=0) (some 6) (v:=.pointer (some ⟨w.heap.size,0,none⟩)) rfl rfl (by kernel_rfl) (fun _ _ _ h=>h) (Or.inl ⟨by rfl,fun W=>by go_simp⟩) ?_
  simp only [Act.put,zA,zB,zC]
  refine wpK_tk (i:=1) (some 7) (v:=.agg #[a1, a2, a3]) rfl rfl (by kernel_rfl) (fun _ _ _ h=>h) (.load_mid (by rfl) 23 (.tmp 6) rfl (w.heap.size) 0 rfl [.int .i64 a1, .int .i64 a2, .int .i64 a3] _ (fun W hg=>(R0.out.below (Gr.un hg)).lo) Tryd.underlying23 rfl (by kernel_rfl)) ?_
  simp only [Act.put,zA,zB,zC]
  refine wpK_ta (i:=2) (some 8) (v:=.pointer (some ⟨w.heap.size + 1,0,none⟩)) rfl rfl (by kernel_rfl) (fun _ _ _ h=>h) (Or.inl ⟨by rfl,fun W=>by go_simp⟩) ?_
  simp only [Act.put,zA,zB,zC]
  refine wpK_tk (i:=3) (some 9) (v:=.agg #[b1, b2, b3]) rfl rfl (by kernel_rfl) (fun _ _ _ h=>h) (.load_mid (by rfl) 23 (.tmp 8) rfl (w.heap.size + 1) 0 rfl [.int .i64 b1, .int .i64 b2, .int .i64 b3] _ (fun W hg=>(R1.out.below (Gr.un hg)).lo) Tryd.underlying23 rfl (by kernel_rfl)) ?_
  simp only [Act.put,zA,zB,zC]
  refine wpK_tk (i:=4) (some 10) (v:=.agg #[(max a1 b1:Int), (max a2 b2:Int), (max a3 b3:Int)]) rfl rfl (by kernel_rfl) (fun _ _ _ h=>h) (.call (f:=88) (args:=#[.agg #[a1, a2, a3], .agg #[b1, b2, b3]]) (by rfl) (fun W=>by go_simp) (fun W hg=>greatest_any a1 a2 a3 b1 b2 b3 W (by omega))) ?_
  simp only [Act.put,zA,zB,zC]
  refine wpK_ta (i:=5) (some 11) (v:=.pointer (some ⟨w.heap.size,3,none⟩)) rfl rfl (by kernel_rfl) (fun _ _ _ h=>h) (Or.inl ⟨by rfl,fun W=>by go_simp⟩) ?_
  simp only [Act.put,zA,zB,zC]
  refine wpK_tk (i:=6) (some 12) (v:=.agg #[a4, a5, a6]) rfl rfl (by kernel_rfl) (fun _ _ _ h=>h) (.load_mid (by rfl) 23 (.tmp 11) rfl (w.heap.size) 3 rfl [.int .i64 a4, .int .i64 a5, .int .i64 a6] _ (fun W hg=>(R0.out.below (Gr.un hg)).hi) Tryd.underlying23 rfl (by kernel_rfl)) ?_
  simp only [Act.put,zA,zB,zC]
  refine wpK_ta (i:=7) (some 13) (v:=.pointer (some ⟨w.heap.size + 1,3,none⟩)) rfl rfl (by kernel_rfl) (fun _ _ _ h=>h) (Or.inl ⟨by rfl,fun W=>by go_simp⟩) ?_
  simp only [Act.put,zA,zB,zC]
  refine wpK_tk (i:=8) (some 14) (v:=.agg #[b4, b5, b6]) rfl rfl (by kernel_rfl) (fun _ _ _ h=>h) (.load_mid (by rfl) 23 (.tmp 13) rfl (w.heap.size + 1) 3 rfl [.int .i64 b4, .int .i64 b5, .int .i64 b6] _ (fun W hg=>(R1.out.below (Gr.un hg)).hi) Tryd.underlying23 rfl (by kernel_rfl)) ?_
  simp only [Act.put,zA,zB,zC]
  refine wpK_tk (i:=9) (some 15) (v:=.agg #[(min a4 b4:Int), (min a5 b5:Int), (min a6 b6:Int)]) rfl rfl (by kernel_rfl) (fun _ _ _ h=>h) (.call (f:=89) (args:=#[.agg #[a4, a5, a6], .agg #[b4, b5, b6]]) (by rfl) (fun W=>by go_simp) (fun W hg=>least_any a4 a5 a6 b4 b5 b6 W (by omega))) ?_
  simp only [Act.put,zA,zB,zC]
  refine wpK_ta (i:=10) (some 16) (v:=.agg #[(max a1 b1:Int), (max a2 b2:Int), (max a3 b3:Int), (min a4 b4:Int), (min a5 b5:Int), (min a6 b6:Int)]) rfl rfl (by kernel_rfl) (fun _ _ _ h=>h) (Or.inl ⟨by rfl,fun W=>by go_simp⟩) ?_
  simp only [Act.put,zA,zB,zC]
  refine wpK_val (i:=11) (some 5) rfl rfl (by kernel_rfl) (by rfl) (fun W1 hg2=>⟨.pointer (some ⟨W1.heap.size,0,none⟩),W1.alloc (.cells #[(), (), (), (), (), ()] 25),by (go_simp <;> rfl),Gr.al _ _, ?_⟩)
  simp only [Act.put,zA,zB,zC]
  refine wpK_store (i:=12) (none) rfl rfl (by kernel_rfl) (by rfl) (by rfl) (fun W3 hg4=>⟨_,run_store_mid 25 (.tmp 5) (.tmp 16) rfl (W1.heap.size) 0 #[(max a1 b1:Int), (max a2 b2:Int), (max a3 b3:Int), (min a4 b4:Int), (min a5 b5:Int), (min a6 b6:Int)] rfl rfl (Row.room hg4 6 rfl) (by kernel_rfl) (by kernel_rfl), ?_⟩)
  simp only [Act.put]
  refine wpK_done (by kernel_rfl) (fun V5 hv6=>?_) _
  have R8:=Lib.hid ((R0.out.below (Gr.un hg2)).past hg4 hv6)
  have R9:=Lib.hid ((R1.out.below (Gr.un hg2)).past hg4 hv6)
  have R10:=Lib.hid ((R2.out.below (Gr.un hg2)).past hg4 hv6)
  have R11:=Lib.hid (Row.made (zs:=[.int .i64 0, .int .i64 0, .int .i64 0, .int .i64 0, .int .i64 0, .int .i64 0]) (ds:=[.int .i64 (max a1 b1), .int .i64 (max a2 b2), .int .i64 (max a3 b3), .int .i64 (min a4 b4), .int .i64 (min a5 b5), .int .i64 (min a6 b6)]) rfl hg4 hv6)
  have G7:=Lib.hid (Gr.to (Gr.to G0.out (Gr.un hg2)) (Gr.past hg4 hv6))
  clear hg4 hv6 
  go_upto_region 2 with fail
  refine wpG_region ?_
  refine wpG_tk (some 17) (v:=.agg #[(max a1 b1:Int), (max a2 b2:Int), (max a3 b3:Int), (min a4 b4:Int), (min a5 b5:Int), (min a6 b6:Int)]) rfl (.load_mid (by rfl) 25 (.tmp 5) rfl (W1.heap.size) 0 rfl [.int .i64 (max a1 b1), .int .i64 (max a2 b2), .int .i64 (max a3 b3), .int .i64 (min a4 b4), .int .i64 (min a5 b5), .int .i64 (min a6 b6)] _ (fun W hg=>(R11.out.below hg).range) Tryd.underlying25 rfl (by kernel_rfl)) ?_
  simp only [Act.put,zA,zB,zC]
  refine wpG_tk (some 18) (v:=.bool false) rfl (.call (f:=47) (args:=#[.agg #[(max a1 b1:Int), (max a2 b2:Int), (max a3 b3:Int), (min a4 b4:Int), (min a5 b5:Int), (min a6 b6:Int)]]) (by rfl) (fun W=>by go_simp) (fun W hg=>empty_any (max a1 b1) (max a2 b2) (max a3 b3) (min a4 b4) (min a5 b5) (min a6 b6) false W HE.out)) ?_
  simp only [Act.put,zA,zB,zC]
  refine wpG_done (fun V12 hv13=>?_)
  have GC14:=Lib.hid hv13
  clear hv13
  go_upto_region 4 with fail
  refine wpG_region ?_
  refine wpG_tk (some 20) (v:=.agg #[(max a1 b1:Int), (max a2 b2:Int), (max a3 b3:Int), (min a4 b4:Int), (min a5 b5:Int), (min a6 b6:Int)]) rfl (.load_mid (by rfl) 25 (.tmp 5) rfl (W1.heap.size) 0 rfl [.int .i64 (max a1 b1), .int .i64 (max a2 b2), .int .i64 (max a3 b3), .int .i64 (min a4 b4), .int .i64 (min a5 b5), .int .i64 (min a6 b6)] _ (fun W hg=>(R11.out.below (GC14.out.trans hg)).range) Tryd.underlying25 rfl (by kernel_rfl)) ?_
  simp only [Act.put,zA,zB,zC]
  refine wpG_store (none) rfl (by rfl) (fun W15 hg16=>⟨_,run_store_mid 25 (.tmp 4) (.tmp 20) rfl (w.heap.size + 1 + 1) 0 #[(max a1 b1:Int), (max a2 b2:Int), (max a3 b3:Int), (min a4 b4:Int), (min a5 b5:Int), (min a6 b6:Int)] rfl rfl (((R10.out.below (GC14.out.trans hg16)).there 0 6 (by decide))) (by kernel_rfl) (by kernel_rfl), ?_⟩)
  simp only [Act.put]
  refine wpG_done (fun V17 hv18=>?_)
  have R20:=Lib.hid (Row.put (ds:=[.int .i64 (max a1 b1), .int .i64 (max a2 b2), .int .i64 (max a3 b3), .int .i64 (min a4 b4), .int .i64 (min a5 b5), .int .i64 (min a6 b6)]) R10.out (GC14.out.trans hg16) rfl hv18)
  have G19:=Lib.hid (Gr.put G7.out (GC14.out.trans hg16) (by omega) hv18)
  go_wp2_with fail
  refine bodyPost_ret (results_cell_mid rfl _ _ _ (w.heap.size + 1 + 1) 0 [.int .i64 (max a1 b1), .int .i64 (max a2 b2), .int .i64 (max a3 b3), .int .i64 (min a4 b4), .int .i64 (min a5 b5), .int .i64 (min a6 b6)] _ rfl R20.out.range Tryd.underlying25 rfl (by kernel_rfl)) rfl ?_
  exact ⟨rfl,G19.out⟩
end Go.Proofs.YtpapbbolefnkmaaDoor
