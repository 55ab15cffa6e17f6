/-
  Contracts of package point: turned boxes.
-/
import Derived.Test.YtpapbbolefnkmaaDoorZB00
import Derived.Test.YtpapbbolefnkmaaDoorZB15
import Derived.Handy
namespace Go.Proofs.YtpapbbolefnkmaaDoor
open Go.RowKit
set_option linter.unusedVariables false
set_option maxRecDepth 1000000 in
theorem turnbox_out (s a1 a2 a3 a4 a5 a6 : Int) (w : World) (h : decide (0 ≤ s ∧ s < 48) = false) :
    Calls Tryd.prog 64 #[s, .agg #[a1, a2, a3, a4, a5, a6]] w fun e w'=>e = .returned (.agg #[a1, a2, a3, a4, a5, a6]) ∧ Below w.heap.size w w':=by
  have HS:=Lib.hid h
  clear h
  obtain ⟨u,hu,r0,r1,g0⟩:=rows2 w [.int .i64 a1, .int .i64 a2, .int .i64 a3, .int .i64 a4, .int .i64 a5, .int .i64 a6] 25 [.int .i64 0, .int .i64 0, .int .i64 0, .int .i64 0, .int .i64 0, .int .i64 0] 25
  have R0:=Lib.hid r0
  have R1:=Lib.hid r1
  have G0:=Lib.hid g0
  have HU:=Lib.hid hu
  clear hu g0 r0 r1
  go_enter Tryd.func64,Tryd.ntmps64
  go_upto_region 1 with fail
  rw [← HU.out]
  refine wpG_region ?_
  refine wpG_tk (some 8) (v:=s) rfl (.val (by rfl) (fun _ _=>rfl)) ?_
  simp only [Act.put,zA,zB,zC]
  refine wpG_tk (some 9) (v:=.bool false) rfl (.call (f:=90) (args:=#[s]) (by rfl) (fun W=>by go_simp) (fun W hg=>sym_is s false W HS.out)) ?_
  simp only [Act.put,zA,zB,zC]
  refine wpG_tk (some 10) (v:=.bool true) rfl (.val (by rfl) (fun W hg=>by go_simp)) ?_
  simp only [Act.put,zA,zB,zC]
  refine wpG_tk (some 7) (v:=.bool true) rfl (.val (by rfl) (fun _ _=>rfl)) ?_
  simp only [Act.put,zA,zB,zC]
  refine wpG_done (fun V1 hv2=>?_)
  have GC3:=Lib.hid hv2
  clear hv2
  go_upto_region 2 with fail
  refine wpG_region ?_
  refine wpG_tk (some 11) (v:=.agg #[a1, a2, a3, a4, a5, a6]) rfl (.load_mid (by rfl) 25 (.tmp 3) rfl (w.heap.size) 0 rfl [.int .i64 a1, .int .i64 a2, .int .i64 a3, .int .i64 a4, .int .i64 a5, .int .i64 a6] _ (fun W hg=>(R0.out.below (GC3.out.trans hg)).range) Tryd.underlying25 rfl (by kernel_rfl)) ?_
  simp only [Act.put,zA,zB,zC]
  refine wpG_store (none) rfl (by rfl) (fun W4 hg5=>⟨_,run_store_mid 25 (.tmp 4) (.tmp 11) rfl (w.heap.size + 1) 0 #[a1, a2, a3, a4, a5, a6] rfl rfl (((R1.out.below (GC3.out.trans hg5)).there 0 6 (by decide))) (by kernel_rfl) (by kernel_rfl), ?_⟩)
  simp only [Act.put]
  refine wpG_done (fun V6 hv7=>?_)
  have R9:=Lib.hid (Row.put (ds:=[.int .i64 a1, .int .i64 a2, .int .i64 a3, .int .i64 a4, .int .i64 a5, .int .i64 a6]) R1.out (GC3.out.trans hg5) rfl hv7)
  have G8:=Lib.hid (Gr.put G0.out (GC3.out.trans hg5) (by omega) hv7)
  go_wp2_with fail
  refine bodyPost_ret (results_cell_mid rfl _ _ _ (w.heap.size + 1) 0 [.int .i64 a1, .int .i64 a2, .int .i64 a3, .int .i64 a4, .int .i64 a5, .int .i64 a6] _ rfl R9.out.range Tryd.underlying25 rfl (by kernel_rfl)) rfl ?_
  exact ⟨rfl,G8.out⟩
set_option maxRecDepth 1000000 in
theorem turnbox_t (s : Nat) (a1 a2 a3 a4 a5 a6 : Int) (w : World) (hs : s < 48) (he : Pt.emp a1 a2 a3 a4 a5 a6 = true) :
    Calls Tryd.prog 64 #[(s : Int), .agg #[a1, a2, a3, a4, a5, a6]] w fun e w'=>e = .returned (.agg #[(), (), (), (), (), ()]) ∧ Below w.heap.size w w':=by
  have HE:=Lib.hid he
  clear he
  have HS : Hid (decide (0 ≤ (s : Int) ∧ (s : Int) < 48) = true):=Lib.hid (decide_eq_true (by omega))
  obtain ⟨u,hu,r0,r1,g0⟩:=rows2 w [.int .i64 a1, .int .i64 a2, .int .i64 a3, .int .i64 a4, .int .i64 a5, .int .i64 a6] 25 [.int .i64 0, .int .i64 0, .int .i64 0, .int .i64 0, .int .i64 0, .int .i64 0] 25
  have R0:=Lib.hid r0
  have R1:=Lib.hid r1
  have G0:=Lib.hid g0
  have HU:=Lib.hid hu
  clear hu g0 r0 r1
  go_enter Tryd.func64,Tryd.ntmps64
  go_upto_region 1 with fail
  rw [← HU.out]
  refine wpG_region ?_
  refine wpG_tk (some 8) (v:=(s : Int)) rfl (.val (by rfl) (fun _ _=>rfl)) ?_
  simp only [Act.put,zA,zB,zC]
  refine wpG_tk (some 9) (v:=.bool true) rfl (.call (f:=90) (args:=#[(s : Int)]) (by rfl) (fun W=>by go_simp) (fun W hg=>sym_is (s : Int) true W HS.out)) ?_
  simp only [Act.put,zA,zB,zC]
  refine wpG_tk (some 10) (v:=.bool false) rfl (.val (by rfl) (fun W hg=>by go_simp)) ?_
  simp only [Act.put,zA,zB,zC]
  refine wpG_tk (some 7) (v:=.bool false) rfl (.val (by rfl) (fun _ _=>rfl)) ?_
  simp only [Act.put,zA,zB,zC]
  refine wpG_done (fun V1 hv2=>?_)
  have GC3:=Lib.hid hv2
  clear hv2
  go_upto_region 3 with fail
  refine wpG_region ?_
  refine wpG_tk (some 13) (v:=.agg #[a1, a2, a3, a4, a5, a6]) rfl (.load_mid (by rfl) 25 (.tmp 3) rfl (w.heap.size) 0 rfl [.int .i64 a1, .int .i64 a2, .int .i64 a3, .int .i64 a4, .int .i64 a5, .int .i64 a6] _ (fun W hg=>(R0.out.below (GC3.out.trans hg)).range) Tryd.underlying25 rfl (by kernel_rfl)) ?_
  simp only [Act.put,zA,zB,zC]
  refine wpG_tk (some 14) (v:=.bool true) rfl (.call (f:=47) (args:=#[.agg #[a1, a2, a3, a4, a5, a6]]) (by rfl) (fun W=>by go_simp) (fun W hg=>empty_any a1 a2 a3 a4 a5 a6 true W HE.out)) ?_
  simp only [Act.put,zA,zB,zC]
  refine wpG_tk (some 12) (v:=.bool true) rfl (.val (by rfl) (fun _ _=>rfl)) ?_
  simp only [Act.put,zA,zB,zC]
  refine wpG_done (fun V4 hv5=>?_)
  have GC6:=Lib.hid (GC3.out.trans hv5)
  clear hv5
  go_upto_region 4 with fail
  refine wpG_region ?_
  refine wpG_tk (some 15) (v:=.agg #[(), (), (), (), (), ()]) rfl (.val (by rfl) (fun W hg=>by go_simp)) ?_
  simp only [Act.put,zA,zB,zC]
  refine wpG_store (none) rfl (by rfl) (fun W7 hg8=>⟨_,run_store_mid 25 (.tmp 4) (.tmp 15) rfl (w.heap.size + 1) 0 #[(), (), (), (), (), ()] rfl rfl (((R1.out.below (GC6.out.trans hg8)).there 0 6 (by decide))) (by kernel_rfl) (by kernel_rfl), ?_⟩)
  simp only [Act.put]
  refine wpG_done (fun V9 hv10=>?_)
  have R12:=Lib.hid (Row.put (ds:=[.int .i64 0, .int .i64 0, .int .i64 0, .int .i64 0, .int .i64 0, .int .i64 0]) R1.out (GC6.out.trans hg8) rfl hv10)
  have G11:=Lib.hid (Gr.put G0.out (GC6.out.trans hg8) (by omega) hv10)
  go_wp2_with fail
  refine bodyPost_ret (results_cell_mid rfl _ _ _ (w.heap.size + 1) 0 [.int .i64 0, .int .i64 0, .int .i64 0, .int .i64 0, .int .i64 0, .int .i64 0] _ rfl R12.out.range Tryd.underlying25 rfl (by kernel_rfl)) rfl ?_
  exact ⟨rfl,G11.out⟩
set_option maxRecDepth 1000000 in
theorem turnbox_f (s : Nat) (a1 a2 a3 a4 a5 a6 : Int) (w : World) (hT : Tab w) (hs : s < 48) (b : (-2097152 ≤ a1 ∧ a1 ≤ 2097152) ∧ (-2097152 ≤ a2 ∧ a2 ≤ 2097152) ∧ (-2097152 ≤ a3 ∧ a3 ≤ 2097152) ∧ (-2097152 ≤ a4 ∧ a4 ≤ 2097152) ∧ (-2097152 ≤ a5 ∧ a5 ≤ 2097152) ∧ (-2097152 ≤ a6 ∧ a6 ≤ 2097152)) (he : Pt.emp a1 a2 a3 a4 a5 a6 = false) :
    Calls Tryd.prog 64 #[(s : Int), .agg #[a1, a2, a3, a4, a5, a6]] w fun e w'=>e = .returned (.agg #[(min (Pt.tc 0 s 0 a1 a2 a3) (Pt.tc 0 s 0 a4 a5 a6):Int), (min (Pt.tc 0 s 1 a1 a2 a3) (Pt.tc 0 s 1 a4 a5 a6):Int), (min (Pt.tc 0 s 2 a1 a2 a3) (Pt.tc 0 s 2 a4 a5 a6):Int), (max (Pt.tc 0 s 0 a1 a2 a3) (Pt.tc 0 s 0 a4 a5 a6):Int), (max (Pt.tc 0 s 1 a1 a2 a3) (Pt.tc 0 s 1 a4 a5 a6):Int), (max (Pt.tc 0 s 2 a1 a2 a3) (Pt.tc 0 s 2 a4 a5 a6):Int)]) ∧ Below w.heap.size w w':=by
  have HE:=Lib.hid he
  clear he
  have HS : Hid (decide (0 ≤ (s : Int) ∧ (s : Int) < 48) = true):=Lib.hid (decide_eq_true (by omega))
  have t0:=Pt.tc_bd0 (s:=s) (i:=0) (L:=2097152) (x:=a1) (y:=a2) (z:=a3) (by omega)
  have v0:=Pt.tc_bd0 (s:=s) (i:=0) (L:=2097152) (x:=a4) (y:=a5) (z:=a6) (by omega)
  have t1:=Pt.tc_bd0 (s:=s) (i:=1) (L:=2097152) (x:=a1) (y:=a2) (z:=a3) (by omega)
  have v1:=Pt.tc_bd0 (s:=s) (i:=1) (L:=2097152) (x:=a4) (y:=a5) (z:=a6) (by omega)
  have t2:=Pt.tc_bd0 (s:=s) (i:=2) (L:=2097152) (x:=a1) (y:=a2) (z:=a3) (by omega)
  have v2:=Pt.tc_bd0 (s:=s) (i:=2) (L:=2097152) (x:=a4) (y:=a5) (z:=a6) (by omega)
  obtain ⟨u,hu,r0,r1,g0⟩:=rows2 w [.int .i64 a1, .int .i64 a2, .int .i64 a3, .int .i64 a4, .int .i64 a5, .int .i64 a6] 25 [.int .i64 0, .int .i64 0, .int .i64 0, .int .i64 0, .int .i64 0, .int .i64 0] 25
  have R0:=Lib.hid r0
  have R1:=Lib.hid r1
  have G0:=Lib.hid g0
  have HU:=Lib.hid hu
  have HT:=Lib.hid (hT.below g0)
  clear hT
  clear hu g0 r0 r1
  go_enter Tryd.func64,Tryd.ntmps64
  go_upto_region 1 with fail
  rw [← HU.out]
  refine wpG_region ?_
  refine wpG_tk (some 8) (v:=(s : Int)) rfl (.val (by rfl) (fun _ _=>rfl)) ?_
  simp only [Act.put,zA,zB,zC]
  refine wpG_tk (some 9) (v:=.bool true) rfl (.call (f:=90) (args:=#[(s : Int)]) (by rfl) (fun W=>by go_simp) (fun W hg=>sym_is (s : Int) true W HS.out)) ?_
  simp only [Act.put,zA,zB,zC]
  refine wpG_tk (some 10) (v:=.bool false) rfl (.val (by rfl) (fun W hg=>by go_simp)) ?_
  simp only [Act.put,zA,zB,zC]
  refine wpG_tk (some 7) (v:=.bool false) rfl (.val (by rfl) (fun _ _=>rfl)) ?_
  simp only [Act.put,zA,zB,zC]
  refine wpG_done (fun V1 hv2=>?_)
  have GC3:=Lib.hid hv2
  clear hv2
  go_upto_region 3 with fail
  refine wpG_region ?_
  refine wpG_tk (some 13) (v:=.agg #[a1, a2, a3, a4, a5, a6]) rfl (.load_mid (by rfl) 25 (.tmp 3) rfl (w.heap.size) 0 rfl [.int .i64 a1, .int .i64 a2, .int .i64 a3, .int .i64 a4, .int .i64 a5, .int .i64 a6] _ (fun W hg=>(R0.out.below (GC3.out.trans hg)).range) Tryd.underlying25 rfl (by kernel_rfl)) ?_
  simp only [Act.put,zA,zB,zC]
  refine wpG_tk (some 14) (v:=.bool false) rfl (.call (f:=47) (args:=#[.agg #[a1, a2, a3, a4, a5, a6]]) (by rfl) (fun W=>by go_simp) (fun W hg=>empty_any a1 a2 a3 a4 a5 a6 false W HE.out)) ?_
  simp only [Act.put,zA,zB,zC]
  refine wpG_tk (some 12) (v:=.bool false) rfl (.val (by rfl) (fun _ _=>rfl)) ?_
  simp only [Act.put,zA,zB,zC]
  refine wpG_done (fun V4 hv5=>?_)
  have GC6:=Lib.hid (GC3.out.trans hv5)
  clear hv5
  go_upto_region 5 with fail
  refine wpK_region (by kernel_rfl) ?_
  refine wpK_ta (i:=0) (some 16) (v:=(s : Int)) rfl rfl (by kernel_rfl) (fun _ _ _ h=>h) (Or.inl ⟨rfl,fun _=>rfl⟩) ?_
  simp only [Act.put,zA,zB,zC]
  refine wpK_ta (i:=1) (some 17) (v:=.pointer (some ⟨w.heap.size,0,none⟩)) rfl rfl (by kernel_rfl) (fun _ _ _ h=>h) (Or.inl ⟨by rfl,fun W=>by go_simp⟩) ?_
  simp only [Act.put,zA,zB,zC]
  refine wpK_tk (i:=2) (some 18) (v:=.agg #[a1, a2, a3]) rfl rfl (by kernel_rfl) (fun _ _ _ h=>h) (.load_mid (by rfl) 23 (.tmp 17) rfl (w.heap.size) 0 rfl [.int .i64 a1, .int .i64 a2, .int .i64 a3] _ (fun W hg=>(R0.out.below (GC6.out.trans (Gr.un hg))).lo) Tryd.underlying23 rfl (by kernel_rfl)) ?_
  simp only [Act.put,zA,zB,zC]
  refine wpK_tk (i:=3) (some 19) (v:=.agg #[(Pt.tc 0 s 0 a1 a2 a3), (Pt.tc 0 s 1 a1 a2 a3), (Pt.tc 0 s 2 a1 a2 a3)]) rfl rfl (by kernel_rfl) (fun _ _ _ h=>h) (.call (f:=91) (args:=#[(s : Int), .agg #[a1, a2, a3]]) (by rfl) (fun W=>by go_simp) (fun W hg=>turn_any s a1 a2 a3 W (HT.out.below (GC6.out.trans (Gr.un hg))) hs (by omega))) ?_
  simp only [Act.put,zA,zB,zC]
  refine wpK_ta (i:=4) (some 20) (v:=(s : Int)) rfl rfl (by kernel_rfl) (fun _ _ _ h=>h) (Or.inl ⟨rfl,fun _=>rfl⟩) ?_
  simp only [Act.put,zA,zB,zC]
  refine wpK_ta (i:=5) (some 21) (v:=.pointer (some ⟨w.heap.size,3,none⟩)) rfl rfl (by kernel_rfl) (fun _ _ _ h=>h) (Or.inl ⟨by rfl,fun W=>by go_simp⟩) ?_
  simp only [Act.put,zA,zB,zC]
  refine wpK_tk (i:=6) (some 22) (v:=.agg #[a4, a5, a6]) rfl rfl (by kernel_rfl) (fun _ _ _ h=>h) (.load_mid (by rfl) 23 (.tmp 21) rfl (w.heap.size) 3 rfl [.int .i64 a4, .int .i64 a5, .int .i64 a6] _ (fun W hg=>(R0.out.below (GC6.out.trans (Gr.un hg))).hi) Tryd.underlying23 rfl (by kernel_rfl)) ?_
  simp only [Act.put,zA,zB,zC]
  refine wpK_tk (i:=7) (some 23) (v:=.agg #[(Pt.tc 0 s 0 a4 a5 a6), (Pt.tc 0 s 1 a4 a5 a6), (Pt.tc 0 s 2 a4 a5 a6)]) rfl rfl (by kernel_rfl) (fun _ _ _ h=>h) (.call (f:=91) (args:=#[(s : Int), .agg #[a4, a5, a6]]) (by rfl) (fun W=>by go_simp) (fun W hg=>turn_any s a4 a5 a6 W (HT.out.below (GC6.out.trans (Gr.un hg))) hs (by omega))) ?_
  simp only [Act.put,zA,zB,zC]
  refine wpK_two (i:=8) (j:=9) (k:=10) (l:=11) (d1:=5) (d2:=6) 23 [.int .i64 0, .int .i64 0, .int .i64 0] [.int .i64 (Pt.tc 0 s 0 a1 a2 a3), .int .i64 (Pt.tc 0 s 1 a1 a2 a3), .int .i64 (Pt.tc 0 s 2 a1 a2 a3)] [.int .i64 (Pt.tc 0 s 0 a4 a5 a6), .int .i64 (Pt.tc 0 s 1 a4 a5 a6), .int .i64 (Pt.tc 0 s 2 a4 a5 a6)] rfl rfl rfl rfl (by kernel_rfl) rfl rfl rfl rfl (by decide) rfl rfl rfl rfl (fun b W=>by unfold ptr0;go_simp <;> rfl) (fun b W=>by unfold ptr0;go_simp <;> rfl) rfl rfl (fun p q W ht=>run_store_mid 23 (.tmp 5) (.tmp 19) rfl p 0 #[(Pt.tc 0 s 0 a1 a2 a3), (Pt.tc 0 s 1 a1 a2 a3), (Pt.tc 0 s 2 a1 a2 a3)] rfl rfl ht (by kernel_rfl) (by kernel_rfl)) (fun p q W ht=>run_store_mid 23 (.tmp 6) (.tmp 23) rfl q 0 #[(Pt.tc 0 s 0 a4 a5 a6), (Pt.tc 0 s 1 a4 a5 a6), (Pt.tc 0 s 2 a4 a5 a6)] rfl rfl ht (by kernel_rfl) (by kernel_rfl)) (fun p7 q8 V9 _ _ hv10 rp11 rq12=>?_)
  simp only [ptr0,Act.put,zA,zB,zC]
  have R13:=Lib.hid (R0.out.below (GC6.out.trans (Gr.un hv10)))
  have R14:=Lib.hid (R1.out.below (GC6.out.trans (Gr.un hv10)))
  have R15:=Lib.hid rp11
  have R16:=Lib.hid rq12
  have G17:=Lib.hid (Gr.to G0.out (GC6.out.trans (Gr.un hv10)))
  have HT:=Lib.hid (HT.out.below (GC6.out.trans (Gr.un hv10)))
  clear hv10 rp11 rq12
  go_upto_region 6 with fail
  refine wpK_region (by kernel_rfl) ?_
  refine wpK_tk (i:=0) (some 24) (v:=.agg #[(Pt.tc 0 s 0 a1 a2 a3), (Pt.tc 0 s 1 a1 a2 a3), (Pt.tc 0 s 2 a1 a2 a3)]) rfl rfl (by kernel_rfl) (fun _ _ _ h=>h) (.load_mid (by rfl) 23 (.tmp 5) rfl (p7) 0 rfl [.int .i64 (Pt.tc 0 s 0 a1 a2 a3), .int .i64 (Pt.tc 0 s 1 a1 a2 a3), .int .i64 (Pt.tc 0 s 2 a1 a2 a3)] _ (fun W hg=>(R15.out.below (Gr.un hg)).range) Tryd.underlying23 rfl (by kernel_rfl)) ?_
  simp only [Act.put,zA,zB,zC]
  refine wpK_tk (i:=1) (some 25) (v:=.agg #[(Pt.tc 0 s 0 a4 a5 a6), (Pt.tc 0 s 1 a4 a5 a6), (Pt.tc 0 s 2 a4 a5 a6)]) rfl rfl (by kernel_rfl) (fun _ _ _ h=>h) (.load_mid (by rfl) 23 (.tmp 6) rfl (q8) 0 rfl [.int .i64 (Pt.tc 0 s 0 a4 a5 a6), .int .i64 (Pt.tc 0 s 1 a4 a5 a6), .int .i64 (Pt.tc 0 s 2 a4 a5 a6)] _ (fun W hg=>(R16.out.below (Gr.un hg)).range) Tryd.underlying23 rfl (by kernel_rfl)) ?_
  simp only [Act.put,zA,zB,zC]
  refine wpK_tk (i:=2) (some 26) (v:=.agg #[(min (Pt.tc 0 s 0 a1 a2 a3) (Pt.tc 0 s 0 a4 a5 a6):Int), (min (Pt.tc 0 s 1 a1 a2 a3) (Pt.tc 0 s 1 a4 a5 a6):Int), (min (Pt.tc 0 s 2 a1 a2 a3) (Pt.tc 0 s 2 a4 a5 a6):Int)]) rfl rfl (by kernel_rfl) (fun _ _ _ h=>h) (.call (f:=89) (args:=#[.agg #[(Pt.tc 0 s 0 a1 a2 a3), (Pt.tc 0 s 1 a1 a2 a3), (Pt.tc 0 s 2 a1 a2 a3)], .agg #[(Pt.tc 0 s 0 a4 a5 a6), (Pt.tc 0 s 1 a4 a5 a6), (Pt.tc 0 s 2 a4 a5 a6)]]) (by rfl) (fun W=>by go_simp) (fun W hg=>least_any (Pt.tc 0 s 0 a1 a2 a3) (Pt.tc 0 s 1 a1 a2 a3) (Pt.tc 0 s 2 a1 a2 a3) (Pt.tc 0 s 0 a4 a5 a6) (Pt.tc 0 s 1 a4 a5 a6) (Pt.tc 0 s 2 a4 a5 a6) W (by omega))) ?_
  simp only [Act.put,zA,zB,zC]
  refine wpK_tk (i:=3) (some 27) (v:=.agg #[(Pt.tc 0 s 0 a1 a2 a3), (Pt.tc 0 s 1 a1 a2 a3), (Pt.tc 0 s 2 a1 a2 a3)]) rfl rfl (by kernel_rfl) (fun _ _ _ h=>h) (.load_mid (by rfl) 23 (.tmp 5) rfl (p7) 0 rfl [.int .i64 (Pt.tc 0 s 0 a1 a2 a3), .int .i64 (Pt.tc 0 s 1 a1 a2 a3), .int .i64 (Pt.tc 0 s 2 a1 a2 a3)] _ (fun W hg=>(R15.out.below (Gr.un hg)).range) Tryd.underlying23 rfl (by kernel_rfl)) ?_
  simp only [Act.put,zA,zB,zC]
  refine wpK_tk (i:=4) (some 28) (v:=.agg #[(Pt.tc 0 s 0 a4 a5 a6), (Pt.tc 0 s 1 a4 a5 a6), (Pt.tc 0 s 2 a4 a5 a6)]) rfl rfl (by kernel_rfl) (fun _ _ _ h=>h) (.load_mid (by rfl) 23 (.tmp 6) rfl (q8) 0 rfl [.int .i64 (Pt.tc 0 s 0 a4 a5 a6), .int .i64 (Pt.tc 0 s 1 a4 a5 a6), .int .i64 (Pt.tc 0 s 2 a4 a5 a6)] _ (fun W hg=>(R16.out.below (Gr.un hg)).range) Tryd.underlying23 rfl (by kernel_rfl)) ?_
  simp only [Act.put,zA,zB,zC]
  refine wpK_tk (i:=5) (some 29) (v:=.agg #[(max (Pt.tc 0 s 0 a1 a2 a3) (Pt.tc 0 s 0 a4 a5 a6):Int), (max (Pt.tc 0 s 1 a1 a2 a3) (Pt.tc 0 s 1 a4 a5 a6):Int), (max (Pt.tc 0 s 2 a1 a2 a3) (Pt.tc 0 s 2 a4 a5 a6):Int)]) rfl rfl (by kernel_rfl) (fun _ _ _ h=>h) (.call (f:=88) (args:=#[.agg #[(Pt.tc 0 s 0 a1 a2 a3), (Pt.tc 0 s 1 a1 a2 a3), (Pt.tc 0 s 2 a1 a2 a3)], .agg #[(Pt.tc 0 s 0 a4 a5 a6), (Pt.tc 0 s 1 a4 a5 a6), (Pt.tc 0 s 2 a4 a5 a6)]]) (by rfl) (fun W=>by go_simp) (fun W hg=>greatest_any (Pt.tc 0 s 0 a1 a2 a3) (Pt.tc 0 s 1 a1 a2 a3) (Pt.tc 0 s 2 a1 a2 a3) (Pt.tc 0 s 0 a4 a5 a6) (Pt.tc 0 s 1 a4 a5 a6) (Pt.tc 0 s 2 a4 a5 a6) W (by omega))) ?_
  simp only [Act.put,zA,zB,zC]
  refine wpK_ta (i:=6) (some 30) (v:=.agg #[(min (Pt.tc 0 s 0 a1 a2 a3) (Pt.tc 0 s 0 a4 a5 a6):Int), (min (Pt.tc 0 s 1 a1 a2 a3) (Pt.tc 0 s 1 a4 a5 a6):Int), (min (Pt.tc 0 s 2 a1 a2 a3) (Pt.tc 0 s 2 a4 a5 a6):Int), (max (Pt.tc 0 s 0 a1 a2 a3) (Pt.tc 0 s 0 a4 a5 a6):Int), (max (Pt.tc 0 s 1 a1 a2 a3) (Pt.tc 0 s 1 a4 a5 a6):Int), (max (Pt.tc 0 s 2 a1 a2 a3) (Pt.tc 0 s 2 a4 a5 a6):Int)]) rfl rfl (by kernel_rfl) (fun _ _ _ h=>h) (Or.inl ⟨by rfl,fun W=>by go_simp⟩) ?_
  simp only [Act.put,zA,zB,zC]
  refine wpK_store (i:=7) (none) rfl rfl (by kernel_rfl) (by rfl) (by rfl) (fun W18 hg19=>⟨_,run_store_mid 25 (.tmp 4) (.tmp 30) rfl (w.heap.size + 1) 0 #[(min (Pt.tc 0 s 0 a1 a2 a3) (Pt.tc 0 s 0 a4 a5 a6):Int), (min (Pt.tc 0 s 1 a1 a2 a3) (Pt.tc 0 s 1 a4 a5 a6):Int), (min (Pt.tc 0 s 2 a1 a2 a3) (Pt.tc 0 s 2 a4 a5 a6):Int), (max (Pt.tc 0 s 0 a1 a2 a3) (Pt.tc 0 s 0 a4 a5 a6):Int), (max (Pt.tc 0 s 1 a1 a2 a3) (Pt.tc 0 s 1 a4 a5 a6):Int), (max (Pt.tc 0 s 2 a1 a2 a3) (Pt.tc 0 s 2 a4 a5 a6):Int)] rfl rfl (((R14.out.below (Gr.un hg19)).there 0 6 (by decide))) (by kernel_rfl) (by kernel_rfl), ?_⟩)
  simp only [Act.put]
  refine wpK_done (by kernel_rfl) (fun V20 hv21=>?_) _
  have R23:=Lib.hid (Row.put (ds:=[.int .i64 (min (Pt.tc 0 s 0 a1 a2 a3) (Pt.tc 0 s 0 a4 a5 a6)), .int .i64 (min (Pt.tc 0 s 1 a1 a2 a3) (Pt.tc 0 s 1 a4 a5 a6)), .int .i64 (min (Pt.tc 0 s 2 a1 a2 a3) (Pt.tc 0 s 2 a4 a5 a6)), .int .i64 (max (Pt.tc 0 s 0 a1 a2 a3) (Pt.tc 0 s 0 a4 a5 a6)), .int .i64 (max (Pt.tc 0 s 1 a1 a2 a3) (Pt.tc 0 s 1 a4 a5 a6)), .int .i64 (max (Pt.tc 0 s 2 a1 a2 a3) (Pt.tc 0 s 2 a4 a5 a6))]) R14.out (Gr.un hg19) rfl hv21)
  have G22:=Lib.hid (Gr.put G17.out (Gr.un hg19) (by omega) hv21)
  go_wp2_with fail
  refine bodyPost_ret (results_cell_mid rfl _ _ _ (w.heap.size + 1) 0 [.int .i64 (min (Pt.tc 0 s 0 a1 a2 a3) (Pt.tc 0 s 0 a4 a5 a6)), .int .i64 (min (Pt.tc 0 s 1 a1 a2 a3) (Pt.tc 0 s 1 a4 a5 a6)), .int .i64 (min (Pt.tc 0 s 2 a1 a2 a3) (Pt.tc 0 s 2 a4 a5 a6)), .int .i64 (max (Pt.tc 0 s 0 a1 a2 a3) (Pt.tc 0 s 0 a4 a5 a6)), .int .i64 (max (Pt.tc 0 s 1 a1 a2 a3) (Pt.tc 0 s 1 a4 a5 a6)), .int .i64 (max (Pt.tc 0 s 2 a1 a2 a3) (Pt.tc 0 s 2 a4 a5 a6))] _ rfl R23.out.range Tryd.underlying25 rfl (by kernel_rfl)) rfl ?_
  exact ⟨rfl,G22.out⟩

end Go.Proofs.YtpapbbolefnkmaaDoor
