/-
  Contracts of package point: multiples, distances, cells in boxes, sizes.
-/
import Derived.Test.YtpapbbolefnkmaaDoorZB00
import Derived.Test.YtpapbbolefnkmaaDoorZB04
import Derived.Handy
namespace Go.Proofs.YtpapbbolefnkmaaDoor
open Go.RowKit
set_option linter.unusedVariables false
theorem in_any (x1 x2 x3 a1 a2 a3 a4 a5 a6 : Int) (r : Bool) (w : World) (h : Pt.inB x1 x2 x3 a1 a2 a3 a4 a5 a6 = r) :
    Calls Tryd.prog 78 #[.agg #[x1, x2, x3], .agg #[a1, a2, a3, a4, a5, a6]] w fun e w'=>e = .returned (.bool r) ∧ Below w.heap.size w w':=by
  have H:=Lib.hid h
  clear h
  go_enter Tryd.func78,Tryd.ntmps78
  go_wp2_with fail
  all_goals (go_ret;exact ⟨ret_bool (by rw [← H.out];unfold Pt.inB;first | (symm;apply decide_eq_true;omega) | (symm;apply decide_eq_false;omega) | (apply decide_eq_decide.2;omega)),by go_grown⟩)
theorem empty_any (a1 a2 a3 a4 a5 a6 : Int) (r : Bool) (w : World) (h : Pt.emp a1 a2 a3 a4 a5 a6 = r) :
    Calls Tryd.prog 47 #[.agg #[a1, a2, a3, a4, a5, a6]] w fun e w'=>e = .returned (.bool r) ∧ Below w.heap.size w w':=by
  rw [Pt.emp_in] at h
  cases r with
  | true =>
    have HE : Hid (Pt.inB a1 a2 a3 a1 a2 a3 a4 a5 a6 = false):=Lib.hid (by simpa using h)
    clear h
    obtain ⟨u,hu,r0,g0⟩:=rows1 w [.int .i64 a1, .int .i64 a2, .int .i64 a3, .int .i64 a4, .int .i64 a5, .int .i64 a6] 25
    have R0:=Lib.hid r0
    have G0:=Lib.hid g0
    have HU:=Lib.hid hu
    clear hu g0 r0
    go_enter Tryd.func47,Tryd.ntmps47
    go_upto_region 1 with fail
    rw [← HU.out]
    refine wpG_region ?_
    refine wpG_tk (some 3) (v:=.pointer (some ⟨w.heap.size,0,none⟩)) rfl (.val (by rfl) (fun W hg=>by go_simp)) ?_
    simp only [Act.put,zA,zB,zC]
    refine wpG_tk (some 4) (v:=.agg #[a1, a2, a3]) rfl (.load_mid (by rfl) 23 (.tmp 3) rfl (w.heap.size) 0 rfl [.int .i64 a1, .int .i64 a2, .int .i64 a3] _ (fun W hg=>(R0.out.below hg).lo) Tryd.underlying23 rfl (by kernel_rfl)) ?_
    simp only [Act.put,zA,zB,zC]
    refine wpG_tk (some 5) (v:=.agg #[a1, a2, a3, a4, a5, a6]) rfl (.load_mid (by rfl) 25 (.tmp 1) rfl (w.heap.size) 0 rfl [.int .i64 a1, .int .i64 a2, .int .i64 a3, .int .i64 a4, .int .i64 a5, .int .i64 a6] _ (fun W hg=>(R0.out.below hg).range) Tryd.underlying25 rfl (by kernel_rfl)) ?_
    simp only [Act.put,zA,zB,zC]
    refine wpG_tk (some 6) (v:=.bool false) rfl (.call (f:=78) (args:=#[.agg #[a1, a2, a3], .agg #[a1, a2, a3, a4, a5, a6]]) (by rfl) (fun W=>by go_simp) (fun W hg=>in_any a1 a2 a3 a1 a2 a3 a4 a5 a6 false W HE.out)) ?_
    simp only [Act.put,zA,zB,zC]
    refine wpG_tk (some 7) (v:=.bool true) rfl (.val (by rfl) (fun W hg=>by go_simp)) ?_
    simp only [Act.put,zA,zB,zC]
    refine wpG_tk (some 2) (v:=.bool true) rfl (.val (by rfl) (fun _ _=>rfl)) ?_
    simp only [Act.put,zA,zB,zC]
    refine wpG_done (fun V1 hv2=>?_)
    have GC3:=Lib.hid hv2
    clear hv2
    go_wp2_with fail
    go_ret
    exact ⟨rfl,Gr.to G0.out GC3.out⟩
  | false =>
    have HE : Hid (Pt.inB a1 a2 a3 a1 a2 a3 a4 a5 a6 = true):=Lib.hid (by simpa using h)
    clear h
    obtain ⟨u,hu,r0,g0⟩:=rows1 w [.int .i64 a1, .int .i64 a2, .int .i64 a3, .int .i64 a4, .int .i64 a5, .int .i64 a6] 25
    have R0:=Lib.hid r0
    have G0:=Lib.hid g0
    have HU:=Lib.hid hu
    clear hu g0 r0
    go_enter Tryd.func47,Tryd.ntmps47
    go_upto_region 1 with fail
    rw [← HU.out]
    refine wpG_region ?_
    refine wpG_tk (some 3) (v:=.pointer (some ⟨w.heap.size,0,none⟩)) rfl (.val (by rfl) (fun W hg=>by go_simp)) ?_
    simp only [Act.put,zA,zB,zC]
    refine wpG_tk (some 4) (v:=.agg #[a1, a2, a3]) rfl (.load_mid (by rfl) 23 (.tmp 3) rfl (w.heap.size) 0 rfl [.int .i64 a1, .int .i64 a2, .int .i64 a3] _ (fun W hg=>(R0.out.below hg).lo) Tryd.underlying23 rfl (by kernel_rfl)) ?_
    simp only [Act.put,zA,zB,zC]
    refine wpG_tk (some 5) (v:=.agg #[a1, a2, a3, a4, a5, a6]) rfl (.load_mid (by rfl) 25 (.tmp 1) rfl (w.heap.size) 0 rfl [.int .i64 a1, .int .i64 a2, .int .i64 a3, .int .i64 a4, .int .i64 a5, .int .i64 a6] _ (fun W hg=>(R0.out.below hg).range) Tryd.underlying25 rfl (by kernel_rfl)) ?_
    simp only [Act.put,zA,zB,zC]
    refine wpG_tk (some 6) (v:=.bool true) rfl (.call (f:=78) (args:=#[.agg #[a1, a2, a3], .agg #[a1, a2, a3, a4, a5, a6]]) (by rfl) (fun W=>by go_simp) (fun W hg=>in_any a1 a2 a3 a1 a2 a3 a4 a5 a6 true W HE.out)) ?_
    simp only [Act.put,zA,zB,zC]
    refine wpG_tk (some 7) (v:=.bool false) rfl (.val (by rfl) (fun W hg=>by go_simp)) ?_
    simp only [Act.put,zA,zB,zC]
    refine wpG_tk (some 2) (v:=.bool false) rfl (.val (by rfl) (fun _ _=>rfl)) ?_
    simp only [Act.put,zA,zB,zC]
    refine wpG_done (fun V1 hv2=>?_)
    have GC3:=Lib.hid hv2
    clear hv2
    go_wp2_with fail
    go_ret
    exact ⟨rfl,Gr.to G0.out GC3.out⟩
set_option maxRecDepth 1000000 in
theorem size_t (a1 a2 a3 a4 a5 a6 : Int) (w : World) (h : Pt.emp a1 a2 a3 a4 a5 a6 = true) :
    Calls Tryd.prog 79 #[.agg #[a1, a2, a3, a4, a5, a6]] w fun e w'=>e = .returned (.agg #[(), (), ()]) ∧ Below w.heap.size w w':=by
  have HE:=Lib.hid h
  clear h
  obtain ⟨u,hu,r0,r1,g0⟩:=rows2 w [.int .i64 a1, .int .i64 a2, .int .i64 a3, .int .i64 a4, .int .i64 a5, .int .i64 a6] 25 [.int .i64 0, .int .i64 0, .int .i64 0] 23
  have R0:=Lib.hid r0
  have R1:=Lib.hid r1
  have G0:=Lib.hid g0
  have HU:=Lib.hid hu
  clear hu g0 r0 r1
  go_enter Tryd.func79,Tryd.ntmps79
  go_upto_region 1 with fail
  rw [← HU.out]
  refine wpG_region ?_
  refine wpG_tk (some 3) (v:=.agg #[a1, a2, a3, a4, a5, a6]) rfl (.load_mid (by rfl) 25 (.tmp 1) rfl (w.heap.size) 0 rfl [.int .i64 a1, .int .i64 a2, .int .i64 a3, .int .i64 a4, .int .i64 a5, .int .i64 a6] _ (fun W hg=>(R0.out.below hg).range) Tryd.underlying25 rfl (by kernel_rfl)) ?_
  simp only [Act.put,zA,zB,zC]
  refine wpG_tk (some 4) (v:=.bool true) rfl (.call (f:=47) (args:=#[.agg #[a1, a2, a3, a4, a5, a6]]) (by rfl) (fun W=>by go_simp) (fun W hg=>empty_any a1 a2 a3 a4 a5 a6 true W HE.out)) ?_
  simp only [Act.put,zA,zB,zC]
  refine wpG_done (fun V1 hv2=>?_)
  have GC3:=Lib.hid hv2
  clear hv2
  go_upto_region 2 with fail
  refine wpG_region ?_
  refine wpG_tk (some 5) (v:=.agg #[(), (), ()]) rfl (.val (by rfl) (fun W hg=>by go_simp)) ?_
  simp only [Act.put,zA,zB,zC]
  refine wpG_store (none) rfl (by rfl) (fun W4 hg5=>⟨_,run_store_mid 23 (.tmp 2) (.tmp 5) rfl (w.heap.size + 1) 0 #[(), (), ()] rfl rfl (((R1.out.below (GC3.out.trans hg5)).there 0 3 (by decide))) (by kernel_rfl) (by kernel_rfl), ?_⟩)
  simp only [Act.put]
  refine wpG_done (fun V6 hv7=>?_)
  have R9:=Lib.hid (Row.put (ds:=[.int .i64 0, .int .i64 0, .int .i64 0]) R1.out (GC3.out.trans hg5) rfl hv7)
  have G8:=Lib.hid (Gr.put G0.out (GC3.out.trans hg5) (by omega) hv7)
  go_wp2_with fail
  refine bodyPost_ret (results_cell_mid rfl _ _ _ (w.heap.size + 1) 0 [.int .i64 0, .int .i64 0, .int .i64 0] _ rfl R9.out.range Tryd.underlying23 rfl (by kernel_rfl)) rfl ?_
  exact ⟨rfl,G8.out⟩
set_option maxRecDepth 1000000 in
theorem size_f (a1 a2 a3 a4 a5 a6 : Int) (w : World) (b : (-2097152 ≤ a1 ∧ a1 ≤ 2097152) ∧ (-2097152 ≤ a2 ∧ a2 ≤ 2097152) ∧ (-2097152 ≤ a3 ∧ a3 ≤ 2097152) ∧ (-2097152 ≤ a4 ∧ a4 ≤ 2097152) ∧ (-2097152 ≤ a5 ∧ a5 ≤ 2097152) ∧ (-2097152 ≤ a6 ∧ a6 ≤ 2097152)) (h : Pt.emp a1 a2 a3 a4 a5 a6 = false) :
    Calls Tryd.prog 79 #[.agg #[a1, a2, a3, a4, a5, a6]] w fun e w'=>e = .returned (.agg #[(a4 - a1:Int), (a5 - a2:Int), (a6 - a3:Int)]) ∧ Below w.heap.size w w':=by
  have HE:=Lib.hid h
  clear h
  obtain ⟨u,hu,r0,r1,g0⟩:=rows2 w [.int .i64 a1, .int .i64 a2, .int .i64 a3, .int .i64 a4, .int .i64 a5, .int .i64 a6] 25 [.int .i64 0, .int .i64 0, .int .i64 0] 23
  have R0:=Lib.hid r0
  have R1:=Lib.hid r1
  have G0:=Lib.hid g0
  have HU:=Lib.hid hu
  clear hu g0 r0 r1
  go_enter Tryd.func79,Tryd.ntmps79
  go_upto_region 1 with fail
  rw [← HU.out]
  refine wpG_region ?_
  refine wpG_tk (some 3) (v:=.agg #[a1, a2, a3, a4, a5, a6]) rfl (.load_mid (by rfl) 25 (.tmp 1) rfl (w.heap.size) 0 rfl [.int .i64 a1, .int .i64 a2, .int .i64 a3, .int .i64 a4, .int .i64 a5, .int .i64 a6] _ (fun W hg=>(R0.out.below hg).range) Tryd.underlying25 rfl (by kernel_rfl)) ?_
  simp only [Act.put,zA,zB,zC]
  refine wpG_tk (some 4) (v:=.bool false) rfl (.call (f:=47) (args:=#[.agg #[a1, a2, a3, a4, a5, a6]]) (by rfl) (fun W=>by go_simp) (fun W hg=>empty_any a1 a2 a3 a4 a5 a6 false W HE.out)) ?_
  simp only [Act.put,zA,zB,zC]
  refine wpG_done (fun V1 hv2=>?_)
  have GC3:=Lib.hid hv2
  clear hv2
  go_upto_region 3 with fail
  refine wpG_region ?_
  refine wpG_tk (some 6) (v:=.pointer (some ⟨w.heap.size,3,none⟩)) rfl (.val (by rfl) (fun W hg=>by go_simp)) ?_
  simp only [Act.put,zA,zB,zC]
  refine wpG_tk (some 7) (v:=.agg #[a4, a5, a6]) rfl (.load_mid (by rfl) 23 (.tmp 6) rfl (w.heap.size) 3 rfl [.int .i64 a4, .int .i64 a5, .int .i64 a6] _ (fun W hg=>(R0.out.below (GC3.out.trans hg)).hi) Tryd.underlying23 rfl (by kernel_rfl)) ?_
  simp only [Act.put,zA,zB,zC]
  refine wpG_tk (some 8) (v:=.pointer (some ⟨w.heap.size,0,none⟩)) rfl (.val (by rfl) (fun W hg=>by go_simp)) ?_
  simp only [Act.put,zA,zB,zC]
  refine wpG_tk (some 9) (v:=.agg #[a1, a2, a3]) rfl (.load_mid (by rfl) 23 (.tmp 8) rfl (w.heap.size) 0 rfl [.int .i64 a1, .int .i64 a2, .int .i64 a3] _ (fun W hg=>(R0.out.below (GC3.out.trans hg)).lo) Tryd.underlying23 rfl (by kernel_rfl)) ?_
  simp only [Act.put,zA,zB,zC]
  refine wpG_tk (some 10) (v:=.agg #[(a4 - a1:Int), (a5 - a2:Int), (a6 - a3:Int)]) rfl (.call (f:=101) (args:=#[.agg #[a4, a5, a6], .agg #[a1, a2, a3]]) (by rfl) (fun W=>by go_simp) (fun W hg=>sub_any a4 a5 a6 a1 a2 a3 W (by omega))) ?_
  simp only [Act.put,zA,zB,zC]
  refine wpG_store (none) rfl (by rfl) (fun W4 hg5=>⟨_,run_store_mid 23 (.tmp 2) (.tmp 10) rfl (w.heap.size + 1) 0 #[(a4 - a1:Int), (a5 - a2:Int), (a6 - a3:Int)] rfl rfl (((R1.out.below (GC3.out.trans hg5)).there 0 3 (by decide))) (by kernel_rfl) (by kernel_rfl), ?_⟩)
  simp only [Act.put]
  refine wpG_done (fun V6 hv7=>?_)
  have R9:=Lib.hid (Row.put (ds:=[.int .i64 (a4 - a1), .int .i64 (a5 - a2), .int .i64 (a6 - a3)]) R1.out (GC3.out.trans hg5) rfl hv7)
  have G8:=Lib.hid (Gr.put G0.out (GC3.out.trans hg5) (by omega) hv7)
  go_wp2_with fail
  refine bodyPost_ret (results_cell_mid rfl _ _ _ (w.heap.size + 1) 0 [.int .i64 (a4 - a1), .int .i64 (a5 - a2), .int .i64 (a6 - a3)] _ rfl R9.out.range Tryd.underlying23 rfl (by kernel_rfl)) rfl ?_
  exact ⟨rfl,G8.out⟩

end Go.Proofs.YtpapbbolefnkmaaDoor
