/-
  Contracts of the specification of package point: sizes, shifted boxes, numbers of cells.
-/
import Derived.Test.YtpapbbolefnkmaaDoorZB00
import Derived.Test.YtpapbbolefnkmaaDoorZB17
import Derived.Test.YtpapbbolefnkmaaDoorZB07
import Derived.Test.YtpapbbolefnkmaaDoorZB03
import Derived.Test.YtpapbbolefnkmaaDoorZB06
import Derived.Handy
import Derived.Laws.StructEq
namespace Go.Proofs.YtpapbbolefnkmaaDoor
open Go.RowKit
set_option linter.unusedVariables false
set_option maxRecDepth 1000000 in
set_option maxHeartbeats 4000000 in
theorem rsize_t (a1 a2 a3 a4 a5 a6 : Int) (w : World) (h : Pt.emp a1 a2 a3 a4 a5 a6 = true) :
    Calls Tryd.prog 39 #[.agg #[a1, a2, a3, a4, a5, a6]] w fun e w'=>e = .returned (.agg #[(), (), ()]) ∧ Below w.heap.size w w':=by
  have HE:=Lib.hid h
  clear h
  obtain ⟨u,hu,r0,r1,g0⟩:=rows2 w [.int .i64 a1, .int .i64 a2, .int .i64 a3, .int .i64 a4, .int .i64 a5, .int .i64 a6] 25 [.int .i64 0, .int .i64 0, .int .i64 0] 23
  have R0:=Lib.hid r0
  have R1:=Lib.hid r1
  have G0:=Lib.hid g0
  have HU:=Lib.hid hu
  clear hu g0 r0 r1
  go_enter Tryd.func39,Tryd.ntmps39
  go_upto_region 1 with fail
  rw [← HU.out]
  refine wpG_region ?_
  refine wpG_tk (some 4) (v:=.agg #[a1, a2, a3, a4, a5, a6]) rfl (.load_mid (by rfl) 25 (.tmp 1) rfl (w.heap.size) 0 rfl [.int .i64 a1, .int .i64 a2, .int .i64 a3, .int .i64 a4, .int .i64 a5, .int .i64 a6] _ (fun W hg=>(R0.out.below hg).range) Tryd.underlying25 rfl (by kernel_rfl)) ?_
  simp only [Act.put,zA,zB,zC]
  refine wpG_tk (some 5) (v:=.bool true) rfl (.call (f:=76) (args:=#[.agg #[a1, a2, a3, a4, a5, a6]]) (by rfl) (fun W=>by go_simp) (fun W hg=>rempty_any a1 a2 a3 a4 a5 a6 true W HE.out)) ?_
  simp only [Act.put,zA,zB,zC]
  refine wpG_tk (some 3) (v:=.bool true) rfl (.val (by rfl) (fun _ _=>rfl)) ?_
  simp only [Act.put,zA,zB,zC]
  refine wpG_done (fun V1 hv2=>?_)
  have GC3:=Lib.hid hv2
  clear hv2
  go_upto_region 2 with fail
  refine wpG_region ?_
  refine wpG_tk (some 6) (v:=.bool true) rfl (.val (by rfl) (fun _ _=>rfl)) ?_
  simp only [Act.put,zA,zB,zC]
  refine wpG_done (fun V4 hv5=>?_)
  have GC6:=Lib.hid (GC3.out.trans hv5)
  clear hv5
  go_upto_region 3 with fail
  refine wpG_region ?_
  refine wpG_tk (some 7) (v:=.agg #[(), (), ()]) rfl (.val (by rfl) (fun W hg=>by go_simp)) ?_
  simp only [Act.put,zA,zB,zC]
  refine wpG_store (none) rfl (by rfl) (fun W7 hg8=>⟨_,run_store_mid 23 (.tmp 2) (.tmp 7) rfl (w.heap.size + 1) 0 #[(), (), ()] rfl rfl (((R1.out.below (GC6.out.trans hg8)).there 0 3 (by decide))) (by kernel_rfl) (by kernel_rfl), ?_⟩)
  simp only [Act.put]
  refine wpG_done (fun V9 hv10=>?_)
  have R12:=Lib.hid (Row.put (ds:=[.int .i64 0, .int .i64 0, .int .i64 0]) R1.out (GC6.out.trans hg8) rfl hv10)
  have G11:=Lib.hid (Gr.put G0.out (GC6.out.trans hg8) (by omega) hv10)
  go_wp2_with fail
  refine bodyPost_ret (results_cell_mid rfl _ _ _ (w.heap.size + 1) 0 [.int .i64 0, .int .i64 0, .int .i64 0] _ rfl R12.out.range Tryd.underlying23 rfl (by kernel_rfl)) rfl ?_
  exact ⟨rfl,G11.out⟩
set_option maxRecDepth 1000000 in
set_option maxHeartbeats 4000000 in
theorem rsize_f (a1 a2 a3 a4 a5 a6 : Int) (w : World) (b : (-2097152 ≤ a1 ∧ a1 ≤ 2097152) ∧ (-2097152 ≤ a2 ∧ a2 ≤ 2097152) ∧ (-2097152 ≤ a3 ∧ a3 ≤ 2097152) ∧ (-2097152 ≤ a4 ∧ a4 ≤ 2097152) ∧ (-2097152 ≤ a5 ∧ a5 ≤ 2097152) ∧ (-2097152 ≤ a6 ∧ a6 ≤ 2097152)) (h : Pt.emp a1 a2 a3 a4 a5 a6 = false) :
    Calls Tryd.prog 39 #[.agg #[a1, a2, a3, a4, a5, a6]] w fun e w'=>e = .returned (.agg #[(a4 - a1:Int), (a5 - a2:Int), (a6 - a3:Int)]) ∧ Below w.heap.size w w':=by
  have HE:=Lib.hid h
  clear h
  obtain ⟨u,hu,r0,r1,g0⟩:=rows2 w [.int .i64 a1, .int .i64 a2, .int .i64 a3, .int .i64 a4, .int .i64 a5, .int .i64 a6] 25 [.int .i64 0, .int .i64 0, .int .i64 0] 23
  have R0:=Lib.hid r0
  have R1:=Lib.hid r1
  have G0:=Lib.hid g0
  have HU:=Lib.hid hu
  clear hu g0 r0 r1
  go_enter Tryd.func39,Tryd.ntmps39
  go_upto_region 1 with fail
  rw [← HU.out]
  refine wpG_region ?_
  refine wpG_tk (some 4) (v:=.agg #[a1, a2, a3, a4, a5, a6]) rfl (.load_mid (by rfl) 25 (.tmp 1) rfl (w.heap.size) 0 rfl [.int .i64 a1, .int .i64 a2, .int .i64 a3, .int .i64 a4, .int .i64 a5, .int .i64 a6] _ (fun W hg=>(R0.out.below hg).range) Tryd.underlying25 rfl (by kernel_rfl)) ?_
  simp only [Act.put,zA,zB,zC]
  refine wpG_tk (some 5) (v:=.bool false) rfl (.call (f:=76) (args:=#[.agg #[a1, a2, a3, a4, a5, a6]]) (by rfl) (fun W=>by go_simp) (fun W hg=>rempty_any a1 a2 a3 a4 a5 a6 false W HE.out)) ?_
  simp only [Act.put,zA,zB,zC]
  refine wpG_tk (some 3) (v:=.bool false) rfl (.val (by rfl) (fun _ _=>rfl)) ?_
  simp only [Act.put,zA,zB,zC]
  refine wpG_done (fun V1 hv2=>?_)
  have GC3:=Lib.hid hv2
  clear hv2
  go_upto_region 2 with fail
  refine wpG_region ?_
  refine wpG_tk (some 6) (v:=.bool false) rfl (.val (by rfl) (fun _ _=>rfl)) ?_
  simp only [Act.put,zA,zB,zC]
  refine wpG_done (fun V4 hv5=>?_)
  have GC6:=Lib.hid (GC3.out.trans hv5)
  clear hv5
  go_upto_region 4 with fail
  refine wpG_region ?_
  refine wpG_tk (some 8) (v:=.pointer (some ⟨w.heap.size,3,none⟩)) rfl (.val (by rfl) (fun W hg=>by go_simp)) ?_
  simp only [Act.put,zA,zB,zC]
  refine wpG_tk (some 9) (v:=.agg #[a4, a5, a6]) rfl (.load_mid (by rfl) 23 (.tmp 8) rfl (w.heap.size) 3 rfl [.int .i64 a4, .int .i64 a5, .int .i64 a6] _ (fun W hg=>(R0.out.below (GC6.out.trans hg)).hi) Tryd.underlying23 rfl (by kernel_rfl)) ?_
  simp only [Act.put,zA,zB,zC]
  refine wpG_tk (some 10) (v:=.pointer (some ⟨w.heap.size,0,none⟩)) rfl (.val (by rfl) (fun W hg=>by go_simp)) ?_
  simp only [Act.put,zA,zB,zC]
  refine wpG_tk (some 11) (v:=.agg #[a1, a2, a3]) rfl (.load_mid (by rfl) 23 (.tmp 10) rfl (w.heap.size) 0 rfl [.int .i64 a1, .int .i64 a2, .int .i64 a3] _ (fun W hg=>(R0.out.below (GC6.out.trans hg)).lo) Tryd.underlying23 rfl (by kernel_rfl)) ?_
  simp only [Act.put,zA,zB,zC]
  refine wpG_tk (some 12) (v:=.agg #[(a4 - a1:Int), (a5 - a2:Int), (a6 - a3:Int)]) rfl (.call (f:=75) (args:=#[.agg #[a4, a5, a6], .agg #[a1, a2, a3]]) (by rfl) (fun W=>by go_simp) (fun W hg=>rsub_any a4 a5 a6 a1 a2 a3 W (by omega))) ?_
  simp only [Act.put,zA,zB,zC]
  refine wpG_store (none) rfl (by rfl) (fun W7 hg8=>⟨_,run_store_mid 23 (.tmp 2) (.tmp 12) rfl (w.heap.size + 1) 0 #[(a4 - a1:Int), (a5 - a2:Int), (a6 - a3:Int)] rfl rfl (((R1.out.below (GC6.out.trans hg8)).there 0 3 (by decide))) (by kernel_rfl) (by kernel_rfl), ?_⟩)
  simp only [Act.put]
  refine wpG_done (fun V9 hv10=>?_)
  have R12:=Lib.hid (Row.put (ds:=[.int .i64 (a4 - a1), .int .i64 (a5 - a2), .int .i64 (a6 - a3)]) R1.out (GC6.out.trans hg8) rfl hv10)
  have G11:=Lib.hid (Gr.put G0.out (GC6.out.trans hg8) (by omega) hv10)
  go_wp2_with fail
  refine bodyPost_ret (results_cell_mid rfl _ _ _ (w.heap.size + 1) 0 [.int .i64 (a4 - a1), .int .i64 (a5 - a2), .int .i64 (a6 - a3)] _ rfl R12.out.range Tryd.underlying23 rfl (by kernel_rfl)) rfl ?_
  exact ⟨rfl,G11.out⟩
set_option maxRecDepth 1000000 in
set_option maxHeartbeats 4000000 in
theorem rvolume_t (a1 a2 a3 a4 a5 a6 : Int) (w : World) (b : (-1048575 ≤ a1 ∧ a1 ≤ 1048575) ∧ (-1048575 ≤ a2 ∧ a2 ≤ 1048575) ∧ (-1048575 ≤ a3 ∧ a3 ≤ 1048575) ∧ (-1048575 ≤ a4 ∧ a4 ≤ 1048575) ∧ (-1048575 ≤ a5 ∧ a5 ≤ 1048575) ∧ (-1048575 ≤ a6 ∧ a6 ≤ 1048575)) (h : Pt.emp a1 a2 a3 a4 a5 a6 = true) :
    Calls Tryd.prog 10 #[.agg #[a1, a2, a3, a4, a5, a6]] w fun e w'=>e = .returned () ∧ Below w.heap.size w w':=by
  have HE:=Lib.hid h
  clear h
  obtain ⟨u,hu,r0,g0⟩:=rows1 w [.int .i64 a1, .int .i64 a2, .int .i64 a3, .int .i64 a4, .int .i64 a5, .int .i64 a6] 25
  have R0:=Lib.hid r0
  have G0:=Lib.hid g0
  have HU:=Lib.hid hu
  clear hu g0 r0
  go_enter Tryd.func10,Tryd.ntmps10
  go_upto_region 1 with fail
  rw [← HU.out]
  refine wpG_region ?_
  refine wpG_tk (some 4) (v:=.agg #[a1, a2, a3, a4, a5, a6]) rfl (.load_mid (by rfl) 25 (.tmp 1) rfl (w.heap.size) 0 rfl [.int .i64 a1, .int .i64 a2, .int .i64 a3, .int .i64 a4, .int .i64 a5, .int .i64 a6] _ (fun W hg=>(R0.out.below hg).range) Tryd.underlying25 rfl (by kernel_rfl)) ?_
  simp only [Act.put,zA,zB,zC]
  refine wpG_tk (some 5) (v:=.agg #[(), (), ()]) rfl (.call (f:=39) (args:=#[.agg #[a1, a2, a3, a4, a5, a6]]) (by rfl) (fun W=>by go_simp) (fun W hg=>rsize_t a1 a2 a3 a4 a5 a6 W HE.out)) ?_
  simp only [Act.put,zA,zB,zC]
  refine wpG_val (some 3) rfl (by rfl) (fun W1 hg2=>⟨.pointer (some ⟨W1.heap.size,0,none⟩),W1.alloc (.cells #[(), (), ()] 23),by (go_simp <;> rfl), ?_⟩)
  simp only [Act.put,zA,zB,zC]
  refine wpG_store (none) rfl (by rfl) (fun W3 hg4=>⟨_,run_store_mid 23 (.tmp 3) (.tmp 5) rfl (W1.heap.size) 0 #[(), (), ()] rfl rfl (Row.room hg4 3 rfl) (by kernel_rfl) (by kernel_rfl), ?_⟩)
  simp only [Act.put]
  refine wpG_done (fun V5 hv6=>?_)
  have l8 : w.heap.size < W1.heap.size:=(R0.out.below hg2).lt
  have l9 : w.heap.size ≤ W1.heap.size:=(Gr.to G0.out hg2).size
  have R10:=Lib.hid ((R0.out.below hg2).past hg4 hv6)
  have R11:=Lib.hid (Row.made (zs:=[.int .i64 0, .int .i64 0, .int .i64 0]) (ds:=[.int .i64 0, .int .i64 0, .int .i64 0]) rfl hg4 hv6)
  have G7:=Lib.hid (Gr.to (Gr.to G0.out hg2) (Gr.past hg4 hv6))
  clear hg4 hv6 
  go_upto_region 2 with fail
  have c0:=(R11.out 0 _ rfl).1
  have c1:=(R11.out 1 _ rfl).1
  have c2:=(R11.out 2 _ rfl).1
  clear HU
  go_wp2_with fail
  go_ret
  exact ⟨rfl,G7.out⟩
set_option maxRecDepth 1000000 in
set_option maxHeartbeats 4000000 in
theorem rvolume_f (a1 a2 a3 a4 a5 a6 : Int) (w : World) (b : (-1048575 ≤ a1 ∧ a1 ≤ 1048575) ∧ (-1048575 ≤ a2 ∧ a2 ≤ 1048575) ∧ (-1048575 ≤ a3 ∧ a3 ≤ 1048575) ∧ (-1048575 ≤ a4 ∧ a4 ≤ 1048575) ∧ (-1048575 ≤ a5 ∧ a5 ≤ 1048575) ∧ (-1048575 ≤ a6 ∧ a6 ≤ 1048575)) (h : Pt.emp a1 a2 a3 a4 a5 a6 = false) :
    Calls Tryd.prog 10 #[.agg #[a1, a2, a3, a4, a5, a6]] w fun e w'=>e = .returned ((a4 - a1) * (a5 - a2) * (a6 - a3):Int) ∧ Below w.heap.size w w':=by
  have HE:=Lib.hid h
  clear h
  obtain ⟨u,hu,r0,g0⟩:=rows1 w [.int .i64 a1, .int .i64 a2, .int .i64 a3, .int .i64 a4, .int .i64 a5, .int .i64 a6] 25
  have R0:=Lib.hid r0
  have G0:=Lib.hid g0
  have HU:=Lib.hid hu
  clear hu g0 r0
  go_enter Tryd.func10,Tryd.ntmps10
  go_upto_region 1 with fail
  rw [← HU.out]
  refine wpG_region ?_
  refine wpG_tk (some 4) (v:=.agg #[a1, a2, a3, a4, a5, a6]) rfl (.load_mid (by rfl) 25 (.tmp 1) rfl (w.heap.size) 0 rfl [.int .i64 a1, .int .i64 a2, .int .i64 a3, .int .i64 a4, .int .i64 a5, .int .i64 a6] _ (fun W hg=>(R0.out.below hg).range) Tryd.underlying25 rfl (by kernel_rfl)) ?_
  simp only [Act.put,zA,zB,zC]
  refine wpG_tk (some 5) (v:=.agg #[(a4 - a1:Int), (a5 - a2:Int), (a6 - a3:Int)]) rfl (.call (f:=39) (args:=#[.agg #[a1, a2, a3, a4, a5, a6]]) (by rfl) (fun W=>by go_simp) (fun W hg=>rsize_f a1 a2 a3 a4 a5 a6 W (by omega) HE.out)) ?_
  simp only [Act.put,zA,zB,zC]
  refine wpG_val (some 3) rfl (by rfl) (fun W1 hg2=>⟨.pointer (some ⟨W1.heap.size,0,none⟩),W1.alloc (.cells #[(), (), ()] 23),by (go_simp <;> rfl), ?_⟩)
  simp only [Act.put,zA,zB,zC]
  refine wpG_store (none) rfl (by rfl) (fun W3 hg4=>⟨_,run_store_mid 23 (.tmp 3) (.tmp 5) rfl (W1.heap.size) 0 #[(a4 - a1:Int), (a5 - a2:Int), (a6 - a3:Int)] rfl rfl (Row.room hg4 3 rfl) (by kernel_rfl) (by kernel_rfl), ?_⟩)
  simp only [Act.put]
  refine wpG_done (fun V5 hv6=>?_)
  have l8 : w.heap.size < W1.heap.size:=(R0.out.below hg2).lt
  have l9 : w.heap.size ≤ W1.heap.size:=(Gr.to G0.out hg2).size
  have R10:=Lib.hid ((R0.out.below hg2).past hg4 hv6)
  have R11:=Lib.hid (Row.made (zs:=[.int .i64 0, .int .i64 0, .int .i64 0]) (ds:=[.int .i64 (a4 - a1), .int .i64 (a5 - a2), .int .i64 (a6 - a3)]) rfl hg4 hv6)
  have G7:=Lib.hid (Gr.to (Gr.to G0.out hg2) (Gr.past hg4 hv6))
  clear hg4 hv6 
  go_upto_region 2 with fail
  have c0:=(R11.out 0 _ rfl).1
  have c1:=(R11.out 1 _ rfl).1
  have c2:=(R11.out 2 _ rfl).1
  clear HU
  obtain ⟨s,hs⟩ : ∃ x,x = a4 - a1:=⟨_,rfl⟩
  obtain ⟨t,ht⟩ : ∃ x,x = a5 - a2:=⟨_,rfl⟩
  obtain ⟨v,hv⟩ : ∃ x,x = a6 - a3:=⟨_,rfl⟩
  rw [← hs] at c0
  rw [← ht] at c1
  rw [← hv] at c2
  have hz:=Pt.emp_false.1 HE.out
  obtain ⟨p1,p2⟩:=prod_bd (s:=s) (t:=t) (u:=v) (by omega) (by omega) (by omega)
  have HS:=Lib.hid hs
  have HTT:=Lib.hid ht
  have HV:=Lib.hid hv
  clear hs ht hv hz b
  go_wp2_with fail
  go_ret
  exact ⟨by rw [← HS.out,← HTT.out,← HV.out];rfl,G7.out⟩
theorem rvolume_any (a1 a2 a3 a4 a5 a6 : Int) (w : World) (b : (-1048575 ≤ a1 ∧ a1 ≤ 1048575) ∧ (-1048575 ≤ a2 ∧ a2 ≤ 1048575) ∧ (-1048575 ≤ a3 ∧ a3 ≤ 1048575) ∧ (-1048575 ≤ a4 ∧ a4 ≤ 1048575) ∧ (-1048575 ≤ a5 ∧ a5 ≤ 1048575) ∧ (-1048575 ≤ a6 ∧ a6 ≤ 1048575)) :
    Calls Tryd.prog 10 #[.agg #[a1, a2, a3, a4, a5, a6]] w fun e w'=>e = .returned (Pt.vol a1 a2 a3 a4 a5 a6) ∧ Below w.heap.size w w':=by
  cases h : Pt.emp a1 a2 a3 a4 a5 a6 with
  | true=>rw [Pt.vol_emp h];exact rvolume_t _ _ _ _ _ _ w b h
  | false=>rw [Pt.vol_full h];exact rvolume_f _ _ _ _ _ _ w b h
end Go.Proofs.YtpapbbolefnkmaaDoor
/-
  Contracts of the specification of package point: which boxes contain others, numbers of cells.
-/
namespace Go.Proofs.YtpapbbolefnkmaaDoor
open Go.RowKit
set_option linter.unusedVariables false
set_option maxRecDepth 1000000 in
set_option maxHeartbeats 4000000 in
theorem rindex_f (a1 a2 a3 a4 a5 a6 x1 x2 x3 : Int) (w : World) (h : Pt.inB x1 x2 x3 a1 a2 a3 a4 a5 a6 = false) :
    Calls Tryd.prog 36 #[.agg #[a1, a2, a3, a4, a5, a6], .agg #[x1, x2, x3]] w fun e w'=>e = .returned (-1:Int) ∧ Below w.heap.size w w':=by
  have HI:=Lib.hid h
  clear h
  obtain ⟨u,hu,r0,r1,g0⟩:=rows2 w [.int .i64 a1, .int .i64 a2, .int .i64 a3, .int .i64 a4, .int .i64 a5, .int .i64 a6] 25 [.int .i64 x1, .int .i64 x2, .int .i64 x3] 23
  have R0:=Lib.hid r0
  have R1:=Lib.hid r1
  have G0:=Lib.hid g0
  have HU:=Lib.hid hu
  clear hu g0 r0 r1
  go_enter Tryd.func36,Tryd.ntmps36
  go_upto_region 1 with fail
  rw [← HU.out]
  refine wpG_region ?_
  refine wpG_tk (some 8) (v:=.agg #[x1, x2, x3]) rfl (.load_mid (by rfl) 23 (.tmp 3) rfl (w.heap.size + 1) 0 rfl [.int .i64 x1, .int .i64 x2, .int .i64 x3] _ (fun W hg=>(R1.out.below hg).range) Tryd.underlying23 rfl (by kernel_rfl)) ?_
  simp only [Act.put,zA,zB,zC]
  refine wpG_tk (some 9) (v:=.agg #[a1, a2, a3, a4, a5, a6]) rfl (.load_mid (by rfl) 25 (.tmp 2) rfl (w.heap.size) 0 rfl [.int .i64 a1, .int .i64 a2, .int .i64 a3, .int .i64 a4, .int .i64 a5, .int .i64 a6] _ (fun W hg=>(R0.out.below hg).range) Tryd.underlying25 rfl (by kernel_rfl)) ?_
  simp only [Act.put,zA,zB,zC]
  refine wpG_tk (some 10) (v:=.bool false) rfl (.call (f:=23) (args:=#[.agg #[x1, x2, x3], .agg #[a1, a2, a3, a4, a5, a6]]) (by rfl) (fun W=>by go_simp) (fun W hg=>rin_any x1 x2 x3 a1 a2 a3 a4 a5 a6 false W HI.out)) ?_
  simp only [Act.put,zA,zB,zC]
  refine wpG_tk (some 5) (v:=.bool false) rfl (.val (by rfl) (fun _ _=>rfl)) ?_
  simp only [Act.put,zA,zB,zC]
  refine wpG_done (fun V1 hv2=>?_)
  have GC3:=Lib.hid hv2
  clear hv2
  go_upto_region 2 with fail
  refine wpG_region ?_
  refine wpG_tk (some 11) (v:=.bool false) rfl (.val (by rfl) (fun _ _=>rfl)) ?_
  simp only [Act.put,zA,zB,zC]
  refine wpG_tk (some 12) (v:=.bool true) rfl (.val (by rfl) (fun W hg=>by go_simp)) ?_
  simp only [Act.put,zA,zB,zC]
  refine wpG_done (fun V4 hv5=>?_)
  have GC6:=Lib.hid (GC3.out.trans hv5)
  clear hv5
  go_upto_region 3 with fail
  refine wpG_region ?_
  refine wpG_tk (some 4) (v:=(-1:Int)) rfl (.val (by rfl) (fun _ _=>rfl)) ?_
  simp only [Act.put,zA,zB,zC]
  refine wpG_done (fun V7 hv8=>?_)
  have GC9:=Lib.hid (GC6.out.trans hv8)
  clear hv8
  go_wp2_with fail
  go_ret
  exact ⟨rfl,Gr.to G0.out GC9.out⟩
set_option maxRecDepth 1000000 in
set_option maxHeartbeats 4000000 in
theorem rindex_t (a1 a2 a3 a4 a5 a6 x1 x2 x3 : Int) (w : World) (b : (-1048575 ≤ a1 ∧ a1 ≤ 1048575) ∧ (-1048575 ≤ a2 ∧ a2 ≤ 1048575) ∧ (-1048575 ≤ a3 ∧ a3 ≤ 1048575) ∧ (-1048575 ≤ a4 ∧ a4 ≤ 1048575) ∧ (-1048575 ≤ a5 ∧ a5 ≤ 1048575) ∧ (-1048575 ≤ a6 ∧ a6 ≤ 1048575) ∧ (-1048575 ≤ x1 ∧ x1 ≤ 1048575) ∧ (-1048575 ≤ x2 ∧ x2 ≤ 1048575) ∧ (-1048575 ≤ x3 ∧ x3 ≤ 1048575)) (h : Pt.inB x1 x2 x3 a1 a2 a3 a4 a5 a6 = true) :
    Calls Tryd.prog 36 #[.agg #[a1, a2, a3, a4, a5, a6], .agg #[x1, x2, x3]] w fun e w'=>e = .returned (Pt.idx x1 x2 x3 a1 a2 a3 a4 a5) ∧ Below w.heap.size w w':=by
  have HI:=Lib.hid h
  have HE:=Lib.hid (Pt.idx_bd h).2.2.2
  clear h
  obtain ⟨u,hu,r0,r1,g0⟩:=rows2 w [.int .i64 a1, .int .i64 a2, .int .i64 a3, .int .i64 a4, .int .i64 a5, .int .i64 a6] 25 [.int .i64 x1, .int .i64 x2, .int .i64 x3] 23
  have R0:=Lib.hid r0
  have R1:=Lib.hid r1
  have G0:=Lib.hid g0
  have HU:=Lib.hid hu
  clear hu g0 r0 r1
  go_enter Tryd.func36,Tryd.ntmps36
  go_upto_region 1 with fail
  rw [← HU.out]
  refine wpG_region ?_
  refine wpG_tk (some 8) (v:=.agg #[x1, x2, x3]) rfl (.load_mid (by rfl) 23 (.tmp 3) rfl (w.heap.size + 1) 0 rfl [.int .i64 x1, .int .i64 x2, .int .i64 x3] _ (fun W hg=>(R1.out.below hg).range) Tryd.underlying23 rfl (by kernel_rfl)) ?_
  simp only [Act.put,zA,zB,zC]
  refine wpG_tk (some 9) (v:=.agg #[a1, a2, a3, a4, a5, a6]) rfl (.load_mid (by rfl) 25 (.tmp 2) rfl (w.heap.size) 0 rfl [.int .i64 a1, .int .i64 a2, .int .i64 a3, .int .i64 a4, .int .i64 a5, .int .i64 a6] _ (fun W hg=>(R0.out.below hg).range) Tryd.underlying25 rfl (by kernel_rfl)) ?_
  simp only [Act.put,zA,zB,zC]
  refine wpG_tk (some 10) (v:=.bool true) rfl (.call (f:=23) (args:=#[.agg #[x1, x2, x3], .agg #[a1, a2, a3, a4, a5, a6]]) (by rfl) (fun W=>by go_simp) (fun W hg=>rin_any x1 x2 x3 a1 a2 a3 a4 a5 a6 true W HI.out)) ?_
  simp only [Act.put,zA,zB,zC]
  refine wpG_tk (some 5) (v:=.bool true) rfl (.val (by rfl) (fun _ _=>rfl)) ?_
  simp only [Act.put,zA,zB,zC]
  refine wpG_done (fun V1 hv2=>?_)
  have GC3:=Lib.hid hv2
  clear hv2
  go_upto_region 2 with fail
  refine wpG_region ?_
  refine wpG_tk (some 11) (v:=.bool true) rfl (.val (by rfl) (fun _ _=>rfl)) ?_
  simp only [Act.put,zA,zB,zC]
  refine wpG_tk (some 12) (v:=.bool false) rfl (.val (by rfl) (fun W hg=>by go_simp)) ?_
  simp only [Act.put,zA,zB,zC]
  refine wpG_done (fun V4 hv5=>?_)
  have GC6:=Lib.hid (GC3.out.trans hv5)
  clear hv5
  go_upto_region 4 with fail
  refine wpG_region ?_
  refine wpG_tk (some 13) (v:=.agg #[a1, a2, a3, a4, a5, a6]) rfl (.load_mid (by rfl) 25 (.tmp 2) rfl (w.heap.size) 0 rfl [.int .i64 a1, .int .i64 a2, .int .i64 a3, .int .i64 a4, .int .i64 a5, .int .i64 a6] _ (fun W hg=>(R0.out.below (GC6.out.trans hg)).range) Tryd.underlying25 rfl (by kernel_rfl)) ?_
  simp only [Act.put,zA,zB,zC]
  refine wpG_tk (some 14) (v:=.agg #[(a4 - a1:Int), (a5 - a2:Int), (a6 - a3:Int)]) rfl (.call (f:=39) (args:=#[.agg #[a1, a2, a3, a4, a5, a6]]) (by rfl) (fun W=>by go_simp) (fun W hg=>rsize_f a1 a2 a3 a4 a5 a6 W (by omega) HE.out)) ?_
  simp only [Act.put,zA,zB,zC]
  refine wpG_val (some 6) rfl (by rfl) (fun W7 hg8=>⟨.pointer (some ⟨W7.heap.size,0,none⟩),W7.alloc (.cells #[(), (), ()] 23),by (go_simp <;> rfl), ?_⟩)
  simp only [Act.put,zA,zB,zC]
  refine wpG_store (none) rfl (by rfl) (fun W9 hg10=>⟨_,run_store_mid 23 (.tmp 6) (.tmp 14) rfl (W7.heap.size) 0 #[(a4 - a1:Int), (a5 - a2:Int), (a6 - a3:Int)] rfl rfl (Row.room hg10 3 rfl) (by kernel_rfl) (by kernel_rfl), ?_⟩)
  simp only [Act.put]
  refine wpG_done (fun V11 hv12=>?_)
  have l14 : w.heap.size < W7.heap.size:=(R0.out.below (GC6.out.trans hg8)).lt
  have l15 : w.heap.size + 1 < W7.heap.size:=(R1.out.below (GC6.out.trans hg8)).lt
  have l16 : w.heap.size ≤ W7.heap.size:=(Gr.to G0.out (GC6.out.trans hg8)).size
  have R17:=Lib.hid ((R0.out.below (GC6.out.trans hg8)).past hg10 hv12)
  have R18:=Lib.hid ((R1.out.below (GC6.out.trans hg8)).past hg10 hv12)
  have R19:=Lib.hid (Row.made (zs:=[.int .i64 0, .int .i64 0, .int .i64 0]) (ds:=[.int .i64 (a4 - a1), .int .i64 (a5 - a2), .int .i64 (a6 - a3)]) rfl hg10 hv12)
  have G13:=Lib.hid (Gr.to (Gr.to G0.out (GC6.out.trans hg8)) (Gr.past hg10 hv12))
  clear hg10 hv12 
  go_upto_region 5 with fail
  refine wpG_region ?_
  refine wpG_tk (some 15) (v:=.agg #[x1, x2, x3]) rfl (.load_mid (by rfl) 23 (.tmp 3) rfl (w.heap.size + 1) 0 rfl [.int .i64 x1, .int .i64 x2, .int .i64 x3] _ (fun W hg=>(R18.out.below hg).range) Tryd.underlying23 rfl (by kernel_rfl)) ?_
  simp only [Act.put,zA,zB,zC]
  refine wpG_tk (some 16) (v:=.pointer (some ⟨w.heap.size,0,none⟩)) rfl (.val (by rfl) (fun W hg=>by go_simp)) ?_
  simp only [Act.put,zA,zB,zC]
  refine wpG_tk (some 17) (v:=.agg #[a1, a2, a3]) rfl (.load_mid (by rfl) 23 (.tmp 16) rfl (w.heap.size) 0 rfl [.int .i64 a1, .int .i64 a2, .int .i64 a3] _ (fun W hg=>(R17.out.below hg).lo) Tryd.underlying23 rfl (by kernel_rfl)) ?_
  simp only [Act.put,zA,zB,zC]
  refine wpG_tk (some 18) (v:=.agg #[(x1 - a1:Int), (x2 - a2:Int), (x3 - a3:Int)]) rfl (.call (f:=75) (args:=#[.agg #[x1, x2, x3], .agg #[a1, a2, a3]]) (by rfl) (fun W=>by go_simp) (fun W hg=>rsub_any x1 x2 x3 a1 a2 a3 W (by omega))) ?_
  simp only [Act.put,zA,zB,zC]
  refine wpG_val (some 7) rfl (by rfl) (fun W20 hg21=>⟨.pointer (some ⟨W20.heap.size,0,none⟩),W20.alloc (.cells #[(), (), ()] 23),by (go_simp <;> rfl), ?_⟩)
  simp only [Act.put,zA,zB,zC]
  refine wpG_store (none) rfl (by rfl) (fun W22 hg23=>⟨_,run_store_mid 23 (.tmp 7) (.tmp 18) rfl (W20.heap.size) 0 #[(x1 - a1:Int), (x2 - a2:Int), (x3 - a3:Int)] rfl rfl (Row.room hg23 3 rfl) (by kernel_rfl) (by kernel_rfl), ?_⟩)
  simp only [Act.put]
  refine wpG_done (fun V24 hv25=>?_)
  have l27 : w.heap.size < W20.heap.size:=(R17.out.below hg21).lt
  have l28 : w.heap.size + 1 < W20.heap.size:=(R18.out.below hg21).lt
  have l29 : W7.heap.size < W20.heap.size:=(R19.out.below hg21).lt
  have l30 : w.heap.size ≤ W20.heap.size:=(Gr.to G13.out hg21).size
  have R31:=Lib.hid ((R17.out.below hg21).past hg23 hv25)
  have R32:=Lib.hid ((R18.out.below hg21).past hg23 hv25)
  have R33:=Lib.hid ((R19.out.below hg21).past hg23 hv25)
  have R34:=Lib.hid (Row.made (zs:=[.int .i64 0, .int .i64 0, .int .i64 0]) (ds:=[.int .i64 (x1 - a1), .int .i64 (x2 - a2), .int .i64 (x3 - a3)]) rfl hg23 hv25)
  have G26:=Lib.hid (Gr.to (Gr.to G13.out hg21) (Gr.past hg23 hv25))
  clear hg23 hv25 
  go_upto_region 6 with fail
  have c0:=(R33.out 0 _ rfl).1
  have d0:=(R34.out 0 _ rfl).1
  have c1:=(R33.out 1 _ rfl).1
  have d1:=(R34.out 1 _ rfl).1
  have c2:=(R33.out 2 _ rfl).1
  have d2:=(R34.out 2 _ rfl).1
  obtain ⟨s,hs⟩ : ∃ x,x = a4 - a1:=⟨_,rfl⟩
  rw [← hs] at c0
  obtain ⟨t,ht⟩ : ∃ x,x = a5 - a2:=⟨_,rfl⟩
  rw [← ht] at c1
  obtain ⟨v0,hv0⟩ : ∃ x,x = x1 - a1:=⟨_,rfl⟩
  rw [← hv0] at d0
  obtain ⟨v1,hv1⟩ : ∃ x,x = x2 - a2:=⟨_,rfl⟩
  rw [← hv1] at d1
  obtain ⟨v2,hv2⟩ : ∃ x,x = x3 - a3:=⟨_,rfl⟩
  rw [← hv2] at d2
  have hb:=Pt.idx_bd HI.out
  have hi:=Pt.inB_true.1 HI.out
  have hx : Pt.idx x1 x2 x3 a1 a2 a3 a4 a5 = (v2 * t + v1) * s + v0:=by rw [hs,ht,hv0,hv1,hv2];rfl
  have hvb:=vol_bd a1 a2 a3 a4 a5 a6 (by omega)
  rw [hx,Int.mul_comm v2 t,Int.add_comm _ v1,Int.mul_comm _ s,Int.add_comm _ v0] at hb
  rw [Int.mul_comm v2 t,Int.add_comm _ v1,Int.mul_comm _ s,Int.add_comm _ v0] at hx
  have h0 : 0 ≤ t * v2:=Int.mul_nonneg (by omega) (by omega)
  have h1 : t * v2 ≤ 2097150 * 2097150:=Int.mul_le_mul (by omega) (by omega) (by omega) (by omega)
  have h2 : 0 ≤ s * (v1 + t * v2):=Int.mul_nonneg (by omega) (by omega)
  have HX:=Lib.hid hx
  have hb1:=hb.2.1
  have hb2:=hb.2.2.1
  have b0 : 0 ≤ v0:=by omega
  have b1 : 0 ≤ v1 ∧ v1 ≤ 2097150:=by omega
  have hb3 : v0 + s * (v1 + t * v2) ≤ 9223345648600875000:=by omega
  have hb4 : s * (v1 + t * v2) ≤ 9223345648600875000:=by omega
  have hb5 : t * v2 ≤ 4398038122500:=by omega
  clear hb hb2 hvb hi hx hs ht hv0 hv1 hv2 b h1 c2
  go_wp2_with fail
  go_ret
  exact ⟨by rw [HX.out];rfl,G26.out⟩

end Go.Proofs.YtpapbbolefnkmaaDoor
