/-
  Contracts of the specification of package point: sizes, shifted boxes, numbers of cells.
-/
import Derived.Test.YtjdeaopdbenamaaDoorZF00
import Derived.Test.YtjdeaopdbenamaaDoorZF18
import Derived.Test.YtjdeaopdbenamaaDoorZF08
import Derived.Test.YtjdeaopdbenamaaDoorZF03
import Derived.Handy
import Derived.Laws.StructEq
namespace Go.Proofs.YtjdeaopdbenamaaDoor
open Go.RowKit
set_option linter.unusedVariables false
set_option maxRecDepth 1000000 in
set_option maxHeartbeats 4000000 in
theorem rsize_t (a1 a2 a3 a4 a5 a6 : Int) (w : World) (h : Pt.emp a1 a2 a3 a4 a5 a6 = true) :
    Calls Tryd.prog 39 #[.agg #[a1, a2, a3, a4, a5, a6]] w fun e w'=>e = .returned (.agg #[(), (), ()]) ∧ Below w.heap.size w w':=by
  have HE:=Lib.hid h
  clear h
  obtain ⟨u,hu,r0,r1,g0⟩:=rows2 w [.int .i64 a1, .int .i64 a2, .int .i64 a3, .int .i64 a4, .int .i64 a5, .int .i64 a6] 25 [.int .i64 0, .int .i64 0, .int .i64 0] 23
  have R0:=Lib.hid r0
  have R1:=Lib.hid r1
  have G0:=Lib.hid g0
  have HU:=Lib.hid hu
  clear hu g0 r0 r1
  go_enter Tryd.func39,Tryd.ntmps39
  go_upto_region 1 with fail
  rw [← HU.out]
  refine wpG_region ?_
  refine wpG_tk (some 4) (v:=.agg #[a1, a2, a3, a4, a5, a6]) rfl (.load_mid (by rfl) 25 (.tmp 1) rfl (w.heap.size) 0 rfl [.int .i64 a1, .int .i64 a2, .int .i64 a3, .int .i64 a4, .int .i64 a5, .int .i64 a6] _ (fun W hg=>(R0.out.below hg).range) Tryd.underlying25 rfl (by kernel_rfl)) ?_
  simp only [Act.put,List.setIfInBounds_toArray,List.set_cons_zero,List.set_cons_succ]
  refine wpG_tk (some 5) (v:=.bool true) rfl (.call (f:=76) (args:=#[.agg #[a1, a2, a3, a4, a5, a6]]) (by rfl) (fun W=>by go_simp) (fun W hg=>rempty_any a1 a2 a3 a4 a5 a6 true W HE.out)) ?_
  simp only [Act.put,List.setIfInBounds_toArray,List.set_cons_zero,List.set_cons_succ]
  refine wpG_tk (some 3) (v:=.bool true) rfl (.val (by rfl) (fun _ _=>rfl)) ?_
  simp only [Act.put,List.setIfInBounds_toArray,List.set_cons_zero,List.set_cons_succ]
  refine wpG_done (fun V1 hv2=>?_)
  have GC3:=Lib.hid hv2
  clear hv2
  go_upto_region 2 with fail
  refine wpG_region ?_
  refine wpG_tk (some 6) (v:=.bool true) rfl (.val (by rfl) (fun _ _=>rfl)) ?_
  simp only [Act.put,List.setIfInBounds_toArray,List.set_cons_zero,List.set_cons_succ]
  refine wpG_done (fun V4 hv5=>?_)
  have GC6:=Lib.hid (GC3.out.trans hv5)
  clear hv5
  go_upto_region 3 with fail
  refine wpG_region ?_
  refine wpG_tk (some 7) (v:=.agg #[(), (), ()]) rfl (.val (by rfl) (fun W hg=>by go_simp)) ?_
  simp only [Act.put,List.setIfInBounds_toArray,List.set_cons_zero,List.set_cons_succ]
  refine wpG_store (none) rfl (by rfl) (fun W7 hg8=>⟨_,run_store_mid 23 (.tmp 2) (.tmp 7) rfl (w.heap.size + 1) 0 #[(), (), ()] rfl rfl (((R1.out.below (GC6.out.trans hg8)).there 0 3 (by decide))) (by kernel_rfl) (by kernel_rfl), ?_⟩)
  simp only [Act.put]
  refine wpG_done (fun V9 hv10=>?_)
  have R12:=Lib.hid (Row.put (ds:=[.int .i64 0, .int .i64 0, .int .i64 0]) R1.out (GC6.out.trans hg8) rfl hv10)
  have G11:=Lib.hid (Gr.put G0.out (GC6.out.trans hg8) (by omega) hv10)
  go_wp2_with fail
  refine bodyPost_ret (results_cell_mid rfl _ _ _ (w.heap.size + 1) 0 [.int .i64 0, .int .i64 0, .int .i64 0] _ rfl R12.out.range Tryd.underlying23 rfl (by kernel_rfl)) rfl ?_
  exact ⟨rfl,G11.out⟩
set_option maxRecDepth 1000000 in
set_option maxHeartbeats 4000000 in
theorem rsize_f (a1 a2 a3 a4 a5 a6 : Int) (w : World) (b : (-2097152 ≤ a1 ∧ a1 ≤ 2097152) ∧ (-2097152 ≤ a2 ∧ a2 ≤ 2097152) ∧ (-2097152 ≤ a3 ∧ a3 ≤ 2097152) ∧ (-2097152 ≤ a4 ∧ a4 ≤ 2097152) ∧ (-2097152 ≤ a5 ∧ a5 ≤ 2097152) ∧ (-2097152 ≤ a6 ∧ a6 ≤ 2097152)) (h : Pt.emp a1 a2 a3 a4 a5 a6 = false) :
    Calls Tryd.prog 39 #[.agg #[a1, a2, a3, a4, a5, a6]] w fun e w'=>e = .returned (.agg #[(a4 - a1:Int), (a5 - a2:Int), (a6 - a3:Int)]) ∧ Below w.heap.size w w':=by
  have HE:=Lib.hid h
  clear h
  obtain ⟨u,hu,r0,r1,g0⟩:=rows2 w [.int .i64 a1, .int .i64 a2, .int .i64 a3, .int .i64 a4, .int .i64 a5, .int .i64 a6] 25 [.int .i64 0, .int .i64 0, .int .i64 0] 23
  have R0:=Lib.hid r0
  have R1:=Lib.hid r1
  have G0:=Lib.hid g0
  have HU:=Lib.hid hu
  clear hu g0 r0 r1
  go_enter Tryd.func39,Tryd.ntmps39
  go_upto_region 1 with fail
  rw [← HU.out]
  refine wpG_region ?_
  refine wpG_tk (some 4) (v:=.agg #[a1, a2, a3, a4, a5, a6]) rfl (.load_mid (by rfl) 25 (.tmp 1) rfl (w.heap.size) 0 rfl [.int .i64 a1, .int .i64 a2, .int .i64 a3, .int .i64 a4, .int .i64 a5, .int .i64 a6] _ (fun W hg=>(R0.out.below hg).range) Tryd.underlying25 rfl (by kernel_rfl)) ?_
  simp only [Act.put,List.setIfInBounds_toArray,List.set_cons_zero,List.set_cons_succ]
  refine wpG_tk (some 5) (v:=.bool false) rfl (.call (f:=76) (args:=#[.agg #[a1, a2, a3, a4, a5, a6]]) (by rfl) (fun W=>by go_simp) (fun W hg=>rempty_any a1 a2 a3 a4 a5 a6 false W HE.out)) ?_
  simp only [Act.put,List.setIfInBounds_toArray,List.set_cons_zero,List.set_cons_succ]
  refine wpG_tk (some 3) (v:=.bool false) rfl (.val (by rfl) (fun _ _=>rfl)) ?_
  simp only [Act.put,List.setIfInBounds_toArray,List.set_cons_zero,List.set_cons_succ]
  refine wpG_done (fun V1 hv2=>?_)
  have GC3:=Lib.hid hv2
  clear hv2
  go_upto_region 2 with fail
  refine wpG_region ?_
  refine wpG_tk (some 6) (v:=.bool false) rfl (.val (by rfl) (fun _ _=>rfl)) ?_
  simp only [Act.put,List.setIfInBounds_toArray,List.set_cons_zero,List.set_cons_succ]
  refine wpG_done (fun V4 hv5=>?_)
  have GC6:=Lib.hid (GC3.out.trans hv5)
  clear hv5
  go_upto_region 4 with fail
  refine wpG_region ?_
  refine wpG_tk (some 8) (v:=.pointer (some ⟨w.heap.size,3,none⟩)) rfl (.val (by rfl) (fun W hg=>by go_simp)) ?_
  simp only [Act.put,List.setIfInBounds_toArray,List.set_cons_zero,List.set_cons_succ]
  refine wpG_tk (some 9) (v:=.agg #[a4, a5, a6]) rfl (.load_mid (by rfl) 23 (.tmp 8) rfl (w.heap.size) 3 rfl [.int .i64 a4, .int .i64 a5, .int .i64 a6] _ (fun W hg=>(R0.out.below (GC6.out.trans hg)).hi) Tryd.underlying23 rfl (by kernel_rfl)) ?_
  simp only [Act.put,List.setIfInBounds_toArray,List.set_cons_zero,List.set_cons_succ]
  refine wpG_tk (some 10) (v:=.pointer (some ⟨w.heap.size,0,none⟩)) rfl (.val (by rfl) (fun W hg=>by go_simp)) ?_
  simp only [Act.put,List.setIfInBounds_toArray,List.set_cons_zero,List.set_cons_succ]
  refine wpG_tk (some 11) (v:=.agg #[a1, a2, a3]) rfl (.load_mid (by rfl) 23 (.tmp 10) rfl (w.heap.size) 0 rfl [.int .i64 a1, .int .i64 a2, .int .i64 a3] _ (fun W hg=>(R0.out.below (GC6.out.trans hg)).lo) Tryd.underlying23 rfl (by kernel_rfl)) ?_
  simp only [Act.put,List.setIfInBounds_toArray,List.set_cons_zero,List.set_cons_succ]
  refine wpG_tk (some 12) (v:=.agg #[(a4 - a1:Int), (a5 - a2:Int), (a6 - a3:Int)]) rfl (.call (f:=75) (args:=#[.agg #[a4, a5, a6], .agg #[a1, a2, a3]]) (by rfl) (fun W=>by go_simp) (fun W hg=>rsub_any a4 a5 a6 a1 a2 a3 W (by omega))) ?_
  simp only [Act.put,List.setIfInBounds_toArray,List.set_cons_zero,List.set_cons_succ]
  refine wpG_store (none) rfl (by rfl) (fun W7 hg8=>⟨_,run_store_mid 23 (.tmp 2) (.tmp 12) rfl (w.heap.size + 1) 0 #[(a4 - a1:Int), (a5 - a2:Int), (a6 - a3:Int)] rfl rfl (((R1.out.below (GC6.out.trans hg8)).there 0 3 (by decide))) (by kernel_rfl) (by kernel_rfl), ?_⟩)
  simp only [Act.put]
  refine wpG_done (fun V9 hv10=>?_)
  have R12:=Lib.hid (Row.put (ds:=[.int .i64 (a4 - a1), .int .i64 (a5 - a2), .int .i64 (a6 - a3)]) R1.out (GC6.out.trans hg8) rfl hv10)
  have G11:=Lib.hid (Gr.put G0.out (GC6.out.trans hg8) (by omega) hv10)
  go_wp2_with fail
  refine bodyPost_ret (results_cell_mid rfl _ _ _ (w.heap.size + 1) 0 [.int .i64 (a4 - a1), .int .i64 (a5 - a2), .int .i64 (a6 - a3)] _ rfl R12.out.range Tryd.underlying23 rfl (by kernel_rfl)) rfl ?_
  exact ⟨rfl,G11.out⟩
set_option maxRecDepth 1000000 in
set_option maxHeartbeats 4000000 in
theorem rvolume_t (a1 a2 a3 a4 a5 a6 : Int) (w : World) (b : (-1048575 ≤ a1 ∧ a1 ≤ 1048575) ∧ (-1048575 ≤ a2 ∧ a2 ≤ 1048575) ∧ (-1048575 ≤ a3 ∧ a3 ≤ 1048575) ∧ (-1048575 ≤ a4 ∧ a4 ≤ 1048575) ∧ (-1048575 ≤ a5 ∧ a5 ≤ 1048575) ∧ (-1048575 ≤ a6 ∧ a6 ≤ 1048575)) (h : Pt.emp a1 a2 a3 a4 a5 a6 = true) :
    Calls Tryd.prog 10 #[.agg #[a1, a2, a3, a4, a5, a6]] w fun e w'=>e = .returned () ∧ Below w.heap.size w w':=by
  have HE:=Lib.hid h
  clear h
  obtain ⟨u,hu,r0,g0⟩:=rows1 w [.int .i64 a1, .int .i64 a2, .int .i64 a3, .int .i64 a4, .int .i64 a5, .int .i64 a6] 25
  have R0:=Lib.hid r0
  have G0:=Lib.hid g0
  have HU:=Lib.hid hu
  clear hu g0 r0
  go_enter Tryd.func10,Tryd.ntmps10
  go_upto_region 1 with fail
  rw [← HU.out]
  refine wpG_region ?_
  refine wpG_tk (some 4) (v:=.agg #[a1, a2, a3, a4, a5, a6]) rfl (.load_mid (by rfl) 25 (.tmp 1) rfl (w.heap.size) 0 rfl [.int .i64 a1, .int .i64 a2, .int .i64 a3, .int .i64 a4, .int .i64 a5, .int .i64 a6] _ (fun W hg=>(R0.out.below hg).range) Tryd.underlying25 rfl (by kernel_rfl)) ?_
  simp only [Act.put,List.setIfInBounds_toArray,List.set_cons_zero,List.set_cons_succ]
  refine wpG_tk (some 5) (v:=.agg #[(), (), ()]) rfl (.call (f:=39) (args:=#[.agg #[a1, a2, a3, a4, a5, a6]]) (by rfl) (fun W=>by go_simp) (fun W hg=>rsize_t a1 a2 a3 a4 a5 a6 W HE.out)) ?_
  simp only [Act.put,List.setIfInBounds_toArray,List.set_cons_zero,List.set_cons_succ]
  refine wpG_val (some 3) rfl (by rfl) (fun W1 hg2=>⟨.pointer (some ⟨W1.heap.size,0,none⟩),W1.alloc (.cells #[(), (), ()] 23),by (go_simp <;> rfl), ?_⟩)
  simp only [Act.put,List.setIfInBounds_toArray,List.set_cons_zero,List.set_cons_succ]
  refine wpG_store (none) rfl (by rfl) (fun W3 hg4=>⟨_,run_store_mid 23 (.tmp 3) (.tmp 5) rfl (W1.heap.size) 0 #[(), (), ()] rfl rfl (Row.room hg4 3 rfl) (by kernel_rfl) (by kernel_rfl), ?_⟩)
  simp only [Act.put]
  refine wpG_done (fun V5 hv6=>?_)
  have l8 : w.heap.size < W1.heap.size:=(R0.out.below hg2).lt
  have l9 : w.heap.size ≤ W1.heap.size:=(Gr.to G0.out hg2).size
  have R10:=Lib.hid ((R0.out.below hg2).past hg4 hv6)
  have R11:=Lib.hid (Row.made (zs:=[.int .i64 0, .int .i64 0, .int .i64 0]) (ds:=[.int .i64 0, .int .i64 0, .int .i64 0]) rfl hg4 hv6)
  have G7:=Lib.hid (Gr.to (Gr.to G0.out hg2) (Gr.past hg4 hv6))
  clear hg4 hv6 
  go_upto_region 2 with fail
  have c0:=(R11.out 0 _ rfl).1
  have c1:=(R11.out 1 _ rfl).1
  have c2:=(R11.out 2 _ rfl).1
  clear HU
  go_wp2_with fail
  go_ret
  exact ⟨rfl,G7.out⟩
set_option maxRecDepth 1000000 in
set_option maxHeartbeats 4000000 in
theorem rvolume_f (a1 a2 a3 a4 a5 a6 : Int) (w : World) (b : (-1048575 ≤ a1 ∧ a1 ≤ 1048575) ∧ (-1048575 ≤ a2 ∧ a2 ≤ 1048575) ∧ (-1048575 ≤ a3 ∧ a3 ≤ 1048575) ∧ (-1048575 ≤ a4 ∧ a4 ≤ 1048575) ∧ (-1048575 ≤ a5 ∧ a5 ≤ 1048575) ∧ (-1048575 ≤ a6 ∧ a6 ≤ 1048575)) (h : Pt.emp a1 a2 a3 a4 a5 a6 = false) :
    Calls Tryd.prog 10 #[.agg #[a1, a2, a3, a4, a5, a6]] w fun e w'=>e = .returned ((a4 - a1) * (a5 - a2) * (a6 - a3):Int) ∧ Below w.heap.size w w':=by
  have HE:=Lib.hid h
  clear h
  obtain ⟨u,hu,r0,g0⟩:=rows1 w [.int .i64 a1, .int .i64 a2, .int .i64 a3, .int .i64 a4, .int .i64 a5, .int .i64 a6] 25
  have R0:=Lib.hid r0
  have G0:=Lib.hid g0
  have HU:=Lib.hid hu
  clear hu g0 r0
  go_enter Tryd.func10,Tryd.ntmps10
  go_upto_region 1 with fail
  rw [← HU.out]
  refine wpG_region ?_
  refine wpG_tk (some 4) (v:=.agg #[a1, a2, a3, a4, a5, a6]) rfl (.load_mid (by rfl) 25 (.tmp 1) rfl (w.heap.size) 0 rfl [.int .i64 a1, .int .i64 a2, .int .i64 a3, .int .i64 a4, .int .i64 a5, .int .i64 a6] _ (fun W hg=>(R0.out.below hg).range) Tryd.underlying25 rfl (by kernel_rfl)) ?_
  simp only [Act.put,List.setIfInBounds_toArray,List.set_cons_zero,List.set_cons_succ]
  refine wpG_tk (some 5) (v:=.agg #[(a4 - a1:Int), (a5 - a2:Int), (a6 - a3:Int)]) rfl (.call (f:=39) (args:=#[.agg #[a1, a2, a3, a4, a5, a6]]) (by rfl) (fun W=>by go_simp) (fun W hg=>rsize_f a1 a2 a3 a4 a5 a6 W (by omega) HE.out)) ?_
  simp only [Act.put,List.setIfInBounds_toArray,List.set_cons_zero,List.set_cons_succ]
  refine wpG_val (some 3) rfl (by rfl) (fun W1 hg2=>⟨.pointer (some ⟨W1.heap.size,0,none⟩),W1.alloc (.cells #[(), (), ()] 23),by (go_simp <;> rfl), ?_⟩)
  simp only [Act.put,List.setIfInBounds_toArray,List.set_cons_zero,List.set_cons_succ]
  refine wpG_store (none) rfl (by rfl) (fun W3 hg4=>⟨_,run_store_mid 23 (.tmp 3) (.tmp 5) rfl (W1.heap.size) 0 #[(a4 - a1:Int), (a5 - a2:Int), (a6 - a3:Int)] rfl rfl (Row.room hg4 3 rfl) (by kernel_rfl) (by kernel_rfl), ?_⟩)
  simp only [Act.put]
  refine wpG_done (fun V5 hv6=>?_)
  have l8 : w.heap.size < W1.heap.size:=(R0.out.below hg2).lt
  have l9 : w.heap.size ≤ W1.heap.size:=(Gr.to G0.out hg2).size
  have R10:=Lib.hid ((R0.out.below hg2).past hg4 hv6)
  have R11:=Lib.hid (Row.made (zs:=[.int .i64 0, .int .i64 0, .int .i64 0]) (ds:=[.int .i64 (a4 - a1), .int .i64 (a5 - a2), .int .i64 (a6 - a3)]) rfl hg4 hv6)
  have G7:=Lib.hid (Gr.to (Gr.to G0.out hg2) (Gr.past hg4 hv6))
  clear hg4 hv6 
  go_upto_region 2 with fail
  have c0:=(R11.out 0 _ rfl).1
  have c1:=(R11.out 1 _ rfl).1
  have c2:=(R11.out 2 _ rfl).1
  clear HU
  obtain ⟨s,hs⟩ : ∃ x,x = a4 - a1:=⟨_,rfl⟩
  obtain ⟨t,ht⟩ : ∃ x,x = a5 - a2:=⟨_,rfl⟩
  obtain ⟨v,hv⟩ : ∃ x,x = a6 - a3:=⟨_,rfl⟩
  rw [← hs] at c0
  rw [← ht] at c1
  rw [← hv] at c2
  have hz:=Pt.emp_false.1 HE.out
  obtain ⟨p1,p2⟩:=prod_bd (s:=s) (t:=t) (u:=v) (by omega) (by omega) (by omega)
  have HS:=Lib.hid hs
  have HTT:=Lib.hid ht
  have HV:=Lib.hid hv
  clear hs ht hv hz b
  go_wp2_with fail
  go_ret
  exact ⟨by rw [← HS.out,← HTT.out,← HV.out];rfl,G7.out⟩
theorem rvolume_any (a1 a2 a3 a4 a5 a6 : Int) (w : World) (b : (-1048575 ≤ a1 ∧ a1 ≤ 1048575) ∧ (-1048575 ≤ a2 ∧ a2 ≤ 1048575) ∧ (-1048575 ≤ a3 ∧ a3 ≤ 1048575) ∧ (-1048575 ≤ a4 ∧ a4 ≤ 1048575) ∧ (-1048575 ≤ a5 ∧ a5 ≤ 1048575) ∧ (-1048575 ≤ a6 ∧ a6 ≤ 1048575)) :
    Calls Tryd.prog 10 #[.agg #[a1, a2, a3, a4, a5, a6]] w fun e w'=>e = .returned (Pt.vol a1 a2 a3 a4 a5 a6) ∧ Below w.heap.size w w':=by
  cases h : Pt.emp a1 a2 a3 a4 a5 a6 with
  | true=>rw [Pt.vol_emp h];exact rvolume_t _ _ _ _ _ _ w b h
  | false=>rw [Pt.vol_full h];exact rvolume_f _ _ _ _ _ _ w b h
end Go.Proofs.YtjdeaopdbenamaaDoor
