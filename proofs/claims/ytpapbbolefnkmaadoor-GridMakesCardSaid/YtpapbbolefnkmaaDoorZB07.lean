/-
  Contracts of package point: volumes, cubes, shifted boxes.
-/
import Derived.Test.YtpapbbolefnkmaaDoorZB00
import Derived.Test.YtpapbbolefnkmaaDoorZB05
import Derived.Test.YtpapbbolefnkmaaDoorZB06
import Derived.Handy
namespace Go.Proofs.YtpapbbolefnkmaaDoor
open Go.RowKit
set_option linter.unusedVariables false
theorem prod_bd {s t u : Int} (hs : 0 ≤ s ∧ s ≤ 2097150) (ht : 0 ≤ t ∧ t ≤ 2097150) (hu : 0 ≤ u ∧ u ≤ 2097150) : (0 ≤ s * t ∧ s * t ≤ 4398038122500) ∧ (0 ≤ s * t * u ∧ s * t * u ≤ 9223345648600875000):=by
  have h1 : 0 ≤ s * t:=Int.mul_nonneg hs.1 ht.1
  have h2 : s * t ≤ 2097150 * 2097150:=Int.mul_le_mul hs.2 ht.2 ht.1 (by omega)
  have h3 : 0 ≤ s * t * u:=Int.mul_nonneg h1 hu.1
  have h4 : s * t * u ≤ (2097150 * 2097150) * 2097150:=Int.mul_le_mul h2 hu.2 hu.1 (by omega)
  omega
set_option maxRecDepth 1000000 in
theorem volume_t (a1 a2 a3 a4 a5 a6 : Int) (w : World) (b : (-1048575 ≤ a1 ∧ a1 ≤ 1048575) ∧ (-1048575 ≤ a2 ∧ a2 ≤ 1048575) ∧ (-1048575 ≤ a3 ∧ a3 ≤ 1048575) ∧ (-1048575 ≤ a4 ∧ a4 ≤ 1048575) ∧ (-1048575 ≤ a5 ∧ a5 ≤ 1048575) ∧ (-1048575 ≤ a6 ∧ a6 ≤ 1048575)) (h : Pt.emp a1 a2 a3 a4 a5 a6 = true) :
    Calls Tryd.prog 48 #[.agg #[a1, a2, a3, a4, a5, a6]] w fun e w'=>e = .returned () ∧ Below w.heap.size w w':=by
  have HE:=Lib.hid h
  clear h
  obtain ⟨u,hu,r0,g0⟩:=rows1 w [.int .i64 a1, .int .i64 a2, .int .i64 a3, .int .i64 a4, .int .i64 a5, .int .i64 a6] 25
  have R0:=Lib.hid r0
  have G0:=Lib.hid g0
  have HU:=Lib.hid hu
  clear hu g0 r0
  go_enter Tryd.func48,Tryd.ntmps48
  go_upto_region 1 with fail
  rw [← HU.out]
  refine wpG_region ?_
  refine wpG_tk (some 4) (v:=.agg #[a1, a2, a3, a4, a5, a6]) rfl (.load_mid (by rfl) 25 (.tmp 1) rfl (w.heap.size) 0 rfl [.int .i64 a1, .int .i64 a2, .int .i64 a3, .int .i64 a4, .int .i64 a5, .int .i64 a6] _ (fun W hg=>(R0.out.below hg).range) Tryd.underlying25 rfl (by kernel_rfl)) ?_
  simp only [Act.put,zA,zB,zC]
  refine wpG_tk (some 5) (v:=.agg #[(), (), ()]) rfl (.call (f:=79) (args:=#[.agg #[a1, a2, a3, a4, a5, a6]]) (by rfl) (fun W=>by go_simp) (fun W hg=>size_t a1 a2 a3 a4 a5 a6 W HE.out)) ?_
  simp only [Act.put,zA,zB,zC]
  refine wpG_val (some 3) rfl (by rfl) (fun W1 hg2=>⟨.pointer (some ⟨W1.heap.size,0,none⟩),W1.alloc (.cells #[(), (), ()] 23),by (go_simp <;> rfl), ?_⟩)
  simp only [Act.put,zA,zB,zC]
  refine wpG_store (none) rfl (by rfl) (fun W3 hg4=>⟨_,run_store_mid 23 (.tmp 3) (.tmp 5) rfl (W1.heap.size) 0 #[(), (), ()] rfl rfl (Row.room hg4 3 rfl) (by kernel_rfl) (by kernel_rfl), ?_⟩)
  simp only [Act.put]
  refine wpG_done (fun V5 hv6=>?_)
  have R8:=Lib.hid ((R0.out.below hg2).past hg4 hv6)
  have R9:=Lib.hid (Row.made (zs:=[.int .i64 0, .int .i64 0, .int .i64 0]) (ds:=[.int .i64 0, .int .i64 0, .int .i64 0]) rfl hg4 hv6)
  have G7:=Lib.hid (Gr.to (Gr.to G0.out hg2) (Gr.past hg4 hv6))
  clear hg4 hv6 
  go_upto_region 2 with fail
  have c0:=(R9.out 0 _ rfl).1
  have c1:=(R9.out 1 _ rfl).1
  have c2:=(R9.out 2 _ rfl).1
  clear HU
  go_wp2_with fail
  go_ret
  exact ⟨rfl,G7.out⟩
set_option maxRecDepth 1000000 in
theorem volume_f (a1 a2 a3 a4 a5 a6 : Int) (w : World) (b : (-1048575 ≤ a1 ∧ a1 ≤ 1048575) ∧ (-1048575 ≤ a2 ∧ a2 ≤ 1048575) ∧ (-1048575 ≤ a3 ∧ a3 ≤ 1048575) ∧ (-1048575 ≤ a4 ∧ a4 ≤ 1048575) ∧ (-1048575 ≤ a5 ∧ a5 ≤ 1048575) ∧ (-1048575 ≤ a6 ∧ a6 ≤ 1048575)) (h : Pt.emp a1 a2 a3 a4 a5 a6 = false) :
    Calls Tryd.prog 48 #[.agg #[a1, a2, a3, a4, a5, a6]] w fun e w'=>e = .returned ((a4 - a1) * (a5 - a2) * (a6 - a3):Int) ∧ Below w.heap.size w w':=by
  have HE:=Lib.hid h
  clear h
  obtain ⟨u,hu,r0,g0⟩:=rows1 w [.int .i64 a1, .int .i64 a2, .int .i64 a3, .int .i64 a4, .int .i64 a5, .int .i64 a6] 25
  have R0:=Lib.hid r0
  have G0:=Lib.hid g0
  have HU:=Lib.hid hu
  clear hu g0 r0
  go_enter Tryd.func48,Tryd.ntmps48
  go_upto_region 1 with fail
  rw [← HU.out]
  refine wpG_region ?_
  refine wpG_tk (some 4) (v:=.agg #[a1, a2, a3, a4, a5, a6]) rfl (.load_mid (by rfl) 25 (.tmp 1) rfl (w.heap.size) 0 rfl [.int .i64 a1, .int .i64 a2, .int .i64 a3, .int .i64 a4, .int .i64 a5, .int .i64 a6] _ (fun W hg=>(R0.out.below hg).range) Tryd.underlying25 rfl (by kernel_rfl)) ?_
  simp only [Act.put,zA,zB,zC]
  refine wpG_tk (some 5) (v:=.agg #[(a4 - a1:Int), (a5 - a2:Int), (a6 - a3:Int)]) rfl (.call (f:=79) (args:=#[.agg #[a1, a2, a3, a4, a5, a6]]) (by rfl) (fun W=>by go_simp) (fun W hg=>size_f a1 a2 a3 a4 a5 a6 W (by omega) HE.out)) ?_
  simp only [Act.put,zA,zB,zC]
  refine wpG_val (some 3) rfl (by rfl) (fun W1 hg2=>⟨.pointer (some ⟨W1.heap.size,0,none⟩),W1.alloc (.cells #[(), (), ()] 23),by (go_simp <;> rfl), ?_⟩)
  simp only [Act.put,zA,zB,zC]
  refine wpG_store (none) rfl (by rfl) (fun W3 hg4=>⟨_,run_store_mid 23 (.tmp 3) (.tmp 5) rfl (W1.heap.size) 0 #[(a4 - a1:Int), (a5 - a2:Int), (a6 - a3:Int)] rfl rfl (Row.room hg4 3 rfl) (by kernel_rfl) (by kernel_rfl), ?_⟩)
  simp only [Act.put]
  refine wpG_done (fun V5 hv6=>?_)
  have R8:=Lib.hid ((R0.out.below hg2).past hg4 hv6)
  have R9:=Lib.hid (Row.made (zs:=[.int .i64 0, .int .i64 0, .int .i64 0]) (ds:=[.int .i64 (a4 - a1), .int .i64 (a5 - a2), .int .i64 (a6 - a3)]) rfl hg4 hv6)
  have G7:=Lib.hid (Gr.to (Gr.to G0.out hg2) (Gr.past hg4 hv6))
  clear hg4 hv6 
  go_upto_region 2 with fail
  have c0:=(R9.out 0 _ rfl).1
  have c1:=(R9.out 1 _ rfl).1
  have c2:=(R9.out 2 _ rfl).1
  clear HU
  obtain ⟨s,hs⟩ : ∃ x,x = a4 - a1:=⟨_,rfl⟩
  obtain ⟨t,ht⟩ : ∃ x,x = a5 - a2:=⟨_,rfl⟩
  obtain ⟨v,hv⟩ : ∃ x,x = a6 - a3:=⟨_,rfl⟩
  rw [← hs] at c0
  rw [← ht] at c1
  rw [← hv] at c2
  have hz:=Pt.emp_false.1 HE.out
  obtain ⟨p1,p2⟩:=prod_bd (s:=s) (t:=t) (u:=v) (by omega) (by omega) (by omega)
  have HS:=Lib.hid hs
  have HTT:=Lib.hid ht
  have HV:=Lib.hid hv
  clear hs ht hv hz b
  go_wp2_with fail
  go_ret
  exact ⟨by rw [← HS.out,← HTT.out,← HV.out];rfl,G7.out⟩
theorem volume_any (a1 a2 a3 a4 a5 a6 : Int) (w : World) (b : (-1048575 ≤ a1 ∧ a1 ≤ 1048575) ∧ (-1048575 ≤ a2 ∧ a2 ≤ 1048575) ∧ (-1048575 ≤ a3 ∧ a3 ≤ 1048575) ∧ (-1048575 ≤ a4 ∧ a4 ≤ 1048575) ∧ (-1048575 ≤ a5 ∧ a5 ≤ 1048575) ∧ (-1048575 ≤ a6 ∧ a6 ≤ 1048575)) :
    Calls Tryd.prog 48 #[.agg #[a1, a2, a3, a4, a5, a6]] w fun e w'=>e = .returned (Pt.vol a1 a2 a3 a4 a5 a6) ∧ Below w.heap.size w w':=by
  cases h : Pt.emp a1 a2 a3 a4 a5 a6 with
  | true=>rw [Pt.vol_emp h];exact volume_t _ _ _ _ _ _ w b h
  | false=>rw [Pt.vol_full h];exact volume_f _ _ _ _ _ _ w b h
set_option maxRecDepth 1000000 in
theorem shift_any (a1 a2 a3 a4 a5 a6 x1 x2 x3 : Int) (w : World) (h : (-2097152 ≤ a1 ∧ a1 ≤ 2097152) ∧ (-2097152 ≤ a2 ∧ a2 ≤ 2097152) ∧ (-2097152 ≤ a3 ∧ a3 ≤ 2097152) ∧ (-2097152 ≤ a4 ∧ a4 ≤ 2097152) ∧ (-2097152 ≤ a5 ∧ a5 ≤ 2097152) ∧ (-2097152 ≤ a6 ∧ a6 ≤ 2097152) ∧ (-2097152 ≤ x1 ∧ x1 ≤ 2097152) ∧ (-2097152 ≤ x2 ∧ x2 ≤ 2097152) ∧ (-2097152 ≤ x3 ∧ x3 ≤ 2097152)) :
    Calls Tryd.prog 73 #[.agg #[a1, a2, a3, a4, a5, a6], .agg #[x1, x2, x3]] w fun e w'=>e = .returned (.agg #[(a1 + x1:Int), (a2 + x2:Int), (a3 + x3:Int), (a4 + x1:Int), (a5 + x2:Int), (a6 + x3:Int)]) ∧ Below w.heap.size w w':=by
  obtain ⟨u,hu,r0,r1,r2,g0⟩:=rows3 w [.int .i64 a1, .int .i64 a2, .int .i64 a3, .int .i64 a4, .int .i64 a5, .int .i64 a6] 25 [.int .i64 x1, .int .i64 x2, .int .i64 x3] 23 [.int .i64 0, .int .i64 0, .int .i64 0, .int .i64 0, .int .i64 0, .int .i64 0] 25
  have R0:=Lib.hid r0
  have R1:=Lib.hid r1
  have R2:=Lib.hid r2
  have G0:=Lib.hid g0
  have HU:=Lib.hid hu
  clear hu g0 r0 r1 r2
  go_enter Tryd.func73,Tryd.ntmps73
  go_upto_region 1 with fail
  rw [← HU.out]
  refine wpK_region (by kernel_rfl) ?_
  refine wpK_ta (i:=0) (some 5) (v:=.pointer (some ⟨w.heap.size,0,none⟩)) rfl rfl (by kernel_rfl) (fun _ _ _ h=>h) (Or.inl ⟨by rfl,fun W=>by go_simp⟩) ?_
  simp only [Act.put,zA,zB,zC]
  refine wpK_tk (i:=1) (some 6) (v:=.agg #[a1, a2, a3]) rfl rfl (by kernel_rfl) (fun _ _ _ h=>h) (.load_mid (by rfl) 23 (.tmp 5) rfl (w.heap.size) 0 rfl [.int .i64 a1, .int .i64 a2, .int .i64 a3] _ (fun W hg=>(R0.out.below (Gr.un hg)).lo) Tryd.underlying23 rfl (by kernel_rfl)) ?_
  simp only [Act.put,zA,zB,zC]
  refine wpK_tk (i:=2) (some 7) (v:=.agg #[x1, x2, x3]) rfl rfl (by kernel_rfl) (fun _ _ _ h=>h) (.load_mid (by rfl) 23 (.tmp 3) rfl (w.heap.size + 1) 0 rfl [.int .i64 x1, .int .i64 x2, .int .i64 x3] _ (fun W hg=>(R1.out.below (Gr.un hg)).range) Tryd.underlying23 rfl (by kernel_rfl)) ?_
  simp only [Act.put,zA,zB,zC]
  refine wpK_tk (i:=3) (some 8) (v:=.agg #[(a1 + x1:Int), (a2 + x2:Int), (a3 + x3:Int)]) rfl rfl (by kernel_rfl) (fun _ _ _ h=>h) (.call (f:=100) (args:=#[.agg #[a1, a2, a3], .agg #[x1, x2, x3]]) (by rfl) (fun W=>by go_simp) (fun W hg=>add_any a1 a2 a3 x1 x2 x3 W (by omega))) ?_
  simp only [Act.put,zA,zB,zC]
  refine wpK_ta (i:=4) (some 9) (v:=.pointer (some ⟨w.heap.size,3,none⟩)) rfl rfl (by kernel_rfl) (fun _ _ _ h=>h) (Or.inl ⟨by rfl,fun W=>by go_simp⟩) ?_
  simp only [Act.put,zA,zB,zC]
  refine wpK_tk (i:=5) (some 10) (v:=.agg #[a4, a5, a6]) rfl rfl (by kernel_rfl) (fun _ _ _ h=>h) (.load_mid (by rfl) 23 (.tmp 9) rfl (w.heap.size) 3 rfl [.int .i64 a4, .int .i64 a5, .int .i64 a6] _ (fun W hg=>(R0.out.below (Gr.un hg)).hi) Tryd.underlying23 rfl (by kernel_rfl)) ?_
  simp only [Act.put,zA,zB,zC]
  refine wpK_tk (i:=6) (some 11) (v:=.agg #[x1, x2, x3]) rfl rfl (by kernel_rfl) (fun _ _ _ h=>h) (.load_mid (by rfl) 23 (.tmp 3) rfl (w.heap.size + 1) 0 rfl [.int .i64 x1, .int .i64 x2, .int .i64 x3] _ (fun W hg=>(R1.out.below (Gr.un hg)).range) Tryd.underlying23 rfl (by kernel_rfl)) ?_
  simp only [Act.put,zA,zB,zC]
  refine wpK_tk (i:=7) (some 12) (v:=.agg #[(a4 + x1:Int), (a5 + x2:Int), (a6 + x3:Int)]) rfl rfl (by kernel_rfl) (fun _ _ _ h=>h) (.call (f:=100) (args:=#[.agg #[a4, a5, a6], .agg #[x1, x2, x3]]) (by rfl) (fun W=>by go_simp) (fun W hg=>add_any a4 a5 a6 x1 x2 x3 W (by omega))) ?_
  simp only [Act.put,zA,zB,zC]
  refine wpK_ta (i:=8) (some 13) (v:=.agg #[(a1 + x1:Int), (a2 + x2:Int), (a3 + x3:Int), (a4 + x1:Int), (a5 + x2:Int), (a6 + x3:Int)]) rfl rfl (by kernel_rfl) (fun _ _ _ h=>h) (Or.inl ⟨by rfl,fun W=>by go_simp⟩) ?_
  simp only [Act.put,zA,zB,zC]
  refine wpK_store (i:=9) (none) rfl rfl (by kernel_rfl) (by rfl) (by rfl) (fun W1 hg2=>⟨_,run_store_mid 25 (.tmp 4) (.tmp 13) rfl (w.heap.size + 1 + 1) 0 #[(a1 + x1:Int), (a2 + x2:Int), (a3 + x3:Int), (a4 + x1:Int), (a5 + x2:Int), (a6 + x3:Int)] rfl rfl (((R2.out.below (Gr.un hg2)).there 0 6 (by decide))) (by kernel_rfl) (by kernel_rfl), ?_⟩)
  simp only [Act.put]
  refine wpK_done (by kernel_rfl) (fun V3 hv4=>?_) _
  have R6:=Lib.hid (Row.put (ds:=[.int .i64 (a1 + x1), .int .i64 (a2 + x2), .int .i64 (a3 + x3), .int .i64 (a4 + x1), .int .i64 (a5 + x2), .int .i64 (a6 + x3)]) R2.out (Gr.un hg2) rfl hv4)
  have G5:=Lib.hid (Gr.put G0.out (Gr.un hg2) (by omega) hv4)
  go_wp2_with fail
  refine bodyPost_ret (results_cell_mid rfl _ _ _ (w.heap.size + 1 + 1) 0 [.int .i64 (a1 + x1), .int .i64 (a2 + x2), .int .i64 (a3 + x3), .int .i64 (a4 + x1), .int .i64 (a5 + x2), .int .i64 (a6 + x3)] _ rfl R6.out.range Tryd.underlying25 rfl (by kernel_rfl)) rfl ?_
  exact ⟨rfl,G5.out⟩

end Go.Proofs.YtpapbbolefnkmaaDoor
/-
  Contracts of package point: numbers of cells; points and boxes of the laws.
-/
namespace Go.Proofs.YtpapbbolefnkmaaDoor
open Go.RowKit
set_option linter.unusedVariables false
set_option maxRecDepth 1000000 in
theorem index_f (a1 a2 a3 a4 a5 a6 x1 x2 x3 : Int) (w : World) (h : Pt.inB x1 x2 x3 a1 a2 a3 a4 a5 a6 = false) :
    Calls Tryd.prog 85 #[.agg #[a1, a2, a3, a4, a5, a6], .agg #[x1, x2, x3]] w fun e w'=>e = .returned (-1:Int) ∧ Below w.heap.size w w':=by
  have HI:=Lib.hid h
  clear h
  obtain ⟨u,hu,r0,r1,g0⟩:=rows2 w [.int .i64 a1, .int .i64 a2, .int .i64 a3, .int .i64 a4, .int .i64 a5, .int .i64 a6] 25 [.int .i64 x1, .int .i64 x2, .int .i64 x3] 23
  have R0:=Lib.hid r0
  have R1:=Lib.hid r1
  have G0:=Lib.hid g0
  have HU:=Lib.hid hu
  clear hu g0 r0 r1
  go_enter Tryd.func85,Tryd.ntmps85
  go_upto_region 1 with fail
  rw [← HU.out]
  refine wpG_region ?_
  refine wpG_tk (some 7) (v:=.agg #[x1, x2, x3]) rfl (.load_mid (by rfl) 23 (.tmp 3) rfl (w.heap.size + 1) 0 rfl [.int .i64 x1, .int .i64 x2, .int .i64 x3] _ (fun W hg=>(R1.out.below hg).range) Tryd.underlying23 rfl (by kernel_rfl)) ?_
  simp only [Act.put,zA,zB,zC]
  refine wpG_tk (some 8) (v:=.agg #[a1, a2, a3, a4, a5, a6]) rfl (.load_mid (by rfl) 25 (.tmp 2) rfl (w.heap.size) 0 rfl [.int .i64 a1, .int .i64 a2, .int .i64 a3, .int .i64 a4, .int .i64 a5, .int .i64 a6] _ (fun W hg=>(R0.out.below hg).range) Tryd.underlying25 rfl (by kernel_rfl)) ?_
  simp only [Act.put,zA,zB,zC]
  refine wpG_tk (some 9) (v:=.bool false) rfl (.call (f:=78) (args:=#[.agg #[x1, x2, x3], .agg #[a1, a2, a3, a4, a5, a6]]) (by rfl) (fun W=>by go_simp) (fun W hg=>in_any x1 x2 x3 a1 a2 a3 a4 a5 a6 false W HI.out)) ?_
  simp only [Act.put,zA,zB,zC]
  refine wpG_tk (some 10) (v:=.bool true) rfl (.val (by rfl) (fun W hg=>by go_simp)) ?_
  simp only [Act.put,zA,zB,zC]
  refine wpG_done (fun V1 hv2=>?_)
  have GC3:=Lib.hid hv2
  clear hv2
  go_upto_region 2 with fail
  refine wpG_region ?_
  refine wpG_tk (some 4) (v:=(-1:Int)) rfl (.val (by rfl) (fun _ _=>rfl)) ?_
  simp only [Act.put,zA,zB,zC]
  refine wpG_done (fun V4 hv5=>?_)
  have GC6:=Lib.hid (GC3.out.trans hv5)
  clear hv5
  go_wp2_with fail
  go_ret
  exact ⟨rfl,Gr.to G0.out GC6.out⟩
theorem vol_bd (a1 a2 a3 a4 a5 a6 : Int) (b : (-1048575 ≤ a1 ∧ a1 ≤ 1048575) ∧ (-1048575 ≤ a2 ∧ a2 ≤ 1048575) ∧ (-1048575 ≤ a3 ∧ a3 ≤ 1048575) ∧ (-1048575 ≤ a4 ∧ a4 ≤ 1048575) ∧ (-1048575 ≤ a5 ∧ a5 ≤ 1048575) ∧ (-1048575 ≤ a6 ∧ a6 ≤ 1048575)) : 0 ≤ Pt.vol a1 a2 a3 a4 a5 a6 ∧ Pt.vol a1 a2 a3 a4 a5 a6 ≤ 9223345648600875000:=by
  cases h : Pt.emp a1 a2 a3 a4 a5 a6 with
  | true=>rw [Pt.vol_emp h];decide
  | false =>
    have:=Pt.emp_false.1 h
    rw [Pt.vol_full h]
    exact (prod_bd (by omega) (by omega) (by omega)).2
set_option maxRecDepth 1000000 in
theorem index_t (a1 a2 a3 a4 a5 a6 x1 x2 x3 : Int) (w : World) (b : (-1048575 ≤ a1 ∧ a1 ≤ 1048575) ∧ (-1048575 ≤ a2 ∧ a2 ≤ 1048575) ∧ (-1048575 ≤ a3 ∧ a3 ≤ 1048575) ∧ (-1048575 ≤ a4 ∧ a4 ≤ 1048575) ∧ (-1048575 ≤ a5 ∧ a5 ≤ 1048575) ∧ (-1048575 ≤ a6 ∧ a6 ≤ 1048575) ∧ (-1048575 ≤ x1 ∧ x1 ≤ 1048575) ∧ (-1048575 ≤ x2 ∧ x2 ≤ 1048575) ∧ (-1048575 ≤ x3 ∧ x3 ≤ 1048575)) (h : Pt.inB x1 x2 x3 a1 a2 a3 a4 a5 a6 = true) :
    Calls Tryd.prog 85 #[.agg #[a1, a2, a3, a4, a5, a6], .agg #[x1, x2, x3]] w fun e w'=>e = .returned (Pt.idx x1 x2 x3 a1 a2 a3 a4 a5) ∧ Below w.heap.size w w':=by
  have HI:=Lib.hid h
  have HE:=Lib.hid (Pt.idx_bd h).2.2.2
  clear h
  obtain ⟨u,hu,r0,r1,g0⟩:=rows2 w [.int .i64 a1, .int .i64 a2, .int .i64 a3, .int .i64 a4, .int .i64 a5, .int .i64 a6] 25 [.int .i64 x1, .int .i64 x2, .int .i64 x3] 23
  have R0:=Lib.hid r0
  have R1:=Lib.hid r1
  have G0:=Lib.hid g0
  have HU:=Lib.hid hu
  clear hu g0 r0 r1
  go_enter Tryd.func85,Tryd.ntmps85
  go_upto_region 1 with fail
  rw [← HU.out]
  refine wpG_region ?_
  refine wpG_tk (some 7) (v:=.agg #[x1, x2, x3]) rfl (.load_mid (by rfl) 23 (.tmp 3) rfl (w.heap.size + 1) 0 rfl [.int .i64 x1, .int .i64 x2, .int .i64 x3] _ (fun W hg=>(R1.out.below hg).range) Tryd.underlying23 rfl (by kernel_rfl)) ?_
  simp only [Act.put,zA,zB,zC]
  refine wpG_tk (some 8) (v:=.agg #[a1, a2, a3, a4, a5, a6]) rfl (.load_mid (by rfl) 25 (.tmp 2) rfl (w.heap.size) 0 rfl [.int .i64 a1, .int .i64 a2, .int .i64 a3, .int .i64 a4, .int .i64 a5, .int .i64 a6] _ (fun W hg=>(R0.out.below hg).range) Tryd.underlying25 rfl (by kernel_rfl)) ?_
  simp only [Act.put,zA,zB,zC]
  refine wpG_tk (some 9) (v:=.bool true) rfl (.call (f:=78) (args:=#[.agg #[x1, x2, x3], .agg #[a1, a2, a3, a4, a5, a6]]) (by rfl) (fun W=>by go_simp) (fun W hg=>in_any x1 x2 x3 a1 a2 a3 a4 a5 a6 true W HI.out)) ?_
  simp only [Act.put,zA,zB,zC]
  refine wpG_tk (some 10) (v:=.bool false) rfl (.val (by rfl) (fun W hg=>by go_simp)) ?_
  simp only [Act.put,zA,zB,zC]
  refine wpG_done (fun V1 hv2=>?_)
  have GC3:=Lib.hid hv2
  clear hv2
  go_upto_region 3 with fail
  refine wpK_region (by kernel_rfl) ?_
  refine wpK_tk (i:=0) (some 11) (v:=.agg #[a1, a2, a3, a4, a5, a6]) rfl rfl (by kernel_rfl) (fun _ _ _ h=>h) (.load_mid (by rfl) 25 (.tmp 2) rfl (w.heap.size) 0 rfl [.int .i64 a1, .int .i64 a2, .int .i64 a3, .int .i64 a4, .int .i64 a5, .int .i64 a6] _ (fun W hg=>(R0.out.below (GC3.out.trans (Gr.un hg))).range) Tryd.underlying25 rfl (by kernel_rfl)) ?_
  simp only [Act.put,zA,zB,zC]
  refine wpK_tk (i:=1) (some 12) (v:=.agg #[(a4 - a1:Int), (a5 - a2:Int), (a6 - a3:Int)]) rfl rfl (by kernel_rfl) (fun _ _ _ h=>h) (.call (f:=79) (args:=#[.agg #[a1, a2, a3, a4, a5, a6]]) (by rfl) (fun W=>by go_simp) (fun W hg=>size_f a1 a2 a3 a4 a5 a6 W (by omega) HE.out)) ?_
  simp only [Act.put,zA,zB,zC]
  refine wpK_tk (i:=2) (some 13) (v:=.agg #[x1, x2, x3]) rfl rfl (by kernel_rfl) (fun _ _ _ h=>h) (.load_mid (by rfl) 23 (.tmp 3) rfl (w.heap.size + 1) 0 rfl [.int .i64 x1, .int .i64 x2, .int .i64 x3] _ (fun W hg=>(R1.out.below (GC3.out.trans (Gr.un hg))).range) Tryd.underlying23 rfl (by kernel_rfl)) ?_
  simp only [Act.put,zA,zB,zC]
  refine wpK_ta (i:=3) (some 14) (v:=.pointer (some ⟨w.heap.size,0,none⟩)) rfl rfl (by kernel_rfl) (fun _ _ _ h=>h) (Or.inl ⟨by rfl,fun W=>by go_simp⟩) ?_
  simp only [Act.put,zA,zB,zC]
  refine wpK_tk (i:=4) (some 15) (v:=.agg #[a1, a2, a3]) rfl rfl (by kernel_rfl) (fun _ _ _ h=>h) (.load_mid (by rfl) 23 (.tmp 14) rfl (w.heap.size) 0 rfl [.int .i64 a1, .int .i64 a2, .int .i64 a3] _ (fun W hg=>(R0.out.below (GC3.out.trans (Gr.un hg))).lo) Tryd.underlying23 rfl (by kernel_rfl)) ?_
  simp only [Act.put,zA,zB,zC]
  refine wpK_tk (i:=5) (some 16) (v:=.agg #[(x1 - a1:Int), (x2 - a2:Int), (x3 - a3:Int)]) rfl rfl (by kernel_rfl) (fun _ _ _ h=>h) (.call (f:=101) (args:=#[.agg #[x1, x2, x3], .agg #[a1, a2, a3]]) (by rfl) (fun W=>by go_simp) (fun W hg=>sub_any x1 x2 x3 a1 a2 a3 W (by omega))) ?_
  simp only [Act.put,zA,zB,zC]
  refine wpK_two (i:=6) (j:=7) (k:=8) (l:=9) (d1:=5) (d2:=6) 23 [.int .i64 0, .int .i64 0, .int .i64 0] [.int .i64 (a4 - a1), .int .i64 (a5 - a2), .int .i64 (a6 - a3)] [.int .i64 (x1 - a1), .int .i64 (x2 - a2), .int .i64 (x3 - a3)] rfl rfl rfl rfl (by kernel_rfl) rfl rfl rfl rfl (by decide) rfl rfl rfl rfl (fun b W=>by unfold ptr0;go_simp <;> rfl) (fun b W=>by unfold ptr0;go_simp <;> rfl) rfl rfl (fun p q W ht=>run_store_mid 23 (.tmp 5) (.tmp 12) rfl p 0 #[(a4 - a1:Int), (a5 - a2:Int), (a6 - a3:Int)] rfl rfl ht (by kernel_rfl) (by kernel_rfl)) (fun p q W ht=>run_store_mid 23 (.tmp 6) (.tmp 16) rfl q 0 #[(x1 - a1:Int), (x2 - a2:Int), (x3 - a3:Int)] rfl rfl ht (by kernel_rfl) (by kernel_rfl)) (fun p4 q5 V6 _ _ hv7 rp8 rq9=>?_)
  simp only [ptr0,Act.put,zA,zB,zC]
  have R10:=Lib.hid (R0.out.below (GC3.out.trans (Gr.un hv7)))
  have R11:=Lib.hid (R1.out.below (GC3.out.trans (Gr.un hv7)))
  have R12:=Lib.hid rp8
  have R13:=Lib.hid rq9
  have G14:=Lib.hid (Gr.to G0.out (GC3.out.trans (Gr.un hv7)))
  clear hv7 rp8 rq9
  go_upto_region 4 with fail
  have c0:=(R12.out 0 _ rfl).1
  have d0:=(R13.out 0 _ rfl).1
  have c1:=(R12.out 1 _ rfl).1
  have d1:=(R13.out 1 _ rfl).1
  have c2:=(R12.out 2 _ rfl).1
  have d2:=(R13.out 2 _ rfl).1
  obtain ⟨s,hs⟩ : ∃ x,x = a4 - a1:=⟨_,rfl⟩
  rw [← hs] at c0
  obtain ⟨t,ht⟩ : ∃ x,x = a5 - a2:=⟨_,rfl⟩
  rw [← ht] at c1
  obtain ⟨v0,hv0⟩ : ∃ x,x = x1 - a1:=⟨_,rfl⟩
  rw [← hv0] at d0
  obtain ⟨v1,hv1⟩ : ∃ x,x = x2 - a2:=⟨_,rfl⟩
  rw [← hv1] at d1
  obtain ⟨v2,hv2⟩ : ∃ x,x = x3 - a3:=⟨_,rfl⟩
  rw [← hv2] at d2
  have hb:=Pt.idx_bd HI.out
  have hi:=Pt.inB_true.1 HI.out
  have hx : Pt.idx x1 x2 x3 a1 a2 a3 a4 a5 = (v2 * t + v1) * s + v0:=by rw [hs,ht,hv0,hv1,hv2];rfl
  have hvb:=vol_bd a1 a2 a3 a4 a5 a6 (by omega)
  have h0 : 0 ≤ v2 * t:=Int.mul_nonneg (by omega) (by omega)
  have h1 : v2 * t ≤ 2097150 * 2097150:=Int.mul_le_mul (by omega) (by omega) (by omega) (by omega)
  have h2 : 0 ≤ (v2 * t + v1) * s:=Int.mul_nonneg (by omega) (by omega)
  rw [hx] at hb
  have HX:=Lib.hid hx
  have hb1:=hb.2.1
  have hb2:=hb.2.2.1
  have b0 : 0 ≤ v0:=by omega
  have b1 : 0 ≤ v1 ∧ v1 ≤ 2097150:=by omega
  have hb3 : (v2 * t + v1) * s + v0 ≤ 9223345648600875000:=by omega
  have hb4 : (v2 * t + v1) * s ≤ 9223345648600875000:=by omega
  have hb5 : v2 * t ≤ 4398038122500:=by omega
  clear hb hb2 hvb hi hx hs ht hv0 hv1 hv2 b h1 c2
  go_wp2_with fail
  go_ret
  exact ⟨by rw [HX.out];rfl,G14.out⟩

end Go.Proofs.YtpapbbolefnkmaaDoor
