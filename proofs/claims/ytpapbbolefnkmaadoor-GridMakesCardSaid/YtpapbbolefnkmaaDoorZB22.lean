/-
  Contracts of the specification of package point: the cell with a number.
-/
import Derived.Test.YtpapbbolefnkmaaDoorZB00
import Derived.Test.YtpapbbolefnkmaaDoorZB21
import Derived.Test.YtpapbbolefnkmaaDoorZB07
import Derived.Test.YtpapbbolefnkmaaDoorZB03
import Derived.Handy
import Derived.Laws.StructEq
namespace Go.Proofs.YtpapbbolefnkmaaDoor
open Go.RowKit
set_option linter.unusedVariables false
set_option maxRecDepth 1000000 in
set_option maxHeartbeats 4000000 in
theorem rat_ok (a1 a2 a3 a4 a5 a6 i : Int) (w : World) (b : (-1048575 ≤ a1 ∧ a1 ≤ 1048575) ∧ (-1048575 ≤ a2 ∧ a2 ≤ 1048575) ∧ (-1048575 ≤ a3 ∧ a3 ≤ 1048575) ∧ (-1048575 ≤ a4 ∧ a4 ≤ 1048575) ∧ (-1048575 ≤ a5 ∧ a5 ≤ 1048575) ∧ (-1048575 ≤ a6 ∧ a6 ≤ 1048575)) (h : 0 ≤ i) (h2 : i < Pt.vol a1 a2 a3 a4 a5 a6) (he : Pt.emp a1 a2 a3 a4 a5 a6 = false) :
    Calls Tryd.prog 83 #[.agg #[.int .i64 a1, .int .i64 a2, .int .i64 a3, .int .i64 a4, .int .i64 a5, .int .i64 a6], .int .i64 i] w fun e w'=>e = .returned (.tuple #[.agg #[.int .i64 (a1 + i % (a4 - a1)), .int .i64 (a2 + i / (a4 - a1) % (a5 - a2)), .int .i64 (a3 + i / (a4 - a1) / (a5 - a2))], .bool true]) ∧ Below w.heap.size w w':=by
  have HE:=Lib.hid he
  have hvb:=vol_bd a1 a2 a3 a4 a5 a6 (by omega)
  clear he
  obtain ⟨u,hu,r0,r1,g0⟩:=rows2 w [.int .i64 a1, .int .i64 a2, .int .i64 a3, .int .i64 a4, .int .i64 a5, .int .i64 a6] 25 [.int .i64 0, .int .i64 0, .int .i64 0] 23
  have R0:=Lib.hid r0
  have R1:=Lib.hid r1
  have G0:=Lib.hid g0
  have HU:=Lib.hid hu
  clear hu g0 r0 r1
  go_enter Tryd.func83,Tryd.ntmps83
  go_upto_region 1 with fail
  rw [← HU.out]
  refine wpG_region ?_
  refine wpG_tk (some 7) (v:=.int .i64 i) rfl (.val (by rfl) (fun _ _=>rfl)) ?_
  simp only [Act.put,zA,zB,zC]
  refine wpG_tk (some 8) (v:=.bool false) rfl (.val (by rfl) (fun W hg=>by have hq : ¬ (i < 0):=(by omega);go_simp)) ?_
  simp only [Act.put,zA,zB,zC]
  refine wpG_tk (some 9) (v:=.bool false) rfl (.val (by rfl) (fun _ _=>rfl)) ?_
  simp only [Act.put,zA,zB,zC]
  refine wpG_tk (some 10) (v:=.int .i64 i) rfl (.val (by rfl) (fun _ _=>rfl)) ?_
  simp only [Act.put,zA,zB,zC]
  refine wpG_tk (some 11) (v:=.agg #[.int .i64 a1, .int .i64 a2, .int .i64 a3, .int .i64 a4, .int .i64 a5, .int .i64 a6]) rfl (.load_mid (by rfl) 25 (.tmp 2) rfl (w.heap.size) 0 rfl [.int .i64 a1, .int .i64 a2, .int .i64 a3, .int .i64 a4, .int .i64 a5, .int .i64 a6] _ (fun W hg=>(R0.out.below hg).range) Tryd.underlying25 rfl (by kernel_rfl)) ?_
  simp only [Act.put,zA,zB,zC]
  refine wpG_tk (some 12) (v:=.int .i64 (Pt.vol a1 a2 a3 a4 a5 a6)) rfl (.call (f:=10) (args:=#[.agg #[.int .i64 a1, .int .i64 a2, .int .i64 a3, .int .i64 a4, .int .i64 a5, .int .i64 a6]]) (by rfl) (fun W=>by go_simp) (fun W hg=>rvolume_any a1 a2 a3 a4 a5 a6 W (by omega))) ?_
  simp only [Act.put,zA,zB,zC]
  refine wpG_tk (some 13) (v:=.bool false) rfl (.val (by rfl) (fun W hg=>by have hq : ¬ (i ≥ Pt.vol a1 a2 a3 a4 a5 a6):=(by omega);go_simp)) ?_
  simp only [Act.put,zA,zB,zC]
  refine wpG_tk (some 14) (v:=.bool false) rfl (.val (by rfl) (fun W hg=>by go_simp)) ?_
  simp only [Act.put,zA,zB,zC]
  refine wpG_done (fun V1 hv2=>?_)
  have GC3:=Lib.hid hv2
  clear hv2
  go_upto_region 3 with fail
  refine wpG_region ?_
  refine wpG_tk (some 16) (v:=.agg #[.int .i64 a1, .int .i64 a2, .int .i64 a3, .int .i64 a4, .int .i64 a5, .int .i64 a6]) rfl (.load_mid (by rfl) 25 (.tmp 2) rfl (w.heap.size) 0 rfl [.int .i64 a1, .int .i64 a2, .int .i64 a3, .int .i64 a4, .int .i64 a5, .int .i64 a6] _ (fun W hg=>(R0.out.below (GC3.out.trans hg)).range) Tryd.underlying25 rfl (by kernel_rfl)) ?_
  simp only [Act.put,zA,zB,zC]
  refine wpG_tk (some 17) (v:=.agg #[.int .i64 (a4 - a1), .int .i64 (a5 - a2), .int .i64 (a6 - a3)]) rfl (.call (f:=39) (args:=#[.agg #[.int .i64 a1, .int .i64 a2, .int .i64 a3, .int .i64 a4, .int .i64 a5, .int .i64 a6]]) (by rfl) (fun W=>by go_simp) (fun W hg=>rsize_f a1 a2 a3 a4 a5 a6 W (by omega) HE.out)) ?_
  simp only [Act.put,zA,zB,zC]
  refine wpG_val (some 6) rfl (by rfl) (fun W4 hg5=>⟨.pointer (some ⟨W4.heap.size,0,none⟩),W4.alloc (.cells #[.int .i64 0, .int .i64 0, .int .i64 0] 23),by (go_simp <;> rfl), ?_⟩)
  simp only [Act.put,zA,zB,zC]
  refine wpG_store (none) rfl (by rfl) (fun W6 hg7=>⟨_,run_store_mid 23 (.tmp 6) (.tmp 17) rfl (W4.heap.size) 0 #[.int .i64 (a4 - a1), .int .i64 (a5 - a2), .int .i64 (a6 - a3)] rfl rfl (Row.room hg7 3 rfl) (by kernel_rfl) (by kernel_rfl), ?_⟩)
  simp only [Act.put]
  refine wpG_done (fun V8 hv9=>?_)
  have l11 : w.heap.size < W4.heap.size:=(R0.out.below (GC3.out.trans hg5)).lt
  have l12 : w.heap.size + 1 < W4.heap.size:=(R1.out.below (GC3.out.trans hg5)).lt
  have l13 : w.heap.size ≤ W4.heap.size:=(Gr.to G0.out (GC3.out.trans hg5)).size
  have R14:=Lib.hid ((R0.out.below (GC3.out.trans hg5)).past hg7 hv9)
  have R15:=Lib.hid ((R1.out.below (GC3.out.trans hg5)).past hg7 hv9)
  have R16:=Lib.hid (Row.made (zs:=[.int .i64 0, .int .i64 0, .int .i64 0]) (ds:=[.int .i64 (a4 - a1), .int .i64 (a5 - a2), .int .i64 (a6 - a3)]) rfl hg7 hv9)
  have G10:=Lib.hid (Gr.to (Gr.to G0.out (GC3.out.trans hg5)) (Gr.past hg7 hv9))
  clear hg7 hv9 
  obtain ⟨s,hs⟩ : ∃ x,x = a4 - a1:=⟨_,rfl⟩
  obtain ⟨t,ht⟩ : ∃ x,x = a5 - a2:=⟨_,rfl⟩
  obtain ⟨v,hv⟩ : ∃ x,x = a6 - a3:=⟨_,rfl⟩
  have RS:=R16.out
  rw [← hs,← ht,← hv] at RS
  have RX:=Lib.hid RS
  obtain ⟨m1,m2,m3,m4⟩:=Pt.at_bd (i:=i) HE.out ⟨h,h2⟩
  have hz:=Pt.emp_false.1 HE.out
  simp only [← hs,← ht] at m1 m2 m3 m4
  have hn : (¬ s = 0 ∧ ¬ t = 0) ∧ s ≤ 2097150 ∧ t ≤ 2097150:=by omega
  obtain ⟨⟨n1,n2⟩,n3,n4⟩:=hn
  have HS:=Lib.hid hs
  have HTT:=Lib.hid ht
  clear RS hs ht hv hz HU
  go_upto_region 4 with fail
  have q0 : i.tdiv s = i / s:=Int.tdiv_eq_ediv_of_nonneg (by omega)
  have q1 : i.tmod s = i % s:=Int.tmod_eq_emod_of_nonneg (by omega)
  have q2 : (i / s).tmod t = i / s % t:=Int.tmod_eq_emod_of_nonneg (by omega)
  have q3 : (i / s).tdiv t = i / s / t:=Int.tdiv_eq_ediv_of_nonneg (by omega)
  have e1:=Int.ediv_le_self s h
  have e2:=Int.ediv_le_self t m4
  have q4 : IntKind.i64.wrap (i / s) = i / s:=IntWalk.i64_in _ (by omega)
  have q5 : IntKind.i64.wrap (i / s / t) = i / s / t:=IntWalk.i64_in _ (by omega)
  refine wpK_region (by kernel_rfl) ?_
  refine wpK_ta (i:=0) (some 18) (v:=.pointer (some ⟨w.heap.size,0,none⟩)) rfl rfl (by kernel_rfl) (fun _ _ _ h=>h) (Or.inl ⟨by rfl,fun W=>by go_simp⟩) ?_
  simp only [Act.put,zA,zB,zC]
  refine wpK_tk (i:=1) (some 19) (v:=.agg #[.int .i64 a1, .int .i64 a2, .int .i64 a3]) rfl rfl (by kernel_rfl) (fun _ _ _ h=>h) (.load_mid (by rfl) 23 (.tmp 18) rfl (w.heap.size) 0 rfl [.int .i64 a1, .int .i64 a2, .int .i64 a3] _ (fun W hg=>(R14.out.below (Gr.un hg)).lo) Tryd.underlying23 rfl (by kernel_rfl)) ?_
  simp only [Act.put,zA,zB,zC]
  refine wpK_ta (i:=2) (some 20) (v:=.int .i64 i) rfl rfl (by kernel_rfl) (fun _ _ _ h=>h) (Or.inl ⟨rfl,fun _=>rfl⟩) ?_
  simp only [Act.put,zA,zB,zC]
  refine wpK_ta (i:=3) (some 21) (v:=.pointer (some ⟨W4.heap.size,0,none⟩)) rfl rfl (by kernel_rfl) (fun _ _ _ h=>h) (Or.inl ⟨by rfl,fun W=>by go_simp⟩) ?_
  simp only [Act.put,zA,zB,zC]
  refine wpK_tk (i:=4) (some 22) (v:=.int .i64 s) rfl rfl (by kernel_rfl) (fun _ _ _ h=>h) (.val (by rfl) (fun W hg=>by have c:=(RX.out.below (Gr.un hg) 0 _ rfl).1;go_simp)) ?_
  simp only [Act.put,zA,zB,zC]
  refine wpK_ta (i:=5) (some 23) (v:=.int .i64 (i % s)) rfl rfl (by kernel_rfl) (fun _ _ _ h=>h) (Or.inl ⟨by rfl,fun W=>by go_simp⟩) ?_
  simp only [Act.put,zA,zB,zC]
  refine wpK_ta (i:=6) (some 24) (v:=.int .i64 i) rfl rfl (by kernel_rfl) (fun _ _ _ h=>h) (Or.inl ⟨rfl,fun _=>rfl⟩) ?_
  simp only [Act.put,zA,zB,zC]
  refine wpK_ta (i:=7) (some 25) (v:=.pointer (some ⟨W4.heap.size,0,none⟩)) rfl rfl (by kernel_rfl) (fun _ _ _ h=>h) (Or.inl ⟨by rfl,fun W=>by go_simp⟩) ?_
  simp only [Act.put,zA,zB,zC]
  refine wpK_tk (i:=8) (some 26) (v:=.int .i64 s) rfl rfl (by kernel_rfl) (fun _ _ _ h=>h) (.val (by rfl) (fun W hg=>by have c:=(RX.out.below (Gr.un hg) 0 _ rfl).1;go_simp)) ?_
  simp only [Act.put,zA,zB,zC]
  refine wpK_ta (i:=9) (some 27) (v:=.int .i64 (i / s)) rfl rfl (by kernel_rfl) (fun _ _ _ h=>h) (Or.inl ⟨by rfl,fun W=>by go_simp⟩) ?_
  simp only [Act.put,zA,zB,zC]
  refine wpK_ta (i:=10) (some 28) (v:=.pointer (some ⟨W4.heap.size,1,none⟩)) rfl rfl (by kernel_rfl) (fun _ _ _ h=>h) (Or.inl ⟨by rfl,fun W=>by go_simp⟩) ?_
  simp only [Act.put,zA,zB,zC]
  refine wpK_tk (i:=11) (some 29) (v:=.int .i64 t) rfl rfl (by kernel_rfl) (fun _ _ _ h=>h) (.val (by rfl) (fun W hg=>by have c:=(RX.out.below (Gr.un hg) 1 _ rfl).1;go_simp)) ?_
  simp only [Act.put,zA,zB,zC]
  refine wpK_ta (i:=12) (some 30) (v:=.int .i64 (i / s % t)) rfl rfl (by kernel_rfl) (fun _ _ _ h=>h) (Or.inl ⟨by rfl,fun W=>by go_simp⟩) ?_
  simp only [Act.put,zA,zB,zC]
  refine wpK_ta (i:=13) (some 31) (v:=.int .i64 i) rfl rfl (by kernel_rfl) (fun _ _ _ h=>h) (Or.inl ⟨rfl,fun _=>rfl⟩) ?_
  simp only [Act.put,zA,zB,zC]
  refine wpK_ta (i:=14) (some 32) (v:=.pointer (some ⟨W4.heap.size,0,none⟩)) rfl rfl (by kernel_rfl) (fun _ _ _ h=>h) (Or.inl ⟨by rfl,fun W=>by go_simp⟩) ?_
  simp only [Act.put,zA,zB,zC]
  refine wpK_tk (i:=15) (some 33) (v:=.int .i64 s) rfl rfl (by kernel_rfl) (fun _ _ _ h=>h) (.val (by rfl) (fun W hg=>by have c:=(RX.out.below (Gr.un hg) 0 _ rfl).1;go_simp)) ?_
  simp only [Act.put,zA,zB,zC]
  refine wpK_ta (i:=16) (some 34) (v:=.int .i64 (i / s)) rfl rfl (by kernel_rfl) (fun _ _ _ h=>h) (Or.inl ⟨by rfl,fun W=>by go_simp⟩) ?_
  simp only [Act.put,zA,zB,zC]
  refine wpK_ta (i:=17) (some 35) (v:=.pointer (some ⟨W4.heap.size,1,none⟩)) rfl rfl (by kernel_rfl) (fun _ _ _ h=>h) (Or.inl ⟨by rfl,fun W=>by go_simp⟩) ?_
  simp only [Act.put,zA,zB,zC]
  refine wpK_tk (i:=18) (some 36) (v:=.int .i64 t) rfl rfl (by kernel_rfl) (fun _ _ _ h=>h) (.val (by rfl) (fun W hg=>by have c:=(RX.out.below (Gr.un hg) 1 _ rfl).1;go_simp)) ?_
  simp only [Act.put,zA,zB,zC]
  refine wpK_ta (i:=19) (some 37) (v:=.int .i64 (i / s / t)) rfl rfl (by kernel_rfl) (fun _ _ _ h=>h) (Or.inl ⟨by rfl,fun W=>by go_simp⟩) ?_
  simp only [Act.put,zA,zB,zC]
  refine wpK_ta (i:=20) (some 38) (v:=.agg #[.int .i64 (i % s), .int .i64 (i / s % t), .int .i64 (i / s / t)]) rfl rfl (by kernel_rfl) (fun _ _ _ h=>h) (Or.inl ⟨by rfl,fun W=>by go_simp⟩) ?_
  simp only [Act.put,zA,zB,zC]
  refine wpK_tk (i:=21) (some 39) (v:=.agg #[.int .i64 (a1 + (i % s)), .int .i64 (a2 + (i / s % t)), .int .i64 (a3 + (i / s / t))]) rfl rfl (by kernel_rfl) (fun _ _ _ h=>h) (.call (f:=104) (args:=#[.agg #[.int .i64 a1, .int .i64 a2, .int .i64 a3], .agg #[.int .i64 (i % s), .int .i64 (i / s % t), .int .i64 (i / s / t)]]) (by rfl) (fun W=>by go_simp) (fun W hg=>radd_any a1 a2 a3 (i % s) (i / s % t) (i / s / t) W (by omega))) ?_
  simp only [Act.put,zA,zB,zC]
  refine wpK_store (i:=22) (none) rfl rfl (by kernel_rfl) (by rfl) (by rfl) (fun W17 hg18=>⟨_,run_store_mid 23 (.tmp 4) (.tmp 39) rfl (w.heap.size + 1) 0 #[.int .i64 (a1 + (i % s)), .int .i64 (a2 + (i / s % t)), .int .i64 (a3 + (i / s / t))] rfl rfl (((R15.out.below (Gr.un hg18)).there 0 3 (by decide))) (by kernel_rfl) (by kernel_rfl), ?_⟩)
  simp only [Act.put]
  refine wpK_ta (i:=23) (some 5) (v:=.bool true) rfl rfl (by kernel_rfl) (fun _ _ _ h=>h) (Or.inl ⟨rfl,fun _=>rfl⟩) ?_
  simp only [Act.put,zA,zB,zC]
  refine wpK_done (by kernel_rfl) (fun V19 hv20=>?_) _
  have R22:=Lib.hid (Row.put (ds:=[.int .i64 (a1 + (i % s)), .int .i64 (a2 + (i / s % t)), .int .i64 (a3 + (i / s / t))]) R15.out (Gr.un hg18) rfl hv20)
  have G21:=Lib.hid (Gr.put G10.out (Gr.un hg18) (by omega) hv20)
  go_wp2_with fail
  refine bodyPost_ret (results_cell_tmp rfl _ _ _ (w.heap.size + 1) 0 [.int .i64 (a1 + (i % s)), .int .i64 (a2 + (i / s % t)), .int .i64 (a3 + (i / s / t))] _ rfl R22.out.range Tryd.underlying23 rfl (by kernel_rfl)) rfl ?_
  exact ⟨by rw [← HS.out,← HTT.out];rfl,G21.out⟩

end Go.Proofs.YtpapbbolefnkmaaDoor
