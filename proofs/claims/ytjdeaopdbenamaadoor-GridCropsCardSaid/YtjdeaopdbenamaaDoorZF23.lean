/-
  Contracts of the specification of package point: those with calls.
-/
import Derived.Test.YtjdeaopdbenamaaDoorZF00
import Derived.Test.YtjdeaopdbenamaaDoorZF18
import Derived.Test.YtjdeaopdbenamaaDoorZF06
import Derived.Test.YtjdeaopdbenamaaDoorZF07
import Derived.Test.YtjdeaopdbenamaaDoorZF03
import Derived.Handy
import Derived.Laws.StructEq
namespace Go.Proofs.YtjdeaopdbenamaaDoor
open Go.RowKit
set_option linter.unusedVariables false
set_option maxRecDepth 1000000 in
set_option maxHeartbeats 4000000 in
theorem rinter_t (a1 a2 a3 a4 a5 a6 b1 b2 b3 b4 b5 b6 : Int) (w : World) (b : (-2097152 ≤ a1 ∧ a1 ≤ 2097152) ∧ (-2097152 ≤ a2 ∧ a2 ≤ 2097152) ∧ (-2097152 ≤ a3 ∧ a3 ≤ 2097152) ∧ (-2097152 ≤ a4 ∧ a4 ≤ 2097152) ∧ (-2097152 ≤ a5 ∧ a5 ≤ 2097152) ∧ (-2097152 ≤ a6 ∧ a6 ≤ 2097152) ∧ (-2097152 ≤ b1 ∧ b1 ≤ 2097152) ∧ (-2097152 ≤ b2 ∧ b2 ≤ 2097152) ∧ (-2097152 ≤ b3 ∧ b3 ≤ 2097152) ∧ (-2097152 ≤ b4 ∧ b4 ≤ 2097152) ∧ (-2097152 ≤ b5 ∧ b5 ≤ 2097152) ∧ (-2097152 ≤ b6 ∧ b6 ≤ 2097152)) (h : Pt.meet a1 a2 a3 a4 a5 a6 b1 b2 b3 b4 b5 b6 = true) :
    Calls Tryd.prog 74 #[.agg #[a1, a2, a3, a4, a5, a6], .agg #[b1, b2, b3, b4, b5, b6]] w fun e w'=>e = .returned (.agg #[(), (), (), (), (), ()]) ∧ Below w.heap.size w w':=by
  have HE:=Lib.hid h
  unfold Pt.meet at HE
  clear h
  obtain ⟨u,hu,r0,r1,r2,g0⟩:=rows3 w [.int .i64 a1, .int .i64 a2, .int .i64 a3, .int .i64 a4, .int .i64 a5, .int .i64 a6] 25 [.int .i64 b1, .int .i64 b2, .int .i64 b3, .int .i64 b4, .int .i64 b5, .int .i64 b6] 25 [.int .i64 0, .int .i64 0, .int .i64 0, .int .i64 0, .int .i64 0, .int .i64 0] 25
  have R0:=Lib.hid r0
  have R1:=Lib.hid r1
  have R2:=Lib.hid r2
  have G0:=Lib.hid g0
  have HU:=Lib.hid hu
  clear hu g0 r0 r1 r2
  go_enter Tryd.func74,Tryd.ntmps74
  go_upto_region 1 with fail
  rw [← HU.out]
  refine wpG_region ?_
  refine wpG_tk (some 12) (v:=.pointer (some ⟨w.heap.size,0,none⟩)) rfl (.val (by rfl) (fun W hg=>by go_simp)) ?_
  simp only [Act.put,List.setIfInBounds_toArray,List.set_cons_zero,List.set_cons_succ]
  refine wpG_tk (some 13) (v:=.agg #[a1, a2, a3]) rfl (.load_mid (by rfl) 23 (.tmp 12) rfl (w.heap.size) 0 rfl [.int .i64 a1, .int .i64 a2, .int .i64 a3] _ (fun W hg=>(R0.out.below hg).lo) Tryd.underlying23 rfl (by kernel_rfl)) ?_
  simp only [Act.put,List.setIfInBounds_toArray,List.set_cons_zero,List.set_cons_succ]
  refine wpG_tk (some 14) (v:=.agg #[a1, a2, a3]) rfl (.call (f:=95) (args:=#[.agg #[a1, a2, a3]]) (by rfl) (fun W=>by go_simp) (fun W hg=>rlist_any a1 a2 a3 W)) ?_
  simp only [Act.put,List.setIfInBounds_toArray,List.set_cons_zero,List.set_cons_succ]
  refine wpG_val (some 5) rfl (by rfl) (fun W1 hg2=>⟨.pointer (some ⟨W1.heap.size,0,none⟩),W1.alloc (.cells #[(), (), ()] 80),by (go_simp <;> rfl), ?_⟩)
  simp only [Act.put,List.setIfInBounds_toArray,List.set_cons_zero,List.set_cons_succ]
  refine wpG_store (none) rfl (by rfl) (fun W3 hg4=>⟨_,run_store_mid 80 (.tmp 5) (.tmp 14) rfl (W1.heap.size) 0 #[a1, a2, a3] rfl rfl (Row.room hg4 3 rfl) (by kernel_rfl) (by kernel_rfl), ?_⟩)
  simp only [Act.put]
  refine wpG_done (fun V5 hv6=>?_)
  have l8 : w.heap.size < W1.heap.size:=(R0.out.below hg2).lt
  have l9 : w.heap.size + 1 < W1.heap.size:=(R1.out.below hg2).lt
  have l10 : w.heap.size + 1 + 1 < W1.heap.size:=(R2.out.below hg2).lt
  have l11 : w.heap.size ≤ W1.heap.size:=(Gr.to G0.out hg2).size
  have R12:=Lib.hid ((R0.out.below hg2).past hg4 hv6)
  have R13:=Lib.hid ((R1.out.below hg2).past hg4 hv6)
  have R14:=Lib.hid ((R2.out.below hg2).past hg4 hv6)
  have R15:=Lib.hid (Row.made (zs:=[.int .i64 0, .int .i64 0, .int .i64 0]) (ds:=[.int .i64 a1, .int .i64 a2, .int .i64 a3]) rfl hg4 hv6)
  have G7:=Lib.hid (Gr.to (Gr.to G0.out hg2) (Gr.past hg4 hv6))
  clear hg4 hv6 
  go_upto_region 2 with fail
  refine wpG_region ?_
  refine wpG_tk (some 15) (v:=.pointer (some ⟨w.heap.size,3,none⟩)) rfl (.val (by rfl) (fun W hg=>by go_simp)) ?_
  simp only [Act.put,List.setIfInBounds_toArray,List.set_cons_zero,List.set_cons_succ]
  refine wpG_tk (some 16) (v:=.agg #[a4, a5, a6]) rfl (.load_mid (by rfl) 23 (.tmp 15) rfl (w.heap.size) 3 rfl [.int .i64 a4, .int .i64 a5, .int .i64 a6] _ (fun W hg=>(R12.out.below hg).hi) Tryd.underlying23 rfl (by kernel_rfl)) ?_
  simp only [Act.put,List.setIfInBounds_toArray,List.set_cons_zero,List.set_cons_succ]
  refine wpG_tk (some 17) (v:=.agg #[a4, a5, a6]) rfl (.call (f:=95) (args:=#[.agg #[a4, a5, a6]]) (by rfl) (fun W=>by go_simp) (fun W hg=>rlist_any a4 a5 a6 W)) ?_
  simp only [Act.put,List.setIfInBounds_toArray,List.set_cons_zero,List.set_cons_succ]
  refine wpG_val (some 6) rfl (by rfl) (fun W16 hg17=>⟨.pointer (some ⟨W16.heap.size,0,none⟩),W16.alloc (.cells #[(), (), ()] 80),by (go_simp <;> rfl), ?_⟩)
  simp only [Act.put,List.setIfInBounds_toArray,List.set_cons_zero,List.set_cons_succ]
  refine wpG_store (none) rfl (by rfl) (fun W18 hg19=>⟨_,run_store_mid 80 (.tmp 6) (.tmp 17) rfl (W16.heap.size) 0 #[a4, a5, a6] rfl rfl (Row.room hg19 3 rfl) (by kernel_rfl) (by kernel_rfl), ?_⟩)
  simp only [Act.put]
  refine wpG_done (fun V20 hv21=>?_)
  have l23 : w.heap.size < W16.heap.size:=(R12.out.below hg17).lt
  have l24 : w.heap.size + 1 < W16.heap.size:=(R13.out.below hg17).lt
  have l25 : w.heap.size + 1 + 1 < W16.heap.size:=(R14.out.below hg17).lt
  have l26 : W1.heap.size < W16.heap.size:=(R15.out.below hg17).lt
  have l27 : w.heap.size ≤ W16.heap.size:=(Gr.to G7.out hg17).size
  have R28:=Lib.hid ((R12.out.below hg17).past hg19 hv21)
  have R29:=Lib.hid ((R13.out.below hg17).past hg19 hv21)
  have R30:=Lib.hid ((R14.out.below hg17).past hg19 hv21)
  have R31:=Lib.hid ((R15.out.below hg17).past hg19 hv21)
  have R32:=Lib.hid (Row.made (zs:=[.int .i64 0, .int .i64 0, .int .i64 0]) (ds:=[.int .i64 a4, .int .i64 a5, .int .i64 a6]) rfl hg19 hv21)
  have G22:=Lib.hid (Gr.to (Gr.to G7.out hg17) (Gr.past hg19 hv21))
  clear hg19 hv21 
  go_upto_region 3 with fail
  refine wpG_region ?_
  refine wpG_tk (some 18) (v:=.pointer (some ⟨w.heap.size + 1,0,none⟩)) rfl (.val (by rfl) (fun W hg=>by go_simp)) ?_
  simp only [Act.put,List.setIfInBounds_toArray,List.set_cons_zero,List.set_cons_succ]
  refine wpG_tk (some 19) (v:=.agg #[b1, b2, b3]) rfl (.load_mid (by rfl) 23 (.tmp 18) rfl (w.heap.size + 1) 0 rfl [.int .i64 b1, .int .i64 b2, .int .i64 b3] _ (fun W hg=>(R29.out.below hg).lo) Tryd.underlying23 rfl (by kernel_rfl)) ?_
  simp only [Act.put,List.setIfInBounds_toArray,List.set_cons_zero,List.set_cons_succ]
  refine wpG_tk (some 20) (v:=.agg #[b1, b2, b3]) rfl (.call (f:=95) (args:=#[.agg #[b1, b2, b3]]) (by rfl) (fun W=>by go_simp) (fun W hg=>rlist_any b1 b2 b3 W)) ?_
  simp only [Act.put,List.setIfInBounds_toArray,List.set_cons_zero,List.set_cons_succ]
  refine wpG_val (some 7) rfl (by rfl) (fun W33 hg34=>⟨.pointer (some ⟨W33.heap.size,0,none⟩),W33.alloc (.cells #[(), (), ()] 80),by (go_simp <;> rfl), ?_⟩)
  simp only [Act.put,List.setIfInBounds_toArray,List.set_cons_zero,List.set_cons_succ]
  refine wpG_store (none) rfl (by rfl) (fun W35 hg36=>⟨_,run_store_mid 80 (.tmp 7) (.tmp 20) rfl (W33.heap.size) 0 #[b1, b2, b3] rfl rfl (Row.room hg36 3 rfl) (by kernel_rfl) (by kernel_rfl), ?_⟩)
  simp only [Act.put]
  refine wpG_done (fun V37 hv38=>?_)
  have l40 : w.heap.size < W33.heap.size:=(R28.out.below hg34).lt
  have l41 : w.heap.size + 1 < W33.heap.size:=(R29.out.below hg34).lt
  have l42 : w.heap.size + 1 + 1 < W33.heap.size:=(R30.out.below hg34).lt
  have l43 : W1.heap.size < W33.heap.size:=(R31.out.below hg34).lt
  have l44 : W16.heap.size < W33.heap.size:=(R32.out.below hg34).lt
  have l45 : w.heap.size ≤ W33.heap.size:=(Gr.to G22.out hg34).size
  have R46:=Lib.hid ((R28.out.below hg34).past hg36 hv38)
  have R47:=Lib.hid ((R29.out.below hg34).past hg36 hv38)
  have R48:=Lib.hid ((R30.out.below hg34).past hg36 hv38)
  have R49:=Lib.hid ((R31.out.below hg34).past hg36 hv38)
  have R50:=Lib.hid ((R32.out.below hg34).past hg36 hv38)
  have R51:=Lib.hid (Row.made (zs:=[.int .i64 0, .int .i64 0, .int .i64 0]) (ds:=[.int .i64 b1, .int .i64 b2, .int .i64 b3]) rfl hg36 hv38)
  have G39:=Lib.hid (Gr.to (Gr.to G22.out hg34) (Gr.past hg36 hv38))
  clear hg36 hv38 
  go_upto_region 4 with fail
  refine wpG_region ?_
  refine wpG_tk (some 21) (v:=.pointer (some ⟨w.heap.size + 1,3,none⟩)) rfl (.val (by rfl) (fun W hg=>by go_simp)) ?_
  simp only [Act.put,List.setIfInBounds_toArray,List.set_cons_zero,List.set_cons_succ]
  refine wpG_tk (some 22) (v:=.agg #[b4, b5, b6]) rfl (.load_mid (by rfl) 23 (.tmp 21) rfl (w.heap.size + 1) 3 rfl [.int .i64 b4, .int .i64 b5, .int .i64 b6] _ (fun W hg=>(R47.out.below hg).hi) Tryd.underlying23 rfl (by kernel_rfl)) ?_
  simp only [Act.put,List.setIfInBounds_toArray,List.set_cons_zero,List.set_cons_succ]
  refine wpG_tk (some 23) (v:=.agg #[b4, b5, b6]) rfl (.call (f:=95) (args:=#[.agg #[b4, b5, b6]]) (by rfl) (fun W=>by go_simp) (fun W hg=>rlist_any b4 b5 b6 W)) ?_
  simp only [Act.put,List.setIfInBounds_toArray,List.set_cons_zero,List.set_cons_succ]
  refine wpG_val (some 8) rfl (by rfl) (fun W52 hg53=>⟨.pointer (some ⟨W52.heap.size,0,none⟩),W52.alloc (.cells #[(), (), ()] 80),by (go_simp <;> rfl), ?_⟩)
  simp only [Act.put,List.setIfInBounds_toArray,List.set_cons_zero,List.set_cons_succ]
  refine wpG_store (none) rfl (by rfl) (fun W54 hg55=>⟨_,run_store_mid 80 (.tmp 8) (.tmp 23) rfl (W52.heap.size) 0 #[b4, b5, b6] rfl rfl (Row.room hg55 3 rfl) (by kernel_rfl) (by kernel_rfl), ?_⟩)
  simp only [Act.put]
  refine wpG_done (fun V56 hv57=>?_)
  have l59 : w.heap.size < W52.heap.size:=(R46.out.below hg53).lt
  have l60 : w.heap.size + 1 < W52.heap.size:=(R47.out.below hg53).lt
  have l61 : w.heap.size + 1 + 1 < W52.heap.size:=(R48.out.below hg53).lt
  have l62 : W1.heap.size < W52.heap.size:=(R49.out.below hg53).lt
  have l63 : W16.heap.size < W52.heap.size:=(R50.out.below hg53).lt
  have l64 : W33.heap.size < W52.heap.size:=(R51.out.below hg53).lt
  have l65 : w.heap.size ≤ W52.heap.size:=(Gr.to G39.out hg53).size
  have R66:=Lib.hid ((R46.out.below hg53).past hg55 hv57)
  have R67:=Lib.hid ((R47.out.below hg53).past hg55 hv57)
  have R68:=Lib.hid ((R48.out.below hg53).past hg55 hv57)
  have R69:=Lib.hid ((R49.out.below hg53).past hg55 hv57)
  have R70:=Lib.hid ((R50.out.below hg53).past hg55 hv57)
  have R71:=Lib.hid ((R51.out.below hg53).past hg55 hv57)
  have R72:=Lib.hid (Row.made (zs:=[.int .i64 0, .int .i64 0, .int .i64 0]) (ds:=[.int .i64 b4, .int .i64 b5, .int .i64 b6]) rfl hg55 hv57)
  have G58:=Lib.hid (Gr.to (Gr.to G39.out hg53) (Gr.past hg55 hv57))
  clear hg55 hv57 
  go_upto_region 5 with fail
  refine wpG_region ?_
  refine wpG_tk (some 9) (v:=()) rfl (.val (by rfl) (fun _ _=>rfl)) ?_
  simp only [Act.put,List.setIfInBounds_toArray,List.set_cons_zero,List.set_cons_succ]
  refine wpG_done (fun V73 hv74=>?_)
  have GC75:=Lib.hid hv74
  clear hv74
  go_wp2_with fail
  refine wp_loop_rounds 4 ?_
  rw [rounds_succ]
  go_upto_region 6 with fail
  refine wpG_region ?_
  refine wpG_tk (some 24) (v:=()) rfl (.val (by rfl) (fun _ _=>rfl)) ?_
  simp only [Act.put,List.setIfInBounds_toArray,List.set_cons_zero,List.set_cons_succ]
  refine wpG_tk (some 25) (v:=.bool true) rfl (.val (by rfl) (fun W hg=>by go_simp)) ?_
  simp only [Act.put,List.setIfInBounds_toArray,List.set_cons_zero,List.set_cons_succ]
  refine wpG_done (fun V76 hv77=>?_)
  have GC78:=Lib.hid (GC75.out.trans hv77)
  clear hv77
  go_upto_region 8 with fail
  refine wpK_region (by kernel_rfl) ?_
  refine wpK_ta (i:=0) (some 28) (v:=()) rfl rfl (by kernel_rfl) (fun _ _ _ h=>h) (Or.inl ⟨rfl,fun _=>rfl⟩) ?_
  simp only [Act.put,List.setIfInBounds_toArray,List.set_cons_zero,List.set_cons_succ]
  refine wpK_ta (i:=1) (some 29) (v:=()) rfl rfl (by kernel_rfl) (fun _ _ _ h=>h) (Or.inl ⟨rfl,fun _=>rfl⟩) ?_
  simp only [Act.put,List.setIfInBounds_toArray,List.set_cons_zero,List.set_cons_succ]
  refine wpK_ta (i:=2) (some 30) (v:=.pointer (some ⟨W1.heap.size,0,none⟩)) rfl rfl (by kernel_rfl) (fun _ _ _ h=>h) (Or.inl ⟨by rfl,fun W=>by go_simp⟩) ?_
  simp only [Act.put,List.setIfInBounds_toArray,List.set_cons_zero,List.set_cons_succ]
  refine wpK_tk (i:=3) (some 31) (v:=a1) rfl rfl (by kernel_rfl) (fun _ _ _ h=>h) (.val (by rfl) (fun W hg=>by have c:=(R69.out.below (GC78.out.trans (Gr.un hg)) 0 _ rfl).1;go_simp)) ?_
  simp only [Act.put,List.setIfInBounds_toArray,List.set_cons_zero,List.set_cons_succ]
  refine wpK_ta (i:=4) (some 32) (v:=()) rfl rfl (by kernel_rfl) (fun _ _ _ h=>h) (Or.inl ⟨rfl,fun _=>rfl⟩) ?_
  simp only [Act.put,List.setIfInBounds_toArray,List.set_cons_zero,List.set_cons_succ]
  refine wpK_ta (i:=5) (some 33) (v:=.pointer (some ⟨W33.heap.size,0,none⟩)) rfl rfl (by kernel_rfl) (fun _ _ _ h=>h) (Or.inl ⟨by rfl,fun W=>by go_simp⟩) ?_
  simp only [Act.put,List.setIfInBounds_toArray,List.set_cons_zero,List.set_cons_succ]
  refine wpK_tk (i:=6) (some 34) (v:=b1) rfl rfl (by kernel_rfl) (fun _ _ _ h=>h) (.val (by rfl) (fun W hg=>by have c:=(R71.out.below (GC78.out.trans (Gr.un hg)) 0 _ rfl).1;go_simp)) ?_
  simp only [Act.put,List.setIfInBounds_toArray,List.set_cons_zero,List.set_cons_succ]
  refine wpK_ta (i:=7) (some 35) (v:=(max a1 b1:Int)) rfl rfl (by kernel_rfl) (fun _ _ _ h=>h) (Or.inl ⟨by rfl,fun W=>by (go_simp <;> (repeat' split) <;> omega)⟩) ?_
  simp only [Act.put,List.setIfInBounds_toArray,List.set_cons_zero,List.set_cons_succ]
  refine wpK_ta (i:=8) (some 36) (v:=.pointer (some ⟨W1.heap.size,0,none⟩)) rfl rfl (by kernel_rfl) (fun _ _ _ h=>h) (Or.inl ⟨by rfl,fun W=>by go_simp⟩) ?_
  simp only [Act.put,List.setIfInBounds_toArray,List.set_cons_zero,List.set_cons_succ]
  refine wpK_store (i:=9) (none) rfl rfl (by kernel_rfl) (by rfl) (by rfl) (fun W79 hg80=>⟨W79.setCell ⟨W1.heap.size,0,none⟩ (max a1 b1:Int),by have c:=(R69.out.below (GC78.out.trans (Gr.un hg80))).cellx 0 _ rfl;have c2:=(R69.out.below (GC78.out.trans (Gr.un hg80))).softx 0 _ rfl;go_simp, ?_⟩)
  simp only [Act.put]
  refine wpK_done (by kernel_rfl) (fun V81 hv82=>?_) _
  have R84:=Lib.hid (((R66.out.below (GC78.out.trans (Gr.un hg80))).far (b:=W1.heap.size) (by omega) 0 [.int .i64 (max a1 b1)]).below hv82)
  have R85:=Lib.hid (((R67.out.below (GC78.out.trans (Gr.un hg80))).far (b:=W1.heap.size) (by omega) 0 [.int .i64 (max a1 b1)]).below hv82)
  have R86:=Lib.hid (((R68.out.below (GC78.out.trans (Gr.un hg80))).far (b:=W1.heap.size) (by omega) 0 [.int .i64 (max a1 b1)]).below hv82)
  have R87:=Lib.hid (((R70.out.below (GC78.out.trans (Gr.un hg80))).far (b:=W1.heap.size) (by omega) 0 [.int .i64 (max a1 b1)]).below hv82)
  have R88:=Lib.hid (((R71.out.below (GC78.out.trans (Gr.un hg80))).far (b:=W1.heap.size) (by omega) 0 [.int .i64 (max a1 b1)]).below hv82)
  have R89:=Lib.hid (((R72.out.below (GC78.out.trans (Gr.un hg80))).far (b:=W1.heap.size) (by omega) 0 [.int .i64 (max a1 b1)]).below hv82)
  have R90 : Hid (Row W1.heap.size [.int .i64 (max a1 b1), .int .i64 a2, .int .i64 a3] V81):=Lib.hid (((R69.out.below (GC78.out.trans (Gr.un hg80))).set 0 (max a1 b1:Int) (by simp)).below hv82)
  have G83:=Lib.hid (Gr.put1 G58.out (GC78.out.trans (Gr.un hg80)) (by omega) hv82)
  clear hg80 hv82
  go_upto_region 9 with fail
  refine wpK_region (by kernel_rfl) ?_
  refine wpK_ta (i:=0) (some 37) (v:=()) rfl rfl (by kernel_rfl) (fun _ _ _ h=>h) (Or.inl ⟨rfl,fun _=>rfl⟩) ?_
  simp only [Act.put,List.setIfInBounds_toArray,List.set_cons_zero,List.set_cons_succ]
  refine wpK_ta (i:=1) (some 38) (v:=()) rfl rfl (by kernel_rfl) (fun _ _ _ h=>h) (Or.inl ⟨rfl,fun _=>rfl⟩) ?_
  simp only [Act.put,List.setIfInBounds_toArray,List.set_cons_zero,List.set_cons_succ]
  refine wpK_ta (i:=2) (some 39) (v:=.pointer (some ⟨W16.heap.size,0,none⟩)) rfl rfl (by kernel_rfl) (fun _ _ _ h=>h) (Or.inl ⟨by rfl,fun W=>by go_simp⟩) ?_
  simp only [Act.put,List.setIfInBounds_toArray,List.set_cons_zero,List.set_cons_succ]
  refine wpK_tk (i:=3) (some 40) (v:=a4) rfl rfl (by kernel_rfl) (fun _ _ _ h=>h) (.val (by rfl) (fun W hg=>by have c:=(R87.out.below (Gr.un hg) 0 _ rfl).1;go_simp)) ?_
  simp only [Act.put,List.setIfInBounds_toArray,List.set_cons_zero,List.set_cons_succ]
  refine wpK_ta (i:=4) (some 41) (v:=()) rfl rfl (by kernel_rfl) (fun _ _ _ h=>h) (Or.inl ⟨rfl,fun _=>rfl⟩) ?_
  simp only [Act.put,List.setIfInBounds_toArray,List.set_cons_zero,List.set_cons_succ]
  refine wpK_ta (i:=5) (some 42) (v:=.pointer (some ⟨W52.heap.size,0,none⟩)) rfl rfl (by kernel_rfl) (fun _ _ _ h=>h) (Or.inl ⟨by rfl,fun W=>by go_simp⟩) ?_
  simp only [Act.put,List.setIfInBounds_toArray,List.set_cons_zero,List.set_cons_succ]
  refine wpK_tk (i:=6) (some 43) (v:=b4) rfl rfl (by kernel_rfl) (fun _ _ _ h=>h) (.val (by rfl) (fun W hg=>by have c:=(R89.out.below (Gr.un hg) 0 _ rfl).1;go_simp)) ?_
  simp only [Act.put,List.setIfInBounds_toArray,List.set_cons_zero,List.set_cons_succ]
  refine wpK_ta (i:=7) (some 44) (v:=(min a4 b4:Int)) rfl rfl (by kernel_rfl) (fun _ _ _ h=>h) (Or.inl ⟨by rfl,fun W=>by (go_simp <;> (repeat' split) <;> omega)⟩) ?_
  simp only [Act.put,List.setIfInBounds_toArray,List.set_cons_zero,List.set_cons_succ]
  refine wpK_ta (i:=8) (some 45) (v:=.pointer (some ⟨W16.heap.size,0,none⟩)) rfl rfl (by kernel_rfl) (fun _ _ _ h=>h) (Or.inl ⟨by rfl,fun W=>by go_simp⟩) ?_
  simp only [Act.put,List.setIfInBounds_toArray,List.set_cons_zero,List.set_cons_succ]
  refine wpK_store (i:=9) (none) rfl rfl (by kernel_rfl) (by rfl) (by rfl) (fun W91 hg92=>⟨W91.setCell ⟨W16.heap.size,0,none⟩ (min a4 b4:Int),by have c:=(R87.out.below (Gr.un hg92)).cellx 0 _ rfl;have c2:=(R87.out.below (Gr.un hg92)).softx 0 _ rfl;go_simp, ?_⟩)
  simp only [Act.put]
  refine wpK_done (by kernel_rfl) (fun V93 hv94=>?_) _
  have R96:=Lib.hid (((R84.out.below (Gr.un hg92)).far (b:=W16.heap.size) (by omega) 0 [.int .i64 (min a4 b4)]).below hv94)
  have R97:=Lib.hid (((R85.out.below (Gr.un hg92)).far (b:=W16.heap.size) (by omega) 0 [.int .i64 (min a4 b4)]).below hv94)
  have R98:=Lib.hid (((R86.out.below (Gr.un hg92)).far (b:=W16.heap.size) (by omega) 0 [.int .i64 (min a4 b4)]).below hv94)
  have R99:=Lib.hid (((R90.out.below (Gr.un hg92)).far (b:=W16.heap.size) (by omega) 0 [.int .i64 (min a4 b4)]).below hv94)
  have R100:=Lib.hid (((R88.out.below (Gr.un hg92)).far (b:=W16.heap.size) (by omega) 0 [.int .i64 (min a4 b4)]).below hv94)
  have R101:=Lib.hid (((R89.out.below (Gr.un hg92)).far (b:=W16.heap.size) (by omega) 0 [.int .i64 (min a4 b4)]).below hv94)
  have R102 : Hid (Row W16.heap.size [.int .i64 (min a4 b4), .int .i64 a5, .int .i64 a6] V93):=Lib.hid (((R87.out.below (Gr.un hg92)).set 0 (min a4 b4:Int) (by simp)).below hv94)
  have G95:=Lib.hid (Gr.put1 G83.out (Gr.un hg92) (by omega) hv94)
  clear hg92 hv94
  go_upto_region 7 with fail
  refine wpG_region ?_
  refine wpG_tk (some 26) (v:=()) rfl (.val (by rfl) (fun _ _=>rfl)) ?_
  simp only [Act.put,List.setIfInBounds_toArray,List.set_cons_zero,List.set_cons_succ]
  refine wpG_tk (some 27) (v:=.int .i64 1) rfl (.val (by rfl) (fun W hg=>by go_simp <;> rfl)) ?_
  simp only [Act.put,List.setIfInBounds_toArray,List.set_cons_zero,List.set_cons_succ]
  refine wpG_tk (some 9) (v:=.int .i64 1) rfl (.val (by rfl) (fun _ _=>rfl)) ?_
  simp only [Act.put,List.setIfInBounds_toArray,List.set_cons_zero,List.set_cons_succ]
  refine wpG_done (fun V103 hv104=>?_)
  have GC105:=Lib.hid hv104
  clear hv104
  go_wp2_with fail
  rw [rounds_succ]
  go_upto_region 6 with fail
  refine wpG_region ?_
  refine wpG_tk (some 24) (v:=.int .i64 1) rfl (.val (by rfl) (fun _ _=>rfl)) ?_
  simp only [Act.put,List.setIfInBounds_toArray,List.set_cons_zero,List.set_cons_succ]
  refine wpG_tk (some 25) (v:=.bool true) rfl (.val (by rfl) (fun W hg=>by go_simp)) ?_
  simp only [Act.put,List.setIfInBounds_toArray,List.set_cons_zero,List.set_cons_succ]
  refine wpG_done (fun V106 hv107=>?_)
  have GC108:=Lib.hid (GC105.out.trans hv107)
  clear hv107
  go_upto_region 8 with fail
  refine wpK_region (by kernel_rfl) ?_
  refine wpK_ta (i:=0) (some 28) (v:=.int .i64 1) rfl rfl (by kernel_rfl) (fun _ _ _ h=>h) (Or.inl ⟨rfl,fun _=>rfl⟩) ?_
  simp only [Act.put,List.setIfInBounds_toArray,List.set_cons_zero,List.set_cons_succ]
  refine wpK_ta (i:=1) (some 29) (v:=.int .i64 1) rfl rfl (by kernel_rfl) (fun _ _ _ h=>h) (Or.inl ⟨rfl,fun _=>rfl⟩) ?_
  simp only [Act.put,List.setIfInBounds_toArray,List.set_cons_zero,List.set_cons_succ]
  refine wpK_ta (i:=2) (some 30) (v:=.pointer (some ⟨W1.heap.size,1,none⟩)) rfl rfl (by kernel_rfl) (fun _ _ _ h=>h) (Or.inl ⟨by rfl,fun W=>by go_simp⟩) ?_
  simp only [Act.put,List.setIfInBounds_toArray,List.set_cons_zero,List.set_cons_succ]
  refine wpK_tk (i:=3) (some 31) (v:=a2) rfl rfl (by kernel_rfl) (fun _ _ _ h=>h) (.val (by rfl) (fun W hg=>by have c:=(R99.out.below (GC108.out.trans (Gr.un hg)) 1 _ rfl).1;go_simp)) ?_
  simp only [Act.put,List.setIfInBounds_toArray,List.set_cons_zero,List.set_cons_succ]
  refine wpK_ta (i:=4) (some 32) (v:=.int .i64 1) rfl rfl (by kernel_rfl) (fun _ _ _ h=>h) (Or.inl ⟨rfl,fun _=>rfl⟩) ?_
  simp only [Act.put,List.setIfInBounds_toArray,List.set_cons_zero,List.set_cons_succ]
  refine wpK_ta (i:=5) (some 33) (v:=.pointer (some ⟨W33.heap.size,1,none⟩)) rfl rfl (by kernel_rfl) (fun _ _ _ h=>h) (Or.inl ⟨by rfl,fun W=>by go_simp⟩) ?_
  simp only [Act.put,List.setIfInBounds_toArray,List.set_cons_zero,List.set_cons_succ]
  refine wpK_tk (i:=6) (some 34) (v:=b2) rfl rfl (by kernel_rfl) (fun _ _ _ h=>h) (.val (by rfl) (fun W hg=>by have c:=(R100.out.below (GC108.out.trans (Gr.un hg)) 1 _ rfl).1;go_simp)) ?_
  simp only [Act.put,List.setIfInBounds_toArray,List.set_cons_zero,List.set_cons_succ]
  refine wpK_ta (i:=7) (some 35) (v:=(max a2 b2:Int)) rfl rfl (by kernel_rfl) (fun _ _ _ h=>h) (Or.inl ⟨by rfl,fun W=>by (go_simp <;> (repeat' split) <;> omega)⟩) ?_
  simp only [Act.put,List.setIfInBounds_toArray,List.set_cons_zero,List.set_cons_succ]
  refine wpK_ta (i:=8) (some 36) (v:=.pointer (some ⟨W1.heap.size,1,none⟩)) rfl rfl (by kernel_rfl) (fun _ _ _ h=>h) (Or.inl ⟨by rfl,fun W=>by go_simp⟩) ?_
  simp only [Act.put,List.setIfInBounds_toArray,List.set_cons_zero,List.set_cons_succ]
  refine wpK_store (i:=9) (none) rfl rfl (by kernel_rfl) (by rfl) (by rfl) (fun W109 hg110=>⟨W109.setCell ⟨W1.heap.size,1,none⟩ (max a2 b2:Int),by have c:=(R99.out.below (GC108.out.trans (Gr.un hg110))).cellx 1 _ rfl;have c2:=(R99.out.below (GC108.out.trans (Gr.un hg110))).softx 1 _ rfl;go_simp, ?_⟩)
  simp only [Act.put]
  refine wpK_done (by kernel_rfl) (fun V111 hv112=>?_) _
  have R114:=Lib.hid (((R96.out.below (GC108.out.trans (Gr.un hg110))).far (b:=W1.heap.size) (by omega) 1 [.int .i64 (max a2 b2)]).below hv112)
  have R115:=Lib.hid (((R97.out.below (GC108.out.trans (Gr.un hg110))).far (b:=W1.heap.size) (by omega) 1 [.int .i64 (max a2 b2)]).below hv112)
  have R116:=Lib.hid (((R98.out.below (GC108.out.trans (Gr.un hg110))).far (b:=W1.heap.size) (by omega) 1 [.int .i64 (max a2 b2)]).below hv112)
  have R117:=Lib.hid (((R102.out.below (GC108.out.trans (Gr.un hg110))).far (b:=W1.heap.size) (by omega) 1 [.int .i64 (max a2 b2)]).below hv112)
  have R118:=Lib.hid (((R100.out.below (GC108.out.trans (Gr.un hg110))).far (b:=W1.heap.size) (by omega) 1 [.int .i64 (max a2 b2)]).below hv112)
  have R119:=Lib.hid (((R101.out.below (GC108.out.trans (Gr.un hg110))).far (b:=W1.heap.size) (by omega) 1 [.int .i64 (max a2 b2)]).below hv112)
  have R120 : Hid (Row W1.heap.size [.int .i64 (max a1 b1), .int .i64 (max a2 b2), .int .i64 a3] V111):=Lib.hid (((R99.out.below (GC108.out.trans (Gr.un hg110))).set 1 (max a2 b2:Int) (by simp)).below hv112)
  have G113:=Lib.hid (Gr.put1 G95.out (GC108.out.trans (Gr.un hg110)) (by omega) hv112)
  clear hg110 hv112
  go_upto_region 9 with fail
  refine wpK_region (by kernel_rfl) ?_
  refine wpK_ta (i:=0) (some 37) (v:=.int .i64 1) rfl rfl (by kernel_rfl) (fun _ _ _ h=>h) (Or.inl ⟨rfl,fun _=>rfl⟩) ?_
  simp only [Act.put,List.setIfInBounds_toArray,List.set_cons_zero,List.set_cons_succ]
  refine wpK_ta (i:=1) (some 38) (v:=.int .i64 1) rfl rfl (by kernel_rfl) (fun _ _ _ h=>h) (Or.inl ⟨rfl,fun _=>rfl⟩) ?_
  simp only [Act.put,List.setIfInBounds_toArray,List.set_cons_zero,List.set_cons_succ]
  refine wpK_ta (i:=2) (some 39) (v:=.pointer (some ⟨W16.heap.size,1,none⟩)) rfl rfl (by kernel_rfl) (fun _ _ _ h=>h) (Or.inl ⟨by rfl,fun W=>by go_simp⟩) ?_
  simp only [Act.put,List.setIfInBounds_toArray,List.set_cons_zero,List.set_cons_succ]
  refine wpK_tk (i:=3) (some 40) (v:=a5) rfl rfl (by kernel_rfl) (fun _ _ _ h=>h) (.val (by rfl) (fun W hg=>by have c:=(R117.out.below (Gr.un hg) 1 _ rfl).1;go_simp)) ?_
  simp only [Act.put,List.setIfInBounds_toArray,List.set_cons_zero,List.set_cons_succ]
  refine wpK_ta (i:=4) (some 41) (v:=.int .i64 1) rfl rfl (by kernel_rfl) (fun _ _ _ h=>h) (Or.inl ⟨rfl,fun _=>rfl⟩) ?_
  simp only [Act.put,List.setIfInBounds_toArray,List.set_cons_zero,List.set_cons_succ]
  refine wpK_ta (i:=5) (some 42) (v:=.pointer (some ⟨W52.heap.size,1,none⟩)) rfl rfl (by kernel_rfl) (fun _ _ _ h=>h) (Or.inl ⟨by rfl,fun W=>by go_simp⟩) ?_
  simp only [Act.put,List.setIfInBounds_toArray,List.set_cons_zero,List.set_cons_succ]
  refine wpK_tk (i:=6) (some 43) (v:=b5) rfl rfl (by kernel_rfl) (fun _ _ _ h=>h) (.val (by rfl) (fun W hg=>by have c:=(R119.out.below (Gr.un hg) 1 _ rfl).1;go_simp)) ?_
  simp only [Act.put,List.setIfInBounds_toArray,List.set_cons_zero,List.set_cons_succ]
  refine wpK_ta (i:=7) (some 44) (v:=(min a5 b5:Int)) rfl rfl (by kernel_rfl) (fun _ _ _ h=>h) (Or.inl ⟨by rfl,fun W=>by (go_simp <;> (repeat' split) <;> omega)⟩) ?_
  simp only [Act.put,List.setIfInBounds_toArray,List.set_cons_zero,List.set_cons_succ]
  refine wpK_ta (i:=8) (some 45) (v:=.pointer (some ⟨W16.heap.size,1,none⟩)) rfl rfl (by kernel_rfl) (fun _ _ _ h=>h) (Or.inl ⟨by rfl,fun W=>by go_simp⟩) ?_
  simp only [Act.put,List.setIfInBounds_toArray,List.set_cons_zero,List.set_cons_succ]
  refine wpK_store (i:=9) (none) rfl rfl (by kernel_rfl) (by rfl) (by rfl) (fun W121 hg122=>⟨W121.setCell ⟨W16.heap.size,1,none⟩ (min a5 b5:Int),by have c:=(R117.out.below (Gr.un hg122)).cellx 1 _ rfl;have c2:=(R117.out.below (Gr.un hg122)).softx 1 _ rfl;go_simp, ?_⟩)
  simp only [Act.put]
  refine wpK_done (by kernel_rfl) (fun V123 hv124=>?_) _
  have R126:=Lib.hid (((R114.out.below (Gr.un hg122)).far (b:=W16.heap.size) (by omega) 1 [.int .i64 (min a5 b5)]).below hv124)
  have R127:=Lib.hid (((R115.out.below (Gr.un hg122)).far (b:=W16.heap.size) (by omega) 1 [.int .i64 (min a5 b5)]).below hv124)
  have R128:=Lib.hid (((R116.out.below (Gr.un hg122)).far (b:=W16.heap.size) (by omega) 1 [.int .i64 (min a5 b5)]).below hv124)
  have R129:=Lib.hid (((R120.out.below (Gr.un hg122)).far (b:=W16.heap.size) (by omega) 1 [.int .i64 (min a5 b5)]).below hv124)
  have R130:=Lib.hid (((R118.out.below (Gr.un hg122)).far (b:=W16.heap.size) (by omega) 1 [.int .i64 (min a5 b5)]).below hv124)
  have R131:=Lib.hid (((R119.out.below (Gr.un hg122)).far (b:=W16.heap.size) (by omega) 1 [.int .i64 (min a5 b5)]).below hv124)
  have R132 : Hid (Row W16.heap.size [.int .i64 (min a4 b4), .int .i64 (min a5 b5), .int .i64 a6] V123):=Lib.hid (((R117.out.below (Gr.un hg122)).set 1 (min a5 b5:Int) (by simp)).below hv124)
  have G125:=Lib.hid (Gr.put1 G113.out (Gr.un hg122) (by omega) hv124)
  clear hg122 hv124
  go_upto_region 7 with fail
  refine wpG_region ?_
  refine wpG_tk (some 26) (v:=.int .i64 1) rfl (.val (by rfl) (fun _ _=>rfl)) ?_
  simp only [Act.put,List.setIfInBounds_toArray,List.set_cons_zero,List.set_cons_succ]
  refine wpG_tk (some 27) (v:=.int .i64 2) rfl (.val (by rfl) (fun W hg=>by go_simp <;> rfl)) ?_
  simp only [Act.put,List.setIfInBounds_toArray,List.set_cons_zero,List.set_cons_succ]
  refine wpG_tk (some 9) (v:=.int .i64 2) rfl (.val (by rfl) (fun _ _=>rfl)) ?_
  simp only [Act.put,List.setIfInBounds_toArray,List.set_cons_zero,List.set_cons_succ]
  refine wpG_done (fun V133 hv134=>?_)
  have GC135:=Lib.hid hv134
  clear hv134
  go_wp2_with fail
  rw [rounds_succ]
  go_upto_region 6 with fail
  refine wpG_region ?_
  refine wpG_tk (some 24) (v:=.int .i64 2) rfl (.val (by rfl) (fun _ _=>rfl)) ?_
  simp only [Act.put,List.setIfInBounds_toArray,List.set_cons_zero,List.set_cons_succ]
  refine wpG_tk (some 25) (v:=.bool true) rfl (.val (by rfl) (fun W hg=>by go_simp)) ?_
  simp only [Act.put,List.setIfInBounds_toArray,List.set_cons_zero,List.set_cons_succ]
  refine wpG_done (fun V136 hv137=>?_)
  have GC138:=Lib.hid (GC135.out.trans hv137)
  clear hv137
  go_upto_region 8 with fail
  refine wpK_region (by kernel_rfl) ?_
  refine wpK_ta (i:=0) (some 28) (v:=.int .i64 2) rfl rfl (by kernel_rfl) (fun _ _ _ h=>h) (Or.inl ⟨rfl,fun _=>rfl⟩) ?_
  simp only [Act.put,List.setIfInBounds_toArray,List.set_cons_zero,List.set_cons_succ]
  refine wpK_ta (i:=1) (some 29) (v:=.int .i64 2) rfl rfl (by kernel_rfl) (fun _ _ _ h=>h) (Or.inl ⟨rfl,fun _=>rfl⟩) ?_
  simp only [Act.put,List.setIfInBounds_toArray,List.set_cons_zero,List.set_cons_succ]
  refine wpK_ta (i:=2) (some 30) (v:=.pointer (some ⟨W1.heap.size,2,none⟩)) rfl rfl (by kernel_rfl) (fun _ _ _ h=>h) (Or.inl ⟨by rfl,fun W=>by go_simp⟩) ?_
  simp only [Act.put,List.setIfInBounds_toArray,List.set_cons_zero,List.set_cons_succ]
  refine wpK_tk (i:=3) (some 31) (v:=a3) rfl rfl (by kernel_rfl) (fun _ _ _ h=>h) (.val (by rfl) (fun W hg=>by have c:=(R129.out.below (GC138.out.trans (Gr.un hg)) 2 _ rfl).1;go_simp)) ?_
  simp only [Act.put,List.setIfInBounds_toArray,List.set_cons_zero,List.set_cons_succ]
  refine wpK_ta (i:=4) (some 32) (v:=.int .i64 2) rfl rfl (by kernel_rfl) (fun _ _ _ h=>h) (Or.inl ⟨rfl,fun _=>rfl⟩) ?_
  simp only [Act.put,List.setIfInBounds_toArray,List.set_cons_zero,List.set_cons_succ]
  refine wpK_ta (i:=5) (some 33) (v:=.pointer (some ⟨W33.heap.size,2,none⟩)) rfl rfl (by kernel_rfl) (fun _ _ _ h=>h) (Or.inl ⟨by rfl,fun W=>by go_simp⟩) ?_
  simp only [Act.put,List.setIfInBounds_toArray,List.set_cons_zero,List.set_cons_succ]
  refine wpK_tk (i:=6) (some 34) (v:=b3) rfl rfl (by kernel_rfl) (fun _ _ _ h=>h) (.val (by rfl) (fun W hg=>by have c:=(R130.out.below (GC138.out.trans (Gr.un hg)) 2 _ rfl).1;go_simp)) ?_
  simp only [Act.put,List.setIfInBounds_toArray,List.set_cons_zero,List.set_cons_succ]
  refine wpK_ta (i:=7) (some 35) (v:=(max a3 b3:Int)) rfl rfl (by kernel_rfl) (fun _ _ _ h=>h) (Or.inl ⟨by rfl,fun W=>by (go_simp <;> (repeat' split) <;> omega)⟩) ?_
  simp only [Act.put,List.setIfInBounds_toArray,List.set_cons_zero,List.set_cons_succ]
  refine wpK_ta (i:=8) (some 36) (v:=.pointer (some ⟨W1.heap.size,2,none⟩)) rfl rfl (by kernel_rfl) (fun _ _ _ h=>h) (Or.inl ⟨by rfl,fun W=>by go_simp⟩) ?_
  simp only [Act.put,List.setIfInBounds_toArray,List.set_cons_zero,List.set_cons_succ]
  refine wpK_store (i:=9) (none) rfl rfl (by kernel_rfl) (by rfl) (by rfl) (fun W139 hg140=>⟨W139.setCell ⟨W1.heap.size,2,none⟩ (max a3 b3:Int),by have c:=(R129.out.below (GC138.out.trans (Gr.un hg140))).cellx 2 _ rfl;have c2:=(R129.out.below (GC138.out.trans (Gr.un hg140))).softx 2 _ rfl;go_simp, ?_⟩)
  simp only [Act.put]
  refine wpK_done (by kernel_rfl) (fun V141 hv142=>?_) _
  have R144:=Lib.hid (((R126.out.below (GC138.out.trans (Gr.un hg140))).far (b:=W1.heap.size) (by omega) 2 [.int .i64 (max a3 b3)]).below hv142)
  have R145:=Lib.hid (((R127.out.below (GC138.out.trans (Gr.un hg140))).far (b:=W1.heap.size) (by omega) 2 [.int .i64 (max a3 b3)]).below hv142)
  have R146:=Lib.hid (((R128.out.below (GC138.out.trans (Gr.un hg140))).far (b:=W1.heap.size) (by omega) 2 [.int .i64 (max a3 b3)]).below hv142)
  have R147:=Lib.hid (((R132.out.below (GC138.out.trans (Gr.un hg140))).far (b:=W1.heap.size) (by omega) 2 [.int .i64 (max a3 b3)]).below hv142)
  have R148:=Lib.hid (((R130.out.below (GC138.out.trans (Gr.un hg140))).far (b:=W1.heap.size) (by omega) 2 [.int .i64 (max a3 b3)]).below hv142)
  have R149:=Lib.hid (((R131.out.below (GC138.out.trans (Gr.un hg140))).far (b:=W1.heap.size) (by omega) 2 [.int .i64 (max a3 b3)]).below hv142)
  have R150 : Hid (Row W1.heap.size [.int .i64 (max a1 b1), .int .i64 (max a2 b2), .int .i64 (max a3 b3)] V141):=Lib.hid (((R129.out.below (GC138.out.trans (Gr.un hg140))).set 2 (max a3 b3:Int) (by simp)).below hv142)
  have G143:=Lib.hid (Gr.put1 G125.out (GC138.out.trans (Gr.un hg140)) (by omega) hv142)
  clear hg140 hv142
  go_upto_region 9 with fail
  refine wpK_region (by kernel_rfl) ?_
  refine wpK_ta (i:=0) (some 37) (v:=.int .i64 2) rfl rfl (by kernel_rfl) (fun _ _ _ h=>h) (Or.inl ⟨rfl,fun _=>rfl⟩) ?_
  simp only [Act.put,List.setIfInBounds_toArray,List.set_cons_zero,List.set_cons_succ]
  refine wpK_ta (i:=1) (some 38) (v:=.int .i64 2) rfl rfl (by kernel_rfl) (fun _ _ _ h=>h) (Or.inl ⟨rfl,fun _=>rfl⟩) ?_
  simp only [Act.put,List.setIfInBounds_toArray,List.set_cons_zero,List.set_cons_succ]
  refine wpK_ta (i:=2) (some 39) (v:=.pointer (some ⟨W16.heap.size,2,none⟩)) rfl rfl (by kernel_rfl) (fun _ _ _ h=>h) (Or.inl ⟨by rfl,fun W=>by go_simp⟩) ?_
  simp only [Act.put,List.setIfInBounds_toArray,List.set_cons_zero,List.set_cons_succ]
  refine wpK_tk (i:=3) (some 40) (v:=a6) rfl rfl (by kernel_rfl) (fun _ _ _ h=>h) (.val (by rfl) (fun W hg=>by have c:=(R147.out.below (Gr.un hg) 2 _ rfl).1;go_simp)) ?_
  simp only [Act.put,List.setIfInBounds_toArray,List.set_cons_zero,List.set_cons_succ]
  refine wpK_ta (i:=4) (some 41) (v:=.int .i64 2) rfl rfl (by kernel_rfl) (fun _ _ _ h=>h) (Or.inl ⟨rfl,fun _=>rfl⟩) ?_
  simp only [Act.put,List.setIfInBounds_toArray,List.set_cons_zero,List.set_cons_succ]
  refine wpK_ta (i:=5) (some 42) (v:=.pointer (some ⟨W52.heap.size,2,none⟩)) rfl rfl (by kernel_rfl) (fun _ _ _ h=>h) (Or.inl ⟨by rfl,fun W=>by go_simp⟩) ?_
  simp only [Act.put,List.setIfInBounds_toArray,List.set_cons_zero,List.set_cons_succ]
  refine wpK_tk (i:=6) (some 43) (v:=b6) rfl rfl (by kernel_rfl) (fun _ _ _ h=>h) (.val (by rfl) (fun W hg=>by have c:=(R149.out.below (Gr.un hg) 2 _ rfl).1;go_simp)) ?_
  simp only [Act.put,List.setIfInBounds_toArray,List.set_cons_zero,List.set_cons_succ]
  refine wpK_ta (i:=7) (some 44) (v:=(min a6 b6:Int)) rfl rfl (by kernel_rfl) (fun _ _ _ h=>h) (Or.inl ⟨by rfl,fun W=>by (go_simp <;> (repeat' split) <;> omega)⟩) ?_
  simp only [Act.put,List.setIfInBounds_toArray,List.set_cons_zero,List.set_cons_succ]
  refine wpK_ta (i:=8) (some 45) (v:=.pointer (some ⟨W16.heap.size,2,none⟩)) rfl rfl (by kernel_rfl) (fun _ _ _ h=>h) (Or.inl ⟨by rfl,fun W=>by go_simp⟩) ?_
  simp only [Act.put,List.setIfInBounds_toArray,List.set_cons_zero,List.set_cons_succ]
  refine wpK_store (i:=9) (none) rfl rfl (by kernel_rfl) (by rfl) (by rfl) (fun W151 hg152=>⟨W151.setCell ⟨W16.heap.size,2,none⟩ (min a6 b6:Int),by have c:=(R147.out.below (Gr.un hg152)).cellx 2 _ rfl;have c2:=(R147.out.below (Gr.un hg152)).softx 2 _ rfl;go_simp, ?_⟩)
  simp only [Act.put]
  refine wpK_done (by kernel_rfl) (fun V153 hv154=>?_) _
  have R156:=Lib.hid (((R144.out.below (Gr.un hg152)).far (b:=W16.heap.size) (by omega) 2 [.int .i64 (min a6 b6)]).below hv154)
  have R157:=Lib.hid (((R145.out.below (Gr.un hg152)).far (b:=W16.heap.size) (by omega) 2 [.int .i64 (min a6 b6)]).below hv154)
  have R158:=Lib.hid (((R146.out.below (Gr.un hg152)).far (b:=W16.heap.size) (by omega) 2 [.int .i64 (min a6 b6)]).below hv154)
  have R159:=Lib.hid (((R150.out.below (Gr.un hg152)).far (b:=W16.heap.size) (by omega) 2 [.int .i64 (min a6 b6)]).below hv154)
  have R160:=Lib.hid (((R148.out.below (Gr.un hg152)).far (b:=W16.heap.size) (by omega) 2 [.int .i64 (min a6 b6)]).below hv154)
  have R161:=Lib.hid (((R149.out.below (Gr.un hg152)).far (b:=W16.heap.size) (by omega) 2 [.int .i64 (min a6 b6)]).below hv154)
  have R162 : Hid (Row W16.heap.size [.int .i64 (min a4 b4), .int .i64 (min a5 b5), .int .i64 (min a6 b6)] V153):=Lib.hid (((R147.out.below (Gr.un hg152)).set 2 (min a6 b6:Int) (by simp)).below hv154)
  have G155:=Lib.hid (Gr.put1 G143.out (Gr.un hg152) (by omega) hv154)
  clear hg152 hv154
  go_upto_region 7 with fail
  refine wpG_region ?_
  refine wpG_tk (some 26) (v:=.int .i64 2) rfl (.val (by rfl) (fun _ _=>rfl)) ?_
  simp only [Act.put,List.setIfInBounds_toArray,List.set_cons_zero,List.set_cons_succ]
  refine wpG_tk (some 27) (v:=.int .i64 3) rfl (.val (by rfl) (fun W hg=>by go_simp <;> rfl)) ?_
  simp only [Act.put,List.setIfInBounds_toArray,List.set_cons_zero,List.set_cons_succ]
  refine wpG_tk (some 9) (v:=.int .i64 3) rfl (.val (by rfl) (fun _ _=>rfl)) ?_
  simp only [Act.put,List.setIfInBounds_toArray,List.set_cons_zero,List.set_cons_succ]
  refine wpG_done (fun V163 hv164=>?_)
  have GC165:=Lib.hid hv164
  clear hv164
  go_wp2_with fail
  rw [rounds_succ]
  go_upto_region 6 with fail
  refine wpG_region ?_
  refine wpG_tk (some 24) (v:=.int .i64 3) rfl (.val (by rfl) (fun _ _=>rfl)) ?_
  simp only [Act.put,List.setIfInBounds_toArray,List.set_cons_zero,List.set_cons_succ]
  refine wpG_tk (some 25) (v:=.bool false) rfl (.val (by rfl) (fun W hg=>by go_simp)) ?_
  simp only [Act.put,List.setIfInBounds_toArray,List.set_cons_zero,List.set_cons_succ]
  refine wpG_done (fun V166 hv167=>?_)
  have GC168:=Lib.hid (GC165.out.trans hv167)
  clear hv167
  go_upto_region 10 with fail
  refine wpK_region (by kernel_rfl) ?_
  refine wpK_tk (i:=0) (some 46) (v:=.agg #[(max a1 b1:Int), (max a2 b2:Int), (max a3 b3:Int)]) rfl rfl (by kernel_rfl) (fun _ _ _ h=>h) (.load_mid (by rfl) 80 (.tmp 5) rfl (W1.heap.size) 0 rfl [.int .i64 (max a1 b1), .int .i64 (max a2 b2), .int .i64 (max a3 b3)] _ (fun W hg=>(R159.out.below (GC168.out.trans (Gr.un hg))).range) Tryd.underlying80 rfl (by kernel_rfl)) ?_
  simp only [Act.put,List.setIfInBounds_toArray,List.set_cons_zero,List.set_cons_succ]
  refine wpK_tk (i:=1) (some 47) (v:=.agg #[(max a1 b1:Int), (max a2 b2:Int), (max a3 b3:Int)]) rfl rfl (by kernel_rfl) (fun _ _ _ h=>h) (.call (f:=98) (args:=#[.agg #[(max a1 b1:Int), (max a2 b2:Int), (max a3 b3:Int)]]) (by rfl) (fun W=>by go_simp) (fun W hg=>rof_any (max a1 b1) (max a2 b2) (max a3 b3) W)) ?_
  simp only [Act.put,List.setIfInBounds_toArray,List.set_cons_zero,List.set_cons_succ]
  refine wpK_tk (i:=2) (some 48) (v:=.agg #[(min a4 b4:Int), (min a5 b5:Int), (min a6 b6:Int)]) rfl rfl (by kernel_rfl) (fun _ _ _ h=>h) (.load_mid (by rfl) 80 (.tmp 6) rfl (W16.heap.size) 0 rfl [.int .i64 (min a4 b4), .int .i64 (min a5 b5), .int .i64 (min a6 b6)] _ (fun W hg=>(R162.out.below (GC168.out.trans (Gr.un hg))).range) Tryd.underlying80 rfl (by kernel_rfl)) ?_
  simp only [Act.put,List.setIfInBounds_toArray,List.set_cons_zero,List.set_cons_succ]
  refine wpK_tk (i:=3) (some 49) (v:=.agg #[(min a4 b4:Int), (min a5 b5:Int), (min a6 b6:Int)]) rfl rfl (by kernel_rfl) (fun _ _ _ h=>h) (.call (f:=98) (args:=#[.agg #[(min a4 b4:Int), (min a5 b5:Int), (min a6 b6:Int)]]) (by rfl) (fun W=>by go_simp) (fun W hg=>rof_any (min a4 b4) (min a5 b5) (min a6 b6) W)) ?_
  simp only [Act.put,List.setIfInBounds_toArray,List.set_cons_zero,List.set_cons_succ]
  refine wpK_ta (i:=4) (some 50) (v:=.agg #[(max a1 b1:Int), (max a2 b2:Int), (max a3 b3:Int), (min a4 b4:Int), (min a5 b5:Int), (min a6 b6:Int)]) rfl rfl (by kernel_rfl) (fun _ _ _ h=>h) (Or.inl ⟨by rfl,fun W=>by go_simp⟩) ?_
  simp only [Act.put,List.setIfInBounds_toArray,List.set_cons_zero,List.set_cons_succ]
  refine wpK_val (i:=5) (some 10) rfl rfl (by kernel_rfl) (by rfl) (fun W169 hg170=>⟨.pointer (some ⟨W169.heap.size,0,none⟩),W169.alloc (.cells #[(), (), (), (), (), ()] 25),by (go_simp <;> rfl),Gr.al _ _, ?_⟩)
  simp only [Act.put,List.setIfInBounds_toArray,List.set_cons_zero,List.set_cons_succ]
  refine wpK_store (i:=6) (none) rfl rfl (by kernel_rfl) (by rfl) (by rfl) (fun W171 hg172=>⟨_,run_store_mid 25 (.tmp 10) (.tmp 50) rfl (W169.heap.size) 0 #[(max a1 b1:Int), (max a2 b2:Int), (max a3 b3:Int), (min a4 b4:Int), (min a5 b5:Int), (min a6 b6:Int)] rfl rfl (Row.room hg172 6 rfl) (by kernel_rfl) (by kernel_rfl), ?_⟩)
  simp only [Act.put]
  refine wpK_done (by kernel_rfl) (fun V173 hv174=>?_) _
  have l176 : w.heap.size < W169.heap.size:=(R156.out.below (GC168.out.trans (Gr.un hg170))).lt
  have l177 : w.heap.size + 1 < W169.heap.size:=(R157.out.below (GC168.out.trans (Gr.un hg170))).lt
  have l178 : w.heap.size + 1 + 1 < W169.heap.size:=(R158.out.below (GC168.out.trans (Gr.un hg170))).lt
  have l179 : W1.heap.size < W169.heap.size:=(R159.out.below (GC168.out.trans (Gr.un hg170))).lt
  have l180 : W16.heap.size < W169.heap.size:=(R162.out.below (GC168.out.trans (Gr.un hg170))).lt
  have l181 : W33.heap.size < W169.heap.size:=(R160.out.below (GC168.out.trans (Gr.un hg170))).lt
  have l182 : W52.heap.size < W169.heap.size:=(R161.out.below (GC168.out.trans (Gr.un hg170))).lt
  have l183 : w.heap.size ≤ W169.heap.size:=(Gr.to G155.out (GC168.out.trans (Gr.un hg170))).size
  have R184:=Lib.hid ((R156.out.below (GC168.out.trans (Gr.un hg170))).past hg172 hv174)
  have R185:=Lib.hid ((R157.out.below (GC168.out.trans (Gr.un hg170))).past hg172 hv174)
  have R186:=Lib.hid ((R158.out.below (GC168.out.trans (Gr.un hg170))).past hg172 hv174)
  have R187:=Lib.hid ((R159.out.below (GC168.out.trans (Gr.un hg170))).past hg172 hv174)
  have R188:=Lib.hid ((R162.out.below (GC168.out.trans (Gr.un hg170))).past hg172 hv174)
  have R189:=Lib.hid ((R160.out.below (GC168.out.trans (Gr.un hg170))).past hg172 hv174)
  have R190:=Lib.hid ((R161.out.below (GC168.out.trans (Gr.un hg170))).past hg172 hv174)
  have R191:=Lib.hid (Row.made (zs:=[.int .i64 0, .int .i64 0, .int .i64 0, .int .i64 0, .int .i64 0, .int .i64 0]) (ds:=[.int .i64 (max a1 b1), .int .i64 (max a2 b2), .int .i64 (max a3 b3), .int .i64 (min a4 b4), .int .i64 (min a5 b5), .int .i64 (min a6 b6)]) rfl hg172 hv174)
  have G175:=Lib.hid (Gr.to (Gr.to G155.out (GC168.out.trans (Gr.un hg170))) (Gr.past hg172 hv174))
  clear hg172 hv174 
  go_upto_region 11 with fail
  refine wpG_region ?_
  refine wpG_tk (some 51) (v:=.agg #[(max a1 b1:Int), (max a2 b2:Int), (max a3 b3:Int), (min a4 b4:Int), (min a5 b5:Int), (min a6 b6:Int)]) rfl (.load_mid (by rfl) 25 (.tmp 10) rfl (W169.heap.size) 0 rfl [.int .i64 (max a1 b1), .int .i64 (max a2 b2), .int .i64 (max a3 b3), .int .i64 (min a4 b4), .int .i64 (min a5 b5), .int .i64 (min a6 b6)] _ (fun W hg=>(R191.out.below hg).range) Tryd.underlying25 rfl (by kernel_rfl)) ?_
  simp only [Act.put,List.setIfInBounds_toArray,List.set_cons_zero,List.set_cons_succ]
  refine wpG_tk (some 52) (v:=.bool true) rfl (.call (f:=76) (args:=#[.agg #[(max a1 b1:Int), (max a2 b2:Int), (max a3 b3:Int), (min a4 b4:Int), (min a5 b5:Int), (min a6 b6:Int)]]) (by rfl) (fun W=>by go_simp) (fun W hg=>rempty_any (max a1 b1) (max a2 b2) (max a3 b3) (min a4 b4) (min a5 b5) (min a6 b6) true W HE.out)) ?_
  simp only [Act.put,List.setIfInBounds_toArray,List.set_cons_zero,List.set_cons_succ]
  refine wpG_tk (some 11) (v:=.bool true) rfl (.val (by rfl) (fun _ _=>rfl)) ?_
  simp only [Act.put,List.setIfInBounds_toArray,List.set_cons_zero,List.set_cons_succ]
  refine wpG_done (fun V192 hv193=>?_)
  have GC194:=Lib.hid hv193
  clear hv193
  go_upto_region 12 with fail
  refine wpG_region ?_
  refine wpG_tk (some 53) (v:=.bool true) rfl (.val (by rfl) (fun _ _=>rfl)) ?_
  simp only [Act.put,List.setIfInBounds_toArray,List.set_cons_zero,List.set_cons_succ]
  refine wpG_done (fun V195 hv196=>?_)
  have GC197:=Lib.hid (GC194.out.trans hv196)
  clear hv196
  go_upto_region 13 with fail
  refine wpG_region ?_
  refine wpG_tk (some 54) (v:=.agg #[(), (), (), (), (), ()]) rfl (.val (by rfl) (fun W hg=>by go_simp)) ?_
  simp only [Act.put,List.setIfInBounds_toArray,List.set_cons_zero,List.set_cons_succ]
  refine wpG_store (none) rfl (by rfl) (fun W198 hg199=>⟨_,run_store_mid 25 (.tmp 4) (.tmp 54) rfl (w.heap.size + 1 + 1) 0 #[(), (), (), (), (), ()] rfl rfl (((R186.out.below (GC197.out.trans hg199)).there 0 6 (by decide))) (by kernel_rfl) (by kernel_rfl), ?_⟩)
  simp only [Act.put]
  refine wpG_done (fun V200 hv201=>?_)
  have R203:=Lib.hid (Row.put (ds:=[.int .i64 0, .int .i64 0, .int .i64 0, .int .i64 0, .int .i64 0, .int .i64 0]) R186.out (GC197.out.trans hg199) rfl hv201)
  have G202:=Lib.hid (Gr.put G175.out (GC197.out.trans hg199) (by omega) hv201)
  go_wp2_with fail
  refine bodyPost_ret (results_cell_mid rfl _ _ _ (w.heap.size + 1 + 1) 0 [.int .i64 0, .int .i64 0, .int .i64 0, .int .i64 0, .int .i64 0, .int .i64 0] _ rfl R203.out.range Tryd.underlying25 rfl (by kernel_rfl)) rfl ?_
  exact ⟨rfl,G202.out⟩
set_option maxRecDepth 1000000 in
set_option maxHeartbeats 4000000 in
theorem rinter_f (a1 a2 a3 a4 a5 a6 b1 b2 b3 b4 b5 b6 : Int) (w : World) (b : (-2097152 ≤ a1 ∧ a1 ≤ 2097152) ∧ (-2097152 ≤ a2 ∧ a2 ≤ 2097152) ∧ (-2097152 ≤ a3 ∧ a3 ≤ 2097152) ∧ (-2097152 ≤ a4 ∧ a4 ≤ 2097152) ∧ (-2097152 ≤ a5 ∧ a5 ≤ 2097152) ∧ (-2097152 ≤ a6 ∧ a6 ≤ 2097152) ∧ (-2097152 ≤ b1 ∧ b1 ≤ 2097152) ∧ (-2097152 ≤ b2 ∧ b2 ≤ 2097152) ∧ (-2097152 ≤ b3 ∧ b3 ≤ 2097152) ∧ (-2097152 ≤ b4 ∧ b4 ≤ 2097152) ∧ (-2097152 ≤ b5 ∧ b5 ≤ 2097152) ∧ (-2097152 ≤ b6 ∧ b6 ≤ 2097152)) (h : Pt.meet a1 a2 a3 a4 a5 a6 b1 b2 b3 b4 b5 b6 = false) :
    Calls Tryd.prog 74 #[.agg #[a1, a2, a3, a4, a5, a6], .agg #[b1, b2, b3, b4, b5, b6]] w fun e w'=>e = .returned (.agg #[(max a1 b1:Int), (max a2 b2:Int), (max a3 b3:Int), (min a4 b4:Int), (min a5 b5:Int), (min a6 b6:Int)]) ∧ Below w.heap.size w w':=by
  have HE:=Lib.hid h
  unfold Pt.meet at HE
  clear h
  obtain ⟨u,hu,r0,r1,r2,g0⟩:=rows3 w [.int .i64 a1, .int .i64 a2, .int .i64 a3, .int .i64 a4, .int .i64 a5, .int .i64 a6] 25 [.int .i64 b1, .int .i64 b2, .int .i64 b3, .int .i64 b4, .int .i64 b5, .int .i64 b6] 25 [.int .i64 0, .int .i64 0, .int .i64 0, .int .i64 0, .int .i64 0, .int .i64 0] 25
  have R0:=Lib.hid r0
  have R1:=Lib.hid r1
  have R2:=Lib.hid r2
  have G0:=Lib.hid g0
  have HU:=Lib.hid hu
  clear hu g0 r0 r1 r2
  go_enter Tryd.func74,Tryd.ntmps74
  go_upto_region 1 with fail
  rw [← HU.out]
  refine wpG_region ?_
  refine wpG_tk (some 12) (v:=.pointer (some ⟨w.heap.size,0,none⟩)) rfl (.val (by rfl) (fun W hg=>by go_simp)) ?_
  simp only [Act.put,List.setIfInBounds_toArray,List.set_cons_zero,List.set_cons_succ]
  refine wpG_tk (some 13) (v:=.agg #[a1, a2, a3]) rfl (.load_mid (by rfl) 23 (.tmp 12) rfl (w.heap.size) 0 rfl [.int .i64 a1, .int .i64 a2, .int .i64 a3] _ (fun W hg=>(R0.out.below hg).lo) Tryd.underlying23 rfl (by kernel_rfl)) ?_
  simp only [Act.put,List.setIfInBounds_toArray,List.set_cons_zero,List.set_cons_succ]
  refine wpG_tk (some 14) (v:=.agg #[a1, a2, a3]) rfl (.call (f:=95) (args:=#[.agg #[a1, a2, a3]]) (by rfl) (fun W=>by go_simp) (fun W hg=>rlist_any a1 a2 a3 W)) ?_
  simp only [Act.put,List.setIfInBounds_toArray,List.set_cons_zero,List.set_cons_succ]
  refine wpG_val (some 5) rfl (by rfl) (fun W1 hg2=>⟨.pointer (some ⟨W1.heap.size,0,none⟩),W1.alloc (.cells #[(), (), ()] 80),by (go_simp <;> rfl), ?_⟩)
  simp only [Act.put,List.setIfInBounds_toArray,List.set_cons_zero,List.set_cons_succ]
  refine wpG_store (none) rfl (by rfl) (fun W3 hg4=>⟨_,run_store_mid 80 (.tmp 5) (.tmp 14) rfl (W1.heap.size) 0 #[a1, a2, a3] rfl rfl (Row.room hg4 3 rfl) (by kernel_rfl) (by kernel_rfl), ?_⟩)
  simp only [Act.put]
  refine wpG_done (fun V5 hv6=>?_)
  have l8 : w.heap.size < W1.heap.size:=(R0.out.below hg2).lt
  have l9 : w.heap.size + 1 < W1.heap.size:=(R1.out.below hg2).lt
  have l10 : w.heap.size + 1 + 1 < W1.heap.size:=(R2.out.below hg2).lt
  have l11 : w.heap.size ≤ W1.heap.size:=(Gr.to G0.out hg2).size
  have R12:=Lib.hid ((R0.out.below hg2).past hg4 hv6)
  have R13:=Lib.hid ((R1.out.below hg2).past hg4 hv6)
  have R14:=Lib.hid ((R2.out.below hg2).past hg4 hv6)
  have R15:=Lib.hid (Row.made (zs:=[.int .i64 0, .int .i64 0, .int .i64 0]) (ds:=[.int .i64 a1, .int .i64 a2, .int .i64 a3]) rfl hg4 hv6)
  have G7:=Lib.hid (Gr.to (Gr.to G0.out hg2) (Gr.past hg4 hv6))
  clear hg4 hv6 
  go_upto_region 2 with fail
  refine wpG_region ?_
  refine wpG_tk (some 15) (v:=.pointer (some ⟨w.heap.size,3,none⟩)) rfl (.val (by rfl) (fun W hg=>by go_simp)) ?_
  simp only [Act.put,List.setIfInBounds_toArray,List.set_cons_zero,List.set_cons_succ]
  refine wpG_tk (some 16) (v:=.agg #[a4, a5, a6]) rfl (.load_mid (by rfl) 23 (.tmp 15) rfl (w.heap.size) 3 rfl [.int .i64 a4, .int .i64 a5, .int .i64 a6] _ (fun W hg=>(R12.out.below hg).hi) Tryd.underlying23 rfl (by kernel_rfl)) ?_
  simp only [Act.put,List.setIfInBounds_toArray,List.set_cons_zero,List.set_cons_succ]
  refine wpG_tk (some 17) (v:=.agg #[a4, a5, a6]) rfl (.call (f:=95) (args:=#[.agg #[a4, a5, a6]]) (by rfl) (fun W=>by go_simp) (fun W hg=>rlist_any a4 a5 a6 W)) ?_
  simp only [Act.put,List.setIfInBounds_toArray,List.set_cons_zero,List.set_cons_succ]
  refine wpG_val (some 6) rfl (by rfl) (fun W16 hg17=>⟨.pointer (some ⟨W16.heap.size,0,none⟩),W16.alloc (.cells #[(), (), ()] 80),by (go_simp <;> rfl), ?_⟩)
  simp only [Act.put,List.setIfInBounds_toArray,List.set_cons_zero,List.set_cons_succ]
  refine wpG_store (none) rfl (by rfl) (fun W18 hg19=>⟨_,run_store_mid 80 (.tmp 6) (.tmp 17) rfl (W16.heap.size) 0 #[a4, a5, a6] rfl rfl (Row.room hg19 3 rfl) (by kernel_rfl) (by kernel_rfl), ?_⟩)
  simp only [Act.put]
  refine wpG_done (fun V20 hv21=>?_)
  have l23 : w.heap.size < W16.heap.size:=(R12.out.below hg17).lt
  have l24 : w.heap.size + 1 < W16.heap.size:=(R13.out.below hg17).lt
  have l25 : w.heap.size + 1 + 1 < W16.heap.size:=(R14.out.below hg17).lt
  have l26 : W1.heap.size < W16.heap.size:=(R15.out.below hg17).lt
  have l27 : w.heap.size ≤ W16.heap.size:=(Gr.to G7.out hg17).size
  have R28:=Lib.hid ((R12.out.below hg17).past hg19 hv21)
  have R29:=Lib.hid ((R13.out.below hg17).past hg19 hv21)
  have R30:=Lib.hid ((R14.out.below hg17).past hg19 hv21)
  have R31:=Lib.hid ((R15.out.below hg17).past hg19 hv21)
  have R32:=Lib.hid (Row.made (zs:=[.int .i64 0, .int .i64 0, .int .i64 0]) (ds:=[.int .i64 a4, .int .i64 a5, .int .i64 a6]) rfl hg19 hv21)
  have G22:=Lib.hid (Gr.to (Gr.to G7.out hg17) (Gr.past hg19 hv21))
  clear hg19 hv21 
  go_upto_region 3 with fail
  refine wpG_region ?_
  refine wpG_tk (some 18) (v:=.pointer (some ⟨w.heap.size + 1,0,none⟩)) rfl (.val (by rfl) (fun W hg=>by go_simp)) ?_
  simp only [Act.put,List.setIfInBounds_toArray,List.set_cons_zero,List.set_cons_succ]
  refine wpG_tk (some 19) (v:=.agg #[b1, b2, b3]) rfl (.load_mid (by rfl) 23 (.tmp 18) rfl (w.heap.size + 1) 0 rfl [.int .i64 b1, .int .i64 b2, .int .i64 b3] _ (fun W hg=>(R29.out.below hg).lo) Tryd.underlying23 rfl (by kernel_rfl)) ?_
  simp only [Act.put,List.setIfInBounds_toArray,List.set_cons_zero,List.set_cons_succ]
  refine wpG_tk (some 20) (v:=.agg #[b1, b2, b3]) rfl (.call (f:=95) (args:=#[.agg #[b1, b2, b3]]) (by rfl) (fun W=>by go_simp) (fun W hg=>rlist_any b1 b2 b3 W)) ?_
  simp only [Act.put,List.setIfInBounds_toArray,List.set_cons_zero,List.set_cons_succ]
  refine wpG_val (some 7) rfl (by rfl) (fun W33 hg34=>⟨.pointer (some ⟨W33.heap.size,0,none⟩),W33.alloc (.cells #[(), (), ()] 80),by (go_simp <;> rfl), ?_⟩)
  simp only [Act.put,List.setIfInBounds_toArray,List.set_cons_zero,List.set_cons_succ]
  refine wpG_store (none) rfl (by rfl) (fun W35 hg36=>⟨_,run_store_mid 80 (.tmp 7) (.tmp 20) rfl (W33.heap.size) 0 #[b1, b2, b3] rfl rfl (Row.room hg36 3 rfl) (by kernel_rfl) (by kernel_rfl), ?_⟩)
  simp only [Act.put]
  refine wpG_done (fun V37 hv38=>?_)
  have l40 : w.heap.size < W33.heap.size:=(R28.out.below hg34).lt
  have l41 : w.heap.size + 1 < W33.heap.size:=(R29.out.below hg34).lt
  have l42 : w.heap.size + 1 + 1 < W33.heap.size:=(R30.out.below hg34).lt
  have l43 : W1.heap.size < W33.heap.size:=(R31.out.below hg34).lt
  have l44 : W16.heap.size < W33.heap.size:=(R32.out.below hg34).lt
  have l45 : w.heap.size ≤ W33.heap.size:=(Gr.to G22.out hg34).size
  have R46:=Lib.hid ((R28.out.below hg34).past hg36 hv38)
  have R47:=Lib.hid ((R29.out.below hg34).past hg36 hv38)
  have R48:=Lib.hid ((R30.out.below hg34).past hg36 hv38)
  have R49:=Lib.hid ((R31.out.below hg34).past hg36 hv38)
  have R50:=Lib.hid ((R32.out.below hg34).past hg36 hv38)
  have R51:=Lib.hid (Row.made (zs:=[.int .i64 0, .int .i64 0, .int .i64 0]) (ds:=[.int .i64 b1, .int .i64 b2, .int .i64 b3]) rfl hg36 hv38)
  have G39:=Lib.hid (Gr.to (Gr.to G22.out hg34) (Gr.past hg36 hv38))
  clear hg36 hv38 
  go_upto_region 4 with fail
  refine wpG_region ?_
  refine wpG_tk (some 21) (v:=.pointer (some ⟨w.heap.size + 1,3,none⟩)) rfl (.val (by rfl) (fun W hg=>by go_simp)) ?_
  simp only [Act.put,List.setIfInBounds_toArray,List.set_cons_zero,List.set_cons_succ]
  refine wpG_tk (some 22) (v:=.agg #[b4, b5, b6]) rfl (.load_mid (by rfl) 23 (.tmp 21) rfl (w.heap.size + 1) 3 rfl [.int .i64 b4, .int .i64 b5, .int .i64 b6] _ (fun W hg=>(R47.out.below hg).hi) Tryd.underlying23 rfl (by kernel_rfl)) ?_
  simp only [Act.put,List.setIfInBounds_toArray,List.set_cons_zero,List.set_cons_succ]
  refine wpG_tk (some 23) (v:=.agg #[b4, b5, b6]) rfl (.call (f:=95) (args:=#[.agg #[b4, b5, b6]]) (by rfl) (fun W=>by go_simp) (fun W hg=>rlist_any b4 b5 b6 W)) ?_
  simp only [Act.put,List.setIfInBounds_toArray,List.set_cons_zero,List.set_cons_succ]
  refine wpG_val (some 8) rfl (by rfl) (fun W52 hg53=>⟨.pointer (some ⟨W52.heap.size,0,none⟩),W52.alloc (.cells #[(), (), ()] 80),by (go_simp <;> rfl), ?_⟩)
  simp only [Act.put,List.setIfInBounds_toArray,List.set_cons_zero,List.set_cons_succ]
  refine wpG_store (none) rfl (by rfl) (fun W54 hg55=>⟨_,run_store_mid 80 (.tmp 8) (.tmp 23) rfl (W52.heap.size) 0 #[b4, b5, b6] rfl rfl (Row.room hg55 3 rfl) (by kernel_rfl) (by kernel_rfl), ?_⟩)
  simp only [Act.put]
  refine wpG_done (fun V56 hv57=>?_)
  have l59 : w.heap.size < W52.heap.size:=(R46.out.below hg53).lt
  have l60 : w.heap.size + 1 < W52.heap.size:=(R47.out.below hg53).lt
  have l61 : w.heap.size + 1 + 1 < W52.heap.size:=(R48.out.below hg53).lt
  have l62 : W1.heap.size < W52.heap.size:=(R49.out.below hg53).lt
  have l63 : W16.heap.size < W52.heap.size:=(R50.out.below hg53).lt
  have l64 : W33.heap.size < W52.heap.size:=(R51.out.below hg53).lt
  have l65 : w.heap.size ≤ W52.heap.size:=(Gr.to G39.out hg53).size
  have R66:=Lib.hid ((R46.out.below hg53).past hg55 hv57)
  have R67:=Lib.hid ((R47.out.below hg53).past hg55 hv57)
  have R68:=Lib.hid ((R48.out.below hg53).past hg55 hv57)
  have R69:=Lib.hid ((R49.out.below hg53).past hg55 hv57)
  have R70:=Lib.hid ((R50.out.below hg53).past hg55 hv57)
  have R71:=Lib.hid ((R51.out.below hg53).past hg55 hv57)
  have R72:=Lib.hid (Row.made (zs:=[.int .i64 0, .int .i64 0, .int .i64 0]) (ds:=[.int .i64 b4, .int .i64 b5, .int .i64 b6]) rfl hg55 hv57)
  have G58:=Lib.hid (Gr.to (Gr.to G39.out hg53) (Gr.past hg55 hv57))
  clear hg55 hv57 
  go_upto_region 5 with fail
  refine wpG_region ?_
  refine wpG_tk (some 9) (v:=()) rfl (.val (by rfl) (fun _ _=>rfl)) ?_
  simp only [Act.put,List.setIfInBounds_toArray,List.set_cons_zero,List.set_cons_succ]
  refine wpG_done (fun V73 hv74=>?_)
  have GC75:=Lib.hid hv74
  clear hv74
  go_wp2_with fail
  refine wp_loop_rounds 4 ?_
  rw [rounds_succ]
  go_upto_region 6 with fail
  refine wpG_region ?_
  refine wpG_tk (some 24) (v:=()) rfl (.val (by rfl) (fun _ _=>rfl)) ?_
  simp only [Act.put,List.setIfInBounds_toArray,List.set_cons_zero,List.set_cons_succ]
  refine wpG_tk (some 25) (v:=.bool true) rfl (.val (by rfl) (fun W hg=>by go_simp)) ?_
  simp only [Act.put,List.setIfInBounds_toArray,List.set_cons_zero,List.set_cons_succ]
  refine wpG_done (fun V76 hv77=>?_)
  have GC78:=Lib.hid (GC75.out.trans hv77)
  clear hv77
  go_upto_region 8 with fail
  refine wpK_region (by kernel_rfl) ?_
  refine wpK_ta (i:=0) (some 28) (v:=()) rfl rfl (by kernel_rfl) (fun _ _ _ h=>h) (Or.inl ⟨rfl,fun _=>rfl⟩) ?_
  simp only [Act.put,List.setIfInBounds_toArray,List.set_cons_zero,List.set_cons_succ]
  refine wpK_ta (i:=1) (some 29) (v:=()) rfl rfl (by kernel_rfl) (fun _ _ _ h=>h) (Or.inl ⟨rfl,fun _=>rfl⟩) ?_
  simp only [Act.put,List.setIfInBounds_toArray,List.set_cons_zero,List.set_cons_succ]
  refine wpK_ta (i:=2) (some 30) (v:=.pointer (some ⟨W1.heap.size,0,none⟩)) rfl rfl (by kernel_rfl) (fun _ _ _ h=>h) (Or.inl ⟨by rfl,fun W=>by go_simp⟩) ?_
  simp only [Act.put,List.setIfInBounds_toArray,List.set_cons_zero,List.set_cons_succ]
  refine wpK_tk (i:=3) (some 31) (v:=a1) rfl rfl (by kernel_rfl) (fun _ _ _ h=>h) (.val (by rfl) (fun W hg=>by have c:=(R69.out.below (GC78.out.trans (Gr.un hg)) 0 _ rfl).1;go_simp)) ?_
  simp only [Act.put,List.setIfInBounds_toArray,List.set_cons_zero,List.set_cons_succ]
  refine wpK_ta (i:=4) (some 32) (v:=()) rfl rfl (by kernel_rfl) (fun _ _ _ h=>h) (Or.inl ⟨rfl,fun _=>rfl⟩) ?_
  simp only [Act.put,List.setIfInBounds_toArray,List.set_cons_zero,List.set_cons_succ]
  refine wpK_ta (i:=5) (some 33) (v:=.pointer (some ⟨W33.heap.size,0,none⟩)) rfl rfl (by kernel_rfl) (fun _ _ _ h=>h) (Or.inl ⟨by rfl,fun W=>by go_simp⟩) ?_
  simp only [Act.put,List.setIfInBounds_toArray,List.set_cons_zero,List.set_cons_succ]
  refine wpK_tk (i:=6) (some 34) (v:=b1) rfl rfl (by kernel_rfl) (fun _ _ _ h=>h) (.val (by rfl) (fun W hg=>by have c:=(R71.out.below (GC78.out.trans (Gr.un hg)) 0 _ rfl).1;go_simp)) ?_
  simp only [Act.put,List.setIfInBounds_toArray,List.set_cons_zero,List.set_cons_succ]
  refine wpK_ta (i:=7) (some 35) (v:=(max a1 b1:Int)) rfl rfl (by kernel_rfl) (fun _ _ _ h=>h) (Or.inl ⟨by rfl,fun W=>by (go_simp <;> (repeat' split) <;> omega)⟩) ?_
  simp only [Act.put,List.setIfInBounds_toArray,List.set_cons_zero,List.set_cons_succ]
  refine wpK_ta (i:=8) (some 36) (v:=.pointer (some ⟨W1.heap.size,0,none⟩)) rfl rfl (by kernel_rfl) (fun _ _ _ h=>h) (Or.inl ⟨by rfl,fun W=>by go_simp⟩) ?_
  simp only [Act.put,List.setIfInBounds_toArray,List.set_cons_zero,List.set_cons_succ]
  refine wpK_store (i:=9) (none) rfl rfl (by kernel_rfl) (by rfl) (by rfl) (fun W79 hg80=>⟨W79.setCell ⟨W1.heap.size,0,none⟩ (max a1 b1:Int),by have c:=(R69.out.below (GC78.out.trans (Gr.un hg80))).cellx 0 _ rfl;have c2:=(R69.out.below (GC78.out.trans (Gr.un hg80))).softx 0 _ rfl;go_simp, ?_⟩)
  simp only [Act.put]
  refine wpK_done (by kernel_rfl) (fun V81 hv82=>?_) _
  have R84:=Lib.hid (((R66.out.below (GC78.out.trans (Gr.un hg80))).far (b:=W1.heap.size) (by omega) 0 [.int .i64 (max a1 b1)]).below hv82)
  have R85:=Lib.hid (((R67.out.below (GC78.out.trans (Gr.un hg80))).far (b:=W1.heap.size) (by omega) 0 [.int .i64 (max a1 b1)]).below hv82)
  have R86:=Lib.hid (((R68.out.below (GC78.out.trans (Gr.un hg80))).far (b:=W1.heap.size) (by omega) 0 [.int .i64 (max a1 b1)]).below hv82)
  have R87:=Lib.hid (((R70.out.below (GC78.out.trans (Gr.un hg80))).far (b:=W1.heap.size) (by omega) 0 [.int .i64 (max a1 b1)]).below hv82)
  have R88:=Lib.hid (((R71.out.below (GC78.out.trans (Gr.un hg80))).far (b:=W1.heap.size) (by omega) 0 [.int .i64 (max a1 b1)]).below hv82)
  have R89:=Lib.hid (((R72.out.below (GC78.out.trans (Gr.un hg80))).far (b:=W1.heap.size) (by omega) 0 [.int .i64 (max a1 b1)]).below hv82)
  have R90 : Hid (Row W1.heap.size [.int .i64 (max a1 b1), .int .i64 a2, .int .i64 a3] V81):=Lib.hid (((R69.out.below (GC78.out.trans (Gr.un hg80))).set 0 (max a1 b1:Int) (by simp)).below hv82)
  have G83:=Lib.hid (Gr.put1 G58.out (GC78.out.trans (Gr.un hg80)) (by omega) hv82)
  clear hg80 hv82
  go_upto_region 9 with fail
  refine wpK_region (by kernel_rfl) ?_
  refine wpK_ta (i:=0) (some 37) (v:=()) rfl rfl (by kernel_rfl) (fun _ _ _ h=>h) (Or.inl ⟨rfl,fun _=>rfl⟩) ?_
  simp only [Act.put,List.setIfInBounds_toArray,List.set_cons_zero,List.set_cons_succ]
  refine wpK_ta (i:=1) (some 38) (v:=()) rfl rfl (by kernel_rfl) (fun _ _ _ h=>h) (Or.inl ⟨rfl,fun _=>rfl⟩) ?_
  simp only [Act.put,List.setIfInBounds_toArray,List.set_cons_zero,List.set_cons_succ]
  refine wpK_ta (i:=2) (some 39) (v:=.pointer (some ⟨W16.heap.size,0,none⟩)) rfl rfl (by kernel_rfl) (fun _ _ _ h=>h) (Or.inl ⟨by rfl,fun W=>by go_simp⟩) ?_
  simp only [Act.put,List.setIfInBounds_toArray,List.set_cons_zero,List.set_cons_succ]
  refine wpK_tk (i:=3) (some 40) (v:=a4) rfl rfl (by kernel_rfl) (fun _ _ _ h=>h) (.val (by rfl) (fun W hg=>by have c:=(R87.out.below (Gr.un hg) 0 _ rfl).1;go_simp)) ?_
  simp only [Act.put,List.setIfInBounds_toArray,List.set_cons_zero,List.set_cons_succ]
  refine wpK_ta (i:=4) (some 41) (v:=()) rfl rfl (by kernel_rfl) (fun _ _ _ h=>h) (Or.inl ⟨rfl,fun _=>rfl⟩) ?_
  simp only [Act.put,List.setIfInBounds_toArray,List.set_cons_zero,List.set_cons_succ]
  refine wpK_ta (i:=5) (some 42) (v:=.pointer (some ⟨W52.heap.size,0,none⟩)) rfl rfl (by kernel_rfl) (fun _ _ _ h=>h) (Or.inl ⟨by rfl,fun W=>by go_simp⟩) ?_
  simp only [Act.put,List.setIfInBounds_toArray,List.set_cons_zero,List.set_cons_succ]
  refine wpK_tk (i:=6) (some 43) (v:=b4) rfl rfl (by kernel_rfl) (fun _ _ _ h=>h) (.val (by rfl) (fun W hg=>by have c:=(R89.out.below (Gr.un hg) 0 _ rfl).1;go_simp)) ?_
  simp only [Act.put,List.setIfInBounds_toArray,List.set_cons_zero,List.set_cons_succ]
  refine wpK_ta (i:=7) (some 44) (v:=(min a4 b4:Int)) rfl rfl (by kernel_rfl) (fun _ _ _ h=>h) (Or.inl ⟨by rfl,fun W=>by (go_simp <;> (repeat' split) <;> omega)⟩) ?_
  simp only [Act.put,List.setIfInBounds_toArray,List.set_cons_zero,List.set_cons_succ]
  refine wpK_ta (i:=8) (some 45) (v:=.pointer (some ⟨W16.heap.size,0,none⟩)) rfl rfl (by kernel_rfl) (fun _ _ _ h=>h) (Or.inl ⟨by rfl,fun W=>by go_simp⟩) ?_
  simp only [Act.put,List.setIfInBounds_toArray,List.set_cons_zero,List.set_cons_succ]
  refine wpK_store (i:=9) (none) rfl rfl (by kernel_rfl) (by rfl) (by rfl) (fun W91 hg92=>⟨W91.setCell ⟨W16.heap.size,0,none⟩ (min a4 b4:Int),by have c:=(R87.out.below (Gr.un hg92)).cellx 0 _ rfl;have c2:=(R87.out.below (Gr.un hg92)).softx 0 _ rfl;go_simp, ?_⟩)
  simp only [Act.put]
  refine wpK_done (by kernel_rfl) (fun V93 hv94=>?_) _
  have R96:=Lib.hid (((R84.out.below (Gr.un hg92)).far (b:=W16.heap.size) (by omega) 0 [.int .i64 (min a4 b4)]).below hv94)
  have R97:=Lib.hid (((R85.out.below (Gr.un hg92)).far (b:=W16.heap.size) (by omega) 0 [.int .i64 (min a4 b4)]).below hv94)
  have R98:=Lib.hid (((R86.out.below (Gr.un hg92)).far (b:=W16.heap.size) (by omega) 0 [.int .i64 (min a4 b4)]).below hv94)
  have R99:=Lib.hid (((R90.out.below (Gr.un hg92)).far (b:=W16.heap.size) (by omega) 0 [.int .i64 (min a4 b4)]).below hv94)
  have R100:=Lib.hid (((R88.out.below (Gr.un hg92)).far (b:=W16.heap.size) (by omega) 0 [.int .i64 (min a4 b4)]).below hv94)
  have R101:=Lib.hid (((R89.out.below (Gr.un hg92)).far (b:=W16.heap.size) (by omega) 0 [.int .i64 (min a4 b4)]).below hv94)
  have R102 : Hid (Row W16.heap.size [.int .i64 (min a4 b4), .int .i64 a5, .int .i64 a6] V93):=Lib.hid (((R87.out.below (Gr.un hg92)).set 0 (min a4 b4:Int) (by simp)).below hv94)
  have G95:=Lib.hid (Gr.put1 G83.out (Gr.un hg92) (by omega) hv94)
  clear hg92 hv94
  go_upto_region 7 with fail
  refine wpG_region ?_
  refine wpG_tk (some 26) (v:=()) rfl (.val (by rfl) (fun _ _=>rfl)) ?_
  simp only [Act.put,List.setIfInBounds_toArray,List.set_cons_zero,List.set_cons_succ]
  refine wpG_tk (some 27) (v:=.int .i64 1) rfl (.val (by rfl) (fun W hg=>by go_simp <;> rfl)) ?_
  simp only [Act.put,List.setIfInBounds_toArray,List.set_cons_zero,List.set_cons_succ]
  refine wpG_tk (some 9) (v:=.int .i64 1) rfl (.val (by rfl) (fun _ _=>rfl)) ?_
  simp only [Act.put,List.setIfInBounds_toArray,List.set_cons_zero,List.set_cons_succ]
  refine wpG_done (fun V103 hv104=>?_)
  have GC105:=Lib.hid hv104
  clear hv104
  go_wp2_with fail
  rw [rounds_succ]
  go_upto_region 6 with fail
  refine wpG_region ?_
  refine wpG_tk (some 24) (v:=.int .i64 1) rfl (.val (by rfl) (fun _ _=>rfl)) ?_
  simp only [Act.put,List.setIfInBounds_toArray,List.set_cons_zero,List.set_cons_succ]
  refine wpG_tk (some 25) (v:=.bool true) rfl (.val (by rfl) (fun W hg=>by go_simp)) ?_
  simp only [Act.put,List.setIfInBounds_toArray,List.set_cons_zero,List.set_cons_succ]
  refine wpG_done (fun V106 hv107=>?_)
  have GC108:=Lib.hid (GC105.out.trans hv107)
  clear hv107
  go_upto_region 8 with fail
  refine wpK_region (by kernel_rfl) ?_
  refine wpK_ta (i:=0) (some 28) (v:=.int .i64 1) rfl rfl (by kernel_rfl) (fun _ _ _ h=>h) (Or.inl ⟨rfl,fun _=>rfl⟩) ?_
  simp only [Act.put,List.setIfInBounds_toArray,List.set_cons_zero,List.set_cons_succ]
  refine wpK_ta (i:=1) (some 29) (v:=.int .i64 1) rfl rfl (by kernel_rfl) (fun _ _ _ h=>h) (Or.inl ⟨rfl,fun _=>rfl⟩) ?_
  simp only [Act.put,List.setIfInBounds_toArray,List.set_cons_zero,List.set_cons_succ]
  refine wpK_ta (i:=2) (some 30) (v:=.pointer (some ⟨W1.heap.size,1,none⟩)) rfl rfl (by kernel_rfl) (fun _ _ _ h=>h) (Or.inl ⟨by rfl,fun W=>by go_simp⟩) ?_
  simp only [Act.put,List.setIfInBounds_toArray,List.set_cons_zero,List.set_cons_succ]
  refine wpK_tk (i:=3) (some 31) (v:=a2) rfl rfl (by kernel_rfl) (fun _ _ _ h=>h) (.val (by rfl) (fun W hg=>by have c:=(R99.out.below (GC108.out.trans (Gr.un hg)) 1 _ rfl).1;go_simp)) ?_
  simp only [Act.put,List.setIfInBounds_toArray,List.set_cons_zero,List.set_cons_succ]
  refine wpK_ta (i:=4) (some 32) (v:=.int .i64 1) rfl rfl (by kernel_rfl) (fun _ _ _ h=>h) (Or.inl ⟨rfl,fun _=>rfl⟩) ?_
  simp only [Act.put,List.setIfInBounds_toArray,List.set_cons_zero,List.set_cons_succ]
  refine wpK_ta (i:=5) (some 33) (v:=.pointer (some ⟨W33.heap.size,1,none⟩)) rfl rfl (by kernel_rfl) (fun _ _ _ h=>h) (Or.inl ⟨by rfl,fun W=>by go_simp⟩) ?_
  simp only [Act.put,List.setIfInBounds_toArray,List.set_cons_zero,List.set_cons_succ]
  refine wpK_tk (i:=6) (some 34) (v:=b2) rfl rfl (by kernel_rfl) (fun _ _ _ h=>h) (.val (by rfl) (fun W hg=>by have c:=(R100.out.below (GC108.out.trans (Gr.un hg)) 1 _ rfl).1;go_simp)) ?_
  simp only [Act.put,List.setIfInBounds_toArray,List.set_cons_zero,List.set_cons_succ]
  refine wpK_ta (i:=7) (some 35) (v:=(max a2 b2:Int)) rfl rfl (by kernel_rfl) (fun _ _ _ h=>h) (Or.inl ⟨by rfl,fun W=>by (go_simp <;> (repeat' split) <;> omega)⟩) ?_
  simp only [Act.put,List.setIfInBounds_toArray,List.set_cons_zero,List.set_cons_succ]
  refine wpK_ta (i:=8) (some 36) (v:=.pointer (some ⟨W1.heap.size,1,none⟩)) rfl rfl (by kernel_rfl) (fun _ _ _ h=>h) (Or.inl ⟨by rfl,fun W=>by go_simp⟩) ?_
  simp only [Act.put,List.setIfInBounds_toArray,List.set_cons_zero,List.set_cons_succ]
  refine wpK_store (i:=9) (none) rfl rfl (by kernel_rfl) (by rfl) (by rfl) (fun W109 hg110=>⟨W109.setCell ⟨W1.heap.size,1,none⟩ (max a2 b2:Int),by have c:=(R99.out.below (GC108.out.trans (Gr.un hg110))).cellx 1 _ rfl;have c2:=(R99.out.below (GC108.out.trans (Gr.un hg110))).softx 1 _ rfl;go_simp, ?_⟩)
  simp only [Act.put]
  refine wpK_done (by kernel_rfl) (fun V111 hv112=>?_) _
  have R114:=Lib.hid (((R96.out.below (GC108.out.trans (Gr.un hg110))).far (b:=W1.heap.size) (by omega) 1 [.int .i64 (max a2 b2)]).below hv112)
  have R115:=Lib.hid (((R97.out.below (GC108.out.trans (Gr.un hg110))).far (b:=W1.heap.size) (by omega) 1 [.int .i64 (max a2 b2)]).below hv112)
  have R116:=Lib.hid (((R98.out.below (GC108.out.trans (Gr.un hg110))).far (b:=W1.heap.size) (by omega) 1 [.int .i64 (max a2 b2)]).below hv112)
  have R117:=Lib.hid (((R102.out.below (GC108.out.trans (Gr.un hg110))).far (b:=W1.heap.size) (by omega) 1 [.int .i64 (max a2 b2)]).below hv112)
  have R118:=Lib.hid (((R100.out.below (GC108.out.trans (Gr.un hg110))).far (b:=W1.heap.size) (by omega) 1 [.int .i64 (max a2 b2)]).below hv112)
  have R119:=Lib.hid (((R101.out.below (GC108.out.trans (Gr.un hg110))).far (b:=W1.heap.size) (by omega) 1 [.int .i64 (max a2 b2)]).below hv112)
  have R120 : Hid (Row W1.heap.size [.int .i64 (max a1 b1), .int .i64 (max a2 b2), .int .i64 a3] V111):=Lib.hid (((R99.out.below (GC108.out.trans (Gr.un hg110))).set 1 (max a2 b2:Int) (by simp)).below hv112)
  have G113:=Lib.hid (Gr.put1 G95.out (GC108.out.trans (Gr.un hg110)) (by omega) hv112)
  clear hg110 hv112
  go_upto_region 9 with fail
  refine wpK_region (by kernel_rfl) ?_
  refine wpK_ta (i:=0) (some 37) (v:=.int .i64 1) rfl rfl (by kernel_rfl) (fun _ _ _ h=>h) (Or.inl ⟨rfl,fun _=>rfl⟩) ?_
  simp only [Act.put,List.setIfInBounds_toArray,List.set_cons_zero,List.set_cons_succ]
  refine wpK_ta (i:=1) (some 38) (v:=.int .i64 1) rfl rfl (by kernel_rfl) (fun _ _ _ h=>h) (Or.inl ⟨rfl,fun _=>rfl⟩) ?_
  simp only [Act.put,List.setIfInBounds_toArray,List.set_cons_zero,List.set_cons_succ]
  refine wpK_ta (i:=2) (some 39) (v:=.pointer (some ⟨W16.heap.size,1,none⟩)) rfl rfl (by kernel_rfl) (fun _ _ _ h=>h) (Or.inl ⟨by rfl,fun W=>by go_simp⟩) ?_
  simp only [Act.put,List.setIfInBounds_toArray,List.set_cons_zero,List.set_cons_succ]
  refine wpK_tk (i:=3) (some 40) (v:=a5) rfl rfl (by kernel_rfl) (fun _ _ _ h=>h) (.val (by rfl) (fun W hg=>by have c:=(R117.out.below (Gr.un hg) 1 _ rfl).1;go_simp)) ?_
  simp only [Act.put,List.setIfInBounds_toArray,List.set_cons_zero,List.set_cons_succ]
  refine wpK_ta (i:=4) (some 41) (v:=.int .i64 1) rfl rfl (by kernel_rfl) (fun _ _ _ h=>h) (Or.inl ⟨rfl,fun _=>rfl⟩) ?_
  simp only [Act.put,List.setIfInBounds_toArray,List.set_cons_zero,List.set_cons_succ]
  refine wpK_ta (i:=5) (some 42) (v:=.pointer (some ⟨W52.heap.size,1,none⟩)) rfl rfl (by kernel_rfl) (fun _ _ _ h=>h) (Or.inl ⟨by rfl,fun W=>by go_simp⟩) ?_
  simp only [Act.put,List.setIfInBounds_toArray,List.set_cons_zero,List.set_cons_succ]
  refine wpK_tk (i:=6) (some 43) (v:=b5) rfl rfl (by kernel_rfl) (fun _ _ _ h=>h) (.val (by rfl) (fun W hg=>by have c:=(R119.out.below (Gr.un hg) 1 _ rfl).1;go_simp)) ?_
  simp only [Act.put,List.setIfInBounds_toArray,List.set_cons_zero,List.set_cons_succ]
  refine wpK_ta (i:=7) (some 44) (v:=(min a5 b5:Int)) rfl rfl (by kernel_rfl) (fun _ _ _ h=>h) (Or.inl ⟨by rfl,fun W=>by (go_simp <;> (repeat' split) <;> omega)⟩) ?_
  simp only [Act.put,List.setIfInBounds_toArray,List.set_cons_zero,List.set_cons_succ]
  refine wpK_ta (i:=8) (some 45) (v:=.pointer (some ⟨W16.heap.size,1,none⟩)) rfl rfl (by kernel_rfl) (fun _ _ _ h=>h) (Or.inl ⟨by rfl,fun W=>by go_simp⟩) ?_
  simp only [Act.put,List.setIfInBounds_toArray,List.set_cons_zero,List.set_cons_succ]
  refine wpK_store (i:=9) (none) rfl rfl (by kernel_rfl) (by rfl) (by rfl) (fun W121 hg122=>⟨W121.setCell ⟨W16.heap.size,1,none⟩ (min a5 b5:Int),by have c:=(R117.out.below (Gr.un hg122)).cellx 1 _ rfl;have c2:=(R117.out.below (Gr.un hg122)).softx 1 _ rfl;go_simp, ?_⟩)
  simp only [Act.put]
  refine wpK_done (by kernel_rfl) (fun V123 hv124=>?_) _
  have R126:=Lib.hid (((R114.out.below (Gr.un hg122)).far (b:=W16.heap.size) (by omega) 1 [.int .i64 (min a5 b5)]).below hv124)
  have R127:=Lib.hid (((R115.out.below (Gr.un hg122)).far (b:=W16.heap.size) (by omega) 1 [.int .i64 (min a5 b5)]).below hv124)
  have R128:=Lib.hid (((R116.out.below (Gr.un hg122)).far (b:=W16.heap.size) (by omega) 1 [.int .i64 (min a5 b5)]).below hv124)
  have R129:=Lib.hid (((R120.out.below (Gr.un hg122)).far (b:=W16.heap.size) (by omega) 1 [.int .i64 (min a5 b5)]).below hv124)
  have R130:=Lib.hid (((R118.out.below (Gr.un hg122)).far (b:=W16.heap.size) (by omega) 1 [.int .i64 (min a5 b5)]).below hv124)
  have R131:=Lib.hid (((R119.out.below (Gr.un hg122)).far (b:=W16.heap.size) (by omega) 1 [.int .i64 (min a5 b5)]).below hv124)
  have R132 : Hid (Row W16.heap.size [.int .i64 (min a4 b4), .int .i64 (min a5 b5), .int .i64 a6] V123):=Lib.hid (((R117.out.below (Gr.un hg122)).set 1 (min a5 b5:Int) (by simp)).below hv124)
  have G125:=Lib.hid (Gr.put1 G113.out (Gr.un hg122) (by omega) hv124)
  clear hg122 hv124
  go_upto_region 7 with fail
  refine wpG_region ?_
  refine wpG_tk (some 26) (v:=.int .i64 1) rfl (.val (by rfl) (fun _ _=>rfl)) ?_
  simp only [Act.put,List.setIfInBounds_toArray,List.set_cons_zero,List.set_cons_succ]
  refine wpG_tk (some 27) (v:=.int .i64 2) rfl (.val (by rfl) (fun W hg=>by go_simp <;> rfl)) ?_
  simp only [Act.put,List.setIfInBounds_toArray,List.set_cons_zero,List.set_cons_succ]
  refine wpG_tk (some 9) (v:=.int .i64 2) rfl (.val (by rfl) (fun _ _=>rfl)) ?_
  simp only [Act.put,List.setIfInBounds_toArray,List.set_cons_zero,List.set_cons_succ]
  refine wpG_done (fun V133 hv134=>?_)
  have GC135:=Lib.hid hv134
  clear hv134
  go_wp2_with fail
  rw [rounds_succ]
  go_upto_region 6 with fail
  refine wpG_region ?_
  refine wpG_tk (some 24) (v:=.int .i64 2) rfl (.val (by rfl) (fun _ _=>rfl)) ?_
  simp only [Act.put,List.setIfInBounds_toArray,List.set_cons_zero,List.set_cons_succ]
  refine wpG_tk (some 25) (v:=.bool true) rfl (.val (by rfl) (fun W hg=>by go_simp)) ?_
  simp only [Act.put,List.setIfInBounds_toArray,List.set_cons_zero,List.set_cons_succ]
  refine wpG_done (fun V136 hv137=>?_)
  have GC138:=Lib.hid (GC135.out.trans hv137)
  clear hv137
  go_upto_region 8 with fail
  refine wpK_region (by kernel_rfl) ?_
  refine wpK_ta (i:=0) (some 28) (v:=.int .i64 2) rfl rfl (by kernel_rfl) (fun _ _ _ h=>h) (Or.inl ⟨rfl,fun _=>rfl⟩) ?_
  simp only [Act.put,List.setIfInBounds_toArray,List.set_cons_zero,List.set_cons_succ]
  refine wpK_ta (i:=1) (some 29) (v:=.int .i64 2) rfl rfl (by kernel_rfl) (fun _ _ _ h=>h) (Or.inl ⟨rfl,fun _=>rfl⟩) ?_
  simp only [Act.put,List.setIfInBounds_toArray,List.set_cons_zero,List.set_cons_succ]
  refine wpK_ta (i:=2) (some 30) (v:=.pointer (some ⟨W1.heap.size,2,none⟩)) rfl rfl (by kernel_rfl) (fun _ _ _ h=>h) (Or.inl ⟨by rfl,fun W=>by go_simp⟩) ?_
  simp only [Act.put,List.setIfInBounds_toArray,List.set_cons_zero,List.set_cons_succ]
  refine wpK_tk (i:=3) (some 31) (v:=a3) rfl rfl (by kernel_rfl) (fun _ _ _ h=>h) (.val (by rfl) (fun W hg=>by have c:=(R129.out.below (GC138.out.trans (Gr.un hg)) 2 _ rfl).1;go_simp)) ?_
  simp only [Act.put,List.setIfInBounds_toArray,List.set_cons_zero,List.set_cons_succ]
  refine wpK_ta (i:=4) (some 32) (v:=.int .i64 2) rfl rfl (by kernel_rfl) (fun _ _ _ h=>h) (Or.inl ⟨rfl,fun _=>rfl⟩) ?_
  simp only [Act.put,List.setIfInBounds_toArray,List.set_cons_zero,List.set_cons_succ]
  refine wpK_ta (i:=5) (some 33) (v:=.pointer (some ⟨W33.heap.size,2,none⟩)) rfl rfl (by kernel_rfl) (fun _ _ _ h=>h) (Or.inl ⟨by rfl,fun W=>by go_simp⟩) ?_
  simp only [Act.put,List.setIfInBounds_toArray,List.set_cons_zero,List.set_cons_succ]
  refine wpK_tk (i:=6) (some 34) (v:=b3) rfl rfl (by kernel_rfl) (fun _ _ _ h=>h) (.val (by rfl) (fun W hg=>by have c:=(R130.out.below (GC138.out.trans (Gr.un hg)) 2 _ rfl).1;go_simp)) ?_
  simp only [Act.put,List.setIfInBounds_toArray,List.set_cons_zero,List.set_cons_succ]
  refine wpK_ta (i:=7) (some 35) (v:=(max a3 b3:Int)) rfl rfl (by kernel_rfl) (fun _ _ _ h=>h) (Or.inl ⟨by rfl,fun W=>by (go_simp <;> (repeat' split) <;> omega)⟩) ?_
  simp only [Act.put,List.setIfInBounds_toArray,List.set_cons_zero,List.set_cons_succ]
  refine wpK_ta (i:=8) (some 36) (v:=.pointer (some ⟨W1.heap.size,2,none⟩)) rfl rfl (by kernel_rfl) (fun _ _ _ h=>h) (Or.inl ⟨by rfl,fun W=>by go_simp⟩) ?_
  simp only [Act.put,List.setIfInBounds_toArray,List.set_cons_zero,List.set_cons_succ]
  refine wpK_store (i:=9) (none) rfl rfl (by kernel_rfl) (by rfl) (by rfl) (fun W139 hg140=>⟨W139.setCell ⟨W1.heap.size,2,none⟩ (max a3 b3:Int),by have c:=(R129.out.below (GC138.out.trans (Gr.un hg140))).cellx 2 _ rfl;have c2:=(R129.out.below (GC138.out.trans (Gr.un hg140))).softx 2 _ rfl;go_simp, ?_⟩)
  simp only [Act.put]
  refine wpK_done (by kernel_rfl) (fun V141 hv142=>?_) _
  have R144:=Lib.hid (((R126.out.below (GC138.out.trans (Gr.un hg140))).far (b:=W1.heap.size) (by omega) 2 [.int .i64 (max a3 b3)]).below hv142)
  have R145:=Lib.hid (((R127.out.below (GC138.out.trans (Gr.un hg140))).far (b:=W1.heap.size) (by omega) 2 [.int .i64 (max a3 b3)]).below hv142)
  have R146:=Lib.hid (((R128.out.below (GC138.out.trans (Gr.un hg140))).far (b:=W1.heap.size) (by omega) 2 [.int .i64 (max a3 b3)]).below hv142)
  have R147:=Lib.hid (((R132.out.below (GC138.out.trans (Gr.un hg140))).far (b:=W1.heap.size) (by omega) 2 [.int .i64 (max a3 b3)]).below hv142)
  have R148:=Lib.hid (((R130.out.below (GC138.out.trans (Gr.un hg140))).far (b:=W1.heap.size) (by omega) 2 [.int .i64 (max a3 b3)]).below hv142)
  have R149:=Lib.hid (((R131.out.below (GC138.out.trans (Gr.un hg140))).far (b:=W1.heap.size) (by omega) 2 [.int .i64 (max a3 b3)]).below hv142)
  have R150 : Hid (Row W1.heap.size [.int .i64 (max a1 b1), .int .i64 (max a2 b2), .int .i64 (max a3 b3)] V141):=Lib.hid (((R129.out.below (GC138.out.trans (Gr.un hg140))).set 2 (max a3 b3:Int) (by simp)).below hv142)
  have G143:=Lib.hid (Gr.put1 G125.out (GC138.out.trans (Gr.un hg140)) (by omega) hv142)
  clear hg140 hv142
  go_upto_region 9 with fail
  refine wpK_region (by kernel_rfl) ?_
  refine wpK_ta (i:=0) (some 37) (v:=.int .i64 2) rfl rfl (by kernel_rfl) (fun _ _ _ h=>h) (Or.inl ⟨rfl,fun _=>rfl⟩) ?_
  simp only [Act.put,List.setIfInBounds_toArray,List.set_cons_zero,List.set_cons_succ]
  refine wpK_ta (i:=1) (some 38) (v:=.int .i64 2) rfl rfl (by kernel_rfl) (fun _ _ _ h=>h) (Or.inl ⟨rfl,fun _=>rfl⟩) ?_
  simp only [Act.put,List.setIfInBounds_toArray,List.set_cons_zero,List.set_cons_succ]
  refine wpK_ta (i:=2) (some 39) (v:=.pointer (some ⟨W16.heap.size,2,none⟩)) rfl rfl (by kernel_rfl) (fun _ _ _ h=>h) (Or.inl ⟨by rfl,fun W=>by go_simp⟩) ?_
  simp only [Act.put,List.setIfInBounds_toArray,List.set_cons_zero,List.set_cons_succ]
  refine wpK_tk (i:=3) (some 40) (v:=a6) rfl rfl (by kernel_rfl) (fun _ _ _ h=>h) (.val (by rfl) (fun W hg=>by have c:=(R147.out.below (Gr.un hg) 2 _ rfl).1;go_simp)) ?_
  simp only [Act.put,List.setIfInBounds_toArray,List.set_cons_zero,List.set_cons_succ]
  refine wpK_ta (i:=4) (some 41) (v:=.int .i64 2) rfl rfl (by kernel_rfl) (fun _ _ _ h=>h) (Or.inl ⟨rfl,fun _=>rfl⟩) ?_
  simp only [Act.put,List.setIfInBounds_toArray,List.set_cons_zero,List.set_cons_succ]
  refine wpK_ta (i:=5) (some 42) (v:=.pointer (some ⟨W52.heap.size,2,none⟩)) rfl rfl (by kernel_rfl) (fun _ _ _ h=>h) (Or.inl ⟨by rfl,fun W=>by go_simp⟩) ?_
  simp only [Act.put,List.setIfInBounds_toArray,List.set_cons_zero,List.set_cons_succ]
  refine wpK_tk (i:=6) (some 43) (v:=b6) rfl rfl (by kernel_rfl) (fun _ _ _ h=>h) (.val (by rfl) (fun W hg=>by have c:=(R149.out.below (Gr.un hg) 2 _ rfl).1;go_simp)) ?_
  simp only [Act.put,List.setIfInBounds_toArray,List.set_cons_zero,List.set_cons_succ]
  refine wpK_ta (i:=7) (some 44) (v:=(min a6 b6:Int)) rfl rfl (by kernel_rfl) (fun _ _ _ h=>h) (Or.inl ⟨by rfl,fun W=>by (go_simp <;> (repeat' split) <;> omega)⟩) ?_
  simp only [Act.put,List.setIfInBounds_toArray,List.set_cons_zero,List.set_cons_succ]
  refine wpK_ta (i:=8) (some 45) (v:=.pointer (some ⟨W16.heap.size,2,none⟩)) rfl rfl (by kernel_rfl) (fun _ _ _ h=>h) (Or.inl ⟨by rfl,fun W=>by go_simp⟩) ?_
  simp only [Act.put,List.setIfInBounds_toArray,List.set_cons_zero,List.set_cons_succ]
  refine wpK_store (i:=9) (none) rfl rfl (by kernel_rfl) (by rfl) (by rfl) (fun W151 hg152=>⟨W151.setCell ⟨W16.heap.size,2,none⟩ (min a6 b6:Int),by have c:=(R147.out.below (Gr.un hg152)).cellx 2 _ rfl;have c2:=(R147.out.below (Gr.un hg152)).softx 2 _ rfl;go_simp, ?_⟩)
  simp only [Act.put]
  refine wpK_done (by kernel_rfl) (fun V153 hv154=>?_) _
  have R156:=Lib.hid (((R144.out.below (Gr.un hg152)).far (b:=W16.heap.size) (by omega) 2 [.int .i64 (min a6 b6)]).below hv154)
  have R157:=Lib.hid (((R145.out.below (Gr.un hg152)).far (b:=W16.heap.size) (by omega) 2 [.int .i64 (min a6 b6)]).below hv154)
  have R158:=Lib.hid (((R146.out.below (Gr.un hg152)).far (b:=W16.heap.size) (by omega) 2 [.int .i64 (min a6 b6)]).below hv154)
  have R159:=Lib.hid (((R150.out.below (Gr.un hg152)).far (b:=W16.heap.size) (by omega) 2 [.int .i64 (min a6 b6)]).below hv154)
  have R160:=Lib.hid (((R148.out.below (Gr.un hg152)).far (b:=W16.heap.size) (by omega) 2 [.int .i64 (min a6 b6)]).below hv154)
  have R161:=Lib.hid (((R149.out.below (Gr.un hg152)).far (b:=W16.heap.size) (by omega) 2 [.int .i64 (min a6 b6)]).below hv154)
  have R162 : Hid (Row W16.heap.size [.int .i64 (min a4 b4), .int .i64 (min a5 b5), .int .i64 (min a6 b6)] V153):=Lib.hid (((R147.out.below (Gr.un hg152)).set 2 (min a6 b6:Int) (by simp)).below hv154)
  have G155:=Lib.hid (Gr.put1 G143.out (Gr.un hg152) (by omega) hv154)
  clear hg152 hv154
  go_upto_region 7 with fail
  refine wpG_region ?_
  refine wpG_tk (some 26) (v:=.int .i64 2) rfl (.val (by rfl) (fun _ _=>rfl)) ?_
  simp only [Act.put,List.setIfInBounds_toArray,List.set_cons_zero,List.set_cons_succ]
  refine wpG_tk (some 27) (v:=.int .i64 3) rfl (.val (by rfl) (fun W hg=>by go_simp <;> rfl)) ?_
  simp only [Act.put,List.setIfInBounds_toArray,List.set_cons_zero,List.set_cons_succ]
  refine wpG_tk (some 9) (v:=.int .i64 3) rfl (.val (by rfl) (fun _ _=>rfl)) ?_
  simp only [Act.put,List.setIfInBounds_toArray,List.set_cons_zero,List.set_cons_succ]
  refine wpG_done (fun V163 hv164=>?_)
  have GC165:=Lib.hid hv164
  clear hv164
  go_wp2_with fail
  rw [rounds_succ]
  go_upto_region 6 with fail
  refine wpG_region ?_
  refine wpG_tk (some 24) (v:=.int .i64 3) rfl (.val (by rfl) (fun _ _=>rfl)) ?_
  simp only [Act.put,List.setIfInBounds_toArray,List.set_cons_zero,List.set_cons_succ]
  refine wpG_tk (some 25) (v:=.bool false) rfl (.val (by rfl) (fun W hg=>by go_simp)) ?_
  simp only [Act.put,List.setIfInBounds_toArray,List.set_cons_zero,List.set_cons_succ]
  refine wpG_done (fun V166 hv167=>?_)
  have GC168:=Lib.hid (GC165.out.trans hv167)
  clear hv167
  go_upto_region 10 with fail
  refine wpK_region (by kernel_rfl) ?_
  refine wpK_tk (i:=0) (some 46) (v:=.agg #[(max a1 b1:Int), (max a2 b2:Int), (max a3 b3:Int)]) rfl rfl (by kernel_rfl) (fun _ _ _ h=>h) (.load_mid (by rfl) 80 (.tmp 5) rfl (W1.heap.size) 0 rfl [.int .i64 (max a1 b1), .int .i64 (max a2 b2), .int .i64 (max a3 b3)] _ (fun W hg=>(R159.out.below (GC168.out.trans (Gr.un hg))).range) Tryd.underlying80 rfl (by kernel_rfl)) ?_
  simp only [Act.put,List.setIfInBounds_toArray,List.set_cons_zero,List.set_cons_succ]
  refine wpK_tk (i:=1) (some 47) (v:=.agg #[(max a1 b1:Int), (max a2 b2:Int), (max a3 b3:Int)]) rfl rfl (by kernel_rfl) (fun _ _ _ h=>h) (.call (f:=98) (args:=#[.agg #[(max a1 b1:Int), (max a2 b2:Int), (max a3 b3:Int)]]) (by rfl) (fun W=>by go_simp) (fun W hg=>rof_any (max a1 b1) (max a2 b2) (max a3 b3) W)) ?_
  simp only [Act.put,List.setIfInBounds_toArray,List.set_cons_zero,List.set_cons_succ]
  refine wpK_tk (i:=2) (some 48) (v:=.agg #[(min a4 b4:Int), (min a5 b5:Int), (min a6 b6:Int)]) rfl rfl (by kernel_rfl) (fun _ _ _ h=>h) (.load_mid (by rfl) 80 (.tmp 6) rfl (W16.heap.size) 0 rfl [.int .i64 (min a4 b4), .int .i64 (min a5 b5), .int .i64 (min a6 b6)] _ (fun W hg=>(R162.out.below (GC168.out.trans (Gr.un hg))).range) Tryd.underlying80 rfl (by kernel_rfl)) ?_
  simp only [Act.put,List.setIfInBounds_toArray,List.set_cons_zero,List.set_cons_succ]
  refine wpK_tk (i:=3) (some 49) (v:=.agg #[(min a4 b4:Int), (min a5 b5:Int), (min a6 b6:Int)]) rfl rfl (by kernel_rfl) (fun _ _ _ h=>h) (.call (f:=98) (args:=#[.agg #[(min a4 b4:Int), (min a5 b5:Int), (min a6 b6:Int)]]) (by rfl) (fun W=>by go_simp) (fun W hg=>rof_any (min a4 b4) (min a5 b5) (min a6 b6) W)) ?_
  simp only [Act.put,List.setIfInBounds_toArray,List.set_cons_zero,List.set_cons_succ]
  refine wpK_ta (i:=4) (some 50) (v:=.agg #[(max a1 b1:Int), (max a2 b2:Int), (max a3 b3:Int), (min a4 b4:Int), (min a5 b5:Int), (min a6 b6:Int)]) rfl rfl (by kernel_rfl) (fun _ _ _ h=>h) (Or.inl ⟨by rfl,fun W=>by go_simp⟩) ?_
  simp only [Act.put,List.setIfInBounds_toArray,List.set_cons_zero,List.set_cons_succ]
  refine wpK_val (i:=5) (some 10) rfl rfl (by kernel_rfl) (by rfl) (fun W169 hg170=>⟨.pointer (some ⟨W169.heap.size,0,none⟩),W169.alloc (.cells #[(), (), (), (), (), ()] 25),by (go_simp <;> rfl),Gr.al _ _, ?_⟩)
  simp only [Act.put,List.setIfInBounds_toArray,List.set_cons_zero,List.set_cons_succ]
  refine wpK_store (i:=6) (none) rfl rfl (by kernel_rfl) (by rfl) (by rfl) (fun W171 hg172=>⟨_,run_store_mid 25 (.tmp 10) (.tmp 50) rfl (W169.heap.size) 0 #[(max a1 b1:Int), (max a2 b2:Int), (max a3 b3:Int), (min a4 b4:Int), (min a5 b5:Int), (min a6 b6:Int)] rfl rfl (Row.room hg172 6 rfl) (by kernel_rfl) (by kernel_rfl), ?_⟩)
  simp only [Act.put]
  refine wpK_done (by kernel_rfl) (fun V173 hv174=>?_) _
  have l176 : w.heap.size < W169.heap.size:=(R156.out.below (GC168.out.trans (Gr.un hg170))).lt
  have l177 : w.heap.size + 1 < W169.heap.size:=(R157.out.below (GC168.out.trans (Gr.un hg170))).lt
  have l178 : w.heap.size + 1 + 1 < W169.heap.size:=(R158.out.below (GC168.out.trans (Gr.un hg170))).lt
  have l179 : W1.heap.size < W169.heap.size:=(R159.out.below (GC168.out.trans (Gr.un hg170))).lt
  have l180 : W16.heap.size < W169.heap.size:=(R162.out.below (GC168.out.trans (Gr.un hg170))).lt
  have l181 : W33.heap.size < W169.heap.size:=(R160.out.below (GC168.out.trans (Gr.un hg170))).lt
  have l182 : W52.heap.size < W169.heap.size:=(R161.out.below (GC168.out.trans (Gr.un hg170))).lt
  have l183 : w.heap.size ≤ W169.heap.size:=(Gr.to G155.out (GC168.out.trans (Gr.un hg170))).size
  have R184:=Lib.hid ((R156.out.below (GC168.out.trans (Gr.un hg170))).past hg172 hv174)
  have R185:=Lib.hid ((R157.out.below (GC168.out.trans (Gr.un hg170))).past hg172 hv174)
  have R186:=Lib.hid ((R158.out.below (GC168.out.trans (Gr.un hg170))).past hg172 hv174)
  have R187:=Lib.hid ((R159.out.below (GC168.out.trans (Gr.un hg170))).past hg172 hv174)
  have R188:=Lib.hid ((R162.out.below (GC168.out.trans (Gr.un hg170))).past hg172 hv174)
  have R189:=Lib.hid ((R160.out.below (GC168.out.trans (Gr.un hg170))).past hg172 hv174)
  have R190:=Lib.hid ((R161.out.below (GC168.out.trans (Gr.un hg170))).past hg172 hv174)
  have R191:=Lib.hid (Row.made (zs:=[.int .i64 0, .int .i64 0, .int .i64 0, .int .i64 0, .int .i64 0, .int .i64 0]) (ds:=[.int .i64 (max a1 b1), .int .i64 (max a2 b2), .int .i64 (max a3 b3), .int .i64 (min a4 b4), .int .i64 (min a5 b5), .int .i64 (min a6 b6)]) rfl hg172 hv174)
  have G175:=Lib.hid (Gr.to (Gr.to G155.out (GC168.out.trans (Gr.un hg170))) (Gr.past hg172 hv174))
  clear hg172 hv174 
  go_upto_region 11 with fail
  refine wpG_region ?_
  refine wpG_tk (some 51) (v:=.agg #[(max a1 b1:Int), (max a2 b2:Int), (max a3 b3:Int), (min a4 b4:Int), (min a5 b5:Int), (min a6 b6:Int)]) rfl (.load_mid (by rfl) 25 (.tmp 10) rfl (W169.heap.size) 0 rfl [.int .i64 (max a1 b1), .int .i64 (max a2 b2), .int .i64 (max a3 b3), .int .i64 (min a4 b4), .int .i64 (min a5 b5), .int .i64 (min a6 b6)] _ (fun W hg=>(R191.out.below hg).range) Tryd.underlying25 rfl (by kernel_rfl)) ?_
  simp only [Act.put,List.setIfInBounds_toArray,List.set_cons_zero,List.set_cons_succ]
  refine wpG_tk (some 52) (v:=.bool false) rfl (.call (f:=76) (args:=#[.agg #[(max a1 b1:Int), (max a2 b2:Int), (max a3 b3:Int), (min a4 b4:Int), (min a5 b5:Int), (min a6 b6:Int)]]) (by rfl) (fun W=>by go_simp) (fun W hg=>rempty_any (max a1 b1) (max a2 b2) (max a3 b3) (min a4 b4) (min a5 b5) (min a6 b6) false W HE.out)) ?_
  simp only [Act.put,List.setIfInBounds_toArray,List.set_cons_zero,List.set_cons_succ]
  refine wpG_tk (some 11) (v:=.bool false) rfl (.val (by rfl) (fun _ _=>rfl)) ?_
  simp only [Act.put,List.setIfInBounds_toArray,List.set_cons_zero,List.set_cons_succ]
  refine wpG_done (fun V192 hv193=>?_)
  have GC194:=Lib.hid hv193
  clear hv193
  go_upto_region 12 with fail
  refine wpG_region ?_
  refine wpG_tk (some 53) (v:=.bool false) rfl (.val (by rfl) (fun _ _=>rfl)) ?_
  simp only [Act.put,List.setIfInBounds_toArray,List.set_cons_zero,List.set_cons_succ]
  refine wpG_done (fun V195 hv196=>?_)
  have GC197:=Lib.hid (GC194.out.trans hv196)
  clear hv196
  go_upto_region 14 with fail
  refine wpG_region ?_
  refine wpG_tk (some 55) (v:=.agg #[(max a1 b1:Int), (max a2 b2:Int), (max a3 b3:Int), (min a4 b4:Int), (min a5 b5:Int), (min a6 b6:Int)]) rfl (.load_mid (by rfl) 25 (.tmp 10) rfl (W169.heap.size) 0 rfl [.int .i64 (max a1 b1), .int .i64 (max a2 b2), .int .i64 (max a3 b3), .int .i64 (min a4 b4), .int .i64 (min a5 b5), .int .i64 (min a6 b6)] _ (fun W hg=>(R191.out.below (GC197.out.trans hg)).range) Tryd.underlying25 rfl (by kernel_rfl)) ?_
  simp only [Act.put,List.setIfInBounds_toArray,List.set_cons_zero,List.set_cons_succ]
  refine wpG_store (none) rfl (by rfl) (fun W198 hg199=>⟨_,run_store_mid 25 (.tmp 4) (.tmp 55) rfl (w.heap.size + 1 + 1) 0 #[(max a1 b1:Int), (max a2 b2:Int), (max a3 b3:Int), (min a4 b4:Int), (min a5 b5:Int), (min a6 b6:Int)] rfl rfl (((R186.out.below (GC197.out.trans hg199)).there 0 6 (by decide))) (by kernel_rfl) (by kernel_rfl), ?_⟩)
  simp only [Act.put]
  refine wpG_done (fun V200 hv201=>?_)
  have R203:=Lib.hid (Row.put (ds:=[.int .i64 (max a1 b1), .int .i64 (max a2 b2), .int .i64 (max a3 b3), .int .i64 (min a4 b4), .int .i64 (min a5 b5), .int .i64 (min a6 b6)]) R186.out (GC197.out.trans hg199) rfl hv201)
  have G202:=Lib.hid (Gr.put G175.out (GC197.out.trans hg199) (by omega) hv201)
  go_wp2_with fail
  refine bodyPost_ret (results_cell_mid rfl _ _ _ (w.heap.size + 1 + 1) 0 [.int .i64 (max a1 b1), .int .i64 (max a2 b2), .int .i64 (max a3 b3), .int .i64 (min a4 b4), .int .i64 (min a5 b5), .int .i64 (min a6 b6)] _ rfl R203.out.range Tryd.underlying25 rfl (by kernel_rfl)) rfl ?_
  exact ⟨rfl,G202.out⟩

end Go.Proofs.YtjdeaopdbenamaaDoor
