/-
  Contracts of the specification of package point: which boxes contain others, numbers of cells.
-/
import Derived.Test.YtjdeaopdbenamaaDoorZF00
import Derived.Test.YtjdeaopdbenamaaDoorZF23
import Derived.Test.YtjdeaopdbenamaaDoorZF24
import Derived.Handy
namespace Go.Proofs.YtjdeaopdbenamaaDoor
open Go.RowKit
set_option linter.unusedVariables false
set_option maxRecDepth 1000000 in
set_option maxHeartbeats 4000000 in
theorem rcontains_tt (a1 a2 a3 a4 a5 a6 b1 b2 b3 b4 b5 b6 : Int) (w : World) (b : (-1048575 ≤ a1 ∧ a1 ≤ 1048575) ∧ (-1048575 ≤ a2 ∧ a2 ≤ 1048575) ∧ (-1048575 ≤ a3 ∧ a3 ≤ 1048575) ∧ (-1048575 ≤ a4 ∧ a4 ≤ 1048575) ∧ (-1048575 ≤ a5 ∧ a5 ≤ 1048575) ∧ (-1048575 ≤ a6 ∧ a6 ≤ 1048575) ∧ (-1048575 ≤ b1 ∧ b1 ≤ 1048575) ∧ (-1048575 ≤ b2 ∧ b2 ≤ 1048575) ∧ (-1048575 ≤ b3 ∧ b3 ≤ 1048575) ∧ (-1048575 ≤ b4 ∧ b4 ≤ 1048575) ∧ (-1048575 ≤ b5 ∧ b5 ≤ 1048575) ∧ (-1048575 ≤ b6 ∧ b6 ≤ 1048575)) (hm : Pt.meet a1 a2 a3 a4 a5 a6 b1 b2 b3 b4 b5 b6 = true) (hq : Pt.vol 0 0 0 0 0 0 = Pt.vol b1 b2 b3 b4 b5 b6) :
    Calls Tryd.prog 34 #[.agg #[a1, a2, a3, a4, a5, a6], .agg #[b1, b2, b3, b4, b5, b6]] w fun e w'=>e = .returned (.bool true) ∧ Below w.heap.size w w':=by
  have HM:=Lib.hid hm
  clear hm
  obtain ⟨u,hu,r0,r1,g0⟩:=rows2 w [.int .i64 a1, .int .i64 a2, .int .i64 a3, .int .i64 a4, .int .i64 a5, .int .i64 a6] 25 [.int .i64 b1, .int .i64 b2, .int .i64 b3, .int .i64 b4, .int .i64 b5, .int .i64 b6] 25
  have R0:=Lib.hid r0
  have R1:=Lib.hid r1
  have G0:=Lib.hid g0
  have HU:=Lib.hid hu
  clear hu g0 r0 r1
  go_enter Tryd.func34,Tryd.ntmps34
  go_upto_region 1 with fail
  rw [← HU.out]
  refine wpK_region (by kernel_rfl) ?_
  refine wpK_tk (i:=0) (some 5) (v:=.agg #[a1, a2, a3, a4, a5, a6]) rfl rfl (by kernel_rfl) (fun _ _ _ h=>h) (.load_mid (by rfl) 25 (.tmp 2) rfl (w.heap.size) 0 rfl [.int .i64 a1, .int .i64 a2, .int .i64 a3, .int .i64 a4, .int .i64 a5, .int .i64 a6] _ (fun W hg=>(R0.out.below (Gr.un hg)).range) Tryd.underlying25 rfl (by kernel_rfl)) ?_
  simp only [Act.put,List.setIfInBounds_toArray,List.set_cons_zero,List.set_cons_succ]
  refine wpK_tk (i:=1) (some 6) (v:=.agg #[b1, b2, b3, b4, b5, b6]) rfl rfl (by kernel_rfl) (fun _ _ _ h=>h) (.load_mid (by rfl) 25 (.tmp 3) rfl (w.heap.size + 1) 0 rfl [.int .i64 b1, .int .i64 b2, .int .i64 b3, .int .i64 b4, .int .i64 b5, .int .i64 b6] _ (fun W hg=>(R1.out.below (Gr.un hg)).range) Tryd.underlying25 rfl (by kernel_rfl)) ?_
  simp only [Act.put,List.setIfInBounds_toArray,List.set_cons_zero,List.set_cons_succ]
  refine wpK_tk (i:=2) (some 7) (v:=.agg #[(), (), (), (), (), ()]) rfl rfl (by kernel_rfl) (fun _ _ _ h=>h) (.call (f:=74) (args:=#[.agg #[a1, a2, a3, a4, a5, a6], .agg #[b1, b2, b3, b4, b5, b6]]) (by rfl) (fun W=>by go_simp) (fun W hg=>rinter_t a1 a2 a3 a4 a5 a6 b1 b2 b3 b4 b5 b6 W (by omega) HM.out)) ?_
  simp only [Act.put,List.setIfInBounds_toArray,List.set_cons_zero,List.set_cons_succ]
  refine wpK_tk (i:=3) (some 8) (v:=(Pt.vol 0 0 0 0 0 0)) rfl rfl (by kernel_rfl) (fun _ _ _ h=>h) (.call (f:=10) (args:=#[.agg #[(), (), (), (), (), ()]]) (by rfl) (fun W=>by go_simp) (fun W hg=>rvolume_any 0 0 0 0 0 0 W (by omega))) ?_
  simp only [Act.put,List.setIfInBounds_toArray,List.set_cons_zero,List.set_cons_succ]
  refine wpK_tk (i:=4) (some 9) (v:=.agg #[b1, b2, b3, b4, b5, b6]) rfl rfl (by kernel_rfl) (fun _ _ _ h=>h) (.load_mid (by rfl) 25 (.tmp 3) rfl (w.heap.size + 1) 0 rfl [.int .i64 b1, .int .i64 b2, .int .i64 b3, .int .i64 b4, .int .i64 b5, .int .i64 b6] _ (fun W hg=>(R1.out.below (Gr.un hg)).range) Tryd.underlying25 rfl (by kernel_rfl)) ?_
  simp only [Act.put,List.setIfInBounds_toArray,List.set_cons_zero,List.set_cons_succ]
  refine wpK_tk (i:=5) (some 10) (v:=(Pt.vol b1 b2 b3 b4 b5 b6)) rfl rfl (by kernel_rfl) (fun _ _ _ h=>h) (.call (f:=10) (args:=#[.agg #[b1, b2, b3, b4, b5, b6]]) (by rfl) (fun W=>by go_simp) (fun W hg=>rvolume_any b1 b2 b3 b4 b5 b6 W (by omega))) ?_
  simp only [Act.put,List.setIfInBounds_toArray,List.set_cons_zero,List.set_cons_succ]
  refine wpK_ta (i:=6) (some 11) (v:=.bool true) rfl rfl (by kernel_rfl) (fun _ _ _ h=>h) (Or.inl ⟨by rfl,fun W=>by have hq : (Pt.vol 0 0 0 0 0 0 = Pt.vol b1 b2 b3 b4 b5 b6):=(by omega);go_simp⟩) ?_
  simp only [Act.put,List.setIfInBounds_toArray,List.set_cons_zero,List.set_cons_succ]
  refine wpK_ta (i:=7) (some 4) (v:=.bool true) rfl rfl (by kernel_rfl) (fun _ _ _ h=>h) (Or.inl ⟨rfl,fun _=>rfl⟩) ?_
  simp only [Act.put,List.setIfInBounds_toArray,List.set_cons_zero,List.set_cons_succ]
  refine wpK_done (by kernel_rfl) (fun V1 hv2=>?_) _
  have GC3:=Lib.hid (Gr.un hv2)
  clear hv2
  go_wp2_with fail
  go_ret
  exact ⟨rfl,Gr.to G0.out GC3.out⟩
set_option maxRecDepth 1000000 in
set_option maxHeartbeats 4000000 in
theorem rcontains_tf (a1 a2 a3 a4 a5 a6 b1 b2 b3 b4 b5 b6 : Int) (w : World) (b : (-1048575 ≤ a1 ∧ a1 ≤ 1048575) ∧ (-1048575 ≤ a2 ∧ a2 ≤ 1048575) ∧ (-1048575 ≤ a3 ∧ a3 ≤ 1048575) ∧ (-1048575 ≤ a4 ∧ a4 ≤ 1048575) ∧ (-1048575 ≤ a5 ∧ a5 ≤ 1048575) ∧ (-1048575 ≤ a6 ∧ a6 ≤ 1048575) ∧ (-1048575 ≤ b1 ∧ b1 ≤ 1048575) ∧ (-1048575 ≤ b2 ∧ b2 ≤ 1048575) ∧ (-1048575 ≤ b3 ∧ b3 ≤ 1048575) ∧ (-1048575 ≤ b4 ∧ b4 ≤ 1048575) ∧ (-1048575 ≤ b5 ∧ b5 ≤ 1048575) ∧ (-1048575 ≤ b6 ∧ b6 ≤ 1048575)) (hm : Pt.meet a1 a2 a3 a4 a5 a6 b1 b2 b3 b4 b5 b6 = true) (hq : ¬ Pt.vol 0 0 0 0 0 0 = Pt.vol b1 b2 b3 b4 b5 b6) :
    Calls Tryd.prog 34 #[.agg #[a1, a2, a3, a4, a5, a6], .agg #[b1, b2, b3, b4, b5, b6]] w fun e w'=>e = .returned (.bool false) ∧ Below w.heap.size w w':=by
  have HM:=Lib.hid hm
  clear hm
  obtain ⟨u,hu,r0,r1,g0⟩:=rows2 w [.int .i64 a1, .int .i64 a2, .int .i64 a3, .int .i64 a4, .int .i64 a5, .int .i64 a6] 25 [.int .i64 b1, .int .i64 b2, .int .i64 b3, .int .i64 b4, .int .i64 b5, .int .i64 b6] 25
  have R0:=Lib.hid r0
  have R1:=Lib.hid r1
  have G0:=Lib.hid g0
  have HU:=Lib.hid hu
  clear hu g0 r0 r1
  go_enter Tryd.func34,Tryd.ntmps34
  go_upto_region 1 with fail
  rw [← HU.out]
  refine wpK_region (by kernel_rfl) ?_
  refine wpK_tk (i:=0) (some 5) (v:=.agg #[a1, a2, a3, a4, a5, a6]) rfl rfl (by kernel_rfl) (fun _ _ _ h=>h) (.load_mid (by rfl) 25 (.tmp 2) rfl (w.heap.size) 0 rfl [.int .i64 a1, .int .i64 a2, .int .i64 a3, .int .i64 a4, .int .i64 a5, .int .i64 a6] _ (fun W hg=>(R0.out.below (Gr.un hg)).range) Tryd.underlying25 rfl (by kernel_rfl)) ?_
  simp only [Act.put,List.setIfInBounds_toArray,List.set_cons_zero,List.set_cons_succ]
  refine wpK_tk (i:=1) (some 6) (v:=.agg #[b1, b2, b3, b4, b5, b6]) rfl rfl (by kernel_rfl) (fun _ _ _ h=>h) (.load_mid (by rfl) 25 (.tmp 3) rfl (w.heap.size + 1) 0 rfl [.int .i64 b1, .int .i64 b2, .int .i64 b3, .int .i64 b4, .int .i64 b5, .int .i64 b6] _ (fun W hg=>(R1.out.below (Gr.un hg)).range) Tryd.underlying25 rfl (by kernel_rfl)) ?_
  simp only [Act.put,List.setIfInBounds_toArray,List.set_cons_zero,List.set_cons_succ]
  refine wpK_tk (i:=2) (some 7) (v:=.agg #[(), (), (), (), (), ()]) rfl rfl (by kernel_rfl) (fun _ _ _ h=>h) (.call (f:=74) (args:=#[.agg #[a1, a2, a3, a4, a5, a6], .agg #[b1, b2, b3, b4, b5, b6]]) (by rfl) (fun W=>by go_simp) (fun W hg=>rinter_t a1 a2 a3 a4 a5 a6 b1 b2 b3 b4 b5 b6 W (by omega) HM.out)) ?_
  simp only [Act.put,List.setIfInBounds_toArray,List.set_cons_zero,List.set_cons_succ]
  refine wpK_tk (i:=3) (some 8) (v:=(Pt.vol 0 0 0 0 0 0)) rfl rfl (by kernel_rfl) (fun _ _ _ h=>h) (.call (f:=10) (args:=#[.agg #[(), (), (), (), (), ()]]) (by rfl) (fun W=>by go_simp) (fun W hg=>rvolume_any 0 0 0 0 0 0 W (by omega))) ?_
  simp only [Act.put,List.setIfInBounds_toArray,List.set_cons_zero,List.set_cons_succ]
  refine wpK_tk (i:=4) (some 9) (v:=.agg #[b1, b2, b3, b4, b5, b6]) rfl rfl (by kernel_rfl) (fun _ _ _ h=>h) (.load_mid (by rfl) 25 (.tmp 3) rfl (w.heap.size + 1) 0 rfl [.int .i64 b1, .int .i64 b2, .int .i64 b3, .int .i64 b4, .int .i64 b5, .int .i64 b6] _ (fun W hg=>(R1.out.below (Gr.un hg)).range) Tryd.underlying25 rfl (by kernel_rfl)) ?_
  simp only [Act.put,List.setIfInBounds_toArray,List.set_cons_zero,List.set_cons_succ]
  refine wpK_tk (i:=5) (some 10) (v:=(Pt.vol b1 b2 b3 b4 b5 b6)) rfl rfl (by kernel_rfl) (fun _ _ _ h=>h) (.call (f:=10) (args:=#[.agg #[b1, b2, b3, b4, b5, b6]]) (by rfl) (fun W=>by go_simp) (fun W hg=>rvolume_any b1 b2 b3 b4 b5 b6 W (by omega))) ?_
  simp only [Act.put,List.setIfInBounds_toArray,List.set_cons_zero,List.set_cons_succ]
  refine wpK_ta (i:=6) (some 11) (v:=.bool false) rfl rfl (by kernel_rfl) (fun _ _ _ h=>h) (Or.inl ⟨by rfl,fun W=>by have hq : ¬ (Pt.vol 0 0 0 0 0 0 = Pt.vol b1 b2 b3 b4 b5 b6):=(by omega);go_simp⟩) ?_
  simp only [Act.put,List.setIfInBounds_toArray,List.set_cons_zero,List.set_cons_succ]
  refine wpK_ta (i:=7) (some 4) (v:=.bool false) rfl rfl (by kernel_rfl) (fun _ _ _ h=>h) (Or.inl ⟨rfl,fun _=>rfl⟩) ?_
  simp only [Act.put,List.setIfInBounds_toArray,List.set_cons_zero,List.set_cons_succ]
  refine wpK_done (by kernel_rfl) (fun V1 hv2=>?_) _
  have GC3:=Lib.hid (Gr.un hv2)
  clear hv2
  go_wp2_with fail
  go_ret
  exact ⟨rfl,Gr.to G0.out GC3.out⟩
set_option maxRecDepth 1000000 in
set_option maxHeartbeats 4000000 in
theorem rcontains_ft (a1 a2 a3 a4 a5 a6 b1 b2 b3 b4 b5 b6 : Int) (w : World) (b : (-1048575 ≤ a1 ∧ a1 ≤ 1048575) ∧ (-1048575 ≤ a2 ∧ a2 ≤ 1048575) ∧ (-1048575 ≤ a3 ∧ a3 ≤ 1048575) ∧ (-1048575 ≤ a4 ∧ a4 ≤ 1048575) ∧ (-1048575 ≤ a5 ∧ a5 ≤ 1048575) ∧ (-1048575 ≤ a6 ∧ a6 ≤ 1048575) ∧ (-1048575 ≤ b1 ∧ b1 ≤ 1048575) ∧ (-1048575 ≤ b2 ∧ b2 ≤ 1048575) ∧ (-1048575 ≤ b3 ∧ b3 ≤ 1048575) ∧ (-1048575 ≤ b4 ∧ b4 ≤ 1048575) ∧ (-1048575 ≤ b5 ∧ b5 ≤ 1048575) ∧ (-1048575 ≤ b6 ∧ b6 ≤ 1048575)) (hm : Pt.meet a1 a2 a3 a4 a5 a6 b1 b2 b3 b4 b5 b6 = false) (hq : Pt.vol (max a1 b1) (max a2 b2) (max a3 b3) (min a4 b4) (min a5 b5) (min a6 b6) = Pt.vol b1 b2 b3 b4 b5 b6) :
    Calls Tryd.prog 34 #[.agg #[a1, a2, a3, a4, a5, a6], .agg #[b1, b2, b3, b4, b5, b6]] w fun e w'=>e = .returned (.bool true) ∧ Below w.heap.size w w':=by
  have HM:=Lib.hid hm
  clear hm
  obtain ⟨u,hu,r0,r1,g0⟩:=rows2 w [.int .i64 a1, .int .i64 a2, .int .i64 a3, .int .i64 a4, .int .i64 a5, .int .i64 a6] 25 [.int .i64 b1, .int .i64 b2, .int .i64 b3, .int .i64 b4, .int .i64 b5, .int .i64 b6] 25
  have R0:=Lib.hid r0
  have R1:=Lib.hid r1
  have G0:=Lib.hid g0
  have HU:=Lib.hid hu
  clear hu g0 r0 r1
  go_enter Tryd.func34,Tryd.ntmps34
  go_upto_region 1 with fail
  rw [← HU.out]
  refine wpK_region (by kernel_rfl) ?_
  refine wpK_tk (i:=0) (some 5) (v:=.agg #[a1, a2, a3, a4, a5, a6]) rfl rfl (by kernel_rfl) (fun _ _ _ h=>h) (.load_mid (by rfl) 25 (.tmp 2) rfl (w.heap.size) 0 rfl [.int .i64 a1, .int .i64 a2, .int .i64 a3, .int .i64 a4, .int .i64 a5, .int .i64 a6] _ (fun W hg=>(R0.out.below (Gr.un hg)).range) Tryd.underlying25 rfl (by kernel_rfl)) ?_
  simp only [Act.put,List.setIfInBounds_toArray,List.set_cons_zero,List.set_cons_succ]
  refine wpK_tk (i:=1) (some 6) (v:=.agg #[b1, b2, b3, b4, b5, b6]) rfl rfl (by kernel_rfl) (fun _ _ _ h=>h) (.load_mid (by rfl) 25 (.tmp 3) rfl (w.heap.size + 1) 0 rfl [.int .i64 b1, .int .i64 b2, .int .i64 b3, .int .i64 b4, .int .i64 b5, .int .i64 b6] _ (fun W hg=>(R1.out.below (Gr.un hg)).range) Tryd.underlying25 rfl (by kernel_rfl)) ?_
  simp only [Act.put,List.setIfInBounds_toArray,List.set_cons_zero,List.set_cons_succ]
  refine wpK_tk (i:=2) (some 7) (v:=.agg #[(max a1 b1:Int), (max a2 b2:Int), (max a3 b3:Int), (min a4 b4:Int), (min a5 b5:Int), (min a6 b6:Int)]) rfl rfl (by kernel_rfl) (fun _ _ _ h=>h) (.call (f:=74) (args:=#[.agg #[a1, a2, a3, a4, a5, a6], .agg #[b1, b2, b3, b4, b5, b6]]) (by rfl) (fun W=>by go_simp) (fun W hg=>rinter_f a1 a2 a3 a4 a5 a6 b1 b2 b3 b4 b5 b6 W (by omega) HM.out)) ?_
  simp only [Act.put,List.setIfInBounds_toArray,List.set_cons_zero,List.set_cons_succ]
  refine wpK_tk (i:=3) (some 8) (v:=(Pt.vol (max a1 b1) (max a2 b2) (max a3 b3) (min a4 b4) (min a5 b5) (min a6 b6))) rfl rfl (by kernel_rfl) (fun _ _ _ h=>h) (.call (f:=10) (args:=#[.agg #[(max a1 b1:Int), (max a2 b2:Int), (max a3 b3:Int), (min a4 b4:Int), (min a5 b5:Int), (min a6 b6:Int)]]) (by rfl) (fun W=>by go_simp) (fun W hg=>rvolume_any (max a1 b1) (max a2 b2) (max a3 b3) (min a4 b4) (min a5 b5) (min a6 b6) W (by omega))) ?_
  simp only [Act.put,List.setIfInBounds_toArray,List.set_cons_zero,List.set_cons_succ]
  refine wpK_tk (i:=4) (some 9) (v:=.agg #[b1, b2, b3, b4, b5, b6]) rfl rfl (by kernel_rfl) (fun _ _ _ h=>h) (.load_mid (by rfl) 25 (.tmp 3) rfl (w.heap.size + 1) 0 rfl [.int .i64 b1, .int .i64 b2, .int .i64 b3, .int .i64 b4, .int .i64 b5, .int .i64 b6] _ (fun W hg=>(R1.out.below (Gr.un hg)).range) Tryd.underlying25 rfl (by kernel_rfl)) ?_
  simp only [Act.put,List.setIfInBounds_toArray,List.set_cons_zero,List.set_cons_succ]
  refine wpK_tk (i:=5) (some 10) (v:=(Pt.vol b1 b2 b3 b4 b5 b6)) rfl rfl (by kernel_rfl) (fun _ _ _ h=>h) (.call (f:=10) (args:=#[.agg #[b1, b2, b3, b4, b5, b6]]) (by rfl) (fun W=>by go_simp) (fun W hg=>rvolume_any b1 b2 b3 b4 b5 b6 W (by omega))) ?_
  simp only [Act.put,List.setIfInBounds_toArray,List.set_cons_zero,List.set_cons_succ]
  refine wpK_ta (i:=6) (some 11) (v:=.bool true) rfl rfl (by kernel_rfl) (fun _ _ _ h=>h) (Or.inl ⟨by rfl,fun W=>by have hq : (Pt.vol (max a1 b1) (max a2 b2) (max a3 b3) (min a4 b4) (min a5 b5) (min a6 b6) = Pt.vol b1 b2 b3 b4 b5 b6):=(by omega);go_simp⟩) ?_
  simp only [Act.put,List.setIfInBounds_toArray,List.set_cons_zero,List.set_cons_succ]
  refine wpK_ta (i:=7) (some 4) (v:=.bool true) rfl rfl (by kernel_rfl) (fun _ _ _ h=>h) (Or.inl ⟨rfl,fun _=>rfl⟩) ?_
  simp only [Act.put,List.setIfInBounds_toArray,List.set_cons_zero,List.set_cons_succ]
  refine wpK_done (by kernel_rfl) (fun V1 hv2=>?_) _
  have GC3:=Lib.hid (Gr.un hv2)
  clear hv2
  go_wp2_with fail
  go_ret
  exact ⟨rfl,Gr.to G0.out GC3.out⟩
set_option maxRecDepth 1000000 in
set_option maxHeartbeats 4000000 in
theorem rcontains_ff (a1 a2 a3 a4 a5 a6 b1 b2 b3 b4 b5 b6 : Int) (w : World) (b : (-1048575 ≤ a1 ∧ a1 ≤ 1048575) ∧ (-1048575 ≤ a2 ∧ a2 ≤ 1048575) ∧ (-1048575 ≤ a3 ∧ a3 ≤ 1048575) ∧ (-1048575 ≤ a4 ∧ a4 ≤ 1048575) ∧ (-1048575 ≤ a5 ∧ a5 ≤ 1048575) ∧ (-1048575 ≤ a6 ∧ a6 ≤ 1048575) ∧ (-1048575 ≤ b1 ∧ b1 ≤ 1048575) ∧ (-1048575 ≤ b2 ∧ b2 ≤ 1048575) ∧ (-1048575 ≤ b3 ∧ b3 ≤ 1048575) ∧ (-1048575 ≤ b4 ∧ b4 ≤ 1048575) ∧ (-1048575 ≤ b5 ∧ b5 ≤ 1048575) ∧ (-1048575 ≤ b6 ∧ b6 ≤ 1048575)) (hm : Pt.meet a1 a2 a3 a4 a5 a6 b1 b2 b3 b4 b5 b6 = false) (hq : ¬ Pt.vol (max a1 b1) (max a2 b2) (max a3 b3) (min a4 b4) (min a5 b5) (min a6 b6) = Pt.vol b1 b2 b3 b4 b5 b6) :
    Calls Tryd.prog 34 #[.agg #[a1, a2, a3, a4, a5, a6], .agg #[b1, b2, b3, b4, b5, b6]] w fun e w'=>e = .returned (.bool false) ∧ Below w.heap.size w w':=by
  have HM:=Lib.hid hm
  clear hm
  obtain ⟨u,hu,r0,r1,g0⟩:=rows2 w [.int .i64 a1, .int .i64 a2, .int .i64 a3, .int .i64 a4, .int .i64 a5, .int .i64 a6] 25 [.int .i64 b1, .int .i64 b2, .int .i64 b3, .int .i64 b4, .int .i64 b5, .int .i64 b6] 25
  have R0:=Lib.hid r0
  have R1:=Lib.hid r1
  have G0:=Lib.hid g0
  have HU:=Lib.hid hu
  clear hu g0 r0 r1
  go_enter Tryd.func34,Tryd.ntmps34
  go_upto_region 1 with fail
  rw [← HU.out]
  refine wpK_region (by kernel_rfl) ?_
  refine wpK_tk (i:=0) (some 5) (v:=.agg #[a1, a2, a3, a4, a5, a6]) rfl rfl (by kernel_rfl) (fun _ _ _ h=>h) (.load_mid (by rfl) 25 (.tmp 2) rfl (w.heap.size) 0 rfl [.int .i64 a1, .int .i64 a2, .int .i64 a3, .int .i64 a4, .int .i64 a5, .int .i64 a6] _ (fun W hg=>(R0.out.below (Gr.un hg)).range) Tryd.underlying25 rfl (by kernel_rfl)) ?_
  simp only [Act.put,List.setIfInBounds_toArray,List.set_cons_zero,List.set_cons_succ]
  refine wpK_tk (i:=1) (some 6) (v:=.agg #[b1, b2, b3, b4, b5, b6]) rfl rfl (by kernel_rfl) (fun _ _ _ h=>h) (.load_mid (by rfl) 25 (.tmp 3) rfl (w.heap.size + 1) 0 rfl [.int .i64 b1, .int .i64 b2, .int .i64 b3, .int .i64 b4, .int .i64 b5, .int .i64 b6] _ (fun W hg=>(R1.out.below (Gr.un hg)).range) Tryd.underlying25 rfl (by kernel_rfl)) ?_
  simp only [Act.put,List.setIfInBounds_toArray,List.set_cons_zero,List.set_cons_succ]
  refine wpK_tk (i:=2) (some 7) (v:=.agg #[(max a1 b1:Int), (max a2 b2:Int), (max a3 b3:Int), (min a4 b4:Int), (min a5 b5:Int), (min a6 b6:Int)]) rfl rfl (by kernel_rfl) (fun _ _ _ h=>h) (.call (f:=74) (args:=#[.agg #[a1, a2, a3, a4, a5, a6], .agg #[b1, b2, b3, b4, b5, b6]]) (by rfl) (fun W=>by go_simp) (fun W hg=>rinter_f a1 a2 a3 a4 a5 a6 b1 b2 b3 b4 b5 b6 W (by omega) HM.out)) ?_
  simp only [Act.put,List.setIfInBounds_toArray,List.set_cons_zero,List.set_cons_succ]
  refine wpK_tk (i:=3) (some 8) (v:=(Pt.vol (max a1 b1) (max a2 b2) (max a3 b3) (min a4 b4) (min a5 b5) (min a6 b6))) rfl rfl (by kernel_rfl) (fun _ _ _ h=>h) (.call (f:=10) (args:=#[.agg #[(max a1 b1:Int), (max a2 b2:Int), (max a3 b3:Int), (min a4 b4:Int), (min a5 b5:Int), (min a6 b6:Int)]]) (by rfl) (fun W=>by go_simp) (fun W hg=>rvolume_any (max a1 b1) (max a2 b2) (max a3 b3) (min a4 b4) (min a5 b5) (min a6 b6) W (by omega))) ?_
  simp only [Act.put,List.setIfInBounds_toArray,List.set_cons_zero,List.set_cons_succ]
  refine wpK_tk (i:=4) (some 9) (v:=.agg #[b1, b2, b3, b4, b5, b6]) rfl rfl (by kernel_rfl) (fun _ _ _ h=>h) (.load_mid (by rfl) 25 (.tmp 3) rfl (w.heap.size + 1) 0 rfl [.int .i64 b1, .int .i64 b2, .int .i64 b3, .int .i64 b4, .int .i64 b5, .int .i64 b6] _ (fun W hg=>(R1.out.below (Gr.un hg)).range) Tryd.underlying25 rfl (by kernel_rfl)) ?_
  simp only [Act.put,List.setIfInBounds_toArray,List.set_cons_zero,List.set_cons_succ]
  refine wpK_tk (i:=5) (some 10) (v:=(Pt.vol b1 b2 b3 b4 b5 b6)) rfl rfl (by kernel_rfl) (fun _ _ _ h=>h) (.call (f:=10) (args:=#[.agg #[b1, b2, b3, b4, b5, b6]]) (by rfl) (fun W=>by go_simp) (fun W hg=>rvolume_any b1 b2 b3 b4 b5 b6 W (by omega))) ?_
  simp only [Act.put,List.setIfInBounds_toArray,List.set_cons_zero,List.set_cons_succ]
  refine wpK_ta (i:=6) (some 11) (v:=.bool false) rfl rfl (by kernel_rfl) (fun _ _ _ h=>h) (Or.inl ⟨by rfl,fun W=>by have hq : ¬ (Pt.vol (max a1 b1) (max a2 b2) (max a3 b3) (min a4 b4) (min a5 b5) (min a6 b6) = Pt.vol b1 b2 b3 b4 b5 b6):=(by omega);go_simp⟩) ?_
  simp only [Act.put,List.setIfInBounds_toArray,List.set_cons_zero,List.set_cons_succ]
  refine wpK_ta (i:=7) (some 4) (v:=.bool false) rfl rfl (by kernel_rfl) (fun _ _ _ h=>h) (Or.inl ⟨rfl,fun _=>rfl⟩) ?_
  simp only [Act.put,List.setIfInBounds_toArray,List.set_cons_zero,List.set_cons_succ]
  refine wpK_done (by kernel_rfl) (fun V1 hv2=>?_) _
  have GC3:=Lib.hid (Gr.un hv2)
  clear hv2
  go_wp2_with fail
  go_ret
  exact ⟨rfl,Gr.to G0.out GC3.out⟩
end Go.Proofs.YtjdeaopdbenamaaDoor
