/-
  Contracts of package point: sums, differences, multiples, distances.
-/
import Derived.Test.YtpapbbolefnkmaaDoorZB00
import Derived.Test.YtpapbbolefnkmaaDoorZB03
import Derived.Test.YtpapbbolefnkmaaDoorZB02
import Derived.Handy
namespace Go.Proofs.YtpapbbolefnkmaaDoor
open Go.RowKit
set_option linter.unusedVariables false

theorem add1_any (x y : Int) (w : World) (h : (-2097152 ≤ x ∧ x ≤ 2097152) ∧ (-2097152 ≤ y ∧ y ≤ 2097152)) :
    Calls Tryd.prog 110 #[x, y] w fun e w'=>e = .returned (x + y:Int) ∧ Below w.heap.size w w':=by
  go_enter Tryd.func110,Tryd.ntmps110
  go_wp2_with fail
  go_ret
  exact ⟨rfl,Below.refl _ _⟩

theorem sub1_any (x y : Int) (w : World) (h : (-2097152 ≤ x ∧ x ≤ 2097152) ∧ (-2097152 ≤ y ∧ y ≤ 2097152)) :
    Calls Tryd.prog 111 #[x, y] w fun e w'=>e = .returned (x - y:Int) ∧ Below w.heap.size w w':=by
  go_enter Tryd.func111,Tryd.ntmps111
  go_wp2_with fail
  go_ret
  exact ⟨rfl,Below.refl _ _⟩

theorem greatest1_any (x y : Int) (w : World) (h : (-2097152 ≤ x ∧ x ≤ 2097152) ∧ (-2097152 ≤ y ∧ y ≤ 2097152)) :
    Calls Tryd.prog 106 #[x, y] w fun e w'=>e = .returned (max x y:Int) ∧ Below w.heap.size w w':=by
  go_enter Tryd.func106,Tryd.ntmps106
  go_wp2_with fail
  all_goals (go_ret;exact ⟨ret_int (by omega),Below.refl _ _⟩)

theorem least1_any (x y : Int) (w : World) (h : (-2097152 ≤ x ∧ x ≤ 2097152) ∧ (-2097152 ≤ y ∧ y ≤ 2097152)) :
    Calls Tryd.prog 107 #[x, y] w fun e w'=>e = .returned (min x y:Int) ∧ Below w.heap.size w w':=by
  go_enter Tryd.func107,Tryd.ntmps107
  go_wp2_with fail
  all_goals (go_ret;exact ⟨ret_int (by omega),Below.refl _ _⟩)

set_option maxRecDepth 1000000 in
theorem combine_add (x1 x2 x3 y1 y2 y3 : Int) (w : World) (h : (-2097152 ≤ x1 ∧ x1 ≤ 2097152) ∧ (-2097152 ≤ x2 ∧ x2 ≤ 2097152) ∧ (-2097152 ≤ x3 ∧ x3 ≤ 2097152) ∧ (-2097152 ≤ y1 ∧ y1 ≤ 2097152) ∧ (-2097152 ≤ y2 ∧ y2 ≤ 2097152) ∧ (-2097152 ≤ y3 ∧ y3 ≤ 2097152)) :
    Calls Tryd.prog 105 #[.agg #[x1, x2, x3], .agg #[y1, y2, y3], .func (.func 110) #[] #[]] w fun e w'=>e = .returned (.agg #[(x1 + y1:Int), (x2 + y2:Int), (x3 + y3:Int)]) ∧ Below w.heap.size w w':=by
  obtain ⟨u,hu,r0,r1,r2,g0⟩:=rows3 w [.int .i64 x1, .int .i64 x2, .int .i64 x3] 23 [.int .i64 y1, .int .i64 y2, .int .i64 y3] 23 [.int .i64 0, .int .i64 0, .int .i64 0] 23
  have R0:=Lib.hid r0
  have R1:=Lib.hid r1
  have R2:=Lib.hid r2
  have G0:=Lib.hid g0
  have HU:=Lib.hid hu
  clear hu g0 r0 r1 r2
  go_enter Tryd.func105,Tryd.ntmps105
  go_upto_region 1 with fail
  rw [← HU.out]
  refine wpK_region (by kernel_rfl) ?_
  refine wpK_ta (i:=0) (some 7) (v:=.func (.func 110) #[] #[]) rfl rfl (by kernel_rfl) (fun _ _ _ h=>h) (Or.inl ⟨rfl,fun _=>rfl⟩) ?_
  simp only [Act.put,zA,zB,zC]
  refine wpK_ta (i:=1) (some 8) (v:=.pointer (some ⟨w.heap.size,0,none⟩)) rfl rfl (by kernel_rfl) (fun _ _ _ h=>h) (Or.inl ⟨by rfl,fun W=>by go_simp⟩) ?_
  simp only [Act.put,zA,zB,zC]
  refine wpK_tk (i:=2) (some 9) (v:=x1) rfl rfl (by kernel_rfl) (fun _ _ _ h=>h) (.val (by rfl) (fun W hg=>by have c:=(R0.out.below (Gr.un hg) 0 _ rfl).1;go_simp)) ?_
  simp only [Act.put,zA,zB,zC]
  refine wpK_ta (i:=3) (some 10) (v:=.pointer (some ⟨w.heap.size + 1,0,none⟩)) rfl rfl (by kernel_rfl) (fun _ _ _ h=>h) (Or.inl ⟨by rfl,fun W=>by go_simp⟩) ?_
  simp only [Act.put,zA,zB,zC]
  refine wpK_tk (i:=4) (some 11) (v:=y1) rfl rfl (by kernel_rfl) (fun _ _ _ h=>h) (.val (by rfl) (fun W hg=>by have c:=(R1.out.below (Gr.un hg) 0 _ rfl).1;go_simp)) ?_
  simp only [Act.put,zA,zB,zC]
  refine wpK_tk (i:=5) (some 12) (v:=(x1 + y1:Int)) rfl rfl (by kernel_rfl) (fun _ _ _ h=>h) (.call (f:=110) (args:=#[x1, y1]) (by rfl) (fun W=>by go_simp) (fun W hg=>add1_any x1 y1 W (by omega))) ?_
  simp only [Act.put,zA,zB,zC]
  refine wpK_ta (i:=6) (some 13) (v:=.func (.func 110) #[] #[]) rfl rfl (by kernel_rfl) (fun _ _ _ h=>h) (Or.inl ⟨rfl,fun _=>rfl⟩) ?_
  simp only [Act.put,zA,zB,zC]
  refine wpK_ta (i:=7) (some 14) (v:=.pointer (some ⟨w.heap.size,1,none⟩)) rfl rfl (by kernel_rfl) (fun _ _ _ h=>h) (Or.inl ⟨by rfl,fun W=>by go_simp⟩) ?_
  simp only [Act.put,zA,zB,zC]
  refine wpK_tk (i:=8) (some 15) (v:=x2) rfl rfl (by kernel_rfl) (fun _ _ _ h=>h) (.val (by rfl) (fun W hg=>by have c:=(R0.out.below (Gr.un hg) 1 _ rfl).1;go_simp)) ?_
  simp only [Act.put,zA,zB,zC]
  refine wpK_ta (i:=9) (some 16) (v:=.pointer (some ⟨w.heap.size + 1,1,none⟩)) rfl rfl (by kernel_rfl) (fun _ _ _ h=>h) (Or.inl ⟨by rfl,fun W=>by go_simp⟩) ?_
  simp only [Act.put,zA,zB,zC]
  refine wpK_tk (i:=10) (some 17) (v:=y2) rfl rfl (by kernel_rfl) (fun _ _ _ h=>h) (.val (by rfl) (fun W hg=>by have c:=(R1.out.below (Gr.un hg) 1 _ rfl).1;go_simp)) ?_
  simp only [Act.put,zA,zB,zC]
  refine wpK_tk (i:=11) (some 18) (v:=(x2 + y2:Int)) rfl rfl (by kernel_rfl) (fun _ _ _ h=>h) (.call (f:=110) (args:=#[x2, y2]) (by rfl) (fun W=>by go_simp) (fun W hg=>add1_any x2 y2 W (by omega))) ?_
  simp only [Act.put,zA,zB,zC]
  refine wpK_ta (i:=12) (some 19) (v:=.func (.func 110) #[] #[]) rfl rfl (by kernel_rfl) (fun _ _ _ h=>h) (Or.inl ⟨rfl,fun _=>rfl⟩) ?_
  simp only [Act.put,zA,zB,zC]
  refine wpK_ta (i:=13) (some 20) (v:=.pointer (some ⟨w.heap.size,2,none⟩)) rfl rfl (by kernel_rfl) (fun _ _ _ h=>h) (Or.inl ⟨by rfl,fun W=>by go_simp⟩) ?_
  simp only [Act.put,zA,zB,zC]
  refine wpK_tk (i:=14) (some 21) (v:=x3) rfl rfl (by kernel_rfl) (fun _ _ _ h=>h) (.val (by rfl) (fun W hg=>by have c:=(R0.out.below (Gr.un hg) 2 _ rfl).1;go_simp)) ?_
  simp only [Act.put,zA,zB,zC]
  refine wpK_ta (i:=15) (some 22) (v:=.pointer (some ⟨w.heap.size + 1,2,none⟩)) rfl rfl (by kernel_rfl) (fun _ _ _ h=>h) (Or.inl ⟨by rfl,fun W=>by go_simp⟩) ?_
  simp only [Act.put,zA,zB,zC]
  refine wpK_tk (i:=16) (some 23) (v:=y3) rfl rfl (by kernel_rfl) (fun _ _ _ h=>h) (.val (by rfl) (fun W hg=>by have c:=(R1.out.below (Gr.un hg) 2 _ rfl).1;go_simp)) ?_
  simp only [Act.put,zA,zB,zC]
  refine wpK_tk (i:=17) (some 24) (v:=(x3 + y3:Int)) rfl rfl (by kernel_rfl) (fun _ _ _ h=>h) (.call (f:=110) (args:=#[x3, y3]) (by rfl) (fun W=>by go_simp) (fun W hg=>add1_any x3 y3 W (by omega))) ?_
  simp only [Act.put,zA,zB,zC]
  refine wpK_ta (i:=18) (some 25) (v:=.agg #[(x1 + y1:Int), (x2 + y2:Int), (x3 + y3:Int)]) rfl rfl (by kernel_rfl) (fun _ _ _ h=>h) (Or.inl ⟨by rfl,fun W=>by go_simp⟩) ?_
  simp only [Act.put,zA,zB,zC]
  refine wpK_store (i:=19) (none) rfl rfl (by kernel_rfl) (by rfl) (by rfl) (fun W1 hg2=>⟨_,run_store_mid 23 (.tmp 6) (.tmp 25) rfl (w.heap.size + 1 + 1) 0 #[(x1 + y1:Int), (x2 + y2:Int), (x3 + y3:Int)] rfl rfl (((R2.out.below (Gr.un hg2)).there 0 3 (by decide))) (by kernel_rfl) (by kernel_rfl), ?_⟩)
  simp only [Act.put]
  refine wpK_done (by kernel_rfl) (fun V3 hv4=>?_) _
  have R6:=Lib.hid (Row.put (ds:=[.int .i64 (x1 + y1), .int .i64 (x2 + y2), .int .i64 (x3 + y3)]) R2.out (Gr.un hg2) rfl hv4)
  have G5:=Lib.hid (Gr.put G0.out (Gr.un hg2) (by omega) hv4)
  go_wp2_with fail
  refine bodyPost_ret (results_cell_mid rfl _ _ _ (w.heap.size + 1 + 1) 0 [.int .i64 (x1 + y1), .int .i64 (x2 + y2), .int .i64 (x3 + y3)] _ rfl R6.out.range Tryd.underlying23 rfl (by kernel_rfl)) rfl ?_
  exact ⟨rfl,G5.out⟩

set_option maxRecDepth 1000000 in
theorem combine_sub (x1 x2 x3 y1 y2 y3 : Int) (w : World) (h : (-2097152 ≤ x1 ∧ x1 ≤ 2097152) ∧ (-2097152 ≤ x2 ∧ x2 ≤ 2097152) ∧ (-2097152 ≤ x3 ∧ x3 ≤ 2097152) ∧ (-2097152 ≤ y1 ∧ y1 ≤ 2097152) ∧ (-2097152 ≤ y2 ∧ y2 ≤ 2097152) ∧ (-2097152 ≤ y3 ∧ y3 ≤ 2097152)) :
    Calls Tryd.prog 105 #[.agg #[x1, x2, x3], .agg #[y1, y2, y3], .func (.func 111) #[] #[]] w fun e w'=>e = .returned (.agg #[(x1 - y1:Int), (x2 - y2:Int), (x3 - y3:Int)]) ∧ Below w.heap.size w w':=by
  obtain ⟨u,hu,r0,r1,r2,g0⟩:=rows3 w [.int .i64 x1, .int .i64 x2, .int .i64 x3] 23 [.int .i64 y1, .int .i64 y2, .int .i64 y3] 23 [.int .i64 0, .int .i64 0, .int .i64 0] 23
  have R0:=Lib.hid r0
  have R1:=Lib.hid r1
  have R2:=Lib.hid r2
  have G0:=Lib.hid g0
  have HU:=Lib.hid hu
  clear hu g0 r0 r1 r2
  go_enter Tryd.func105,Tryd.ntmps105
  go_upto_region 1 with fail
  rw [← HU.out]
  refine wpK_region (by kernel_rfl) ?_
  refine wpK_ta (i:=0) (some 7) (v:=.func (.func 111) #[] #[]) rfl rfl (by kernel_rfl) (fun _ _ _ h=>h) (Or.inl ⟨rfl,fun _=>rfl⟩) ?_
  simp only [Act.put,zA,zB,zC]
  refine wpK_ta (i:=1) (some 8) (v:=.pointer (some ⟨w.heap.size,0,none⟩)) rfl rfl (by kernel_rfl) (fun _ _ _ h=>h) (Or.inl ⟨by rfl,fun W=>by go_simp⟩) ?_
  simp only [Act.put,zA,zB,zC]
  refine wpK_tk (i:=2) (some 9) (v:=x1) rfl rfl (by kernel_rfl) (fun _ _ _ h=>h) (.val (by rfl) (fun W hg=>by have c:=(R0.out.below (Gr.un hg) 0 _ rfl).1;go_simp)) ?_
  simp only [Act.put,zA,zB,zC]
  refine wpK_ta (i:=3) (some 10) (v:=.pointer (some ⟨w.heap.size + 1,0,none⟩)) rfl rfl (by kernel_rfl) (fun _ _ _ h=>h) (Or.inl ⟨by rfl,fun W=>by go_simp⟩) ?_
  simp only [Act.put,zA,zB,zC]
  refine wpK_tk (i:=4) (some 11) (v:=y1) rfl rfl (by kernel_rfl) (fun _ _ _ h=>h) (.val (by rfl) (fun W hg=>by have c:=(R1.out.below (Gr.un hg) 0 _ rfl).1;go_simp)) ?_
  simp only [Act.put,zA,zB,zC]
  refine wpK_tk (i:=5) (some 12) (v:=(x1 - y1:Int)) rfl rfl (by kernel_rfl) (fun _ _ _ h=>h) (.call (f:=111) (args:=#[x1, y1]) (by rfl) (fun W=>by go_simp) (fun W hg=>sub1_any x1 y1 W (by omega))) ?_
  simp only [Act.put,zA,zB,zC]
  refine wpK_ta (i:=6) (some 13) (v:=.func (.func 111) #[] #[]) rfl rfl (by kernel_rfl) (fun _ _ _ h=>h) (Or.inl ⟨rfl,fun _=>rfl⟩) ?_
  simp only [Act.put,zA,zB,zC]
  refine wpK_ta (i:=7) (some 14) (v:=.pointer (some ⟨w.heap.size,1,none⟩)) rfl rfl (by kernel_rfl) (fun _ _ _ h=>h) (Or.inl ⟨by rfl,fun W=>by go_simp⟩) ?_
  simp only [Act.put,zA,zB,zC]
  refine wpK_tk (i:=8) (some 15) (v:=x2) rfl rfl (by kernel_rfl) (fun _ _ _ h=>h) (.val (by rfl) (fun W hg=>by have c:=(R0.out.below (Gr.un hg) 1 _ rfl).1;go_simp)) ?_
  simp only [Act.put,zA,zB,zC]
  refine wpK_ta (i:=9) (some 16) (v:=.pointer (some ⟨w.heap.size + 1,1,none⟩)) rfl rfl (by kernel_rfl) (fun _ _ _ h=>h) (Or.inl ⟨by rfl,fun W=>by go_simp⟩) ?_
  simp only [Act.put,zA,zB,zC]
  refine wpK_tk (i:=10) (some 17) (v:=y2) rfl rfl (by kernel_rfl) (fun _ _ _ h=>h) (.val (by rfl) (fun W hg=>by have c:=(R1.out.below (Gr.un hg) 1 _ rfl).1;go_simp)) ?_
  simp only [Act.put,zA,zB,zC]
  refine wpK_tk (i:=11) (some 18) (v:=(x2 - y2:Int)) rfl rfl (by kernel_rfl) (fun _ _ _ h=>h) (.call (f:=111) (args:=#[x2, y2]) (by rfl) (fun W=>by go_simp) (fun W hg=>sub1_any x2 y2 W (by omega))) ?_
  simp only [Act.put,zA,zB,zC]
  refine wpK_ta (i:=12) (some 19) (v:=.func (.func 111) #[] #[]) rfl rfl (by kernel_rfl) (fun _ _ _ h=>h) (Or.inl ⟨rfl,fun _=>rfl⟩) ?_
  simp only [Act.put,zA,zB,zC]
  refine wpK_ta (i:=13) (some 20) (v:=.pointer (some ⟨w.heap.size,2,none⟩)) rfl rfl (by kernel_rfl) (fun _ _ _ h=>h) (Or.inl ⟨by rfl,fun W=>by go_simp⟩) ?_
  simp only [Act.put,zA,zB,zC]
  refine wpK_tk (i:=14) (some 21) (v:=x3) rfl rfl (by kernel_rfl) (fun _ _ _ h=>h) (.val (by rfl) (fun W hg=>by have c:=(R0.out.below (Gr.un hg) 2 _ rfl).1;go_simp)) ?_
  simp only [Act.put,zA,zB,zC]
  refine wpK_ta (i:=15) (some 22) (v:=.pointer (some ⟨w.heap.size + 1,2,none⟩)) rfl rfl (by kernel_rfl) (fun _ _ _ h=>h) (Or.inl ⟨by rfl,fun W=>by go_simp⟩) ?_
  simp only [Act.put,zA,zB,zC]
  refine wpK_tk (i:=16) (some 23) (v:=y3) rfl rfl (by kernel_rfl) (fun _ _ _ h=>h) (.val (by rfl) (fun W hg=>by have c:=(R1.out.below (Gr.un hg) 2 _ rfl).1;go_simp)) ?_
  simp only [Act.put,zA,zB,zC]
  refine wpK_tk (i:=17) (some 24) (v:=(x3 - y3:Int)) rfl rfl (by kernel_rfl) (fun _ _ _ h=>h) (.call (f:=111) (args:=#[x3, y3]) (by rfl) (fun W=>by go_simp) (fun W hg=>sub1_any x3 y3 W (by omega))) ?_
  simp only [Act.put,zA,zB,zC]
  refine wpK_ta (i:=18) (some 25) (v:=.agg #[(x1 - y1:Int), (x2 - y2:Int), (x3 - y3:Int)]) rfl rfl (by kernel_rfl) (fun _ _ _ h=>h) (Or.inl ⟨by rfl,fun W=>by go_simp⟩) ?_
  simp only [Act.put,zA,zB,zC]
  refine wpK_store (i:=19) (none) rfl rfl (by kernel_rfl) (by rfl) (by rfl) (fun W1 hg2=>⟨_,run_store_mid 23 (.tmp 6) (.tmp 25) rfl (w.heap.size + 1 + 1) 0 #[(x1 - y1:Int), (x2 - y2:Int), (x3 - y3:Int)] rfl rfl (((R2.out.below (Gr.un hg2)).there 0 3 (by decide))) (by kernel_rfl) (by kernel_rfl), ?_⟩)
  simp only [Act.put]
  refine wpK_done (by kernel_rfl) (fun V3 hv4=>?_) _
  have R6:=Lib.hid (Row.put (ds:=[.int .i64 (x1 - y1), .int .i64 (x2 - y2), .int .i64 (x3 - y3)]) R2.out (Gr.un hg2) rfl hv4)
  have G5:=Lib.hid (Gr.put G0.out (Gr.un hg2) (by omega) hv4)
  go_wp2_with fail
  refine bodyPost_ret (results_cell_mid rfl _ _ _ (w.heap.size + 1 + 1) 0 [.int .i64 (x1 - y1), .int .i64 (x2 - y2), .int .i64 (x3 - y3)] _ rfl R6.out.range Tryd.underlying23 rfl (by kernel_rfl)) rfl ?_
  exact ⟨rfl,G5.out⟩

set_option maxRecDepth 1000000 in
theorem combine_greatest (x1 x2 x3 y1 y2 y3 : Int) (w : World) (h : (-2097152 ≤ x1 ∧ x1 ≤ 2097152) ∧ (-2097152 ≤ x2 ∧ x2 ≤ 2097152) ∧ (-2097152 ≤ x3 ∧ x3 ≤ 2097152) ∧ (-2097152 ≤ y1 ∧ y1 ≤ 2097152) ∧ (-2097152 ≤ y2 ∧ y2 ≤ 2097152) ∧ (-2097152 ≤ y3 ∧ y3 ≤ 2097152)) :
    Calls Tryd.prog 105 #[.agg #[x1, x2, x3], .agg #[y1, y2, y3], .func (.func 106) #[] #[]] w fun e w'=>e = .returned (.agg #[(max x1 y1:Int), (max x2 y2:Int), (max x3 y3:Int)]) ∧ Below w.heap.size w w':=by
  obtain ⟨u,hu,r0,r1,r2,g0⟩:=rows3 w [.int .i64 x1, .int .i64 x2, .int .i64 x3] 23 [.int .i64 y1, .int .i64 y2, .int .i64 y3] 23 [.int .i64 0, .int .i64 0, .int .i64 0] 23
  have R0:=Lib.hid r0
  have R1:=Lib.hid r1
  have R2:=Lib.hid r2
  have G0:=Lib.hid g0
  have HU:=Lib.hid hu
  clear hu g0 r0 r1 r2
  go_enter Tryd.func105,Tryd.ntmps105
  go_upto_region 1 with fail
  rw [← HU.out]
  refine wpK_region (by kernel_rfl) ?_
  refine wpK_ta (i:=0) (some 7) (v:=.func (.func 106) #[] #[]) rfl rfl (by kernel_rfl) (fun _ _ _ h=>h) (Or.inl ⟨rfl,fun _=>rfl⟩) ?_
  simp only [Act.put,zA,zB,zC]
  refine wpK_ta (i:=1) (some 8) (v:=.pointer (some ⟨w.heap.size,0,none⟩)) rfl rfl (by kernel_rfl) (fun _ _ _ h=>h) (Or.inl ⟨by rfl,fun W=>by go_simp⟩) ?_
  simp only [Act.put,zA,zB,zC]
  refine wpK_tk (i:=2) (some 9) (v:=x1) rfl rfl (by kernel_rfl) (fun _ _ _ h=>h) (.val (by rfl) (fun W hg=>by have c:=(R0.out.below (Gr.un hg) 0 _ rfl).1;go_simp)) ?_
  simp only [Act.put,zA,zB,zC]
  refine wpK_ta (i:=3) (some 10) (v:=.pointer (some ⟨w.heap.size + 1,0,none⟩)) rfl rfl (by kernel_rfl) (fun _ _ _ h=>h) (Or.inl ⟨by rfl,fun W=>by go_simp⟩) ?_
  simp only [Act.put,zA,zB,zC]
  refine wpK_tk (i:=4) (some 11) (v:=y1) rfl rfl (by kernel_rfl) (fun _ _ _ h=>h) (.val (by rfl) (fun W hg=>by have c:=(R1.out.below (Gr.un hg) 0 _ rfl).1;go_simp)) ?_
  simp only [Act.put,zA,zB,zC]
  refine wpK_tk (i:=5) (some 12) (v:=(max x1 y1:Int)) rfl rfl (by kernel_rfl) (fun _ _ _ h=>h) (.call (f:=106) (args:=#[x1, y1]) (by rfl) (fun W=>by go_simp) (fun W hg=>greatest1_any x1 y1 W (by omega))) ?_
  simp only [Act.put,zA,zB,zC]
  refine wpK_ta (i:=6) (some 13) (v:=.func (.func 106) #[] #[]) rfl rfl (by kernel_rfl) (fun _ _ _ h=>h) (Or.inl ⟨rfl,fun _=>rfl⟩) ?_
  simp only [Act.put,zA,zB,zC]
  refine wpK_ta (i:=7) (some 14) (v:=.pointer (some ⟨w.heap.size,1,none⟩)) rfl rfl (by kernel_rfl) (fun _ _ _ h=>h) (Or.inl ⟨by rfl,fun W=>by go_simp⟩) ?_
  simp only [Act.put,zA,zB,zC]
  refine wpK_tk (i:=8) (some 15) (v:=x2) rfl rfl (by kernel_rfl) (fun _ _ _ h=>h) (.val (by rfl) (fun W hg=>by have c:=(R0.out.below (Gr.un hg) 1 _ rfl).1;go_simp)) ?_
  simp only [Act.put,zA,zB,zC]
  refine wpK_ta (i:=9) (some 16) (v:=.pointer (some ⟨w.heap.size + 1,1,none⟩)) rfl rfl (by kernel_rfl) (fun _ _ _ h=>h) (Or.inl ⟨by rfl,fun W=>by go_simp⟩) ?_
  simp only [Act.put,zA,zB,zC]
  refine wpK_tk (i:=10) (some 17) (v:=y2) rfl rfl (by kernel_rfl) (fun _ _ _ h=>h) (.val (by rfl) (fun W hg=>by have c:=(R1.out.below (Gr.un hg) 1 _ rfl).1;go_simp)) ?_
  simp only [Act.put,zA,zB,zC]
  refine wpK_tk (i:=11) (some 18) (v:=(max x2 y2:Int)) rfl rfl (by kernel_rfl) (fun _ _ _ h=>h) (.call (f:=106) (args:=#[x2, y2]) (by rfl) (fun W=>by go_simp) (fun W hg=>greatest1_any x2 y2 W (by omega))) ?_
  simp only [Act.put,zA,zB,zC]
  refine wpK_ta (i:=12) (some 19) (v:=.func (.func 106) #[] #[]) rfl rfl (by kernel_rfl) (fun _ _ _ h=>h) (Or.inl ⟨rfl,fun _=>rfl⟩) ?_
  simp only [Act.put,zA,zB,zC]
  refine wpK_ta (i:=13) (some 20) (v:=.pointer (some ⟨w.heap.size,2,none⟩)) rfl rfl (by kernel_rfl) (fun _ _ _ h=>h) (Or.inl ⟨by rfl,fun W=>by go_simp⟩) ?_
  simp only [Act.put,zA,zB,zC]
  refine wpK_tk (i:=14) (some 21) (v:=x3) rfl rfl (by kernel_rfl) (fun _ _ _ h=>h) (.val (by rfl) (fun W hg=>by have c:=(R0.out.below (Gr.un hg) 2 _ rfl).1;go_simp)) ?_
  simp only [Act.put,zA,zB,zC]
  refine wpK_ta (i:=15) (some 22) (v:=.pointer (some ⟨w.heap.size + 1,2,none⟩)) rfl rfl (by kernel_rfl) (fun _ _ _ h=>h) (Or.inl ⟨by rfl,fun W=>by go_simp⟩) ?_
  simp only [Act.put,zA,zB,zC]
  refine wpK_tk (i:=16) (some 23) (v:=y3) rfl rfl (by kernel_rfl) (fun _ _ _ h=>h) (.val (by rfl) (fun W hg=>by have c:=(R1.out.below (Gr.un hg) 2 _ rfl).1;go_simp)) ?_
  simp only [Act.put,zA,zB,zC]
  refine wpK_tk (i:=17) (some 24) (v:=(max x3 y3:Int)) rfl rfl (by kernel_rfl) (fun _ _ _ h=>h) (.call (f:=106) (args:=#[x3, y3]) (by rfl) (fun W=>by go_simp) (fun W hg=>greatest1_any x3 y3 W (by omega))) ?_
  simp only [Act.put,zA,zB,zC]
  refine wpK_ta (i:=18) (some 25) (v:=.agg #[(max x1 y1:Int), (max x2 y2:Int), (max x3 y3:Int)]) rfl rfl (by kernel_rfl) (fun _ _ _ h=>h) (Or.inl ⟨by rfl,fun W=>by go_simp⟩) ?_
  simp only [Act.put,zA,zB,zC]
  refine wpK_store (i:=19) (none) rfl rfl (by kernel_rfl) (by rfl) (by rfl) (fun W1 hg2=>⟨_,run_store_mid 23 (.tmp 6) (.tmp 25) rfl (w.heap.size + 1 + 1) 0 #[(max x1 y1:Int), (max x2 y2:Int), (max x3 y3:Int)] rfl rfl (((R2.out.below (Gr.un hg2)).there 0 3 (by decide))) (by kernel_rfl) (by kernel_rfl), ?_⟩)
  simp only [Act.put]
  refine wpK_done (by kernel_rfl) (fun V3 hv4=>?_) _
  have R6:=Lib.hid (Row.put (ds:=[.int .i64 (max x1 y1), .int .i64 (max x2 y2), .int .i64 (max x3 y3)]) R2.out (Gr.un hg2) rfl hv4)
  have G5:=Lib.hid (Gr.put G0.out (Gr.un hg2) (by omega) hv4)
  go_wp2_with fail
  refine bodyPost_ret (results_cell_mid rfl _ _ _ (w.heap.size + 1 + 1) 0 [.int .i64 (max x1 y1), .int .i64 (max x2 y2), .int .i64 (max x3 y3)] _ rfl R6.out.range Tryd.underlying23 rfl (by kernel_rfl)) rfl ?_
  exact ⟨rfl,G5.out⟩

set_option maxRecDepth 1000000 in
theorem combine_least (x1 x2 x3 y1 y2 y3 : Int) (w : World) (h : (-2097152 ≤ x1 ∧ x1 ≤ 2097152) ∧ (-2097152 ≤ x2 ∧ x2 ≤ 2097152) ∧ (-2097152 ≤ x3 ∧ x3 ≤ 2097152) ∧ (-2097152 ≤ y1 ∧ y1 ≤ 2097152) ∧ (-2097152 ≤ y2 ∧ y2 ≤ 2097152) ∧ (-2097152 ≤ y3 ∧ y3 ≤ 2097152)) :
    Calls Tryd.prog 105 #[.agg #[x1, x2, x3], .agg #[y1, y2, y3], .func (.func 107) #[] #[]] w fun e w'=>e = .returned (.agg #[(min x1 y1:Int), (min x2 y2:Int), (min x3 y3:Int)]) ∧ Below w.heap.size w w':=by
  obtain ⟨u,hu,r0,r1,r2,g0⟩:=rows3 w [.int .i64 x1, .int .i64 x2, .int .i64 x3] 23 [.int .i64 y1, .int .i64 y2, .int .i64 y3] 23 [.int .i64 0, .int .i64 0, .int .i64 0] 23
  have R0:=Lib.hid r0
  have R1:=Lib.hid r1
  have R2:=Lib.hid r2
  have G0:=Lib.hid g0
  have HU:=Lib.hid hu
  clear hu g0 r0 r1 r2
  go_enter Tryd.func105,Tryd.ntmps105
  go_upto_region 1 with fail
  rw [← HU.out]
  refine wpK_region (by kernel_rfl) ?_
  refine wpK_ta (i:=0) (some 7) (v:=.func (.func 107) #[] #[]) rfl rfl (by kernel_rfl) (fun _ _ _ h=>h) (Or.inl ⟨rfl,fun _=>rfl⟩) ?_
  simp only [Act.put,zA,zB,zC]
  refine wpK_ta (i:=1) (some 8) (v:=.pointer (some ⟨w.heap.size,0,none⟩)) rfl rfl (by kernel_rfl) (fun _ _ _ h=>h) (Or.inl ⟨by rfl,fun W=>by go_simp⟩) ?_
  simp only [Act.put,zA,zB,zC]
  refine wpK_tk (i:=2) (some 9) (v:=x1) rfl rfl (by kernel_rfl) (fun _ _ _ h=>h) (.val (by rfl) (fun W hg=>by have c:=(R0.out.below (Gr.un hg) 0 _ rfl).1;go_simp)) ?_
  simp only [Act.put,zA,zB,zC]
  refine wpK_ta (i:=3) (some 10) (v:=.pointer (some ⟨w.heap.size + 1,0,none⟩)) rfl rfl (by kernel_rfl) (fun _ _ _ h=>h) (Or.inl ⟨by rfl,fun W=>by go_simp⟩) ?_
  simp only [Act.put,zA,zB,zC]
  refine wpK_tk (i:=4) (some 11) (v:=y1) rfl rfl (by kernel_rfl) (fun _ _ _ h=>h) (.val (by rfl) (fun W hg=>by have c:=(R1.out.below (Gr.un hg) 0 _ rfl).1;go_simp)) ?_
  simp only [Act.put,zA,zB,zC]
  refine wpK_tk (i:=5) (some 12) (v:=(min x1 y1:Int)) rfl rfl (by kernel_rfl) (fun _ _ _ h=>h) (.call (f:=107) (args:=#[x1, y1]) (by rfl) (fun W=>by go_simp) (fun W hg=>least1_any x1 y1 W (by omega))) ?_
  simp only [Act.put,zA,zB,zC]
  refine wpK_ta (i:=6) (some 13) (v:=.func (.func 107) #[] #[]) rfl rfl (by kernel_rfl) (fun _ _ _ h=>h) (Or.inl ⟨rfl,fun _=>rfl⟩) ?_
  simp only [Act.put,zA,zB,zC]
  refine wpK_ta (i:=7) (some 14) (v:=.pointer (some ⟨w.heap.size,1,none⟩)) rfl rfl (by kernel_rfl) (fun _ _ _ h=>h) (Or.inl ⟨by rfl,fun W=>by go_simp⟩) ?_
  simp only [Act.put,zA,zB,zC]
  refine wpK_tk (i:=8) (some 15) (v:=x2) rfl rfl (by kernel_rfl) (fun _ _ _ h=>h) (.val (by rfl) (fun W hg=>by have c:=(R0.out.below (Gr.un hg) 1 _ rfl).1;go_simp)) ?_
  simp only [Act.put,zA,zB,zC]
  refine wpK_ta (i:=9) (some 16) (v:=.pointer (some ⟨w.heap.size + 1,1,none⟩)) rfl rfl (by kernel_rfl) (fun _ _ _ h=>h) (Or.inl ⟨by rfl,fun W=>by go_simp⟩) ?_
  simp only [Act.put,zA,zB,zC]
  refine wpK_tk (i:=10) (some 17) (v:=y2) rfl rfl (by kernel_rfl) (fun _ _ _ h=>h) (.val (by rfl) (fun W hg=>by have c:=(R1.out.below (Gr.un hg) 1 _ rfl).1;go_simp)) ?_
  simp only [Act.put,zA,zB,zC]
  refine wpK_tk (i:=11) (some 18) (v:=(min x2 y2:Int)) rfl rfl (by kernel_rfl) (fun _ _ _ h=>h) (.call (f:=107) (args:=#[x2, y2]) (by rfl) (fun W=>by go_simp) (fun W hg=>least1_any x2 y2 W (by omega))) ?_
  simp only [Act.put,zA,zB,zC]
  refine wpK_ta (i:=12) (some 19) (v:=.func (.func 107) #[] #[]) rfl rfl (by kernel_rfl) (fun _ _ _ h=>h) (Or.inl ⟨rfl,fun _=>rfl⟩) ?_
  simp only [Act.put,zA,zB,zC]
  refine wpK_ta (i:=13) (some 20) (v:=.pointer (some ⟨w.heap.size,2,none⟩)) rfl rfl (by kernel_rfl) (fun _ _ _ h=>h) (Or.inl ⟨by rfl,fun W=>by go_simp⟩) ?_
  simp only [Act.put,zA,zB,zC]
  refine wpK_tk (i:=14) (some 21) (v:=x3) rfl rfl (by kernel_rfl) (fun _ _ _ h=>h) (.val (by rfl) (fun W hg=>by have c:=(R0.out.below (Gr.un hg) 2 _ rfl).1;go_simp)) ?_
  simp only [Act.put,zA,zB,zC]
  refine wpK_ta (i:=15) (some 22) (v:=.pointer (some ⟨w.heap.size + 1,2,none⟩)) rfl rfl (by kernel_rfl) (fun _ _ _ h=>h) (Or.inl ⟨by rfl,fun W=>by go_simp⟩) ?_
  simp only [Act.put,zA,zB,zC]
  refine wpK_tk (i:=16) (some 23) (v:=y3) rfl rfl (by kernel_rfl) (fun _ _ _ h=>h) (.val (by rfl) (fun W hg=>by have c:=(R1.out.below (Gr.un hg) 2 _ rfl).1;go_simp)) ?_
  simp only [Act.put,zA,zB,zC]
  refine wpK_tk (i:=17) (some 24) (v:=(min x3 y3:Int)) rfl rfl (by kernel_rfl) (fun _ _ _ h=>h) (.call (f:=107) (args:=#[x3, y3]) (by rfl) (fun W=>by go_simp) (fun W hg=>least1_any x3 y3 W (by omega))) ?_
  simp only [Act.put,zA,zB,zC]
  refine wpK_ta (i:=18) (some 25) (v:=.agg #[(min x1 y1:Int), (min x2 y2:Int), (min x3 y3:Int)]) rfl rfl (by kernel_rfl) (fun _ _ _ h=>h) (Or.inl ⟨by rfl,fun W=>by go_simp⟩) ?_
  simp only [Act.put,zA,zB,zC]
  refine wpK_store (i:=19) (none) rfl rfl (by kernel_rfl) (by rfl) (by rfl) (fun W1 hg2=>⟨_,run_store_mid 23 (.tmp 6) (.tmp 25) rfl (w.heap.size + 1 + 1) 0 #[(min x1 y1:Int), (min x2 y2:Int), (min x3 y3:Int)] rfl rfl (((R2.out.below (Gr.un hg2)).there 0 3 (by decide))) (by kernel_rfl) (by kernel_rfl), ?_⟩)
  simp only [Act.put]
  refine wpK_done (by kernel_rfl) (fun V3 hv4=>?_) _
  have R6:=Lib.hid (Row.put (ds:=[.int .i64 (min x1 y1), .int .i64 (min x2 y2), .int .i64 (min x3 y3)]) R2.out (Gr.un hg2) rfl hv4)
  have G5:=Lib.hid (Gr.put G0.out (Gr.un hg2) (by omega) hv4)
  go_wp2_with fail
  refine bodyPost_ret (results_cell_mid rfl _ _ _ (w.heap.size + 1 + 1) 0 [.int .i64 (min x1 y1), .int .i64 (min x2 y2), .int .i64 (min x3 y3)] _ rfl R6.out.range Tryd.underlying23 rfl (by kernel_rfl)) rfl ?_
  exact ⟨rfl,G5.out⟩

set_option maxRecDepth 1000000 in
theorem add_any (x1 x2 x3 y1 y2 y3 : Int) (w : World) (h : (-2097152 ≤ x1 ∧ x1 ≤ 2097152) ∧ (-2097152 ≤ x2 ∧ x2 ≤ 2097152) ∧ (-2097152 ≤ x3 ∧ x3 ≤ 2097152) ∧ (-2097152 ≤ y1 ∧ y1 ≤ 2097152) ∧ (-2097152 ≤ y2 ∧ y2 ≤ 2097152) ∧ (-2097152 ≤ y3 ∧ y3 ≤ 2097152)) :
    Calls Tryd.prog 100 #[.agg #[x1, x2, x3], .agg #[y1, y2, y3]] w fun e w'=>e = .returned (.agg #[(x1 + y1:Int), (x2 + y2:Int), (x3 + y3:Int)]) ∧ Below w.heap.size w w':=by
  obtain ⟨u,hu,r0,r1,r2,g0⟩:=rows3 w [.int .i64 x1, .int .i64 x2, .int .i64 x3] 23 [.int .i64 y1, .int .i64 y2, .int .i64 y3] 23 [.int .i64 0, .int .i64 0, .int .i64 0] 23
  have R0:=Lib.hid r0
  have R1:=Lib.hid r1
  have R2:=Lib.hid r2
  have G0:=Lib.hid g0
  have HU:=Lib.hid hu
  clear hu g0 r0 r1 r2
  go_enter Tryd.func100,Tryd.ntmps100
  go_upto_region 1 with fail
  rw [← HU.out]
  refine wpG_region ?_
  refine wpG_tk (some 5) (v:=.agg #[x1, x2, x3]) rfl (.load_mid (by rfl) 23 (.tmp 2) rfl (w.heap.size) 0 rfl [.int .i64 x1, .int .i64 x2, .int .i64 x3] _ (fun W hg=>(R0.out.below hg).range) Tryd.underlying23 rfl (by kernel_rfl)) ?_
  simp only [Act.put,zA,zB,zC]
  refine wpG_tk (some 6) (v:=.agg #[y1, y2, y3]) rfl (.load_mid (by rfl) 23 (.tmp 3) rfl (w.heap.size + 1) 0 rfl [.int .i64 y1, .int .i64 y2, .int .i64 y3] _ (fun W hg=>(R1.out.below hg).range) Tryd.underlying23 rfl (by kernel_rfl)) ?_
  simp only [Act.put,zA,zB,zC]
  refine wpG_tk (some 7) (v:=.agg #[(x1 + y1:Int), (x2 + y2:Int), (x3 + y3:Int)]) rfl (.call (f:=105) (args:=#[.agg #[x1, x2, x3], .agg #[y1, y2, y3], .func (.func 110) #[] #[]]) (by rfl) (fun W=>by go_simp) (fun W hg=>combine_add x1 x2 x3 y1 y2 y3 W (by omega))) ?_
  simp only [Act.put,zA,zB,zC]
  refine wpG_store (none) rfl (by rfl) (fun W1 hg2=>⟨_,run_store_mid 23 (.tmp 4) (.tmp 7) rfl (w.heap.size + 1 + 1) 0 #[(x1 + y1:Int), (x2 + y2:Int), (x3 + y3:Int)] rfl rfl (((R2.out.below hg2).there 0 3 (by decide))) (by kernel_rfl) (by kernel_rfl), ?_⟩)
  simp only [Act.put]
  refine wpG_done (fun V3 hv4=>?_)
  have R6:=Lib.hid (Row.put (ds:=[.int .i64 (x1 + y1), .int .i64 (x2 + y2), .int .i64 (x3 + y3)]) R2.out hg2 rfl hv4)
  have G5:=Lib.hid (Gr.put G0.out hg2 (by omega) hv4)
  go_wp2_with fail
  refine bodyPost_ret (results_cell_mid rfl _ _ _ (w.heap.size + 1 + 1) 0 [.int .i64 (x1 + y1), .int .i64 (x2 + y2), .int .i64 (x3 + y3)] _ rfl R6.out.range Tryd.underlying23 rfl (by kernel_rfl)) rfl ?_
  exact ⟨rfl,G5.out⟩

set_option maxRecDepth 1000000 in
theorem sub_any (x1 x2 x3 y1 y2 y3 : Int) (w : World) (h : (-2097152 ≤ x1 ∧ x1 ≤ 2097152) ∧ (-2097152 ≤ x2 ∧ x2 ≤ 2097152) ∧ (-2097152 ≤ x3 ∧ x3 ≤ 2097152) ∧ (-2097152 ≤ y1 ∧ y1 ≤ 2097152) ∧ (-2097152 ≤ y2 ∧ y2 ≤ 2097152) ∧ (-2097152 ≤ y3 ∧ y3 ≤ 2097152)) :
    Calls Tryd.prog 101 #[.agg #[x1, x2, x3], .agg #[y1, y2, y3]] w fun e w'=>e = .returned (.agg #[(x1 - y1:Int), (x2 - y2:Int), (x3 - y3:Int)]) ∧ Below w.heap.size w w':=by
  obtain ⟨u,hu,r0,r1,r2,g0⟩:=rows3 w [.int .i64 x1, .int .i64 x2, .int .i64 x3] 23 [.int .i64 y1, .int .i64 y2, .int .i64 y3] 23 [.int .i64 0, .int .i64 0, .int .i64 0] 23
  have R0:=Lib.hid r0
  have R1:=Lib.hid r1
  have R2:=Lib.hid r2
  have G0:=Lib.hid g0
  have HU:=Lib.hid hu
  clear hu g0 r0 r1 r2
  go_enter Tryd.func101,Tryd.ntmps101
  go_upto_region 1 with fail
  rw [← HU.out]
  refine wpG_region ?_
  refine wpG_tk (some 5) (v:=.agg #[x1, x2, x3]) rfl (.load_mid (by rfl) 23 (.tmp 2) rfl (w.heap.size) 0 rfl [.int .i64 x1, .int .i64 x2, .int .i64 x3] _ (fun W hg=>(R0.out.below hg).range) Tryd.underlying23 rfl (by kernel_rfl)) ?_
  simp only [Act.put,zA,zB,zC]
  refine wpG_tk (some 6) (v:=.agg #[y1, y2, y3]) rfl (.load_mid (by rfl) 23 (.tmp 3) rfl (w.heap.size + 1) 0 rfl [.int .i64 y1, .int .i64 y2, .int .i64 y3] _ (fun W hg=>(R1.out.below hg).range) Tryd.underlying23 rfl (by kernel_rfl)) ?_
  simp only [Act.put,zA,zB,zC]
  refine wpG_tk (some 7) (v:=.agg #[(x1 - y1:Int), (x2 - y2:Int), (x3 - y3:Int)]) rfl (.call (f:=105) (args:=#[.agg #[x1, x2, x3], .agg #[y1, y2, y3], .func (.func 111) #[] #[]]) (by rfl) (fun W=>by go_simp) (fun W hg=>combine_sub x1 x2 x3 y1 y2 y3 W (by omega))) ?_
  simp only [Act.put,zA,zB,zC]
  refine wpG_store (none) rfl (by rfl) (fun W1 hg2=>⟨_,run_store_mid 23 (.tmp 4) (.tmp 7) rfl (w.heap.size + 1 + 1) 0 #[(x1 - y1:Int), (x2 - y2:Int), (x3 - y3:Int)] rfl rfl (((R2.out.below hg2).there 0 3 (by decide))) (by kernel_rfl) (by kernel_rfl), ?_⟩)
  simp only [Act.put]
  refine wpG_done (fun V3 hv4=>?_)
  have R6:=Lib.hid (Row.put (ds:=[.int .i64 (x1 - y1), .int .i64 (x2 - y2), .int .i64 (x3 - y3)]) R2.out hg2 rfl hv4)
  have G5:=Lib.hid (Gr.put G0.out hg2 (by omega) hv4)
  go_wp2_with fail
  refine bodyPost_ret (results_cell_mid rfl _ _ _ (w.heap.size + 1 + 1) 0 [.int .i64 (x1 - y1), .int .i64 (x2 - y2), .int .i64 (x3 - y3)] _ rfl R6.out.range Tryd.underlying23 rfl (by kernel_rfl)) rfl ?_
  exact ⟨rfl,G5.out⟩

set_option maxRecDepth 1000000 in
theorem greatest_any (x1 x2 x3 y1 y2 y3 : Int) (w : World) (h : (-2097152 ≤ x1 ∧ x1 ≤ 2097152) ∧ (-2097152 ≤ x2 ∧ x2 ≤ 2097152) ∧ (-2097152 ≤ x3 ∧ x3 ≤ 2097152) ∧ (-2097152 ≤ y1 ∧ y1 ≤ 2097152) ∧ (-2097152 ≤ y2 ∧ y2 ≤ 2097152) ∧ (-2097152 ≤ y3 ∧ y3 ≤ 2097152)) :
    Calls Tryd.prog 88 #[.agg #[x1, x2, x3], .agg #[y1, y2, y3]] w fun e w'=>e = .returned (.agg #[(max x1 y1:Int), (max x2 y2:Int), (max x3 y3:Int)]) ∧ Below w.heap.size w w':=by
  obtain ⟨u,hu,r0,r1,r2,g0⟩:=rows3 w [.int .i64 x1, .int .i64 x2, .int .i64 x3] 23 [.int .i64 y1, .int .i64 y2, .int .i64 y3] 23 [.int .i64 0, .int .i64 0, .int .i64 0] 23
  have R0:=Lib.hid r0
  have R1:=Lib.hid r1
  have R2:=Lib.hid r2
  have G0:=Lib.hid g0
  have HU:=Lib.hid hu
  clear hu g0 r0 r1 r2
  go_enter Tryd.func88,Tryd.ntmps88
  go_upto_region 1 with fail
  rw [← HU.out]
  refine wpG_region ?_
  refine wpG_tk (some 5) (v:=.agg #[x1, x2, x3]) rfl (.load_mid (by rfl) 23 (.tmp 2) rfl (w.heap.size) 0 rfl [.int .i64 x1, .int .i64 x2, .int .i64 x3] _ (fun W hg=>(R0.out.below hg).range) Tryd.underlying23 rfl (by kernel_rfl)) ?_
  simp only [Act.put,zA,zB,zC]
  refine wpG_tk (some 6) (v:=.agg #[y1, y2, y3]) rfl (.load_mid (by rfl) 23 (.tmp 3) rfl (w.heap.size + 1) 0 rfl [.int .i64 y1, .int .i64 y2, .int .i64 y3] _ (fun W hg=>(R1.out.below hg).range) Tryd.underlying23 rfl (by kernel_rfl)) ?_
  simp only [Act.put,zA,zB,zC]
  refine wpG_tk (some 7) (v:=.agg #[(max x1 y1:Int), (max x2 y2:Int), (max x3 y3:Int)]) rfl (.call (f:=105) (args:=#[.agg #[x1, x2, x3], .agg #[y1, y2, y3], .func (.func 106) #[] #[]]) (by rfl) (fun W=>by go_simp) (fun W hg=>combine_greatest x1 x2 x3 y1 y2 y3 W (by omega))) ?_
  simp only [Act.put,zA,zB,zC]
  refine wpG_store (none) rfl (by rfl) (fun W1 hg2=>⟨_,run_store_mid 23 (.tmp 4) (.tmp 7) rfl (w.heap.size + 1 + 1) 0 #[(max x1 y1:Int), (max x2 y2:Int), (max x3 y3:Int)] rfl rfl (((R2.out.below hg2).there 0 3 (by decide))) (by kernel_rfl) (by kernel_rfl), ?_⟩)
  simp only [Act.put]
  refine wpG_done (fun V3 hv4=>?_)
  have R6:=Lib.hid (Row.put (ds:=[.int .i64 (max x1 y1), .int .i64 (max x2 y2), .int .i64 (max x3 y3)]) R2.out hg2 rfl hv4)
  have G5:=Lib.hid (Gr.put G0.out hg2 (by omega) hv4)
  go_wp2_with fail
  refine bodyPost_ret (results_cell_mid rfl _ _ _ (w.heap.size + 1 + 1) 0 [.int .i64 (max x1 y1), .int .i64 (max x2 y2), .int .i64 (max x3 y3)] _ rfl R6.out.range Tryd.underlying23 rfl (by kernel_rfl)) rfl ?_
  exact ⟨rfl,G5.out⟩

set_option maxRecDepth 1000000 in
theorem least_any (x1 x2 x3 y1 y2 y3 : Int) (w : World) (h : (-2097152 ≤ x1 ∧ x1 ≤ 2097152) ∧ (-2097152 ≤ x2 ∧ x2 ≤ 2097152) ∧ (-2097152 ≤ x3 ∧ x3 ≤ 2097152) ∧ (-2097152 ≤ y1 ∧ y1 ≤ 2097152) ∧ (-2097152 ≤ y2 ∧ y2 ≤ 2097152) ∧ (-2097152 ≤ y3 ∧ y3 ≤ 2097152)) :
    Calls Tryd.prog 89 #[.agg #[x1, x2, x3], .agg #[y1, y2, y3]] w fun e w'=>e = .returned (.agg #[(min x1 y1:Int), (min x2 y2:Int), (min x3 y3:Int)]) ∧ Below w.heap.size w w':=by
  obtain ⟨u,hu,r0,r1,r2,g0⟩:=rows3 w [.int .i64 x1, .int .i64 x2, .int .i64 x3] 23 [.int .i64 y1, .int .i64 y2, .int .i64 y3] 23 [.int .i64 0, .int .i64 0, .int .i64 0] 23
  have R0:=Lib.hid r0
  have R1:=Lib.hid r1
  have R2:=Lib.hid r2
  have G0:=Lib.hid g0
  have HU:=Lib.hid hu
  clear hu g0 r0 r1 r2
  go_enter Tryd.func89,Tryd.ntmps89
  go_upto_region 1 with fail
  rw [← HU.out]
  refine wpG_region ?_
  refine wpG_tk (some 5) (v:=.agg #[x1, x2, x3]) rfl (.load_mid (by rfl) 23 (.tmp 2) rfl (w.heap.size) 0 rfl [.int .i64 x1, .int .i64 x2, .int .i64 x3] _ (fun W hg=>(R0.out.below hg).range) Tryd.underlying23 rfl (by kernel_rfl)) ?_
  simp only [Act.put,zA,zB,zC]
  refine wpG_tk (some 6) (v:=.agg #[y1, y2, y3]) rfl (.load_mid (by rfl) 23 (.tmp 3) rfl (w.heap.size + 1) 0 rfl [.int .i64 y1, .int .i64 y2, .int .i64 y3] _ (fun W hg=>(R1.out.below hg).range) Tryd.underlying23 rfl (by kernel_rfl)) ?_
  simp only [Act.put,zA,zB,zC]
  refine wpG_tk (some 7) (v:=.agg #[(min x1 y1:Int), (min x2 y2:Int), (min x3 y3:Int)]) rfl (.call (f:=105) (args:=#[.agg #[x1, x2, x3], .agg #[y1, y2, y3], .func (.func 107) #[] #[]]) (by rfl) (fun W=>by go_simp) (fun W hg=>combine_least x1 x2 x3 y1 y2 y3 W (by omega))) ?_
  simp only [Act.put,zA,zB,zC]
  refine wpG_store (none) rfl (by rfl) (fun W1 hg2=>⟨_,run_store_mid 23 (.tmp 4) (.tmp 7) rfl (w.heap.size + 1 + 1) 0 #[(min x1 y1:Int), (min x2 y2:Int), (min x3 y3:Int)] rfl rfl (((R2.out.below hg2).there 0 3 (by decide))) (by kernel_rfl) (by kernel_rfl), ?_⟩)
  simp only [Act.put]
  refine wpG_done (fun V3 hv4=>?_)
  have R6:=Lib.hid (Row.put (ds:=[.int .i64 (min x1 y1), .int .i64 (min x2 y2), .int .i64 (min x3 y3)]) R2.out hg2 rfl hv4)
  have G5:=Lib.hid (Gr.put G0.out hg2 (by omega) hv4)
  go_wp2_with fail
  refine bodyPost_ret (results_cell_mid rfl _ _ _ (w.heap.size + 1 + 1) 0 [.int .i64 (min x1 y1), .int .i64 (min x2 y2), .int .i64 (min x3 y3)] _ rfl R6.out.range Tryd.underlying23 rfl (by kernel_rfl)) rfl ?_
  exact ⟨rfl,G5.out⟩

end Go.Proofs.YtpapbbolefnkmaaDoor
