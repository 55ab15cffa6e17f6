/-
  Contracts: the order of codes, children, neighbours.
-/
import Derived.Test.YtmjjkloeipoefaaMo3
import Derived.Test.YtmjjkloeipoefaaMoe
import Derived.Test.YtmjjkloeipoefaaMof
import Derived.Test.YtmjjkloeipoefaaMod
import Derived.Handy
namespace Go.Proofs.Ytmjjkloeipoefaa
open Go.RowKit
set_option linter.unusedVariables false
set_option maxRecDepth 1000000 in
set_option maxHeartbeats 4000000 in
theorem isnan_any (x : Int) (w : World) :
    Calls Try.prog 51 #[.int .i64 x] w fun e w' => e = .returned (.bool false) ∧ Below w.heap.size w w' := by
  have G0 := Lib.hid (Below.refl w.heap.size w)
  go_enter Try.func51, Try.ntmps51
  go_upto_region 1 with fail
  refine wpG_region ?_
  refine wpG_tk (some 3) (v := .int .i64 x) rfl (.val (by rfl) (fun _ _ => rfl)) ?_
  simp only [Act.put, List.setIfInBounds_toArray, List.set_cons_zero, List.set_cons_succ]
  refine wpG_tk (some 4) (v := .int .i64 x) rfl (.val (by rfl) (fun _ _ => rfl)) ?_
  simp only [Act.put, List.setIfInBounds_toArray, List.set_cons_zero, List.set_cons_succ]
  refine wpG_tk (some 5) (v := .bool false) rfl (.val (by rfl) (fun W hg => by go_simp)) ?_
  simp only [Act.put, List.setIfInBounds_toArray, List.set_cons_zero, List.set_cons_succ]
  refine wpG_tk (some 2) (v := .bool false) rfl (.val (by rfl) (fun _ _ => rfl)) ?_
  simp only [Act.put, List.setIfInBounds_toArray, List.set_cons_zero, List.set_cons_succ]
  refine wpG_done (fun V1 hv2 => ?_)
  have GC3 := Lib.hid hv2
  clear hv2
  go_wp2_with fail
  go_ret
  exact ⟨rfl, Gr.to G0.out GC3.out⟩
set_option maxRecDepth 1000000 in
set_option maxHeartbeats 4000000 in
theorem cmp_l (x y : Int) (w : World) (h : x < y) :
    Calls Try.prog 40 #[.int .i64 x, .int .i64 y] w fun e w' => e = .returned (.int .i64 (-1)) ∧ Below w.heap.size w w' := by
  have G0 := Lib.hid (Below.refl w.heap.size w)
  go_enter Try.func40, Try.ntmps40
  go_upto_region 1 with fail
  refine wpG_region ?_
  refine wpG_tk (some 7) (v := .int .i64 x) rfl (.val (by rfl) (fun _ _ => rfl)) ?_
  simp only [Act.put, List.setIfInBounds_toArray, List.set_cons_zero, List.set_cons_succ]
  refine wpG_tk (some 8) (v := .bool false) rfl (.call (f := 51) (args := #[.int .i64 x]) (by rfl) (fun W => by go_simp) (fun W hg => isnan_any x W)) ?_
  simp only [Act.put, List.setIfInBounds_toArray, List.set_cons_zero, List.set_cons_succ]
  refine wpG_tk (some 5) (v := .bool false) rfl (.val (by rfl) (fun _ _ => rfl)) ?_
  simp only [Act.put, List.setIfInBounds_toArray, List.set_cons_zero, List.set_cons_succ]
  refine wpG_done (fun V1 hv2 => ?_)
  have GC3 := Lib.hid hv2
  clear hv2
  go_upto_region 2 with fail
  refine wpG_region ?_
  refine wpG_tk (some 9) (v := .int .i64 y) rfl (.val (by rfl) (fun _ _ => rfl)) ?_
  simp only [Act.put, List.setIfInBounds_toArray, List.set_cons_zero, List.set_cons_succ]
  refine wpG_tk (some 10) (v := .bool false) rfl (.call (f := 51) (args := #[.int .i64 y]) (by rfl) (fun W => by go_simp) (fun W hg => isnan_any y W)) ?_
  simp only [Act.put, List.setIfInBounds_toArray, List.set_cons_zero, List.set_cons_succ]
  refine wpG_tk (some 6) (v := .bool false) rfl (.val (by rfl) (fun _ _ => rfl)) ?_
  simp only [Act.put, List.setIfInBounds_toArray, List.set_cons_zero, List.set_cons_succ]
  refine wpG_done (fun V4 hv5 => ?_)
  have GC6 := Lib.hid (GC3.out.trans hv5)
  clear hv5
  go_upto_region 3 with fail
  refine wpG_region ?_
  refine wpG_tk (some 11) (v := .bool false) rfl (.val (by rfl) (fun _ _ => rfl)) ?_
  simp only [Act.put, List.setIfInBounds_toArray, List.set_cons_zero, List.set_cons_succ]
  refine wpG_done (fun V7 hv8 => ?_)
  have GC9 := Lib.hid (GC6.out.trans hv8)
  clear hv8
  go_upto_region 7 with fail
  refine wpG_region ?_
  refine wpG_tk (some 13) (v := .bool false) rfl (.val (by rfl) (fun _ _ => rfl)) ?_
  simp only [Act.put, List.setIfInBounds_toArray, List.set_cons_zero, List.set_cons_succ]
  refine wpG_done (fun V10 hv11 => ?_)
  have GC12 := Lib.hid (GC9.out.trans hv11)
  clear hv11
  go_upto_region 9 with fail
  refine wpG_region ?_
  refine wpG_tk (some 14) (v := .int .i64 x) rfl (.val (by rfl) (fun _ _ => rfl)) ?_
  simp only [Act.put, List.setIfInBounds_toArray, List.set_cons_zero, List.set_cons_succ]
  refine wpG_tk (some 15) (v := .int .i64 y) rfl (.val (by rfl) (fun _ _ => rfl)) ?_
  simp only [Act.put, List.setIfInBounds_toArray, List.set_cons_zero, List.set_cons_succ]
  refine wpG_tk (some 16) (v := .bool true) rfl (.val (by rfl) (fun W hg => by have hq : (x < y) := (by omega); first | (go_simp; done) | (go_simp <;> omega))) ?_
  simp only [Act.put, List.setIfInBounds_toArray, List.set_cons_zero, List.set_cons_succ]
  refine wpG_done (fun V13 hv14 => ?_)
  have GC15 := Lib.hid (GC12.out.trans hv14)
  clear hv14
  go_upto_region 10 with fail
  refine wpG_region ?_
  refine wpG_tk (some 4) (v := .int .i64 (-1)) rfl (.val (by rfl) (fun _ _ => rfl)) ?_
  simp only [Act.put, List.setIfInBounds_toArray, List.set_cons_zero, List.set_cons_succ]
  refine wpG_done (fun V16 hv17 => ?_)
  have GC18 := Lib.hid (GC15.out.trans hv17)
  clear hv17
  go_wp2_with fail
  go_ret
  exact ⟨rfl, Gr.to G0.out GC18.out⟩
set_option maxRecDepth 1000000 in
set_option maxHeartbeats 4000000 in
theorem cmp_g (x y : Int) (w : World) (h : y < x) :
    Calls Try.prog 40 #[.int .i64 x, .int .i64 y] w fun e w' => e = .returned (.int .i64 1) ∧ Below w.heap.size w w' := by
  have G0 := Lib.hid (Below.refl w.heap.size w)
  go_enter Try.func40, Try.ntmps40
  go_upto_region 1 with fail
  refine wpG_region ?_
  refine wpG_tk (some 7) (v := .int .i64 x) rfl (.val (by rfl) (fun _ _ => rfl)) ?_
  simp only [Act.put, List.setIfInBounds_toArray, List.set_cons_zero, List.set_cons_succ]
  refine wpG_tk (some 8) (v := .bool false) rfl (.call (f := 51) (args := #[.int .i64 x]) (by rfl) (fun W => by go_simp) (fun W hg => isnan_any x W)) ?_
  simp only [Act.put, List.setIfInBounds_toArray, List.set_cons_zero, List.set_cons_succ]
  refine wpG_tk (some 5) (v := .bool false) rfl (.val (by rfl) (fun _ _ => rfl)) ?_
  simp only [Act.put, List.setIfInBounds_toArray, List.set_cons_zero, List.set_cons_succ]
  refine wpG_done (fun V1 hv2 => ?_)
  have GC3 := Lib.hid hv2
  clear hv2
  go_upto_region 2 with fail
  refine wpG_region ?_
  refine wpG_tk (some 9) (v := .int .i64 y) rfl (.val (by rfl) (fun _ _ => rfl)) ?_
  simp only [Act.put, List.setIfInBounds_toArray, List.set_cons_zero, List.set_cons_succ]
  refine wpG_tk (some 10) (v := .bool false) rfl (.call (f := 51) (args := #[.int .i64 y]) (by rfl) (fun W => by go_simp) (fun W hg => isnan_any y W)) ?_
  simp only [Act.put, List.setIfInBounds_toArray, List.set_cons_zero, List.set_cons_succ]
  refine wpG_tk (some 6) (v := .bool false) rfl (.val (by rfl) (fun _ _ => rfl)) ?_
  simp only [Act.put, List.setIfInBounds_toArray, List.set_cons_zero, List.set_cons_succ]
  refine wpG_done (fun V4 hv5 => ?_)
  have GC6 := Lib.hid (GC3.out.trans hv5)
  clear hv5
  go_upto_region 3 with fail
  refine wpG_region ?_
  refine wpG_tk (some 11) (v := .bool false) rfl (.val (by rfl) (fun _ _ => rfl)) ?_
  simp only [Act.put, List.setIfInBounds_toArray, List.set_cons_zero, List.set_cons_succ]
  refine wpG_done (fun V7 hv8 => ?_)
  have GC9 := Lib.hid (GC6.out.trans hv8)
  clear hv8
  go_upto_region 7 with fail
  refine wpG_region ?_
  refine wpG_tk (some 13) (v := .bool false) rfl (.val (by rfl) (fun _ _ => rfl)) ?_
  simp only [Act.put, List.setIfInBounds_toArray, List.set_cons_zero, List.set_cons_succ]
  refine wpG_done (fun V10 hv11 => ?_)
  have GC12 := Lib.hid (GC9.out.trans hv11)
  clear hv11
  go_upto_region 9 with fail
  refine wpG_region ?_
  refine wpG_tk (some 14) (v := .int .i64 x) rfl (.val (by rfl) (fun _ _ => rfl)) ?_
  simp only [Act.put, List.setIfInBounds_toArray, List.set_cons_zero, List.set_cons_succ]
  refine wpG_tk (some 15) (v := .int .i64 y) rfl (.val (by rfl) (fun _ _ => rfl)) ?_
  simp only [Act.put, List.setIfInBounds_toArray, List.set_cons_zero, List.set_cons_succ]
  refine wpG_tk (some 16) (v := .bool false) rfl (.val (by rfl) (fun W hg => by have hq : ¬ (x < y) := (by omega); first | (go_simp; done) | (go_simp <;> omega))) ?_
  simp only [Act.put, List.setIfInBounds_toArray, List.set_cons_zero, List.set_cons_succ]
  refine wpG_done (fun V13 hv14 => ?_)
  have GC15 := Lib.hid (GC12.out.trans hv14)
  clear hv14
  go_upto_region 11 with fail
  refine wpG_region ?_
  refine wpG_tk (some 17) (v := .int .i64 x) rfl (.val (by rfl) (fun _ _ => rfl)) ?_
  simp only [Act.put, List.setIfInBounds_toArray, List.set_cons_zero, List.set_cons_succ]
  refine wpG_tk (some 18) (v := .int .i64 y) rfl (.val (by rfl) (fun _ _ => rfl)) ?_
  simp only [Act.put, List.setIfInBounds_toArray, List.set_cons_zero, List.set_cons_succ]
  refine wpG_tk (some 19) (v := .bool true) rfl (.val (by rfl) (fun W hg => by have hq : (x > y) := (by omega); first | (go_simp; done) | (go_simp <;> omega))) ?_
  simp only [Act.put, List.setIfInBounds_toArray, List.set_cons_zero, List.set_cons_succ]
  refine wpG_done (fun V16 hv17 => ?_)
  have GC18 := Lib.hid (GC15.out.trans hv17)
  clear hv17
  go_upto_region 12 with fail
  refine wpG_region ?_
  refine wpG_tk (some 4) (v := .int .i64 1) rfl (.val (by rfl) (fun _ _ => rfl)) ?_
  simp only [Act.put, List.setIfInBounds_toArray, List.set_cons_zero, List.set_cons_succ]
  refine wpG_done (fun V19 hv20 => ?_)
  have GC21 := Lib.hid (GC18.out.trans hv20)
  clear hv20
  go_wp2_with fail
  go_ret
  exact ⟨rfl, Gr.to G0.out GC21.out⟩
set_option maxRecDepth 1000000 in
set_option maxHeartbeats 4000000 in
theorem cmp_e (x y : Int) (w : World) (h : x = y) :
    Calls Try.prog 40 #[.int .i64 x, .int .i64 y] w fun e w' => e = .returned (.int .i64 0) ∧ Below w.heap.size w w' := by
  have G0 := Lib.hid (Below.refl w.heap.size w)
  go_enter Try.func40, Try.ntmps40
  go_upto_region 1 with fail
  refine wpG_region ?_
  refine wpG_tk (some 7) (v := .int .i64 x) rfl (.val (by rfl) (fun _ _ => rfl)) ?_
  simp only [Act.put, List.setIfInBounds_toArray, List.set_cons_zero, List.set_cons_succ]
  refine wpG_tk (some 8) (v := .bool false) rfl (.call (f := 51) (args := #[.int .i64 x]) (by rfl) (fun W => by go_simp) (fun W hg => isnan_any x W)) ?_
  simp only [Act.put, List.setIfInBounds_toArray, List.set_cons_zero, List.set_cons_succ]
  refine wpG_tk (some 5) (v := .bool false) rfl (.val (by rfl) (fun _ _ => rfl)) ?_
  simp only [Act.put, List.setIfInBounds_toArray, List.set_cons_zero, List.set_cons_succ]
  refine wpG_done (fun V1 hv2 => ?_)
  have GC3 := Lib.hid hv2
  clear hv2
  go_upto_region 2 with fail
  refine wpG_region ?_
  refine wpG_tk (some 9) (v := .int .i64 y) rfl (.val (by rfl) (fun _ _ => rfl)) ?_
  simp only [Act.put, List.setIfInBounds_toArray, List.set_cons_zero, List.set_cons_succ]
  refine wpG_tk (some 10) (v := .bool false) rfl (.call (f := 51) (args := #[.int .i64 y]) (by rfl) (fun W => by go_simp) (fun W hg => isnan_any y W)) ?_
  simp only [Act.put, List.setIfInBounds_toArray, List.set_cons_zero, List.set_cons_succ]
  refine wpG_tk (some 6) (v := .bool false) rfl (.val (by rfl) (fun _ _ => rfl)) ?_
  simp only [Act.put, List.setIfInBounds_toArray, List.set_cons_zero, List.set_cons_succ]
  refine wpG_done (fun V4 hv5 => ?_)
  have GC6 := Lib.hid (GC3.out.trans hv5)
  clear hv5
  go_upto_region 3 with fail
  refine wpG_region ?_
  refine wpG_tk (some 11) (v := .bool false) rfl (.val (by rfl) (fun _ _ => rfl)) ?_
  simp only [Act.put, List.setIfInBounds_toArray, List.set_cons_zero, List.set_cons_succ]
  refine wpG_done (fun V7 hv8 => ?_)
  have GC9 := Lib.hid (GC6.out.trans hv8)
  clear hv8
  go_upto_region 7 with fail
  refine wpG_region ?_
  refine wpG_tk (some 13) (v := .bool false) rfl (.val (by rfl) (fun _ _ => rfl)) ?_
  simp only [Act.put, List.setIfInBounds_toArray, List.set_cons_zero, List.set_cons_succ]
  refine wpG_done (fun V10 hv11 => ?_)
  have GC12 := Lib.hid (GC9.out.trans hv11)
  clear hv11
  go_upto_region 9 with fail
  refine wpG_region ?_
  refine wpG_tk (some 14) (v := .int .i64 x) rfl (.val (by rfl) (fun _ _ => rfl)) ?_
  simp only [Act.put, List.setIfInBounds_toArray, List.set_cons_zero, List.set_cons_succ]
  refine wpG_tk (some 15) (v := .int .i64 y) rfl (.val (by rfl) (fun _ _ => rfl)) ?_
  simp only [Act.put, List.setIfInBounds_toArray, List.set_cons_zero, List.set_cons_succ]
  refine wpG_tk (some 16) (v := .bool false) rfl (.val (by rfl) (fun W hg => by have hq : ¬ (x < y) := (by omega); first | (go_simp; done) | (go_simp <;> omega))) ?_
  simp only [Act.put, List.setIfInBounds_toArray, List.set_cons_zero, List.set_cons_succ]
  refine wpG_done (fun V13 hv14 => ?_)
  have GC15 := Lib.hid (GC12.out.trans hv14)
  clear hv14
  go_upto_region 11 with fail
  refine wpG_region ?_
  refine wpG_tk (some 17) (v := .int .i64 x) rfl (.val (by rfl) (fun _ _ => rfl)) ?_
  simp only [Act.put, List.setIfInBounds_toArray, List.set_cons_zero, List.set_cons_succ]
  refine wpG_tk (some 18) (v := .int .i64 y) rfl (.val (by rfl) (fun _ _ => rfl)) ?_
  simp only [Act.put, List.setIfInBounds_toArray, List.set_cons_zero, List.set_cons_succ]
  refine wpG_tk (some 19) (v := .bool false) rfl (.val (by rfl) (fun W hg => by have hq : ¬ (x > y) := (by omega); first | (go_simp; done) | (go_simp <;> omega))) ?_
  simp only [Act.put, List.setIfInBounds_toArray, List.set_cons_zero, List.set_cons_succ]
  refine wpG_done (fun V16 hv17 => ?_)
  have GC18 := Lib.hid (GC15.out.trans hv17)
  clear hv17
  go_upto_region 13 with fail
  refine wpG_region ?_
  refine wpG_tk (some 4) (v := .int .i64 0) rfl (.val (by rfl) (fun _ _ => rfl)) ?_
  simp only [Act.put, List.setIfInBounds_toArray, List.set_cons_zero, List.set_cons_succ]
  refine wpG_done (fun V19 hv20 => ?_)
  have GC21 := Lib.hid (GC18.out.trans hv20)
  clear hv20
  go_wp2_with fail
  go_ret
  exact ⟨rfl, Gr.to G0.out GC21.out⟩
set_option maxRecDepth 1000000 in
set_option maxHeartbeats 4000000 in
theorem cmp_any (x y : Int) (w : World) :
    Calls Try.prog 40 #[.int .i64 x, .int .i64 y] w fun e w' => e = .returned (.int .i64 (Mo.cmpI x y)) ∧ Below w.heap.size w w' := by
  rcases Int.lt_trichotomy x y with h | h | h
  · rw [Mo.cmp_lt h]; exact cmp_l x y w h
  · rw [Mo.cmp_eq h]; exact cmp_e x y w h
  · rw [Mo.cmp_gt h]; exact cmp_g x y w h
set_option maxRecDepth 1000000 in
set_option maxHeartbeats 4000000 in
theorem compare_any (a1 a2 a3 b1 b2 b3 : Int) (w : World) :
    Calls Try.prog 15 #[.agg #[.int .i64 a1, .int .i64 a2, .int .i64 a3], .agg #[.int .i64 b1, .int .i64 b2, .int .i64 b3]] w fun e w' => e = .returned (.int .i64 (Mo.cmpI (Mo.enc a1 a2 a3) (Mo.enc b1 b2 b3))) ∧ Below w.heap.size w w' := by
  obtain ⟨u, hu, r0, r1, g0⟩ := rows2 w [.int .i64 a1, .int .i64 a2, .int .i64 a3] 23 [.int .i64 b1, .int .i64 b2, .int .i64 b3] 23
  have R0 := Lib.hid r0
  have R1 := Lib.hid r1
  have G0 := Lib.hid g0
  have HU := Lib.hid hu
  clear hu g0 r0 r1
  go_enter Try.func15, Try.ntmps15
  go_upto_region 1 with fail
  rw [← HU.out]
  refine wpK_region (by kernel_rfl) ?_
  refine wpK_tk (i := 0) (some 5) (v := .agg #[.int .i64 a1, .int .i64 a2, .int .i64 a3]) rfl rfl (by kernel_rfl) (fun _ _ _ h => h) (.load_mid (by rfl) 23 (.tmp 2) rfl (w.heap.size) 0 rfl [.int .i64 a1, .int .i64 a2, .int .i64 a3] _ (fun W hg => (R0.out.below (Gr.un hg)).range) Try.underlying23 rfl (by kernel_rfl)) ?_
  simp only [Act.put, List.setIfInBounds_toArray, List.set_cons_zero, List.set_cons_succ]
  refine wpK_tk (i := 1) (some 6) (v := .int .i64 (Mo.enc a1 a2 a3)) rfl rfl (by kernel_rfl) (fun _ _ _ h => h) (.call (f := 13) (args := #[.agg #[.int .i64 a1, .int .i64 a2, .int .i64 a3]]) (by rfl) (fun W => by go_simp) (fun W hg => encode_any a1 a2 a3 W)) ?_
  simp only [Act.put, List.setIfInBounds_toArray, List.set_cons_zero, List.set_cons_succ]
  refine wpK_tk (i := 2) (some 7) (v := .agg #[.int .i64 b1, .int .i64 b2, .int .i64 b3]) rfl rfl (by kernel_rfl) (fun _ _ _ h => h) (.load_mid (by rfl) 23 (.tmp 3) rfl (w.heap.size + 1) 0 rfl [.int .i64 b1, .int .i64 b2, .int .i64 b3] _ (fun W hg => (R1.out.below (Gr.un hg)).range) Try.underlying23 rfl (by kernel_rfl)) ?_
  simp only [Act.put, List.setIfInBounds_toArray, List.set_cons_zero, List.set_cons_succ]
  refine wpK_tk (i := 3) (some 8) (v := .int .i64 (Mo.enc b1 b2 b3)) rfl rfl (by kernel_rfl) (fun _ _ _ h => h) (.call (f := 13) (args := #[.agg #[.int .i64 b1, .int .i64 b2, .int .i64 b3]]) (by rfl) (fun W => by go_simp) (fun W hg => encode_any b1 b2 b3 W)) ?_
  simp only [Act.put, List.setIfInBounds_toArray, List.set_cons_zero, List.set_cons_succ]
  refine wpK_tk (i := 4) (some 9) (v := .int .i64 (Mo.cmpI (Mo.enc a1 a2 a3) (Mo.enc b1 b2 b3))) rfl rfl (by kernel_rfl) (fun _ _ _ h => h) (.call (f := 40) (args := #[.int .i64 (Mo.enc a1 a2 a3), .int .i64 (Mo.enc b1 b2 b3)]) (by rfl) (fun W => by go_simp) (fun W hg => cmp_any (Mo.enc a1 a2 a3) (Mo.enc b1 b2 b3) W)) ?_
  simp only [Act.put, List.setIfInBounds_toArray, List.set_cons_zero, List.set_cons_succ]
  refine wpK_ta (i := 5) (some 4) (v := .int .i64 (Mo.cmpI (Mo.enc a1 a2 a3) (Mo.enc b1 b2 b3))) rfl rfl (by kernel_rfl) (fun _ _ _ h => h) (Or.inl ⟨rfl, fun _ => rfl⟩) ?_
  simp only [Act.put, List.setIfInBounds_toArray, List.set_cons_zero, List.set_cons_succ]
  refine wpK_done (by kernel_rfl) (fun V1 hv2 => ?_) _
  have GC3 := Lib.hid (Gr.un hv2)
  clear hv2
  go_wp2_with fail
  go_ret
  exact ⟨rfl, Gr.to G0.out GC3.out⟩
set_option maxRecDepth 1000000 in
set_option maxHeartbeats 4000000 in
theorem oct_0 (x y z l : Int) (w : World) (h : Mo.inB x y z = false) :
    Calls Try.prog 17 #[.agg #[.int .i64 x, .int .i64 y, .int .i64 z], .int .i64 l] w fun e w' => e = .returned (.int .i64 (-1)) ∧ Below w.heap.size w w' := by
  have HI := Lib.hid h
  clear h
  obtain ⟨u, hu, r0, g0⟩ := rows1 w [.int .i64 x, .int .i64 y, .int .i64 z] 23
  have R0 := Lib.hid r0
  have G0 := Lib.hid g0
  have HU := Lib.hid hu
  clear hu g0 r0
  go_enter Try.func17, Try.ntmps17
  go_upto_region 1 with fail
  rw [← HU.out]
  refine wpG_region ?_
  refine wpG_tk (some 8) (v := .agg #[.int .i64 x, .int .i64 y, .int .i64 z]) rfl (.load_mid (by rfl) 23 (.tmp 2) rfl (w.heap.size) 0 rfl [.int .i64 x, .int .i64 y, .int .i64 z] _ (fun W hg => (R0.out.below hg).range) Try.underlying23 rfl (by kernel_rfl)) ?_
  simp only [Act.put, List.setIfInBounds_toArray, List.set_cons_zero, List.set_cons_succ]
  refine wpG_tk (some 9) (v := .bool false) rfl (.call (f := 38) (args := #[.agg #[.int .i64 x, .int .i64 y, .int .i64 z]]) (by rfl) (fun W => by go_simp) (fun W hg => (HI.out ▸ inside_b x y z W))) ?_
  simp only [Act.put, List.setIfInBounds_toArray, List.set_cons_zero, List.set_cons_succ]
  refine wpG_tk (some 10) (v := .bool true) rfl (.val (by rfl) (fun W hg => by go_simp)) ?_
  simp only [Act.put, List.setIfInBounds_toArray, List.set_cons_zero, List.set_cons_succ]
  refine wpG_tk (some 11) (v := .bool true) rfl (.val (by rfl) (fun _ _ => rfl)) ?_
  simp only [Act.put, List.setIfInBounds_toArray, List.set_cons_zero, List.set_cons_succ]
  refine wpG_tk (some 12) (v := undef) rfl (.no (by rfl)) ?_
  simp only [Act.put, List.setIfInBounds_toArray, List.set_cons_zero, List.set_cons_succ]
  refine wpG_tk (some 13) (v := undef) rfl (.no (by rfl)) ?_
  simp only [Act.put, List.setIfInBounds_toArray, List.set_cons_zero, List.set_cons_succ]
  refine wpG_tk (some 14) (v := .bool true) rfl (.val (by rfl) (fun W hg => by go_simp)) ?_
  simp only [Act.put, List.setIfInBounds_toArray, List.set_cons_zero, List.set_cons_succ]
  refine wpG_tk (some 15) (v := .bool true) rfl (.val (by rfl) (fun _ _ => rfl)) ?_
  simp only [Act.put, List.setIfInBounds_toArray, List.set_cons_zero, List.set_cons_succ]
  refine wpG_tk (some 16) (v := undef) rfl (.no (by rfl)) ?_
  simp only [Act.put, List.setIfInBounds_toArray, List.set_cons_zero, List.set_cons_succ]
  refine wpG_tk (some 17) (v := undef) rfl (.no (by rfl)) ?_
  simp only [Act.put, List.setIfInBounds_toArray, List.set_cons_zero, List.set_cons_succ]
  refine wpG_tk (some 18) (v := .bool true) rfl (.val (by rfl) (fun W hg => by go_simp)) ?_
  simp only [Act.put, List.setIfInBounds_toArray, List.set_cons_zero, List.set_cons_succ]
  refine wpG_done (fun V1 hv2 => ?_)
  have GC3 := Lib.hid hv2
  clear hv2
  go_upto_region 2 with fail
  refine wpG_region ?_
  refine wpG_tk (some 4) (v := .int .i64 (-1)) rfl (.val (by rfl) (fun _ _ => rfl)) ?_
  simp only [Act.put, List.setIfInBounds_toArray, List.set_cons_zero, List.set_cons_succ]
  refine wpG_done (fun V4 hv5 => ?_)
  have GC6 := Lib.hid (GC3.out.trans hv5)
  clear hv5
  go_wp2_with fail
  go_ret
  exact ⟨rfl, Gr.to G0.out GC6.out⟩
set_option maxRecDepth 1000000 in
set_option maxHeartbeats 4000000 in
theorem oct_1 (x y z l : Int) (w : World) (h : Mo.inB x y z = true) (hl : l < 0) :
    Calls Try.prog 17 #[.agg #[.int .i64 x, .int .i64 y, .int .i64 z], .int .i64 l] w fun e w' => e = .returned (.int .i64 (-1)) ∧ Below w.heap.size w w' := by
  have HI := Lib.hid h
  clear h
  obtain ⟨u, hu, r0, g0⟩ := rows1 w [.int .i64 x, .int .i64 y, .int .i64 z] 23
  have R0 := Lib.hid r0
  have G0 := Lib.hid g0
  have HU := Lib.hid hu
  clear hu g0 r0
  go_enter Try.func17, Try.ntmps17
  go_upto_region 1 with fail
  rw [← HU.out]
  refine wpG_region ?_
  refine wpG_tk (some 8) (v := .agg #[.int .i64 x, .int .i64 y, .int .i64 z]) rfl (.load_mid (by rfl) 23 (.tmp 2) rfl (w.heap.size) 0 rfl [.int .i64 x, .int .i64 y, .int .i64 z] _ (fun W hg => (R0.out.below hg).range) Try.underlying23 rfl (by kernel_rfl)) ?_
  simp only [Act.put, List.setIfInBounds_toArray, List.set_cons_zero, List.set_cons_succ]
  refine wpG_tk (some 9) (v := .bool true) rfl (.call (f := 38) (args := #[.agg #[.int .i64 x, .int .i64 y, .int .i64 z]]) (by rfl) (fun W => by go_simp) (fun W hg => (HI.out ▸ inside_b x y z W))) ?_
  simp only [Act.put, List.setIfInBounds_toArray, List.set_cons_zero, List.set_cons_succ]
  refine wpG_tk (some 10) (v := .bool false) rfl (.val (by rfl) (fun W hg => by go_simp)) ?_
  simp only [Act.put, List.setIfInBounds_toArray, List.set_cons_zero, List.set_cons_succ]
  refine wpG_tk (some 11) (v := .bool false) rfl (.val (by rfl) (fun _ _ => rfl)) ?_
  simp only [Act.put, List.setIfInBounds_toArray, List.set_cons_zero, List.set_cons_succ]
  refine wpG_tk (some 12) (v := .int .i64 l) rfl (.val (by rfl) (fun _ _ => rfl)) ?_
  simp only [Act.put, List.setIfInBounds_toArray, List.set_cons_zero, List.set_cons_succ]
  refine wpG_tk (some 13) (v := .bool true) rfl (.val (by rfl) (fun W hg => by have hq : (l < 0) := (by omega); first | (go_simp; done) | (go_simp <;> omega))) ?_
  simp only [Act.put, List.setIfInBounds_toArray, List.set_cons_zero, List.set_cons_succ]
  refine wpG_tk (some 14) (v := .bool true) rfl (.val (by rfl) (fun W hg => by go_simp)) ?_
  simp only [Act.put, List.setIfInBounds_toArray, List.set_cons_zero, List.set_cons_succ]
  refine wpG_tk (some 15) (v := .bool true) rfl (.val (by rfl) (fun _ _ => rfl)) ?_
  simp only [Act.put, List.setIfInBounds_toArray, List.set_cons_zero, List.set_cons_succ]
  refine wpG_tk (some 16) (v := undef) rfl (.no (by rfl)) ?_
  simp only [Act.put, List.setIfInBounds_toArray, List.set_cons_zero, List.set_cons_succ]
  refine wpG_tk (some 17) (v := undef) rfl (.no (by rfl)) ?_
  simp only [Act.put, List.setIfInBounds_toArray, List.set_cons_zero, List.set_cons_succ]
  refine wpG_tk (some 18) (v := .bool true) rfl (.val (by rfl) (fun W hg => by go_simp)) ?_
  simp only [Act.put, List.setIfInBounds_toArray, List.set_cons_zero, List.set_cons_succ]
  refine wpG_done (fun V1 hv2 => ?_)
  have GC3 := Lib.hid hv2
  clear hv2
  go_upto_region 2 with fail
  refine wpG_region ?_
  refine wpG_tk (some 4) (v := .int .i64 (-1)) rfl (.val (by rfl) (fun _ _ => rfl)) ?_
  simp only [Act.put, List.setIfInBounds_toArray, List.set_cons_zero, List.set_cons_succ]
  refine wpG_done (fun V4 hv5 => ?_)
  have GC6 := Lib.hid (GC3.out.trans hv5)
  clear hv5
  go_wp2_with fail
  go_ret
  exact ⟨rfl, Gr.to G0.out GC6.out⟩
set_option maxRecDepth 1000000 in
set_option maxHeartbeats 4000000 in
theorem oct_2 (x y z l : Int) (w : World) (h : Mo.inB x y z = true) (hl : ¬ l < 0) (hl2 : 13 < l) :
    Calls Try.prog 17 #[.agg #[.int .i64 x, .int .i64 y, .int .i64 z], .int .i64 l] w fun e w' => e = .returned (.int .i64 (-1)) ∧ Below w.heap.size w w' := by
  have HI := Lib.hid h
  clear h
  obtain ⟨u, hu, r0, g0⟩ := rows1 w [.int .i64 x, .int .i64 y, .int .i64 z] 23
  have R0 := Lib.hid r0
  have G0 := Lib.hid g0
  have HU := Lib.hid hu
  clear hu g0 r0
  go_enter Try.func17, Try.ntmps17
  go_upto_region 1 with fail
  rw [← HU.out]
  refine wpG_region ?_
  refine wpG_tk (some 8) (v := .agg #[.int .i64 x, .int .i64 y, .int .i64 z]) rfl (.load_mid (by rfl) 23 (.tmp 2) rfl (w.heap.size) 0 rfl [.int .i64 x, .int .i64 y, .int .i64 z] _ (fun W hg => (R0.out.below hg).range) Try.underlying23 rfl (by kernel_rfl)) ?_
  simp only [Act.put, List.setIfInBounds_toArray, List.set_cons_zero, List.set_cons_succ]
  refine wpG_tk (some 9) (v := .bool true) rfl (.call (f := 38) (args := #[.agg #[.int .i64 x, .int .i64 y, .int .i64 z]]) (by rfl) (fun W => by go_simp) (fun W hg => (HI.out ▸ inside_b x y z W))) ?_
  simp only [Act.put, List.setIfInBounds_toArray, List.set_cons_zero, List.set_cons_succ]
  refine wpG_tk (some 10) (v := .bool false) rfl (.val (by rfl) (fun W hg => by go_simp)) ?_
  simp only [Act.put, List.setIfInBounds_toArray, List.set_cons_zero, List.set_cons_succ]
  refine wpG_tk (some 11) (v := .bool false) rfl (.val (by rfl) (fun _ _ => rfl)) ?_
  simp only [Act.put, List.setIfInBounds_toArray, List.set_cons_zero, List.set_cons_succ]
  refine wpG_tk (some 12) (v := .int .i64 l) rfl (.val (by rfl) (fun _ _ => rfl)) ?_
  simp only [Act.put, List.setIfInBounds_toArray, List.set_cons_zero, List.set_cons_succ]
  refine wpG_tk (some 13) (v := .bool false) rfl (.val (by rfl) (fun W hg => by have hq : ¬ (l < 0) := (by omega); first | (go_simp; done) | (go_simp <;> omega))) ?_
  simp only [Act.put, List.setIfInBounds_toArray, List.set_cons_zero, List.set_cons_succ]
  refine wpG_tk (some 14) (v := .bool false) rfl (.val (by rfl) (fun W hg => by go_simp)) ?_
  simp only [Act.put, List.setIfInBounds_toArray, List.set_cons_zero, List.set_cons_succ]
  refine wpG_tk (some 15) (v := .bool false) rfl (.val (by rfl) (fun _ _ => rfl)) ?_
  simp only [Act.put, List.setIfInBounds_toArray, List.set_cons_zero, List.set_cons_succ]
  refine wpG_tk (some 16) (v := .int .i64 l) rfl (.val (by rfl) (fun _ _ => rfl)) ?_
  simp only [Act.put, List.setIfInBounds_toArray, List.set_cons_zero, List.set_cons_succ]
  refine wpG_tk (some 17) (v := .bool true) rfl (.val (by rfl) (fun W hg => by have hq : (l ≥ 14) := (by omega); first | (go_simp; done) | (go_simp <;> omega))) ?_
  simp only [Act.put, List.setIfInBounds_toArray, List.set_cons_zero, List.set_cons_succ]
  refine wpG_tk (some 18) (v := .bool true) rfl (.val (by rfl) (fun W hg => by go_simp)) ?_
  simp only [Act.put, List.setIfInBounds_toArray, List.set_cons_zero, List.set_cons_succ]
  refine wpG_done (fun V1 hv2 => ?_)
  have GC3 := Lib.hid hv2
  clear hv2
  go_upto_region 2 with fail
  refine wpG_region ?_
  refine wpG_tk (some 4) (v := .int .i64 (-1)) rfl (.val (by rfl) (fun _ _ => rfl)) ?_
  simp only [Act.put, List.setIfInBounds_toArray, List.set_cons_zero, List.set_cons_succ]
  refine wpG_done (fun V4 hv5 => ?_)
  have GC6 := Lib.hid (GC3.out.trans hv5)
  clear hv5
  go_wp2_with fail
  go_ret
  exact ⟨rfl, Gr.to G0.out GC6.out⟩
set_option maxRecDepth 1000000 in
set_option maxHeartbeats 4000000 in
theorem oct_3 (x y z l : Nat) (w : World) (h : Mo.inB (x : Int) (y : Int) (z : Int) = true) (hx : x < 16384 ∧ y < 16384 ∧ z < 16384) (hl : l ≤ 13) :
    Calls Try.prog 17 #[.agg #[.int .i64 (x : Int), .int .i64 (y : Int), .int .i64 (z : Int)], .int .i64 (l : Int)] w fun e w' => e = .returned (.int .i64 ((x / 2 ^ l % 2 + 2 * (y / 2 ^ l % 2) + 4 * (z / 2 ^ l % 2) : Nat) : Int)) ∧ Below w.heap.size w w' := by
  have HI := Lib.hid h
  clear h
  obtain ⟨u, hu, r0, g0⟩ := rows1 w [.int .i64 (x : Int), .int .i64 (y : Int), .int .i64 (z : Int)] 23
  have R0 := Lib.hid r0
  have G0 := Lib.hid g0
  have HU := Lib.hid hu
  clear hu g0 r0
  go_enter Try.func17, Try.ntmps17
  go_upto_region 1 with fail
  rw [← HU.out]
  refine wpG_region ?_
  refine wpG_tk (some 8) (v := .agg #[.int .i64 (x : Int), .int .i64 (y : Int), .int .i64 (z : Int)]) rfl (.load_mid (by rfl) 23 (.tmp 2) rfl (w.heap.size) 0 rfl [.int .i64 (x : Int), .int .i64 (y : Int), .int .i64 (z : Int)] _ (fun W hg => (R0.out.below hg).range) Try.underlying23 rfl (by kernel_rfl)) ?_
  simp only [Act.put, List.setIfInBounds_toArray, List.set_cons_zero, List.set_cons_succ]
  refine wpG_tk (some 9) (v := .bool true) rfl (.call (f := 38) (args := #[.agg #[.int .i64 (x : Int), .int .i64 (y : Int), .int .i64 (z : Int)]]) (by rfl) (fun W => by go_simp) (fun W hg => (HI.out ▸ inside_b (x : Int) (y : Int) (z : Int) W))) ?_
  simp only [Act.put, List.setIfInBounds_toArray, List.set_cons_zero, List.set_cons_succ]
  refine wpG_tk (some 10) (v := .bool false) rfl (.val (by rfl) (fun W hg => by go_simp)) ?_
  simp only [Act.put, List.setIfInBounds_toArray, List.set_cons_zero, List.set_cons_succ]
  refine wpG_tk (some 11) (v := .bool false) rfl (.val (by rfl) (fun _ _ => rfl)) ?_
  simp only [Act.put, List.setIfInBounds_toArray, List.set_cons_zero, List.set_cons_succ]
  refine wpG_tk (some 12) (v := .int .i64 (l : Int)) rfl (.val (by rfl) (fun _ _ => rfl)) ?_
  simp only [Act.put, List.setIfInBounds_toArray, List.set_cons_zero, List.set_cons_succ]
  refine wpG_tk (some 13) (v := .bool false) rfl (.val (by rfl) (fun W hg => by have hq : ¬ ((l : Int) < 0) := (by omega); first | (go_simp; done) | (go_simp <;> omega))) ?_
  simp only [Act.put, List.setIfInBounds_toArray, List.set_cons_zero, List.set_cons_succ]
  refine wpG_tk (some 14) (v := .bool false) rfl (.val (by rfl) (fun W hg => by go_simp)) ?_
  simp only [Act.put, List.setIfInBounds_toArray, List.set_cons_zero, List.set_cons_succ]
  refine wpG_tk (some 15) (v := .bool false) rfl (.val (by rfl) (fun _ _ => rfl)) ?_
  simp only [Act.put, List.setIfInBounds_toArray, List.set_cons_zero, List.set_cons_succ]
  refine wpG_tk (some 16) (v := .int .i64 (l : Int)) rfl (.val (by rfl) (fun _ _ => rfl)) ?_
  simp only [Act.put, List.setIfInBounds_toArray, List.set_cons_zero, List.set_cons_succ]
  refine wpG_tk (some 17) (v := .bool false) rfl (.val (by rfl) (fun W hg => by have hq : ¬ ((l : Int) ≥ 14) := (by omega); first | (go_simp; done) | (go_simp <;> omega))) ?_
  simp only [Act.put, List.setIfInBounds_toArray, List.set_cons_zero, List.set_cons_succ]
  refine wpG_tk (some 18) (v := .bool false) rfl (.val (by rfl) (fun W hg => by go_simp)) ?_
  simp only [Act.put, List.setIfInBounds_toArray, List.set_cons_zero, List.set_cons_succ]
  refine wpG_done (fun V1 hv2 => ?_)
  have GC3 := Lib.hid hv2
  clear hv2
  go_upto_region 3 with fail
  refine wpG_region ?_
  refine wpG_tk (some 5) (v := .int .i64 0) rfl (.val (by rfl) (fun _ _ => rfl)) ?_
  simp only [Act.put, List.setIfInBounds_toArray, List.set_cons_zero, List.set_cons_succ]
  refine wpG_done (fun V4 hv5 => ?_)
  have GC6 := Lib.hid (GC3.out.trans hv5)
  clear hv5
  go_upto_region 4 with fail
  refine wpG_region ?_
  refine wpG_tk (some 19) (v := .agg #[.int .i64 (x : Int), .int .i64 (y : Int), .int .i64 (z : Int)]) rfl (.load_mid (by rfl) 23 (.tmp 2) rfl (w.heap.size) 0 rfl [.int .i64 (x : Int), .int .i64 (y : Int), .int .i64 (z : Int)] _ (fun W hg => (R0.out.below (GC6.out.trans hg)).range) Try.underlying23 rfl (by kernel_rfl)) ?_
  simp only [Act.put, List.setIfInBounds_toArray, List.set_cons_zero, List.set_cons_succ]
  refine wpG_tk (some 20) (v := .agg #[.int .i64 (x : Int), .int .i64 (y : Int), .int .i64 (z : Int)]) rfl (.call (f := 39) (args := #[.agg #[.int .i64 (x : Int), .int .i64 (y : Int), .int .i64 (z : Int)]]) (by rfl) (fun W => by go_simp) (fun W hg => coords_any (x : Int) (y : Int) (z : Int) W)) ?_
  simp only [Act.put, List.setIfInBounds_toArray, List.set_cons_zero, List.set_cons_succ]
  refine wpG_tk (some 21) (v := .int .i64 0) rfl (.val (by rfl) (fun _ _ => rfl)) ?_
  simp only [Act.put, List.setIfInBounds_toArray, List.set_cons_zero, List.set_cons_succ]
  refine wpG_done (fun V7 hv8 => ?_)
  have GC9 := Lib.hid (GC6.out.trans hv8)
  clear hv8
  obtain ⟨b0, hb0⟩ : ∃ b, b = x / 2 ^ l % 2 := ⟨_, rfl⟩
  have hc0 : b0 < 2 := by rw [hb0]; exact Nat.mod_lt _ (by decide)
  have HB0 := Lib.hid hb0
  clear hb0
  obtain ⟨b1, hb1⟩ : ∃ b, b = y / 2 ^ l % 2 := ⟨_, rfl⟩
  have hc1 : b1 < 2 := by rw [hb1]; exact Nat.mod_lt _ (by decide)
  have HB1 := Lib.hid hb1
  clear hb1
  obtain ⟨b2, hb2⟩ : ∃ b, b = z / 2 ^ l % 2 := ⟨_, rfl⟩
  have hc2 : b2 < 2 := by rw [hb2]; exact Nat.mod_lt _ (by decide)
  have HB2 := Lib.hid hb2
  clear hb2
  obtain ⟨s1, hs1⟩ : ∃ s, s = b1 * 2 ^ 1 := ⟨_, rfl⟩
  have ht1 : s1 ≤ 4 := by omega
  have HS1 := Lib.hid hs1
  clear hs1
  obtain ⟨s2, hs2⟩ : ∃ s, s = b2 * 2 ^ 2 := ⟨_, rfl⟩
  have ht2 : s2 ≤ 4 := by omega
  have HS2 := Lib.hid hs2
  clear hs2
  obtain ⟨n1, hn1⟩ : ∃ n, n = b0 ||| s1 := ⟨_, rfl⟩
  have hm1 : n1 < 2 ^ 3 := by rw [hn1]; exact Nat.or_lt_two_pow (by omega) (by omega)
  have HN1 := Lib.hid hn1
  obtain ⟨n2, hn2⟩ : ∃ n, n = n1 ||| s2 := ⟨_, rfl⟩
  have hm2 : n2 < 2 ^ 3 := by rw [hn2]; exact Nat.or_lt_two_pow (by omega) (by omega)
  have HN2 := Lib.hid hn2
  clear hn1 hn2
  go_wp2_with fail
  refine wp_loop_rounds 4 ?_
  rw [rounds_succ]
  go_upto_region 5 with fail
  refine wpG_region ?_
  refine wpG_tk (some 22) (v := .bool true) rfl (.val (by rfl) (fun W hg => by go_simp)) ?_
  simp only [Act.put, List.setIfInBounds_toArray, List.set_cons_zero, List.set_cons_succ]
  refine wpG_done (fun V10 hv11 => ?_)
  have GC12 := Lib.hid (GC9.out.trans hv11)
  clear hv11
  go_upto_region 6 with fail
  refine wpG_region ?_
  refine wpG_tk (some 23) (v := .int .i64 0) rfl (.val (by rfl) (fun _ _ => rfl)) ?_
  simp only [Act.put, List.setIfInBounds_toArray, List.set_cons_zero, List.set_cons_succ]
  refine wpG_tk (some 24) (v := .int .i64 (x : Int)) rfl (.val (by rfl) (fun W hg => by have e := idx3_0 W (x : Int) (y : Int) (z : Int); go_simp)) ?_
  simp only [Act.put, List.setIfInBounds_toArray, List.set_cons_zero, List.set_cons_succ]
  refine wpG_tk (some 6) (v := .int .i64 0) rfl (.val (by rfl) (fun _ _ => rfl)) ?_
  simp only [Act.put, List.setIfInBounds_toArray, List.set_cons_zero, List.set_cons_succ]
  refine wpG_tk (some 7) (v := .int .i64 (x : Int)) rfl (.val (by rfl) (fun _ _ => rfl)) ?_
  simp only [Act.put, List.setIfInBounds_toArray, List.set_cons_zero, List.set_cons_succ]
  refine wpG_done (fun V13 hv14 => ?_)
  have GC15 := Lib.hid (GC12.out.trans hv14)
  clear hv14
  go_upto_region 7 with fail
  refine wpG_region ?_
  refine wpG_tk (some 25) (v := .int .i64 0) rfl (.val (by rfl) (fun _ _ => rfl)) ?_
  simp only [Act.put, List.setIfInBounds_toArray, List.set_cons_zero, List.set_cons_succ]
  refine wpG_tk (some 26) (v := .int .i64 (x : Int)) rfl (.val (by rfl) (fun _ _ => rfl)) ?_
  simp only [Act.put, List.setIfInBounds_toArray, List.set_cons_zero, List.set_cons_succ]
  refine wpG_tk (some 27) (v := .int .i64 (l : Int)) rfl (.val (by rfl) (fun _ _ => rfl)) ?_
  simp only [Act.put, List.setIfInBounds_toArray, List.set_cons_zero, List.set_cons_succ]
  refine wpG_tk (some 28) (v := .int .i64 ((x : Int) / 2 ^ l)) rfl (.val (by rfl) (fun W hg => by go_simp)) ?_
  simp only [Act.put, List.setIfInBounds_toArray, List.set_cons_zero, List.set_cons_succ]
  refine wpG_tk (some 29) (v := .int .i64 (b0 : Int)) rfl (.val (by rfl) (fun W hg => by go_simp; rw [HB0.out]; exact shr1 _ _ (by omega))) ?_
  simp only [Act.put, List.setIfInBounds_toArray, List.set_cons_zero, List.set_cons_succ]
  refine wpG_tk (some 30) (v := .int .i64 0) rfl (.val (by rfl) (fun _ _ => rfl)) ?_
  simp only [Act.put, List.setIfInBounds_toArray, List.set_cons_zero, List.set_cons_succ]
  refine wpG_tk (some 31) (v := .int .i64 (b0 : Int)) rfl (.val (by rfl) (fun W hg => by (go_simp; exact wrap_nat b0 (by omega)))) ?_
  simp only [Act.put, List.setIfInBounds_toArray, List.set_cons_zero, List.set_cons_succ]
  refine wpG_tk (some 32) (v := .int .i64 (b0 : Int)) rfl (.val (by rfl) (fun W hg => by go_simp; rw [show (0 : Int) = ((0 : Nat) : Int) from rfl, bits_or_i64 0 b0 (by omega) (by omega), Nat.zero_or])) ?_
  simp only [Act.put, List.setIfInBounds_toArray, List.set_cons_zero, List.set_cons_succ]
  refine wpG_tk (some 5) (v := .int .i64 (b0 : Int)) rfl (.val (by rfl) (fun _ _ => rfl)) ?_
  simp only [Act.put, List.setIfInBounds_toArray, List.set_cons_zero, List.set_cons_succ]
  refine wpG_done (fun V16 hv17 => ?_)
  have GC18 := Lib.hid (GC15.out.trans hv17)
  clear hv17
  go_upto_region 8 with fail
  refine wpG_region ?_
  refine wpG_tk (some 33) (v := .int .i64 1) rfl (.val (by rfl) (fun W hg => by go_simp <;> rfl)) ?_
  simp only [Act.put, List.setIfInBounds_toArray, List.set_cons_zero, List.set_cons_succ]
  refine wpG_tk (some 21) (v := .int .i64 1) rfl (.val (by rfl) (fun _ _ => rfl)) ?_
  simp only [Act.put, List.setIfInBounds_toArray, List.set_cons_zero, List.set_cons_succ]
  refine wpG_done (fun V19 hv20 => ?_)
  have GC21 := Lib.hid (GC18.out.trans hv20)
  clear hv20
  go_wp2_with fail
  rw [rounds_succ]
  go_upto_region 5 with fail
  refine wpG_region ?_
  refine wpG_tk (some 22) (v := .bool true) rfl (.val (by rfl) (fun W hg => by go_simp)) ?_
  simp only [Act.put, List.setIfInBounds_toArray, List.set_cons_zero, List.set_cons_succ]
  refine wpG_done (fun V22 hv23 => ?_)
  have GC24 := Lib.hid (GC21.out.trans hv23)
  clear hv23
  go_upto_region 6 with fail
  refine wpG_region ?_
  refine wpG_tk (some 23) (v := .int .i64 1) rfl (.val (by rfl) (fun _ _ => rfl)) ?_
  simp only [Act.put, List.setIfInBounds_toArray, List.set_cons_zero, List.set_cons_succ]
  refine wpG_tk (some 24) (v := .int .i64 (y : Int)) rfl (.val (by rfl) (fun W hg => by have e := idx3_1 W (x : Int) (y : Int) (z : Int); go_simp)) ?_
  simp only [Act.put, List.setIfInBounds_toArray, List.set_cons_zero, List.set_cons_succ]
  refine wpG_tk (some 6) (v := .int .i64 1) rfl (.val (by rfl) (fun _ _ => rfl)) ?_
  simp only [Act.put, List.setIfInBounds_toArray, List.set_cons_zero, List.set_cons_succ]
  refine wpG_tk (some 7) (v := .int .i64 (y : Int)) rfl (.val (by rfl) (fun _ _ => rfl)) ?_
  simp only [Act.put, List.setIfInBounds_toArray, List.set_cons_zero, List.set_cons_succ]
  refine wpG_done (fun V25 hv26 => ?_)
  have GC27 := Lib.hid (GC24.out.trans hv26)
  clear hv26
  go_upto_region 7 with fail
  refine wpG_region ?_
  refine wpG_tk (some 25) (v := .int .i64 (b0 : Int)) rfl (.val (by rfl) (fun _ _ => rfl)) ?_
  simp only [Act.put, List.setIfInBounds_toArray, List.set_cons_zero, List.set_cons_succ]
  refine wpG_tk (some 26) (v := .int .i64 (y : Int)) rfl (.val (by rfl) (fun _ _ => rfl)) ?_
  simp only [Act.put, List.setIfInBounds_toArray, List.set_cons_zero, List.set_cons_succ]
  refine wpG_tk (some 27) (v := .int .i64 (l : Int)) rfl (.val (by rfl) (fun _ _ => rfl)) ?_
  simp only [Act.put, List.setIfInBounds_toArray, List.set_cons_zero, List.set_cons_succ]
  refine wpG_tk (some 28) (v := .int .i64 ((y : Int) / 2 ^ l)) rfl (.val (by rfl) (fun W hg => by go_simp)) ?_
  simp only [Act.put, List.setIfInBounds_toArray, List.set_cons_zero, List.set_cons_succ]
  refine wpG_tk (some 29) (v := .int .i64 (b1 : Int)) rfl (.val (by rfl) (fun W hg => by go_simp; rw [HB1.out]; exact shr1 _ _ (by omega))) ?_
  simp only [Act.put, List.setIfInBounds_toArray, List.set_cons_zero, List.set_cons_succ]
  refine wpG_tk (some 30) (v := .int .i64 1) rfl (.val (by rfl) (fun _ _ => rfl)) ?_
  simp only [Act.put, List.setIfInBounds_toArray, List.set_cons_zero, List.set_cons_succ]
  refine wpG_tk (some 31) (v := .int .i64 (s1 : Int)) rfl (.val (by rfl) (fun W hg => by (go_simp; rw [HS1.out]; exact shl_bit b1 1 (by omega) (by omega)))) ?_
  simp only [Act.put, List.setIfInBounds_toArray, List.set_cons_zero, List.set_cons_succ]
  refine wpG_tk (some 32) (v := .int .i64 (n1 : Int)) rfl (.val (by rfl) (fun W hg => by go_simp; rw [HN1.out]; exact bits_or_i64 _ _ (by omega) (by omega))) ?_
  simp only [Act.put, List.setIfInBounds_toArray, List.set_cons_zero, List.set_cons_succ]
  refine wpG_tk (some 5) (v := .int .i64 (n1 : Int)) rfl (.val (by rfl) (fun _ _ => rfl)) ?_
  simp only [Act.put, List.setIfInBounds_toArray, List.set_cons_zero, List.set_cons_succ]
  refine wpG_done (fun V28 hv29 => ?_)
  have GC30 := Lib.hid (GC27.out.trans hv29)
  clear hv29
  go_upto_region 8 with fail
  refine wpG_region ?_
  refine wpG_tk (some 33) (v := .int .i64 2) rfl (.val (by rfl) (fun W hg => by go_simp <;> rfl)) ?_
  simp only [Act.put, List.setIfInBounds_toArray, List.set_cons_zero, List.set_cons_succ]
  refine wpG_tk (some 21) (v := .int .i64 2) rfl (.val (by rfl) (fun _ _ => rfl)) ?_
  simp only [Act.put, List.setIfInBounds_toArray, List.set_cons_zero, List.set_cons_succ]
  refine wpG_done (fun V31 hv32 => ?_)
  have GC33 := Lib.hid (GC30.out.trans hv32)
  clear hv32
  go_wp2_with fail
  rw [rounds_succ]
  go_upto_region 5 with fail
  refine wpG_region ?_
  refine wpG_tk (some 22) (v := .bool true) rfl (.val (by rfl) (fun W hg => by go_simp)) ?_
  simp only [Act.put, List.setIfInBounds_toArray, List.set_cons_zero, List.set_cons_succ]
  refine wpG_done (fun V34 hv35 => ?_)
  have GC36 := Lib.hid (GC33.out.trans hv35)
  clear hv35
  go_upto_region 6 with fail
  refine wpG_region ?_
  refine wpG_tk (some 23) (v := .int .i64 2) rfl (.val (by rfl) (fun _ _ => rfl)) ?_
  simp only [Act.put, List.setIfInBounds_toArray, List.set_cons_zero, List.set_cons_succ]
  refine wpG_tk (some 24) (v := .int .i64 (z : Int)) rfl (.val (by rfl) (fun W hg => by have e := idx3_2 W (x : Int) (y : Int) (z : Int); go_simp)) ?_
  simp only [Act.put, List.setIfInBounds_toArray, List.set_cons_zero, List.set_cons_succ]
  refine wpG_tk (some 6) (v := .int .i64 2) rfl (.val (by rfl) (fun _ _ => rfl)) ?_
  simp only [Act.put, List.setIfInBounds_toArray, List.set_cons_zero, List.set_cons_succ]
  refine wpG_tk (some 7) (v := .int .i64 (z : Int)) rfl (.val (by rfl) (fun _ _ => rfl)) ?_
  simp only [Act.put, List.setIfInBounds_toArray, List.set_cons_zero, List.set_cons_succ]
  refine wpG_done (fun V37 hv38 => ?_)
  have GC39 := Lib.hid (GC36.out.trans hv38)
  clear hv38
  go_upto_region 7 with fail
  refine wpG_region ?_
  refine wpG_tk (some 25) (v := .int .i64 (n1 : Int)) rfl (.val (by rfl) (fun _ _ => rfl)) ?_
  simp only [Act.put, List.setIfInBounds_toArray, List.set_cons_zero, List.set_cons_succ]
  refine wpG_tk (some 26) (v := .int .i64 (z : Int)) rfl (.val (by rfl) (fun _ _ => rfl)) ?_
  simp only [Act.put, List.setIfInBounds_toArray, List.set_cons_zero, List.set_cons_succ]
  refine wpG_tk (some 27) (v := .int .i64 (l : Int)) rfl (.val (by rfl) (fun _ _ => rfl)) ?_
  simp only [Act.put, List.setIfInBounds_toArray, List.set_cons_zero, List.set_cons_succ]
  refine wpG_tk (some 28) (v := .int .i64 ((z : Int) / 2 ^ l)) rfl (.val (by rfl) (fun W hg => by go_simp)) ?_
  simp only [Act.put, List.setIfInBounds_toArray, List.set_cons_zero, List.set_cons_succ]
  refine wpG_tk (some 29) (v := .int .i64 (b2 : Int)) rfl (.val (by rfl) (fun W hg => by go_simp; rw [HB2.out]; exact shr1 _ _ (by omega))) ?_
  simp only [Act.put, List.setIfInBounds_toArray, List.set_cons_zero, List.set_cons_succ]
  refine wpG_tk (some 30) (v := .int .i64 2) rfl (.val (by rfl) (fun _ _ => rfl)) ?_
  simp only [Act.put, List.setIfInBounds_toArray, List.set_cons_zero, List.set_cons_succ]
  refine wpG_tk (some 31) (v := .int .i64 (s2 : Int)) rfl (.val (by rfl) (fun W hg => by (go_simp; rw [HS2.out]; exact shl_bit b2 2 (by omega) (by omega)))) ?_
  simp only [Act.put, List.setIfInBounds_toArray, List.set_cons_zero, List.set_cons_succ]
  refine wpG_tk (some 32) (v := .int .i64 (n2 : Int)) rfl (.val (by rfl) (fun W hg => by go_simp; rw [HN2.out]; exact bits_or_i64 _ _ (by omega) (by omega))) ?_
  simp only [Act.put, List.setIfInBounds_toArray, List.set_cons_zero, List.set_cons_succ]
  refine wpG_tk (some 5) (v := .int .i64 (n2 : Int)) rfl (.val (by rfl) (fun _ _ => rfl)) ?_
  simp only [Act.put, List.setIfInBounds_toArray, List.set_cons_zero, List.set_cons_succ]
  refine wpG_done (fun V40 hv41 => ?_)
  have GC42 := Lib.hid (GC39.out.trans hv41)
  clear hv41
  go_upto_region 8 with fail
  refine wpG_region ?_
  refine wpG_tk (some 33) (v := .int .i64 3) rfl (.val (by rfl) (fun W hg => by go_simp <;> rfl)) ?_
  simp only [Act.put, List.setIfInBounds_toArray, List.set_cons_zero, List.set_cons_succ]
  refine wpG_tk (some 21) (v := .int .i64 3) rfl (.val (by rfl) (fun _ _ => rfl)) ?_
  simp only [Act.put, List.setIfInBounds_toArray, List.set_cons_zero, List.set_cons_succ]
  refine wpG_done (fun V43 hv44 => ?_)
  have GC45 := Lib.hid (GC42.out.trans hv44)
  clear hv44
  go_wp2_with fail
  rw [rounds_succ]
  go_upto_region 5 with fail
  refine wpG_region ?_
  refine wpG_tk (some 22) (v := .bool false) rfl (.val (by rfl) (fun W hg => by go_simp)) ?_
  simp only [Act.put, List.setIfInBounds_toArray, List.set_cons_zero, List.set_cons_succ]
  refine wpG_done (fun V46 hv47 => ?_)
  have GC48 := Lib.hid (GC45.out.trans hv47)
  clear hv47
  go_upto_region 9 with fail
  refine wpG_region ?_
  refine wpG_tk (some 34) (v := .int .i64 (n2 : Int)) rfl (.val (by rfl) (fun _ _ => rfl)) ?_
  simp only [Act.put, List.setIfInBounds_toArray, List.set_cons_zero, List.set_cons_succ]
  refine wpG_tk (some 4) (v := .int .i64 (n2 : Int)) rfl (.val (by rfl) (fun _ _ => rfl)) ?_
  simp only [Act.put, List.setIfInBounds_toArray, List.set_cons_zero, List.set_cons_succ]
  refine wpG_done (fun V49 hv50 => ?_)
  have GC51 := Lib.hid (GC48.out.trans hv50)
  clear hv50
  go_wp2_with fail
  go_ret
  exact ⟨ret_int (by rw [← HB0.out, ← HB1.out, ← HB2.out, HN2.out, HN1.out, HS2.out, HS1.out, Mo.or_bits' hc0 hc1 hc2]), Gr.to G0.out GC51.out⟩
set_option maxRecDepth 1000000 in
set_option maxHeartbeats 4000000 in
theorem octant_any (x y z l : Int) (w : World) :
    Calls Try.prog 17 #[.agg #[.int .i64 x, .int .i64 y, .int .i64 z], .int .i64 l] w fun e w' => e = .returned (.int .i64 (Mo.oct x y z l)) ∧ Below w.heap.size w w' := by
  cases h : Mo.inB x y z with
  | false => rw [Mo.oct_out (.inl h)]; exact oct_0 x y z l w h
  | true =>
    by_cases h0 : l < 0
    · rw [Mo.oct_out (.inr (.inl h0))]; exact oct_1 x y z l w h h0
    · by_cases h1 : 13 < l
      · rw [Mo.oct_out (.inr (.inr h1))]; exact oct_2 x y z l w h h0 h1
      · have hx := Mo.inB_true.1 h
        obtain ⟨x, rfl⟩ := Int.eq_ofNat_of_zero_le hx.1.1
        obtain ⟨y, rfl⟩ := Int.eq_ofNat_of_zero_le hx.2.1.1
        obtain ⟨z, rfl⟩ := Int.eq_ofNat_of_zero_le hx.2.2.1
        obtain ⟨l, rfl⟩ := Int.eq_ofNat_of_zero_le (show 0 ≤ l by omega)
        rw [Mo.oct_in h (by omega)]
        exact oct_3 x y z l w h (by omega) (by omega)
end Go.Proofs.Ytmjjkloeipoefaa
