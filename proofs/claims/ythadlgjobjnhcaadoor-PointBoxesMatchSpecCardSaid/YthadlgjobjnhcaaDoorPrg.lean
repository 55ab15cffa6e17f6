/-
  Contracts of the specification of package point: which boxes contain others, numbers of cells.
-/
import Derived.Test.YthadlgjobjnhcaaDoorPrb
import Derived.Test.YthadlgjobjnhcaaDoorPrc
import Derived.Handy
namespace Go.Proofs.YthadlgjobjnhcaaDoor
open Go.RowKit
set_option linter.unusedVariables false
set_option maxRecDepth 1000000 in
set_option maxHeartbeats 4000000 in
theorem rcontains_tt (a1 a2 a3 a4 a5 a6 b1 b2 b3 b4 b5 b6 : Int) (w : World) (b : (-1048575 ≤ a1 ∧ a1 ≤ 1048575) ∧ (-1048575 ≤ a2 ∧ a2 ≤ 1048575) ∧ (-1048575 ≤ a3 ∧ a3 ≤ 1048575) ∧ (-1048575 ≤ a4 ∧ a4 ≤ 1048575) ∧ (-1048575 ≤ a5 ∧ a5 ≤ 1048575) ∧ (-1048575 ≤ a6 ∧ a6 ≤ 1048575) ∧ (-1048575 ≤ b1 ∧ b1 ≤ 1048575) ∧ (-1048575 ≤ b2 ∧ b2 ≤ 1048575) ∧ (-1048575 ≤ b3 ∧ b3 ≤ 1048575) ∧ (-1048575 ≤ b4 ∧ b4 ≤ 1048575) ∧ (-1048575 ≤ b5 ∧ b5 ≤ 1048575) ∧ (-1048575 ≤ b6 ∧ b6 ≤ 1048575)) (hm : Pt.meet a1 a2 a3 a4 a5 a6 b1 b2 b3 b4 b5 b6 = true) (hq : Pt.vol 0 0 0 0 0 0 = Pt.vol b1 b2 b3 b4 b5 b6) :
    Calls Tryd.prog 40 #[.agg #[.int .i64 a1, .int .i64 a2, .int .i64 a3, .int .i64 a4, .int .i64 a5, .int .i64 a6], .agg #[.int .i64 b1, .int .i64 b2, .int .i64 b3, .int .i64 b4, .int .i64 b5, .int .i64 b6]] w fun e w' => e = .returned (.bool true) ∧ Below w.heap.size w w' := by
  have HM := Lib.hid hm
  clear hm
  obtain ⟨u, hu, r0, r1, g0⟩ := rows2 w [.int .i64 a1, .int .i64 a2, .int .i64 a3, .int .i64 a4, .int .i64 a5, .int .i64 a6] 31 [.int .i64 b1, .int .i64 b2, .int .i64 b3, .int .i64 b4, .int .i64 b5, .int .i64 b6] 31
  have R0 := Lib.hid r0
  have R1 := Lib.hid r1
  have G0 := Lib.hid g0
  have HU := Lib.hid hu
  clear hu g0 r0 r1
  go_enter Tryd.func40, Tryd.ntmps40
  go_upto_region 1 with fail
  rw [← HU.out]
  refine wpK_region (by kernel_rfl) ?_
  refine wpK_tk (i := 0) (some 5) (v := .agg #[.int .i64 a1, .int .i64 a2, .int .i64 a3, .int .i64 a4, .int .i64 a5, .int .i64 a6]) rfl rfl (by kernel_rfl) (fun _ _ _ h => h) (.load_mid (by rfl) 31 (.tmp 2) rfl (w.heap.size) 0 rfl [.int .i64 a1, .int .i64 a2, .int .i64 a3, .int .i64 a4, .int .i64 a5, .int .i64 a6] _ (fun W hg => (R0.out.below (Gr.un hg)).range) Tryd.underlying31 rfl (by kernel_rfl)) ?_
  simp only [Act.put, List.setIfInBounds_toArray, List.set_cons_zero, List.set_cons_succ]
  refine wpK_tk (i := 1) (some 6) (v := .agg #[.int .i64 b1, .int .i64 b2, .int .i64 b3, .int .i64 b4, .int .i64 b5, .int .i64 b6]) rfl rfl (by kernel_rfl) (fun _ _ _ h => h) (.load_mid (by rfl) 31 (.tmp 3) rfl (w.heap.size + 1) 0 rfl [.int .i64 b1, .int .i64 b2, .int .i64 b3, .int .i64 b4, .int .i64 b5, .int .i64 b6] _ (fun W hg => (R1.out.below (Gr.un hg)).range) Tryd.underlying31 rfl (by kernel_rfl)) ?_
  simp only [Act.put, List.setIfInBounds_toArray, List.set_cons_zero, List.set_cons_succ]
  refine wpK_tk (i := 2) (some 7) (v := .agg #[.int .i64 0, .int .i64 0, .int .i64 0, .int .i64 0, .int .i64 0, .int .i64 0]) rfl rfl (by kernel_rfl) (fun _ _ _ h => h) (.call (f := 36) (args := #[.agg #[.int .i64 a1, .int .i64 a2, .int .i64 a3, .int .i64 a4, .int .i64 a5, .int .i64 a6], .agg #[.int .i64 b1, .int .i64 b2, .int .i64 b3, .int .i64 b4, .int .i64 b5, .int .i64 b6]]) (by rfl) (fun W => by go_simp) (fun W hg => rinter_t a1 a2 a3 a4 a5 a6 b1 b2 b3 b4 b5 b6 W (by omega) HM.out)) ?_
  simp only [Act.put, List.setIfInBounds_toArray, List.set_cons_zero, List.set_cons_succ]
  refine wpK_tk (i := 3) (some 8) (v := .int .i64 (Pt.vol 0 0 0 0 0 0)) rfl rfl (by kernel_rfl) (fun _ _ _ h => h) (.call (f := 30) (args := #[.agg #[.int .i64 0, .int .i64 0, .int .i64 0, .int .i64 0, .int .i64 0, .int .i64 0]]) (by rfl) (fun W => by go_simp) (fun W hg => rvolume_any 0 0 0 0 0 0 W (by omega))) ?_
  simp only [Act.put, List.setIfInBounds_toArray, List.set_cons_zero, List.set_cons_succ]
  refine wpK_tk (i := 4) (some 9) (v := .agg #[.int .i64 b1, .int .i64 b2, .int .i64 b3, .int .i64 b4, .int .i64 b5, .int .i64 b6]) rfl rfl (by kernel_rfl) (fun _ _ _ h => h) (.load_mid (by rfl) 31 (.tmp 3) rfl (w.heap.size + 1) 0 rfl [.int .i64 b1, .int .i64 b2, .int .i64 b3, .int .i64 b4, .int .i64 b5, .int .i64 b6] _ (fun W hg => (R1.out.below (Gr.un hg)).range) Tryd.underlying31 rfl (by kernel_rfl)) ?_
  simp only [Act.put, List.setIfInBounds_toArray, List.set_cons_zero, List.set_cons_succ]
  refine wpK_tk (i := 5) (some 10) (v := .int .i64 (Pt.vol b1 b2 b3 b4 b5 b6)) rfl rfl (by kernel_rfl) (fun _ _ _ h => h) (.call (f := 30) (args := #[.agg #[.int .i64 b1, .int .i64 b2, .int .i64 b3, .int .i64 b4, .int .i64 b5, .int .i64 b6]]) (by rfl) (fun W => by go_simp) (fun W hg => rvolume_any b1 b2 b3 b4 b5 b6 W (by omega))) ?_
  simp only [Act.put, List.setIfInBounds_toArray, List.set_cons_zero, List.set_cons_succ]
  refine wpK_ta (i := 6) (some 11) (v := .bool true) rfl rfl (by kernel_rfl) (fun _ _ _ h => h) (Or.inl ⟨by rfl, fun W => by have hq : (Pt.vol 0 0 0 0 0 0 = Pt.vol b1 b2 b3 b4 b5 b6) := (by omega); go_simp⟩) ?_
  simp only [Act.put, List.setIfInBounds_toArray, List.set_cons_zero, List.set_cons_succ]
  refine wpK_ta (i := 7) (some 4) (v := .bool true) rfl rfl (by kernel_rfl) (fun _ _ _ h => h) (Or.inl ⟨rfl, fun _ => rfl⟩) ?_
  simp only [Act.put, List.setIfInBounds_toArray, List.set_cons_zero, List.set_cons_succ]
  refine wpK_done (by kernel_rfl) (fun V1 hv2 => ?_) _
  have GC3 := Lib.hid (Gr.un hv2)
  clear hv2
  go_wp2_with fail
  go_ret
  exact ⟨rfl, Gr.to G0.out GC3.out⟩
set_option maxRecDepth 1000000 in
set_option maxHeartbeats 4000000 in
theorem rcontains_tf (a1 a2 a3 a4 a5 a6 b1 b2 b3 b4 b5 b6 : Int) (w : World) (b : (-1048575 ≤ a1 ∧ a1 ≤ 1048575) ∧ (-1048575 ≤ a2 ∧ a2 ≤ 1048575) ∧ (-1048575 ≤ a3 ∧ a3 ≤ 1048575) ∧ (-1048575 ≤ a4 ∧ a4 ≤ 1048575) ∧ (-1048575 ≤ a5 ∧ a5 ≤ 1048575) ∧ (-1048575 ≤ a6 ∧ a6 ≤ 1048575) ∧ (-1048575 ≤ b1 ∧ b1 ≤ 1048575) ∧ (-1048575 ≤ b2 ∧ b2 ≤ 1048575) ∧ (-1048575 ≤ b3 ∧ b3 ≤ 1048575) ∧ (-1048575 ≤ b4 ∧ b4 ≤ 1048575) ∧ (-1048575 ≤ b5 ∧ b5 ≤ 1048575) ∧ (-1048575 ≤ b6 ∧ b6 ≤ 1048575)) (hm : Pt.meet a1 a2 a3 a4 a5 a6 b1 b2 b3 b4 b5 b6 = true) (hq : ¬ Pt.vol 0 0 0 0 0 0 = Pt.vol b1 b2 b3 b4 b5 b6) :
    Calls Tryd.prog 40 #[.agg #[.int .i64 a1, .int .i64 a2, .int .i64 a3, .int .i64 a4, .int .i64 a5, .int .i64 a6], .agg #[.int .i64 b1, .int .i64 b2, .int .i64 b3, .int .i64 b4, .int .i64 b5, .int .i64 b6]] w fun e w' => e = .returned (.bool false) ∧ Below w.heap.size w w' := by
  have HM := Lib.hid hm
  clear hm
  obtain ⟨u, hu, r0, r1, g0⟩ := rows2 w [.int .i64 a1, .int .i64 a2, .int .i64 a3, .int .i64 a4, .int .i64 a5, .int .i64 a6] 31 [.int .i64 b1, .int .i64 b2, .int .i64 b3, .int .i64 b4, .int .i64 b5, .int .i64 b6] 31
  have R0 := Lib.hid r0
  have R1 := Lib.hid r1
  have G0 := Lib.hid g0
  have HU := Lib.hid hu
  clear hu g0 r0 r1
  go_enter Tryd.func40, Tryd.ntmps40
  go_upto_region 1 with fail
  rw [← HU.out]
  refine wpK_region (by kernel_rfl) ?_
  refine wpK_tk (i := 0) (some 5) (v := .agg #[.int .i64 a1, .int .i64 a2, .int .i64 a3, .int .i64 a4, .int .i64 a5, .int .i64 a6]) rfl rfl (by kernel_rfl) (fun _ _ _ h => h) (.load_mid (by rfl) 31 (.tmp 2) rfl (w.heap.size) 0 rfl [.int .i64 a1, .int .i64 a2, .int .i64 a3, .int .i64 a4, .int .i64 a5, .int .i64 a6] _ (fun W hg => (R0.out.below (Gr.un hg)).range) Tryd.underlying31 rfl (by kernel_rfl)) ?_
  simp only [Act.put, List.setIfInBounds_toArray, List.set_cons_zero, List.set_cons_succ]
  refine wpK_tk (i := 1) (some 6) (v := .agg #[.int .i64 b1, .int .i64 b2, .int .i64 b3, .int .i64 b4, .int .i64 b5, .int .i64 b6]) rfl rfl (by kernel_rfl) (fun _ _ _ h => h) (.load_mid (by rfl) 31 (.tmp 3) rfl (w.heap.size + 1) 0 rfl [.int .i64 b1, .int .i64 b2, .int .i64 b3, .int .i64 b4, .int .i64 b5, .int .i64 b6] _ (fun W hg => (R1.out.below (Gr.un hg)).range) Tryd.underlying31 rfl (by kernel_rfl)) ?_
  simp only [Act.put, List.setIfInBounds_toArray, List.set_cons_zero, List.set_cons_succ]
  refine wpK_tk (i := 2) (some 7) (v := .agg #[.int .i64 0, .int .i64 0, .int .i64 0, .int .i64 0, .int .i64 0, .int .i64 0]) rfl rfl (by kernel_rfl) (fun _ _ _ h => h) (.call (f := 36) (args := #[.agg #[.int .i64 a1, .int .i64 a2, .int .i64 a3, .int .i64 a4, .int .i64 a5, .int .i64 a6], .agg #[.int .i64 b1, .int .i64 b2, .int .i64 b3, .int .i64 b4, .int .i64 b5, .int .i64 b6]]) (by rfl) (fun W => by go_simp) (fun W hg => rinter_t a1 a2 a3 a4 a5 a6 b1 b2 b3 b4 b5 b6 W (by omega) HM.out)) ?_
  simp only [Act.put, List.setIfInBounds_toArray, List.set_cons_zero, List.set_cons_succ]
  refine wpK_tk (i := 3) (some 8) (v := .int .i64 (Pt.vol 0 0 0 0 0 0)) rfl rfl (by kernel_rfl) (fun _ _ _ h => h) (.call (f := 30) (args := #[.agg #[.int .i64 0, .int .i64 0, .int .i64 0, .int .i64 0, .int .i64 0, .int .i64 0]]) (by rfl) (fun W => by go_simp) (fun W hg => rvolume_any 0 0 0 0 0 0 W (by omega))) ?_
  simp only [Act.put, List.setIfInBounds_toArray, List.set_cons_zero, List.set_cons_succ]
  refine wpK_tk (i := 4) (some 9) (v := .agg #[.int .i64 b1, .int .i64 b2, .int .i64 b3, .int .i64 b4, .int .i64 b5, .int .i64 b6]) rfl rfl (by kernel_rfl) (fun _ _ _ h => h) (.load_mid (by rfl) 31 (.tmp 3) rfl (w.heap.size + 1) 0 rfl [.int .i64 b1, .int .i64 b2, .int .i64 b3, .int .i64 b4, .int .i64 b5, .int .i64 b6] _ (fun W hg => (R1.out.below (Gr.un hg)).range) Tryd.underlying31 rfl (by kernel_rfl)) ?_
  simp only [Act.put, List.setIfInBounds_toArray, List.set_cons_zero, List.set_cons_succ]
  refine wpK_tk (i := 5) (some 10) (v := .int .i64 (Pt.vol b1 b2 b3 b4 b5 b6)) rfl rfl (by kernel_rfl) (fun _ _ _ h => h) (.call (f := 30) (args := #[.agg #[.int .i64 b1, .int .i64 b2, .int .i64 b3, .int .i64 b4, .int .i64 b5, .int .i64 b6]]) (by rfl) (fun W => by go_simp) (fun W hg => rvolume_any b1 b2 b3 b4 b5 b6 W (by omega))) ?_
  simp only [Act.put, List.setIfInBounds_toArray, List.set_cons_zero, List.set_cons_succ]
  refine wpK_ta (i := 6) (some 11) (v := .bool false) rfl rfl (by kernel_rfl) (fun _ _ _ h => h) (Or.inl ⟨by rfl, fun W => by have hq : ¬ (Pt.vol 0 0 0 0 0 0 = Pt.vol b1 b2 b3 b4 b5 b6) := (by omega); go_simp⟩) ?_
  simp only [Act.put, List.setIfInBounds_toArray, List.set_cons_zero, List.set_cons_succ]
  refine wpK_ta (i := 7) (some 4) (v := .bool false) rfl rfl (by kernel_rfl) (fun _ _ _ h => h) (Or.inl ⟨rfl, fun _ => rfl⟩) ?_
  simp only [Act.put, List.setIfInBounds_toArray, List.set_cons_zero, List.set_cons_succ]
  refine wpK_done (by kernel_rfl) (fun V1 hv2 => ?_) _
  have GC3 := Lib.hid (Gr.un hv2)
  clear hv2
  go_wp2_with fail
  go_ret
  exact ⟨rfl, Gr.to G0.out GC3.out⟩
set_option maxRecDepth 1000000 in
set_option maxHeartbeats 4000000 in
theorem rcontains_ft (a1 a2 a3 a4 a5 a6 b1 b2 b3 b4 b5 b6 : Int) (w : World) (b : (-1048575 ≤ a1 ∧ a1 ≤ 1048575) ∧ (-1048575 ≤ a2 ∧ a2 ≤ 1048575) ∧ (-1048575 ≤ a3 ∧ a3 ≤ 1048575) ∧ (-1048575 ≤ a4 ∧ a4 ≤ 1048575) ∧ (-1048575 ≤ a5 ∧ a5 ≤ 1048575) ∧ (-1048575 ≤ a6 ∧ a6 ≤ 1048575) ∧ (-1048575 ≤ b1 ∧ b1 ≤ 1048575) ∧ (-1048575 ≤ b2 ∧ b2 ≤ 1048575) ∧ (-1048575 ≤ b3 ∧ b3 ≤ 1048575) ∧ (-1048575 ≤ b4 ∧ b4 ≤ 1048575) ∧ (-1048575 ≤ b5 ∧ b5 ≤ 1048575) ∧ (-1048575 ≤ b6 ∧ b6 ≤ 1048575)) (hm : Pt.meet a1 a2 a3 a4 a5 a6 b1 b2 b3 b4 b5 b6 = false) (hq : Pt.vol (max a1 b1) (max a2 b2) (max a3 b3) (min a4 b4) (min a5 b5) (min a6 b6) = Pt.vol b1 b2 b3 b4 b5 b6) :
    Calls Tryd.prog 40 #[.agg #[.int .i64 a1, .int .i64 a2, .int .i64 a3, .int .i64 a4, .int .i64 a5, .int .i64 a6], .agg #[.int .i64 b1, .int .i64 b2, .int .i64 b3, .int .i64 b4, .int .i64 b5, .int .i64 b6]] w fun e w' => e = .returned (.bool true) ∧ Below w.heap.size w w' := by
  have HM := Lib.hid hm
  clear hm
  obtain ⟨u, hu, r0, r1, g0⟩ := rows2 w [.int .i64 a1, .int .i64 a2, .int .i64 a3, .int .i64 a4, .int .i64 a5, .int .i64 a6] 31 [.int .i64 b1, .int .i64 b2, .int .i64 b3, .int .i64 b4, .int .i64 b5, .int .i64 b6] 31
  have R0 := Lib.hid r0
  have R1 := Lib.hid r1
  have G0 := Lib.hid g0
  have HU := Lib.hid hu
  clear hu g0 r0 r1
  go_enter Tryd.func40, Tryd.ntmps40
  go_upto_region 1 with fail
  rw [← HU.out]
  refine wpK_region (by kernel_rfl) ?_
  refine wpK_tk (i := 0) (some 5) (v := .agg #[.int .i64 a1, .int .i64 a2, .int .i64 a3, .int .i64 a4, .int .i64 a5, .int .i64 a6]) rfl rfl (by kernel_rfl) (fun _ _ _ h => h) (.load_mid (by rfl) 31 (.tmp 2) rfl (w.heap.size) 0 rfl [.int .i64 a1, .int .i64 a2, .int .i64 a3, .int .i64 a4, .int .i64 a5, .int .i64 a6] _ (fun W hg => (R0.out.below (Gr.un hg)).range) Tryd.underlying31 rfl (by kernel_rfl)) ?_
  simp only [Act.put, List.setIfInBounds_toArray, List.set_cons_zero, List.set_cons_succ]
  refine wpK_tk (i := 1) (some 6) (v := .agg #[.int .i64 b1, .int .i64 b2, .int .i64 b3, .int .i64 b4, .int .i64 b5, .int .i64 b6]) rfl rfl (by kernel_rfl) (fun _ _ _ h => h) (.load_mid (by rfl) 31 (.tmp 3) rfl (w.heap.size + 1) 0 rfl [.int .i64 b1, .int .i64 b2, .int .i64 b3, .int .i64 b4, .int .i64 b5, .int .i64 b6] _ (fun W hg => (R1.out.below (Gr.un hg)).range) Tryd.underlying31 rfl (by kernel_rfl)) ?_
  simp only [Act.put, List.setIfInBounds_toArray, List.set_cons_zero, List.set_cons_succ]
  refine wpK_tk (i := 2) (some 7) (v := .agg #[.int .i64 (max a1 b1), .int .i64 (max a2 b2), .int .i64 (max a3 b3), .int .i64 (min a4 b4), .int .i64 (min a5 b5), .int .i64 (min a6 b6)]) rfl rfl (by kernel_rfl) (fun _ _ _ h => h) (.call (f := 36) (args := #[.agg #[.int .i64 a1, .int .i64 a2, .int .i64 a3, .int .i64 a4, .int .i64 a5, .int .i64 a6], .agg #[.int .i64 b1, .int .i64 b2, .int .i64 b3, .int .i64 b4, .int .i64 b5, .int .i64 b6]]) (by rfl) (fun W => by go_simp) (fun W hg => rinter_f a1 a2 a3 a4 a5 a6 b1 b2 b3 b4 b5 b6 W (by omega) HM.out)) ?_
  simp only [Act.put, List.setIfInBounds_toArray, List.set_cons_zero, List.set_cons_succ]
  refine wpK_tk (i := 3) (some 8) (v := .int .i64 (Pt.vol (max a1 b1) (max a2 b2) (max a3 b3) (min a4 b4) (min a5 b5) (min a6 b6))) rfl rfl (by kernel_rfl) (fun _ _ _ h => h) (.call (f := 30) (args := #[.agg #[.int .i64 (max a1 b1), .int .i64 (max a2 b2), .int .i64 (max a3 b3), .int .i64 (min a4 b4), .int .i64 (min a5 b5), .int .i64 (min a6 b6)]]) (by rfl) (fun W => by go_simp) (fun W hg => rvolume_any (max a1 b1) (max a2 b2) (max a3 b3) (min a4 b4) (min a5 b5) (min a6 b6) W (by omega))) ?_
  simp only [Act.put, List.setIfInBounds_toArray, List.set_cons_zero, List.set_cons_succ]
  refine wpK_tk (i := 4) (some 9) (v := .agg #[.int .i64 b1, .int .i64 b2, .int .i64 b3, .int .i64 b4, .int .i64 b5, .int .i64 b6]) rfl rfl (by kernel_rfl) (fun _ _ _ h => h) (.load_mid (by rfl) 31 (.tmp 3) rfl (w.heap.size + 1) 0 rfl [.int .i64 b1, .int .i64 b2, .int .i64 b3, .int .i64 b4, .int .i64 b5, .int .i64 b6] _ (fun W hg => (R1.out.below (Gr.un hg)).range) Tryd.underlying31 rfl (by kernel_rfl)) ?_
  simp only [Act.put, List.setIfInBounds_toArray, List.set_cons_zero, List.set_cons_succ]
  refine wpK_tk (i := 5) (some 10) (v := .int .i64 (Pt.vol b1 b2 b3 b4 b5 b6)) rfl rfl (by kernel_rfl) (fun _ _ _ h => h) (.call (f := 30) (args := #[.agg #[.int .i64 b1, .int .i64 b2, .int .i64 b3, .int .i64 b4, .int .i64 b5, .int .i64 b6]]) (by rfl) (fun W => by go_simp) (fun W hg => rvolume_any b1 b2 b3 b4 b5 b6 W (by omega))) ?_
  simp only [Act.put, List.setIfInBounds_toArray, List.set_cons_zero, List.set_cons_succ]
  refine wpK_ta (i := 6) (some 11) (v := .bool true) rfl rfl (by kernel_rfl) (fun _ _ _ h => h) (Or.inl ⟨by rfl, fun W => by have hq : (Pt.vol (max a1 b1) (max a2 b2) (max a3 b3) (min a4 b4) (min a5 b5) (min a6 b6) = Pt.vol b1 b2 b3 b4 b5 b6) := (by omega); go_simp⟩) ?_
  simp only [Act.put, List.setIfInBounds_toArray, List.set_cons_zero, List.set_cons_succ]
  refine wpK_ta (i := 7) (some 4) (v := .bool true) rfl rfl (by kernel_rfl) (fun _ _ _ h => h) (Or.inl ⟨rfl, fun _ => rfl⟩) ?_
  simp only [Act.put, List.setIfInBounds_toArray, List.set_cons_zero, List.set_cons_succ]
  refine wpK_done (by kernel_rfl) (fun V1 hv2 => ?_) _
  have GC3 := Lib.hid (Gr.un hv2)
  clear hv2
  go_wp2_with fail
  go_ret
  exact ⟨rfl, Gr.to G0.out GC3.out⟩
set_option maxRecDepth 1000000 in
set_option maxHeartbeats 4000000 in
theorem rcontains_ff (a1 a2 a3 a4 a5 a6 b1 b2 b3 b4 b5 b6 : Int) (w : World) (b : (-1048575 ≤ a1 ∧ a1 ≤ 1048575) ∧ (-1048575 ≤ a2 ∧ a2 ≤ 1048575) ∧ (-1048575 ≤ a3 ∧ a3 ≤ 1048575) ∧ (-1048575 ≤ a4 ∧ a4 ≤ 1048575) ∧ (-1048575 ≤ a5 ∧ a5 ≤ 1048575) ∧ (-1048575 ≤ a6 ∧ a6 ≤ 1048575) ∧ (-1048575 ≤ b1 ∧ b1 ≤ 1048575) ∧ (-1048575 ≤ b2 ∧ b2 ≤ 1048575) ∧ (-1048575 ≤ b3 ∧ b3 ≤ 1048575) ∧ (-1048575 ≤ b4 ∧ b4 ≤ 1048575) ∧ (-1048575 ≤ b5 ∧ b5 ≤ 1048575) ∧ (-1048575 ≤ b6 ∧ b6 ≤ 1048575)) (hm : Pt.meet a1 a2 a3 a4 a5 a6 b1 b2 b3 b4 b5 b6 = false) (hq : ¬ Pt.vol (max a1 b1) (max a2 b2) (max a3 b3) (min a4 b4) (min a5 b5) (min a6 b6) = Pt.vol b1 b2 b3 b4 b5 b6) :
    Calls Tryd.prog 40 #[.agg #[.int .i64 a1, .int .i64 a2, .int .i64 a3, .int .i64 a4, .int .i64 a5, .int .i64 a6], .agg #[.int .i64 b1, .int .i64 b2, .int .i64 b3, .int .i64 b4, .int .i64 b5, .int .i64 b6]] w fun e w' => e = .returned (.bool false) ∧ Below w.heap.size w w' := by
  have HM := Lib.hid hm
  clear hm
  obtain ⟨u, hu, r0, r1, g0⟩ := rows2 w [.int .i64 a1, .int .i64 a2, .int .i64 a3, .int .i64 a4, .int .i64 a5, .int .i64 a6] 31 [.int .i64 b1, .int .i64 b2, .int .i64 b3, .int .i64 b4, .int .i64 b5, .int .i64 b6] 31
  have R0 := Lib.hid r0
  have R1 := Lib.hid r1
  have G0 := Lib.hid g0
  have HU := Lib.hid hu
  clear hu g0 r0 r1
  go_enter Tryd.func40, Tryd.ntmps40
  go_upto_region 1 with fail
  rw [← HU.out]
  refine wpK_region (by kernel_rfl) ?_
  refine wpK_tk (i := 0) (some 5) (v := .agg #[.int .i64 a1, .int .i64 a2, .int .i64 a3, .int .i64 a4, .int .i64 a5, .int .i64 a6]) rfl rfl (by kernel_rfl) (fun _ _ _ h => h) (.load_mid (by rfl) 31 (.tmp 2) rfl (w.heap.size) 0 rfl [.int .i64 a1, .int .i64 a2, .int .i64 a3, .int .i64 a4, .int .i64 a5, .int .i64 a6] _ (fun W hg => (R0.out.below (Gr.un hg)).range) Tryd.underlying31 rfl (by kernel_rfl)) ?_
  simp only [Act.put, List.setIfInBounds_toArray, List.set_cons_zero, List.set_cons_succ]
  refine wpK_tk (i := 1) (some 6) (v := .agg #[.int .i64 b1, .int .i64 b2, .int .i64 b3, .int .i64 b4, .int .i64 b5, .int .i64 b6]) rfl rfl (by kernel_rfl) (fun _ _ _ h => h) (.load_mid (by rfl) 31 (.tmp 3) rfl (w.heap.size + 1) 0 rfl [.int .i64 b1, .int .i64 b2, .int .i64 b3, .int .i64 b4, .int .i64 b5, .int .i64 b6] _ (fun W hg => (R1.out.below (Gr.un hg)).range) Tryd.underlying31 rfl (by kernel_rfl)) ?_
  simp only [Act.put, List.setIfInBounds_toArray, List.set_cons_zero, List.set_cons_succ]
  refine wpK_tk (i := 2) (some 7) (v := .agg #[.int .i64 (max a1 b1), .int .i64 (max a2 b2), .int .i64 (max a3 b3), .int .i64 (min a4 b4), .int .i64 (min a5 b5), .int .i64 (min a6 b6)]) rfl rfl (by kernel_rfl) (fun _ _ _ h => h) (.call (f := 36) (args := #[.agg #[.int .i64 a1, .int .i64 a2, .int .i64 a3, .int .i64 a4, .int .i64 a5, .int .i64 a6], .agg #[.int .i64 b1, .int .i64 b2, .int .i64 b3, .int .i64 b4, .int .i64 b5, .int .i64 b6]]) (by rfl) (fun W => by go_simp) (fun W hg => rinter_f a1 a2 a3 a4 a5 a6 b1 b2 b3 b4 b5 b6 W (by omega) HM.out)) ?_
  simp only [Act.put, List.setIfInBounds_toArray, List.set_cons_zero, List.set_cons_succ]
  refine wpK_tk (i := 3) (some 8) (v := .int .i64 (Pt.vol (max a1 b1) (max a2 b2) (max a3 b3) (min a4 b4) (min a5 b5) (min a6 b6))) rfl rfl (by kernel_rfl) (fun _ _ _ h => h) (.call (f := 30) (args := #[.agg #[.int .i64 (max a1 b1), .int .i64 (max a2 b2), .int .i64 (max a3 b3), .int .i64 (min a4 b4), .int .i64 (min a5 b5), .int .i64 (min a6 b6)]]) (by rfl) (fun W => by go_simp) (fun W hg => rvolume_any (max a1 b1) (max a2 b2) (max a3 b3) (min a4 b4) (min a5 b5) (min a6 b6) W (by omega))) ?_
  simp only [Act.put, List.setIfInBounds_toArray, List.set_cons_zero, List.set_cons_succ]
  refine wpK_tk (i := 4) (some 9) (v := .agg #[.int .i64 b1, .int .i64 b2, .int .i64 b3, .int .i64 b4, .int .i64 b5, .int .i64 b6]) rfl rfl (by kernel_rfl) (fun _ _ _ h => h) (.load_mid (by rfl) 31 (.tmp 3) rfl (w.heap.size + 1) 0 rfl [.int .i64 b1, .int .i64 b2, .int .i64 b3, .int .i64 b4, .int .i64 b5, .int .i64 b6] _ (fun W hg => (R1.out.below (Gr.un hg)).range) Tryd.underlying31 rfl (by kernel_rfl)) ?_
  simp only [Act.put, List.setIfInBounds_toArray, List.set_cons_zero, List.set_cons_succ]
  refine wpK_tk (i := 5) (some 10) (v := .int .i64 (Pt.vol b1 b2 b3 b4 b5 b6)) rfl rfl (by kernel_rfl) (fun _ _ _ h => h) (.call (f := 30) (args := #[.agg #[.int .i64 b1, .int .i64 b2, .int .i64 b3, .int .i64 b4, .int .i64 b5, .int .i64 b6]]) (by rfl) (fun W => by go_simp) (fun W hg => rvolume_any b1 b2 b3 b4 b5 b6 W (by omega))) ?_
  simp only [Act.put, List.setIfInBounds_toArray, List.set_cons_zero, List.set_cons_succ]
  refine wpK_ta (i := 6) (some 11) (v := .bool false) rfl rfl (by kernel_rfl) (fun _ _ _ h => h) (Or.inl ⟨by rfl, fun W => by have hq : ¬ (Pt.vol (max a1 b1) (max a2 b2) (max a3 b3) (min a4 b4) (min a5 b5) (min a6 b6) = Pt.vol b1 b2 b3 b4 b5 b6) := (by omega); go_simp⟩) ?_
  simp only [Act.put, List.setIfInBounds_toArray, List.set_cons_zero, List.set_cons_succ]
  refine wpK_ta (i := 7) (some 4) (v := .bool false) rfl rfl (by kernel_rfl) (fun _ _ _ h => h) (Or.inl ⟨rfl, fun _ => rfl⟩) ?_
  simp only [Act.put, List.setIfInBounds_toArray, List.set_cons_zero, List.set_cons_succ]
  refine wpK_done (by kernel_rfl) (fun V1 hv2 => ?_) _
  have GC3 := Lib.hid (Gr.un hv2)
  clear hv2
  go_wp2_with fail
  go_ret
  exact ⟨rfl, Gr.to G0.out GC3.out⟩
set_option maxRecDepth 1000000 in
set_option maxHeartbeats 4000000 in
theorem rindex_f (a1 a2 a3 a4 a5 a6 x1 x2 x3 : Int) (w : World) (h : Pt.inB x1 x2 x3 a1 a2 a3 a4 a5 a6 = false) :
    Calls Tryd.prog 44 #[.agg #[.int .i64 a1, .int .i64 a2, .int .i64 a3, .int .i64 a4, .int .i64 a5, .int .i64 a6], .agg #[.int .i64 x1, .int .i64 x2, .int .i64 x3]] w fun e w' => e = .returned (.int .i64 (-1)) ∧ Below w.heap.size w w' := by
  have HI := Lib.hid h
  clear h
  obtain ⟨u, hu, r0, r1, g0⟩ := rows2 w [.int .i64 a1, .int .i64 a2, .int .i64 a3, .int .i64 a4, .int .i64 a5, .int .i64 a6] 31 [.int .i64 x1, .int .i64 x2, .int .i64 x3] 23
  have R0 := Lib.hid r0
  have R1 := Lib.hid r1
  have G0 := Lib.hid g0
  have HU := Lib.hid hu
  clear hu g0 r0 r1
  go_enter Tryd.func44, Tryd.ntmps44
  go_upto_region 1 with fail
  rw [← HU.out]
  refine wpG_region ?_
  refine wpG_tk (some 8) (v := .agg #[.int .i64 x1, .int .i64 x2, .int .i64 x3]) rfl (.load_mid (by rfl) 23 (.tmp 3) rfl (w.heap.size + 1) 0 rfl [.int .i64 x1, .int .i64 x2, .int .i64 x3] _ (fun W hg => (R1.out.below hg).range) Tryd.underlying23 rfl (by kernel_rfl)) ?_
  simp only [Act.put, List.setIfInBounds_toArray, List.set_cons_zero, List.set_cons_succ]
  refine wpG_tk (some 9) (v := .agg #[.int .i64 a1, .int .i64 a2, .int .i64 a3, .int .i64 a4, .int .i64 a5, .int .i64 a6]) rfl (.load_mid (by rfl) 31 (.tmp 2) rfl (w.heap.size) 0 rfl [.int .i64 a1, .int .i64 a2, .int .i64 a3, .int .i64 a4, .int .i64 a5, .int .i64 a6] _ (fun W hg => (R0.out.below hg).range) Tryd.underlying31 rfl (by kernel_rfl)) ?_
  simp only [Act.put, List.setIfInBounds_toArray, List.set_cons_zero, List.set_cons_succ]
  refine wpG_tk (some 10) (v := .bool false) rfl (.call (f := 26) (args := #[.agg #[.int .i64 x1, .int .i64 x2, .int .i64 x3], .agg #[.int .i64 a1, .int .i64 a2, .int .i64 a3, .int .i64 a4, .int .i64 a5, .int .i64 a6]]) (by rfl) (fun W => by go_simp) (fun W hg => rin_any x1 x2 x3 a1 a2 a3 a4 a5 a6 false W HI.out)) ?_
  simp only [Act.put, List.setIfInBounds_toArray, List.set_cons_zero, List.set_cons_succ]
  refine wpG_tk (some 5) (v := .bool false) rfl (.val (by rfl) (fun _ _ => rfl)) ?_
  simp only [Act.put, List.setIfInBounds_toArray, List.set_cons_zero, List.set_cons_succ]
  refine wpG_done (fun V1 hv2 => ?_)
  have GC3 := Lib.hid hv2
  clear hv2
  go_upto_region 2 with fail
  refine wpG_region ?_
  refine wpG_tk (some 11) (v := .bool false) rfl (.val (by rfl) (fun _ _ => rfl)) ?_
  simp only [Act.put, List.setIfInBounds_toArray, List.set_cons_zero, List.set_cons_succ]
  refine wpG_tk (some 12) (v := .bool true) rfl (.val (by rfl) (fun W hg => by go_simp)) ?_
  simp only [Act.put, List.setIfInBounds_toArray, List.set_cons_zero, List.set_cons_succ]
  refine wpG_done (fun V4 hv5 => ?_)
  have GC6 := Lib.hid (GC3.out.trans hv5)
  clear hv5
  go_upto_region 3 with fail
  refine wpG_region ?_
  refine wpG_tk (some 4) (v := .int .i64 (-1)) rfl (.val (by rfl) (fun _ _ => rfl)) ?_
  simp only [Act.put, List.setIfInBounds_toArray, List.set_cons_zero, List.set_cons_succ]
  refine wpG_done (fun V7 hv8 => ?_)
  have GC9 := Lib.hid (GC6.out.trans hv8)
  clear hv8
  go_wp2_with fail
  go_ret
  exact ⟨rfl, Gr.to G0.out GC9.out⟩
set_option maxRecDepth 1000000 in
set_option maxHeartbeats 4000000 in
theorem rindex_t (a1 a2 a3 a4 a5 a6 x1 x2 x3 : Int) (w : World) (b : (-1048575 ≤ a1 ∧ a1 ≤ 1048575) ∧ (-1048575 ≤ a2 ∧ a2 ≤ 1048575) ∧ (-1048575 ≤ a3 ∧ a3 ≤ 1048575) ∧ (-1048575 ≤ a4 ∧ a4 ≤ 1048575) ∧ (-1048575 ≤ a5 ∧ a5 ≤ 1048575) ∧ (-1048575 ≤ a6 ∧ a6 ≤ 1048575) ∧ (-1048575 ≤ x1 ∧ x1 ≤ 1048575) ∧ (-1048575 ≤ x2 ∧ x2 ≤ 1048575) ∧ (-1048575 ≤ x3 ∧ x3 ≤ 1048575)) (h : Pt.inB x1 x2 x3 a1 a2 a3 a4 a5 a6 = true) :
    Calls Tryd.prog 44 #[.agg #[.int .i64 a1, .int .i64 a2, .int .i64 a3, .int .i64 a4, .int .i64 a5, .int .i64 a6], .agg #[.int .i64 x1, .int .i64 x2, .int .i64 x3]] w fun e w' => e = .returned (.int .i64 (Pt.idx x1 x2 x3 a1 a2 a3 a4 a5)) ∧ Below w.heap.size w w' := by
  have HI := Lib.hid h
  have HE := Lib.hid (Pt.idx_bd h).2.2.2
  clear h
  obtain ⟨u, hu, r0, r1, g0⟩ := rows2 w [.int .i64 a1, .int .i64 a2, .int .i64 a3, .int .i64 a4, .int .i64 a5, .int .i64 a6] 31 [.int .i64 x1, .int .i64 x2, .int .i64 x3] 23
  have R0 := Lib.hid r0
  have R1 := Lib.hid r1
  have G0 := Lib.hid g0
  have HU := Lib.hid hu
  clear hu g0 r0 r1
  go_enter Tryd.func44, Tryd.ntmps44
  go_upto_region 1 with fail
  rw [← HU.out]
  refine wpG_region ?_
  refine wpG_tk (some 8) (v := .agg #[.int .i64 x1, .int .i64 x2, .int .i64 x3]) rfl (.load_mid (by rfl) 23 (.tmp 3) rfl (w.heap.size + 1) 0 rfl [.int .i64 x1, .int .i64 x2, .int .i64 x3] _ (fun W hg => (R1.out.below hg).range) Tryd.underlying23 rfl (by kernel_rfl)) ?_
  simp only [Act.put, List.setIfInBounds_toArray, List.set_cons_zero, List.set_cons_succ]
  refine wpG_tk (some 9) (v := .agg #[.int .i64 a1, .int .i64 a2, .int .i64 a3, .int .i64 a4, .int .i64 a5, .int .i64 a6]) rfl (.load_mid (by rfl) 31 (.tmp 2) rfl (w.heap.size) 0 rfl [.int .i64 a1, .int .i64 a2, .int .i64 a3, .int .i64 a4, .int .i64 a5, .int .i64 a6] _ (fun W hg => (R0.out.below hg).range) Tryd.underlying31 rfl (by kernel_rfl)) ?_
  simp only [Act.put, List.setIfInBounds_toArray, List.set_cons_zero, List.set_cons_succ]
  refine wpG_tk (some 10) (v := .bool true) rfl (.call (f := 26) (args := #[.agg #[.int .i64 x1, .int .i64 x2, .int .i64 x3], .agg #[.int .i64 a1, .int .i64 a2, .int .i64 a3, .int .i64 a4, .int .i64 a5, .int .i64 a6]]) (by rfl) (fun W => by go_simp) (fun W hg => rin_any x1 x2 x3 a1 a2 a3 a4 a5 a6 true W HI.out)) ?_
  simp only [Act.put, List.setIfInBounds_toArray, List.set_cons_zero, List.set_cons_succ]
  refine wpG_tk (some 5) (v := .bool true) rfl (.val (by rfl) (fun _ _ => rfl)) ?_
  simp only [Act.put, List.setIfInBounds_toArray, List.set_cons_zero, List.set_cons_succ]
  refine wpG_done (fun V1 hv2 => ?_)
  have GC3 := Lib.hid hv2
  clear hv2
  go_upto_region 2 with fail
  refine wpG_region ?_
  refine wpG_tk (some 11) (v := .bool true) rfl (.val (by rfl) (fun _ _ => rfl)) ?_
  simp only [Act.put, List.setIfInBounds_toArray, List.set_cons_zero, List.set_cons_succ]
  refine wpG_tk (some 12) (v := .bool false) rfl (.val (by rfl) (fun W hg => by go_simp)) ?_
  simp only [Act.put, List.setIfInBounds_toArray, List.set_cons_zero, List.set_cons_succ]
  refine wpG_done (fun V4 hv5 => ?_)
  have GC6 := Lib.hid (GC3.out.trans hv5)
  clear hv5
  go_upto_region 4 with fail
  refine wpG_region ?_
  refine wpG_tk (some 13) (v := .agg #[.int .i64 a1, .int .i64 a2, .int .i64 a3, .int .i64 a4, .int .i64 a5, .int .i64 a6]) rfl (.load_mid (by rfl) 31 (.tmp 2) rfl (w.heap.size) 0 rfl [.int .i64 a1, .int .i64 a2, .int .i64 a3, .int .i64 a4, .int .i64 a5, .int .i64 a6] _ (fun W hg => (R0.out.below (GC6.out.trans hg)).range) Tryd.underlying31 rfl (by kernel_rfl)) ?_
  simp only [Act.put, List.setIfInBounds_toArray, List.set_cons_zero, List.set_cons_succ]
  refine wpG_tk (some 14) (v := .agg #[.int .i64 (a4 - a1), .int .i64 (a5 - a2), .int .i64 (a6 - a3)]) rfl (.call (f := 28) (args := #[.agg #[.int .i64 a1, .int .i64 a2, .int .i64 a3, .int .i64 a4, .int .i64 a5, .int .i64 a6]]) (by rfl) (fun W => by go_simp) (fun W hg => rsize_f a1 a2 a3 a4 a5 a6 W (by omega) HE.out)) ?_
  simp only [Act.put, List.setIfInBounds_toArray, List.set_cons_zero, List.set_cons_succ]
  refine wpG_val (some 6) rfl (by rfl) (fun W7 hg8 => ⟨.pointer (some ⟨W7.heap.size, 0, none⟩), W7.alloc (.cells #[.int .i64 0, .int .i64 0, .int .i64 0] 23), by (go_simp <;> rfl), ?_⟩)
  simp only [Act.put, List.setIfInBounds_toArray, List.set_cons_zero, List.set_cons_succ]
  refine wpG_store (none) rfl (by rfl) (fun W9 hg10 => ⟨_, run_store_mid 23 (.tmp 6) (.tmp 14) rfl (W7.heap.size) 0 #[.int .i64 (a4 - a1), .int .i64 (a5 - a2), .int .i64 (a6 - a3)] rfl rfl (Row.room hg10 3 rfl) (by kernel_rfl) (by kernel_rfl), ?_⟩)
  simp only [Act.put]
  refine wpG_done (fun V11 hv12 => ?_)
  have l14 : w.heap.size < W7.heap.size := (R0.out.below (GC6.out.trans hg8)).lt
  have l15 : w.heap.size + 1 < W7.heap.size := (R1.out.below (GC6.out.trans hg8)).lt
  have l16 : w.heap.size ≤ W7.heap.size := (Gr.to G0.out (GC6.out.trans hg8)).size
  have R17 := Lib.hid ((R0.out.below (GC6.out.trans hg8)).past hg10 hv12)
  have R18 := Lib.hid ((R1.out.below (GC6.out.trans hg8)).past hg10 hv12)
  have R19 := Lib.hid (Row.made (zs := [.int .i64 0, .int .i64 0, .int .i64 0]) (ds := [.int .i64 (a4 - a1), .int .i64 (a5 - a2), .int .i64 (a6 - a3)]) rfl hg10 hv12)
  have G13 := Lib.hid (Gr.to (Gr.to G0.out (GC6.out.trans hg8)) (Gr.past hg10 hv12))
  clear hg10 hv12 
  go_upto_region 5 with fail
  refine wpG_region ?_
  refine wpG_tk (some 15) (v := .agg #[.int .i64 x1, .int .i64 x2, .int .i64 x3]) rfl (.load_mid (by rfl) 23 (.tmp 3) rfl (w.heap.size + 1) 0 rfl [.int .i64 x1, .int .i64 x2, .int .i64 x3] _ (fun W hg => (R18.out.below hg).range) Tryd.underlying23 rfl (by kernel_rfl)) ?_
  simp only [Act.put, List.setIfInBounds_toArray, List.set_cons_zero, List.set_cons_succ]
  refine wpG_tk (some 16) (v := .pointer (some ⟨w.heap.size, 0, none⟩)) rfl (.val (by rfl) (fun W hg => by go_simp)) ?_
  simp only [Act.put, List.setIfInBounds_toArray, List.set_cons_zero, List.set_cons_succ]
  refine wpG_tk (some 17) (v := .agg #[.int .i64 a1, .int .i64 a2, .int .i64 a3]) rfl (.load_mid (by rfl) 23 (.tmp 16) rfl (w.heap.size) 0 rfl [.int .i64 a1, .int .i64 a2, .int .i64 a3] _ (fun W hg => (R17.out.below hg).lo) Tryd.underlying23 rfl (by kernel_rfl)) ?_
  simp only [Act.put, List.setIfInBounds_toArray, List.set_cons_zero, List.set_cons_succ]
  refine wpG_tk (some 18) (v := .agg #[.int .i64 (x1 - a1), .int .i64 (x2 - a2), .int .i64 (x3 - a3)]) rfl (.call (f := 16) (args := #[.agg #[.int .i64 x1, .int .i64 x2, .int .i64 x3], .agg #[.int .i64 a1, .int .i64 a2, .int .i64 a3]]) (by rfl) (fun W => by go_simp) (fun W hg => rsub_any x1 x2 x3 a1 a2 a3 W (by omega))) ?_
  simp only [Act.put, List.setIfInBounds_toArray, List.set_cons_zero, List.set_cons_succ]
  refine wpG_val (some 7) rfl (by rfl) (fun W20 hg21 => ⟨.pointer (some ⟨W20.heap.size, 0, none⟩), W20.alloc (.cells #[.int .i64 0, .int .i64 0, .int .i64 0] 23), by (go_simp <;> rfl), ?_⟩)
  simp only [Act.put, List.setIfInBounds_toArray, List.set_cons_zero, List.set_cons_succ]
  refine wpG_store (none) rfl (by rfl) (fun W22 hg23 => ⟨_, run_store_mid 23 (.tmp 7) (.tmp 18) rfl (W20.heap.size) 0 #[.int .i64 (x1 - a1), .int .i64 (x2 - a2), .int .i64 (x3 - a3)] rfl rfl (Row.room hg23 3 rfl) (by kernel_rfl) (by kernel_rfl), ?_⟩)
  simp only [Act.put]
  refine wpG_done (fun V24 hv25 => ?_)
  have l27 : w.heap.size < W20.heap.size := (R17.out.below hg21).lt
  have l28 : w.heap.size + 1 < W20.heap.size := (R18.out.below hg21).lt
  have l29 : W7.heap.size < W20.heap.size := (R19.out.below hg21).lt
  have l30 : w.heap.size ≤ W20.heap.size := (Gr.to G13.out hg21).size
  have R31 := Lib.hid ((R17.out.below hg21).past hg23 hv25)
  have R32 := Lib.hid ((R18.out.below hg21).past hg23 hv25)
  have R33 := Lib.hid ((R19.out.below hg21).past hg23 hv25)
  have R34 := Lib.hid (Row.made (zs := [.int .i64 0, .int .i64 0, .int .i64 0]) (ds := [.int .i64 (x1 - a1), .int .i64 (x2 - a2), .int .i64 (x3 - a3)]) rfl hg23 hv25)
  have G26 := Lib.hid (Gr.to (Gr.to G13.out hg21) (Gr.past hg23 hv25))
  clear hg23 hv25 
  go_upto_region 6 with fail
  have c0 := (R33.out 0 _ rfl).1
  have d0 := (R34.out 0 _ rfl).1
  have c1 := (R33.out 1 _ rfl).1
  have d1 := (R34.out 1 _ rfl).1
  have c2 := (R33.out 2 _ rfl).1
  have d2 := (R34.out 2 _ rfl).1
  obtain ⟨s, hs⟩ : ∃ x, x = a4 - a1 := ⟨_, rfl⟩
  rw [← hs] at c0
  obtain ⟨t, ht⟩ : ∃ x, x = a5 - a2 := ⟨_, rfl⟩
  rw [← ht] at c1
  obtain ⟨v0, hv0⟩ : ∃ x, x = x1 - a1 := ⟨_, rfl⟩
  rw [← hv0] at d0
  obtain ⟨v1, hv1⟩ : ∃ x, x = x2 - a2 := ⟨_, rfl⟩
  rw [← hv1] at d1
  obtain ⟨v2, hv2⟩ : ∃ x, x = x3 - a3 := ⟨_, rfl⟩
  rw [← hv2] at d2
  have hb := Pt.idx_bd HI.out
  have hi := Pt.inB_true.1 HI.out
  have hx : Pt.idx x1 x2 x3 a1 a2 a3 a4 a5 = (v2 * t + v1) * s + v0 := by rw [hs, ht, hv0, hv1, hv2]; rfl
  have hvb := vol_bd a1 a2 a3 a4 a5 a6 (by omega)
  rw [hx, Int.mul_comm v2 t, Int.add_comm _ v1, Int.mul_comm _ s, Int.add_comm _ v0] at hb
  rw [Int.mul_comm v2 t, Int.add_comm _ v1, Int.mul_comm _ s, Int.add_comm _ v0] at hx
  have h0 : 0 ≤ t * v2 := Int.mul_nonneg (by omega) (by omega)
  have h1 : t * v2 ≤ 2097150 * 2097150 := Int.mul_le_mul (by omega) (by omega) (by omega) (by omega)
  have h2 : 0 ≤ s * (v1 + t * v2) := Int.mul_nonneg (by omega) (by omega)
  have HX := Lib.hid hx
  have hb1 := hb.2.1
  have hb2 := hb.2.2.1
  have b0 : 0 ≤ v0 := by omega
  have b1 : 0 ≤ v1 ∧ v1 ≤ 2097150 := by omega
  have hb3 : v0 + s * (v1 + t * v2) ≤ 9223345648600875000 := by omega
  have hb4 : s * (v1 + t * v2) ≤ 9223345648600875000 := by omega
  have hb5 : t * v2 ≤ 4398038122500 := by omega
  clear hb hb2 hvb hi hx hs ht hv0 hv1 hv2 b h1 c2
  go_wp2_with fail
  go_ret
  exact ⟨by rw [HX.out]; rfl, G26.out⟩

end Go.Proofs.YthadlgjobjnhcaaDoor
