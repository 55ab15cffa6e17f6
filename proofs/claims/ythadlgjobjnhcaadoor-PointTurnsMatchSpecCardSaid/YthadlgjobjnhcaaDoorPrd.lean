/-
  Contracts of the specification of package point: hulls.
-/
import Derived.Test.YthadlgjobjnhcaaDoorPra
import Derived.Test.YthadlgjobjnhcaaDoorPtg
import Derived.Test.YthadlgjobjnhcaaDoorPte
import Derived.Test.YthadlgjobjnhcaaDoorRoz
import Derived.Handy
namespace Go.Proofs.YthadlgjobjnhcaaDoor
open Go.RowKit
set_option linter.unusedVariables false
set_option maxRecDepth 1000000 in
set_option maxHeartbeats 4000000 in
theorem rhull_tt (a1 a2 a3 a4 a5 a6 b1 b2 b3 b4 b5 b6 : Int) (w : World) (b : (-2097152 ≤ a1 ∧ a1 ≤ 2097152) ∧ (-2097152 ≤ a2 ∧ a2 ≤ 2097152) ∧ (-2097152 ≤ a3 ∧ a3 ≤ 2097152) ∧ (-2097152 ≤ a4 ∧ a4 ≤ 2097152) ∧ (-2097152 ≤ a5 ∧ a5 ≤ 2097152) ∧ (-2097152 ≤ a6 ∧ a6 ≤ 2097152) ∧ (-2097152 ≤ b1 ∧ b1 ≤ 2097152) ∧ (-2097152 ≤ b2 ∧ b2 ≤ 2097152) ∧ (-2097152 ≤ b3 ∧ b3 ≤ 2097152) ∧ (-2097152 ≤ b4 ∧ b4 ≤ 2097152) ∧ (-2097152 ≤ b5 ∧ b5 ≤ 2097152) ∧ (-2097152 ≤ b6 ∧ b6 ≤ 2097152)) (ha : Pt.emp a1 a2 a3 a4 a5 a6 = true) (hb : Pt.emp b1 b2 b3 b4 b5 b6 = true) :
    Calls Tryd.prog 38 #[.agg #[.int .i64 a1, .int .i64 a2, .int .i64 a3, .int .i64 a4, .int .i64 a5, .int .i64 a6], .agg #[.int .i64 b1, .int .i64 b2, .int .i64 b3, .int .i64 b4, .int .i64 b5, .int .i64 b6]] w fun e w' => e = .returned (.agg #[.int .i64 0, .int .i64 0, .int .i64 0, .int .i64 0, .int .i64 0, .int .i64 0]) ∧ Below w.heap.size w w' := by
  have HA := Lib.hid ha
  have HB := Lib.hid hb
  clear ha hb
  obtain ⟨u, hu, r0, r1, r2, g0⟩ := rows3 w [.int .i64 a1, .int .i64 a2, .int .i64 a3, .int .i64 a4, .int .i64 a5, .int .i64 a6] 31 [.int .i64 b1, .int .i64 b2, .int .i64 b3, .int .i64 b4, .int .i64 b5, .int .i64 b6] 31 [.int .i64 0, .int .i64 0, .int .i64 0, .int .i64 0, .int .i64 0, .int .i64 0] 31
  have R0 := Lib.hid r0
  have R1 := Lib.hid r1
  have R2 := Lib.hid r2
  have G0 := Lib.hid g0
  have HU := Lib.hid hu
  clear hu g0 r0 r1 r2
  go_enter Tryd.func38, Tryd.ntmps38
  go_upto_region 1 with fail
  rw [← HU.out]
  refine wpG_region ?_
  refine wpG_tk (some 12) (v := .agg #[.int .i64 a1, .int .i64 a2, .int .i64 a3, .int .i64 a4, .int .i64 a5, .int .i64 a6]) rfl (.load_mid (by rfl) 31 (.tmp 2) rfl (w.heap.size) 0 rfl [.int .i64 a1, .int .i64 a2, .int .i64 a3, .int .i64 a4, .int .i64 a5, .int .i64 a6] _ (fun W hg => (R0.out.below hg).range) Tryd.underlying31 rfl (by kernel_rfl)) ?_
  simp only [Act.put, List.setIfInBounds_toArray, List.set_cons_zero, List.set_cons_succ]
  refine wpG_tk (some 13) (v := .bool true) rfl (.call (f := 24) (args := #[.agg #[.int .i64 a1, .int .i64 a2, .int .i64 a3, .int .i64 a4, .int .i64 a5, .int .i64 a6]]) (by rfl) (fun W => by go_simp) (fun W hg => rempty_any a1 a2 a3 a4 a5 a6 true W HA.out)) ?_
  simp only [Act.put, List.setIfInBounds_toArray, List.set_cons_zero, List.set_cons_succ]
  refine wpG_tk (some 5) (v := .bool true) rfl (.val (by rfl) (fun _ _ => rfl)) ?_
  simp only [Act.put, List.setIfInBounds_toArray, List.set_cons_zero, List.set_cons_succ]
  refine wpG_done (fun V1 hv2 => ?_)
  have GC3 := Lib.hid hv2
  clear hv2
  go_upto_region 2 with fail
  refine wpG_region ?_
  refine wpG_tk (some 14) (v := .agg #[.int .i64 b1, .int .i64 b2, .int .i64 b3, .int .i64 b4, .int .i64 b5, .int .i64 b6]) rfl (.load_mid (by rfl) 31 (.tmp 3) rfl (w.heap.size + 1) 0 rfl [.int .i64 b1, .int .i64 b2, .int .i64 b3, .int .i64 b4, .int .i64 b5, .int .i64 b6] _ (fun W hg => (R1.out.below (GC3.out.trans hg)).range) Tryd.underlying31 rfl (by kernel_rfl)) ?_
  simp only [Act.put, List.setIfInBounds_toArray, List.set_cons_zero, List.set_cons_succ]
  refine wpG_tk (some 15) (v := .bool true) rfl (.call (f := 24) (args := #[.agg #[.int .i64 b1, .int .i64 b2, .int .i64 b3, .int .i64 b4, .int .i64 b5, .int .i64 b6]]) (by rfl) (fun W => by go_simp) (fun W hg => rempty_any b1 b2 b3 b4 b5 b6 true W HB.out)) ?_
  simp only [Act.put, List.setIfInBounds_toArray, List.set_cons_zero, List.set_cons_succ]
  refine wpG_tk (some 6) (v := .bool true) rfl (.val (by rfl) (fun _ _ => rfl)) ?_
  simp only [Act.put, List.setIfInBounds_toArray, List.set_cons_zero, List.set_cons_succ]
  refine wpG_done (fun V4 hv5 => ?_)
  have GC6 := Lib.hid (GC3.out.trans hv5)
  clear hv5
  go_upto_region 3 with fail
  refine wpG_region ?_
  refine wpG_tk (some 16) (v := .bool true) rfl (.val (by rfl) (fun _ _ => rfl)) ?_
  simp only [Act.put, List.setIfInBounds_toArray, List.set_cons_zero, List.set_cons_succ]
  refine wpG_tk (some 17) (v := .bool true) rfl (.val (by rfl) (fun _ _ => rfl)) ?_
  simp only [Act.put, List.setIfInBounds_toArray, List.set_cons_zero, List.set_cons_succ]
  refine wpG_tk (some 18) (v := .bool true) rfl (.val (by rfl) (fun _ _ => rfl)) ?_
  simp only [Act.put, List.setIfInBounds_toArray, List.set_cons_zero, List.set_cons_succ]
  refine wpG_tk (some 19) (v := .bool true) rfl (.val (by rfl) (fun W hg => by go_simp)) ?_
  simp only [Act.put, List.setIfInBounds_toArray, List.set_cons_zero, List.set_cons_succ]
  refine wpG_done (fun V7 hv8 => ?_)
  have GC9 := Lib.hid (GC6.out.trans hv8)
  clear hv8
  go_upto_region 4 with fail
  refine wpG_region ?_
  refine wpG_tk (some 20) (v := .agg #[.int .i64 0, .int .i64 0, .int .i64 0, .int .i64 0, .int .i64 0, .int .i64 0]) rfl (.val (by rfl) (fun W hg => by go_simp)) ?_
  simp only [Act.put, List.setIfInBounds_toArray, List.set_cons_zero, List.set_cons_succ]
  refine wpG_store (none) rfl (by rfl) (fun W10 hg11 => ⟨_, run_store_mid 31 (.tmp 4) (.tmp 20) rfl (w.heap.size + 1 + 1) 0 #[.int .i64 0, .int .i64 0, .int .i64 0, .int .i64 0, .int .i64 0, .int .i64 0] rfl rfl (((R2.out.below (GC9.out.trans hg11)).there 0 6 (by decide))) (by kernel_rfl) (by kernel_rfl), ?_⟩)
  simp only [Act.put]
  refine wpG_done (fun V12 hv13 => ?_)
  have R15 := Lib.hid (Row.put (ds := [.int .i64 0, .int .i64 0, .int .i64 0, .int .i64 0, .int .i64 0, .int .i64 0]) R2.out (GC9.out.trans hg11) rfl hv13)
  have G14 := Lib.hid (Gr.put G0.out (GC9.out.trans hg11) (by omega) hv13)
  go_wp2_with fail
  refine bodyPost_ret (results_cell_mid rfl _ _ _ (w.heap.size + 1 + 1) 0 [.int .i64 0, .int .i64 0, .int .i64 0, .int .i64 0, .int .i64 0, .int .i64 0] _ rfl R15.out.range Tryd.underlying31 rfl (by kernel_rfl)) rfl ?_
  exact ⟨rfl, G14.out⟩
set_option maxRecDepth 1000000 in
set_option maxHeartbeats 4000000 in
theorem rhull_tf (a1 a2 a3 a4 a5 a6 b1 b2 b3 b4 b5 b6 : Int) (w : World) (b : (-2097152 ≤ a1 ∧ a1 ≤ 2097152) ∧ (-2097152 ≤ a2 ∧ a2 ≤ 2097152) ∧ (-2097152 ≤ a3 ∧ a3 ≤ 2097152) ∧ (-2097152 ≤ a4 ∧ a4 ≤ 2097152) ∧ (-2097152 ≤ a5 ∧ a5 ≤ 2097152) ∧ (-2097152 ≤ a6 ∧ a6 ≤ 2097152) ∧ (-2097152 ≤ b1 ∧ b1 ≤ 2097152) ∧ (-2097152 ≤ b2 ∧ b2 ≤ 2097152) ∧ (-2097152 ≤ b3 ∧ b3 ≤ 2097152) ∧ (-2097152 ≤ b4 ∧ b4 ≤ 2097152) ∧ (-2097152 ≤ b5 ∧ b5 ≤ 2097152) ∧ (-2097152 ≤ b6 ∧ b6 ≤ 2097152)) (ha : Pt.emp a1 a2 a3 a4 a5 a6 = true) (hb : Pt.emp b1 b2 b3 b4 b5 b6 = false) :
    Calls Tryd.prog 38 #[.agg #[.int .i64 a1, .int .i64 a2, .int .i64 a3, .int .i64 a4, .int .i64 a5, .int .i64 a6], .agg #[.int .i64 b1, .int .i64 b2, .int .i64 b3, .int .i64 b4, .int .i64 b5, .int .i64 b6]] w fun e w' => e = .returned (.agg #[.int .i64 b1, .int .i64 b2, .int .i64 b3, .int .i64 b4, .int .i64 b5, .int .i64 b6]) ∧ Below w.heap.size w w' := by
  have HA := Lib.hid ha
  have HB := Lib.hid hb
  clear ha hb
  obtain ⟨u, hu, r0, r1, r2, g0⟩ := rows3 w [.int .i64 a1, .int .i64 a2, .int .i64 a3, .int .i64 a4, .int .i64 a5, .int .i64 a6] 31 [.int .i64 b1, .int .i64 b2, .int .i64 b3, .int .i64 b4, .int .i64 b5, .int .i64 b6] 31 [.int .i64 0, .int .i64 0, .int .i64 0, .int .i64 0, .int .i64 0, .int .i64 0] 31
  have R0 := Lib.hid r0
  have R1 := Lib.hid r1
  have R2 := Lib.hid r2
  have G0 := Lib.hid g0
  have HU := Lib.hid hu
  clear hu g0 r0 r1 r2
  go_enter Tryd.func38, Tryd.ntmps38
  go_upto_region 1 with fail
  rw [← HU.out]
  refine wpG_region ?_
  refine wpG_tk (some 12) (v := .agg #[.int .i64 a1, .int .i64 a2, .int .i64 a3, .int .i64 a4, .int .i64 a5, .int .i64 a6]) rfl (.load_mid (by rfl) 31 (.tmp 2) rfl (w.heap.size) 0 rfl [.int .i64 a1, .int .i64 a2, .int .i64 a3, .int .i64 a4, .int .i64 a5, .int .i64 a6] _ (fun W hg => (R0.out.below hg).range) Tryd.underlying31 rfl (by kernel_rfl)) ?_
  simp only [Act.put, List.setIfInBounds_toArray, List.set_cons_zero, List.set_cons_succ]
  refine wpG_tk (some 13) (v := .bool true) rfl (.call (f := 24) (args := #[.agg #[.int .i64 a1, .int .i64 a2, .int .i64 a3, .int .i64 a4, .int .i64 a5, .int .i64 a6]]) (by rfl) (fun W => by go_simp) (fun W hg => rempty_any a1 a2 a3 a4 a5 a6 true W HA.out)) ?_
  simp only [Act.put, List.setIfInBounds_toArray, List.set_cons_zero, List.set_cons_succ]
  refine wpG_tk (some 5) (v := .bool true) rfl (.val (by rfl) (fun _ _ => rfl)) ?_
  simp only [Act.put, List.setIfInBounds_toArray, List.set_cons_zero, List.set_cons_succ]
  refine wpG_done (fun V1 hv2 => ?_)
  have GC3 := Lib.hid hv2
  clear hv2
  go_upto_region 2 with fail
  refine wpG_region ?_
  refine wpG_tk (some 14) (v := .agg #[.int .i64 b1, .int .i64 b2, .int .i64 b3, .int .i64 b4, .int .i64 b5, .int .i64 b6]) rfl (.load_mid (by rfl) 31 (.tmp 3) rfl (w.heap.size + 1) 0 rfl [.int .i64 b1, .int .i64 b2, .int .i64 b3, .int .i64 b4, .int .i64 b5, .int .i64 b6] _ (fun W hg => (R1.out.below (GC3.out.trans hg)).range) Tryd.underlying31 rfl (by kernel_rfl)) ?_
  simp only [Act.put, List.setIfInBounds_toArray, List.set_cons_zero, List.set_cons_succ]
  refine wpG_tk (some 15) (v := .bool false) rfl (.call (f := 24) (args := #[.agg #[.int .i64 b1, .int .i64 b2, .int .i64 b3, .int .i64 b4, .int .i64 b5, .int .i64 b6]]) (by rfl) (fun W => by go_simp) (fun W hg => rempty_any b1 b2 b3 b4 b5 b6 false W HB.out)) ?_
  simp only [Act.put, List.setIfInBounds_toArray, List.set_cons_zero, List.set_cons_succ]
  refine wpG_tk (some 6) (v := .bool false) rfl (.val (by rfl) (fun _ _ => rfl)) ?_
  simp only [Act.put, List.setIfInBounds_toArray, List.set_cons_zero, List.set_cons_succ]
  refine wpG_done (fun V4 hv5 => ?_)
  have GC6 := Lib.hid (GC3.out.trans hv5)
  clear hv5
  go_upto_region 3 with fail
  refine wpG_region ?_
  refine wpG_tk (some 16) (v := .bool true) rfl (.val (by rfl) (fun _ _ => rfl)) ?_
  simp only [Act.put, List.setIfInBounds_toArray, List.set_cons_zero, List.set_cons_succ]
  refine wpG_tk (some 17) (v := .bool true) rfl (.val (by rfl) (fun _ _ => rfl)) ?_
  simp only [Act.put, List.setIfInBounds_toArray, List.set_cons_zero, List.set_cons_succ]
  refine wpG_tk (some 18) (v := .bool false) rfl (.val (by rfl) (fun _ _ => rfl)) ?_
  simp only [Act.put, List.setIfInBounds_toArray, List.set_cons_zero, List.set_cons_succ]
  refine wpG_tk (some 19) (v := .bool false) rfl (.val (by rfl) (fun W hg => by go_simp)) ?_
  simp only [Act.put, List.setIfInBounds_toArray, List.set_cons_zero, List.set_cons_succ]
  refine wpG_done (fun V7 hv8 => ?_)
  have GC9 := Lib.hid (GC6.out.trans hv8)
  clear hv8
  go_upto_region 5 with fail
  refine wpG_region ?_
  refine wpG_tk (some 21) (v := .bool true) rfl (.val (by rfl) (fun _ _ => rfl)) ?_
  simp only [Act.put, List.setIfInBounds_toArray, List.set_cons_zero, List.set_cons_succ]
  refine wpG_done (fun V10 hv11 => ?_)
  have GC12 := Lib.hid (GC9.out.trans hv11)
  clear hv11
  go_upto_region 6 with fail
  refine wpG_region ?_
  refine wpG_tk (some 22) (v := .agg #[.int .i64 b1, .int .i64 b2, .int .i64 b3, .int .i64 b4, .int .i64 b5, .int .i64 b6]) rfl (.load_mid (by rfl) 31 (.tmp 3) rfl (w.heap.size + 1) 0 rfl [.int .i64 b1, .int .i64 b2, .int .i64 b3, .int .i64 b4, .int .i64 b5, .int .i64 b6] _ (fun W hg => (R1.out.below (GC12.out.trans hg)).range) Tryd.underlying31 rfl (by kernel_rfl)) ?_
  simp only [Act.put, List.setIfInBounds_toArray, List.set_cons_zero, List.set_cons_succ]
  refine wpG_store (none) rfl (by rfl) (fun W13 hg14 => ⟨_, run_store_mid 31 (.tmp 4) (.tmp 22) rfl (w.heap.size + 1 + 1) 0 #[.int .i64 b1, .int .i64 b2, .int .i64 b3, .int .i64 b4, .int .i64 b5, .int .i64 b6] rfl rfl (((R2.out.below (GC12.out.trans hg14)).there 0 6 (by decide))) (by kernel_rfl) (by kernel_rfl), ?_⟩)
  simp only [Act.put]
  refine wpG_done (fun V15 hv16 => ?_)
  have R18 := Lib.hid (Row.put (ds := [.int .i64 b1, .int .i64 b2, .int .i64 b3, .int .i64 b4, .int .i64 b5, .int .i64 b6]) R2.out (GC12.out.trans hg14) rfl hv16)
  have G17 := Lib.hid (Gr.put G0.out (GC12.out.trans hg14) (by omega) hv16)
  go_wp2_with fail
  refine bodyPost_ret (results_cell_mid rfl _ _ _ (w.heap.size + 1 + 1) 0 [.int .i64 b1, .int .i64 b2, .int .i64 b3, .int .i64 b4, .int .i64 b5, .int .i64 b6] _ rfl R18.out.range Tryd.underlying31 rfl (by kernel_rfl)) rfl ?_
  exact ⟨rfl, G17.out⟩
set_option maxRecDepth 1000000 in
set_option maxHeartbeats 4000000 in
theorem rhull_ft (a1 a2 a3 a4 a5 a6 b1 b2 b3 b4 b5 b6 : Int) (w : World) (b : (-2097152 ≤ a1 ∧ a1 ≤ 2097152) ∧ (-2097152 ≤ a2 ∧ a2 ≤ 2097152) ∧ (-2097152 ≤ a3 ∧ a3 ≤ 2097152) ∧ (-2097152 ≤ a4 ∧ a4 ≤ 2097152) ∧ (-2097152 ≤ a5 ∧ a5 ≤ 2097152) ∧ (-2097152 ≤ a6 ∧ a6 ≤ 2097152) ∧ (-2097152 ≤ b1 ∧ b1 ≤ 2097152) ∧ (-2097152 ≤ b2 ∧ b2 ≤ 2097152) ∧ (-2097152 ≤ b3 ∧ b3 ≤ 2097152) ∧ (-2097152 ≤ b4 ∧ b4 ≤ 2097152) ∧ (-2097152 ≤ b5 ∧ b5 ≤ 2097152) ∧ (-2097152 ≤ b6 ∧ b6 ≤ 2097152)) (ha : Pt.emp a1 a2 a3 a4 a5 a6 = false) (hb : Pt.emp b1 b2 b3 b4 b5 b6 = true) :
    Calls Tryd.prog 38 #[.agg #[.int .i64 a1, .int .i64 a2, .int .i64 a3, .int .i64 a4, .int .i64 a5, .int .i64 a6], .agg #[.int .i64 b1, .int .i64 b2, .int .i64 b3, .int .i64 b4, .int .i64 b5, .int .i64 b6]] w fun e w' => e = .returned (.agg #[.int .i64 a1, .int .i64 a2, .int .i64 a3, .int .i64 a4, .int .i64 a5, .int .i64 a6]) ∧ Below w.heap.size w w' := by
  have HA := Lib.hid ha
  have HB := Lib.hid hb
  clear ha hb
  obtain ⟨u, hu, r0, r1, r2, g0⟩ := rows3 w [.int .i64 a1, .int .i64 a2, .int .i64 a3, .int .i64 a4, .int .i64 a5, .int .i64 a6] 31 [.int .i64 b1, .int .i64 b2, .int .i64 b3, .int .i64 b4, .int .i64 b5, .int .i64 b6] 31 [.int .i64 0, .int .i64 0, .int .i64 0, .int .i64 0, .int .i64 0, .int .i64 0] 31
  have R0 := Lib.hid r0
  have R1 := Lib.hid r1
  have R2 := Lib.hid r2
  have G0 := Lib.hid g0
  have HU := Lib.hid hu
  clear hu g0 r0 r1 r2
  go_enter Tryd.func38, Tryd.ntmps38
  go_upto_region 1 with fail
  rw [← HU.out]
  refine wpG_region ?_
  refine wpG_tk (some 12) (v := .agg #[.int .i64 a1, .int .i64 a2, .int .i64 a3, .int .i64 a4, .int .i64 a5, .int .i64 a6]) rfl (.load_mid (by rfl) 31 (.tmp 2) rfl (w.heap.size) 0 rfl [.int .i64 a1, .int .i64 a2, .int .i64 a3, .int .i64 a4, .int .i64 a5, .int .i64 a6] _ (fun W hg => (R0.out.below hg).range) Tryd.underlying31 rfl (by kernel_rfl)) ?_
  simp only [Act.put, List.setIfInBounds_toArray, List.set_cons_zero, List.set_cons_succ]
  refine wpG_tk (some 13) (v := .bool false) rfl (.call (f := 24) (args := #[.agg #[.int .i64 a1, .int .i64 a2, .int .i64 a3, .int .i64 a4, .int .i64 a5, .int .i64 a6]]) (by rfl) (fun W => by go_simp) (fun W hg => rempty_any a1 a2 a3 a4 a5 a6 false W HA.out)) ?_
  simp only [Act.put, List.setIfInBounds_toArray, List.set_cons_zero, List.set_cons_succ]
  refine wpG_tk (some 5) (v := .bool false) rfl (.val (by rfl) (fun _ _ => rfl)) ?_
  simp only [Act.put, List.setIfInBounds_toArray, List.set_cons_zero, List.set_cons_succ]
  refine wpG_done (fun V1 hv2 => ?_)
  have GC3 := Lib.hid hv2
  clear hv2
  go_upto_region 2 with fail
  refine wpG_region ?_
  refine wpG_tk (some 14) (v := .agg #[.int .i64 b1, .int .i64 b2, .int .i64 b3, .int .i64 b4, .int .i64 b5, .int .i64 b6]) rfl (.load_mid (by rfl) 31 (.tmp 3) rfl (w.heap.size + 1) 0 rfl [.int .i64 b1, .int .i64 b2, .int .i64 b3, .int .i64 b4, .int .i64 b5, .int .i64 b6] _ (fun W hg => (R1.out.below (GC3.out.trans hg)).range) Tryd.underlying31 rfl (by kernel_rfl)) ?_
  simp only [Act.put, List.setIfInBounds_toArray, List.set_cons_zero, List.set_cons_succ]
  refine wpG_tk (some 15) (v := .bool true) rfl (.call (f := 24) (args := #[.agg #[.int .i64 b1, .int .i64 b2, .int .i64 b3, .int .i64 b4, .int .i64 b5, .int .i64 b6]]) (by rfl) (fun W => by go_simp) (fun W hg => rempty_any b1 b2 b3 b4 b5 b6 true W HB.out)) ?_
  simp only [Act.put, List.setIfInBounds_toArray, List.set_cons_zero, List.set_cons_succ]
  refine wpG_tk (some 6) (v := .bool true) rfl (.val (by rfl) (fun _ _ => rfl)) ?_
  simp only [Act.put, List.setIfInBounds_toArray, List.set_cons_zero, List.set_cons_succ]
  refine wpG_done (fun V4 hv5 => ?_)
  have GC6 := Lib.hid (GC3.out.trans hv5)
  clear hv5
  go_upto_region 3 with fail
  refine wpG_region ?_
  refine wpG_tk (some 16) (v := .bool false) rfl (.val (by rfl) (fun _ _ => rfl)) ?_
  simp only [Act.put, List.setIfInBounds_toArray, List.set_cons_zero, List.set_cons_succ]
  refine wpG_tk (some 17) (v := .bool false) rfl (.val (by rfl) (fun _ _ => rfl)) ?_
  simp only [Act.put, List.setIfInBounds_toArray, List.set_cons_zero, List.set_cons_succ]
  refine wpG_tk (some 18) (v := undef) rfl (.no (by rfl)) ?_
  simp only [Act.put, List.setIfInBounds_toArray, List.set_cons_zero, List.set_cons_succ]
  refine wpG_tk (some 19) (v := .bool false) rfl (.val (by rfl) (fun W hg => by go_simp)) ?_
  simp only [Act.put, List.setIfInBounds_toArray, List.set_cons_zero, List.set_cons_succ]
  refine wpG_done (fun V7 hv8 => ?_)
  have GC9 := Lib.hid (GC6.out.trans hv8)
  clear hv8
  go_upto_region 5 with fail
  refine wpG_region ?_
  refine wpG_tk (some 21) (v := .bool false) rfl (.val (by rfl) (fun _ _ => rfl)) ?_
  simp only [Act.put, List.setIfInBounds_toArray, List.set_cons_zero, List.set_cons_succ]
  refine wpG_done (fun V10 hv11 => ?_)
  have GC12 := Lib.hid (GC9.out.trans hv11)
  clear hv11
  go_upto_region 7 with fail
  refine wpG_region ?_
  refine wpG_tk (some 23) (v := .bool true) rfl (.val (by rfl) (fun _ _ => rfl)) ?_
  simp only [Act.put, List.setIfInBounds_toArray, List.set_cons_zero, List.set_cons_succ]
  refine wpG_done (fun V13 hv14 => ?_)
  have GC15 := Lib.hid (GC12.out.trans hv14)
  clear hv14
  go_upto_region 8 with fail
  refine wpG_region ?_
  refine wpG_tk (some 24) (v := .agg #[.int .i64 a1, .int .i64 a2, .int .i64 a3, .int .i64 a4, .int .i64 a5, .int .i64 a6]) rfl (.load_mid (by rfl) 31 (.tmp 2) rfl (w.heap.size) 0 rfl [.int .i64 a1, .int .i64 a2, .int .i64 a3, .int .i64 a4, .int .i64 a5, .int .i64 a6] _ (fun W hg => (R0.out.below (GC15.out.trans hg)).range) Tryd.underlying31 rfl (by kernel_rfl)) ?_
  simp only [Act.put, List.setIfInBounds_toArray, List.set_cons_zero, List.set_cons_succ]
  refine wpG_store (none) rfl (by rfl) (fun W16 hg17 => ⟨_, run_store_mid 31 (.tmp 4) (.tmp 24) rfl (w.heap.size + 1 + 1) 0 #[.int .i64 a1, .int .i64 a2, .int .i64 a3, .int .i64 a4, .int .i64 a5, .int .i64 a6] rfl rfl (((R2.out.below (GC15.out.trans hg17)).there 0 6 (by decide))) (by kernel_rfl) (by kernel_rfl), ?_⟩)
  simp only [Act.put]
  refine wpG_done (fun V18 hv19 => ?_)
  have R21 := Lib.hid (Row.put (ds := [.int .i64 a1, .int .i64 a2, .int .i64 a3, .int .i64 a4, .int .i64 a5, .int .i64 a6]) R2.out (GC15.out.trans hg17) rfl hv19)
  have G20 := Lib.hid (Gr.put G0.out (GC15.out.trans hg17) (by omega) hv19)
  go_wp2_with fail
  refine bodyPost_ret (results_cell_mid rfl _ _ _ (w.heap.size + 1 + 1) 0 [.int .i64 a1, .int .i64 a2, .int .i64 a3, .int .i64 a4, .int .i64 a5, .int .i64 a6] _ rfl R21.out.range Tryd.underlying31 rfl (by kernel_rfl)) rfl ?_
  exact ⟨rfl, G20.out⟩
set_option maxRecDepth 1000000 in
set_option maxHeartbeats 4000000 in
theorem rhull_ff (a1 a2 a3 a4 a5 a6 b1 b2 b3 b4 b5 b6 : Int) (w : World) (b : (-2097152 ≤ a1 ∧ a1 ≤ 2097152) ∧ (-2097152 ≤ a2 ∧ a2 ≤ 2097152) ∧ (-2097152 ≤ a3 ∧ a3 ≤ 2097152) ∧ (-2097152 ≤ a4 ∧ a4 ≤ 2097152) ∧ (-2097152 ≤ a5 ∧ a5 ≤ 2097152) ∧ (-2097152 ≤ a6 ∧ a6 ≤ 2097152) ∧ (-2097152 ≤ b1 ∧ b1 ≤ 2097152) ∧ (-2097152 ≤ b2 ∧ b2 ≤ 2097152) ∧ (-2097152 ≤ b3 ∧ b3 ≤ 2097152) ∧ (-2097152 ≤ b4 ∧ b4 ≤ 2097152) ∧ (-2097152 ≤ b5 ∧ b5 ≤ 2097152) ∧ (-2097152 ≤ b6 ∧ b6 ≤ 2097152)) (ha : Pt.emp a1 a2 a3 a4 a5 a6 = false) (hb : Pt.emp b1 b2 b3 b4 b5 b6 = false) :
    Calls Tryd.prog 38 #[.agg #[.int .i64 a1, .int .i64 a2, .int .i64 a3, .int .i64 a4, .int .i64 a5, .int .i64 a6], .agg #[.int .i64 b1, .int .i64 b2, .int .i64 b3, .int .i64 b4, .int .i64 b5, .int .i64 b6]] w fun e w' => e = .returned (.agg #[.int .i64 (min a1 b1), .int .i64 (min a2 b2), .int .i64 (min a3 b3), .int .i64 (max a4 b4), .int .i64 (max a5 b5), .int .i64 (max a6 b6)]) ∧ Below w.heap.size w w' := by
  have HA := Lib.hid ha
  have HB := Lib.hid hb
  clear ha hb
  obtain ⟨u, hu, r0, r1, r2, g0⟩ := rows3 w [.int .i64 a1, .int .i64 a2, .int .i64 a3, .int .i64 a4, .int .i64 a5, .int .i64 a6] 31 [.int .i64 b1, .int .i64 b2, .int .i64 b3, .int .i64 b4, .int .i64 b5, .int .i64 b6] 31 [.int .i64 0, .int .i64 0, .int .i64 0, .int .i64 0, .int .i64 0, .int .i64 0] 31
  have R0 := Lib.hid r0
  have R1 := Lib.hid r1
  have R2 := Lib.hid r2
  have G0 := Lib.hid g0
  have HU := Lib.hid hu
  clear hu g0 r0 r1 r2
  go_enter Tryd.func38, Tryd.ntmps38
  go_upto_region 1 with fail
  rw [← HU.out]
  refine wpG_region ?_
  refine wpG_tk (some 12) (v := .agg #[.int .i64 a1, .int .i64 a2, .int .i64 a3, .int .i64 a4, .int .i64 a5, .int .i64 a6]) rfl (.load_mid (by rfl) 31 (.tmp 2) rfl (w.heap.size) 0 rfl [.int .i64 a1, .int .i64 a2, .int .i64 a3, .int .i64 a4, .int .i64 a5, .int .i64 a6] _ (fun W hg => (R0.out.below hg).range) Tryd.underlying31 rfl (by kernel_rfl)) ?_
  simp only [Act.put, List.setIfInBounds_toArray, List.set_cons_zero, List.set_cons_succ]
  refine wpG_tk (some 13) (v := .bool false) rfl (.call (f := 24) (args := #[.agg #[.int .i64 a1, .int .i64 a2, .int .i64 a3, .int .i64 a4, .int .i64 a5, .int .i64 a6]]) (by rfl) (fun W => by go_simp) (fun W hg => rempty_any a1 a2 a3 a4 a5 a6 false W HA.out)) ?_
  simp only [Act.put, List.setIfInBounds_toArray, List.set_cons_zero, List.set_cons_succ]
  refine wpG_tk (some 5) (v := .bool false) rfl (.val (by rfl) (fun _ _ => rfl)) ?_
  simp only [Act.put, List.setIfInBounds_toArray, List.set_cons_zero, List.set_cons_succ]
  refine wpG_done (fun V1 hv2 => ?_)
  have GC3 := Lib.hid hv2
  clear hv2
  go_upto_region 2 with fail
  refine wpG_region ?_
  refine wpG_tk (some 14) (v := .agg #[.int .i64 b1, .int .i64 b2, .int .i64 b3, .int .i64 b4, .int .i64 b5, .int .i64 b6]) rfl (.load_mid (by rfl) 31 (.tmp 3) rfl (w.heap.size + 1) 0 rfl [.int .i64 b1, .int .i64 b2, .int .i64 b3, .int .i64 b4, .int .i64 b5, .int .i64 b6] _ (fun W hg => (R1.out.below (GC3.out.trans hg)).range) Tryd.underlying31 rfl (by kernel_rfl)) ?_
  simp only [Act.put, List.setIfInBounds_toArray, List.set_cons_zero, List.set_cons_succ]
  refine wpG_tk (some 15) (v := .bool false) rfl (.call (f := 24) (args := #[.agg #[.int .i64 b1, .int .i64 b2, .int .i64 b3, .int .i64 b4, .int .i64 b5, .int .i64 b6]]) (by rfl) (fun W => by go_simp) (fun W hg => rempty_any b1 b2 b3 b4 b5 b6 false W HB.out)) ?_
  simp only [Act.put, List.setIfInBounds_toArray, List.set_cons_zero, List.set_cons_succ]
  refine wpG_tk (some 6) (v := .bool false) rfl (.val (by rfl) (fun _ _ => rfl)) ?_
  simp only [Act.put, List.setIfInBounds_toArray, List.set_cons_zero, List.set_cons_succ]
  refine wpG_done (fun V4 hv5 => ?_)
  have GC6 := Lib.hid (GC3.out.trans hv5)
  clear hv5
  go_upto_region 3 with fail
  refine wpG_region ?_
  refine wpG_tk (some 16) (v := .bool false) rfl (.val (by rfl) (fun _ _ => rfl)) ?_
  simp only [Act.put, List.setIfInBounds_toArray, List.set_cons_zero, List.set_cons_succ]
  refine wpG_tk (some 17) (v := .bool false) rfl (.val (by rfl) (fun _ _ => rfl)) ?_
  simp only [Act.put, List.setIfInBounds_toArray, List.set_cons_zero, List.set_cons_succ]
  refine wpG_tk (some 18) (v := undef) rfl (.no (by rfl)) ?_
  simp only [Act.put, List.setIfInBounds_toArray, List.set_cons_zero, List.set_cons_succ]
  refine wpG_tk (some 19) (v := .bool false) rfl (.val (by rfl) (fun W hg => by go_simp)) ?_
  simp only [Act.put, List.setIfInBounds_toArray, List.set_cons_zero, List.set_cons_succ]
  refine wpG_done (fun V7 hv8 => ?_)
  have GC9 := Lib.hid (GC6.out.trans hv8)
  clear hv8
  go_upto_region 5 with fail
  refine wpG_region ?_
  refine wpG_tk (some 21) (v := .bool false) rfl (.val (by rfl) (fun _ _ => rfl)) ?_
  simp only [Act.put, List.setIfInBounds_toArray, List.set_cons_zero, List.set_cons_succ]
  refine wpG_done (fun V10 hv11 => ?_)
  have GC12 := Lib.hid (GC9.out.trans hv11)
  clear hv11
  go_upto_region 7 with fail
  refine wpG_region ?_
  refine wpG_tk (some 23) (v := .bool false) rfl (.val (by rfl) (fun _ _ => rfl)) ?_
  simp only [Act.put, List.setIfInBounds_toArray, List.set_cons_zero, List.set_cons_succ]
  refine wpG_done (fun V13 hv14 => ?_)
  have GC15 := Lib.hid (GC12.out.trans hv14)
  clear hv14
  go_upto_region 9 with fail
  refine wpG_region ?_
  refine wpG_tk (some 25) (v := .pointer (some ⟨w.heap.size, 0, none⟩)) rfl (.val (by rfl) (fun W hg => by go_simp)) ?_
  simp only [Act.put, List.setIfInBounds_toArray, List.set_cons_zero, List.set_cons_succ]
  refine wpG_tk (some 26) (v := .agg #[.int .i64 a1, .int .i64 a2, .int .i64 a3]) rfl (.load_mid (by rfl) 23 (.tmp 25) rfl (w.heap.size) 0 rfl [.int .i64 a1, .int .i64 a2, .int .i64 a3] _ (fun W hg => (R0.out.below (GC15.out.trans hg)).lo) Tryd.underlying23 rfl (by kernel_rfl)) ?_
  simp only [Act.put, List.setIfInBounds_toArray, List.set_cons_zero, List.set_cons_succ]
  refine wpG_tk (some 27) (v := .agg #[.int .i64 a1, .int .i64 a2, .int .i64 a3]) rfl (.call (f := 70) (args := #[.agg #[.int .i64 a1, .int .i64 a2, .int .i64 a3]]) (by rfl) (fun W => by go_simp) (fun W hg => rlist_any a1 a2 a3 W)) ?_
  simp only [Act.put, List.setIfInBounds_toArray, List.set_cons_zero, List.set_cons_succ]
  refine wpG_val (some 7) rfl (by rfl) (fun W16 hg17 => ⟨.pointer (some ⟨W16.heap.size, 0, none⟩), W16.alloc (.cells #[.int .i64 0, .int .i64 0, .int .i64 0] 64), by (go_simp <;> rfl), ?_⟩)
  simp only [Act.put, List.setIfInBounds_toArray, List.set_cons_zero, List.set_cons_succ]
  refine wpG_store (none) rfl (by rfl) (fun W18 hg19 => ⟨_, run_store_mid 64 (.tmp 7) (.tmp 27) rfl (W16.heap.size) 0 #[.int .i64 a1, .int .i64 a2, .int .i64 a3] rfl rfl (Row.room hg19 3 rfl) (by kernel_rfl) (by kernel_rfl), ?_⟩)
  simp only [Act.put]
  refine wpG_done (fun V20 hv21 => ?_)
  have l23 : w.heap.size < W16.heap.size := (R0.out.below (GC15.out.trans hg17)).lt
  have l24 : w.heap.size + 1 < W16.heap.size := (R1.out.below (GC15.out.trans hg17)).lt
  have l25 : w.heap.size + 1 + 1 < W16.heap.size := (R2.out.below (GC15.out.trans hg17)).lt
  have l26 : w.heap.size ≤ W16.heap.size := (Gr.to G0.out (GC15.out.trans hg17)).size
  have R27 := Lib.hid ((R0.out.below (GC15.out.trans hg17)).past hg19 hv21)
  have R28 := Lib.hid ((R1.out.below (GC15.out.trans hg17)).past hg19 hv21)
  have R29 := Lib.hid ((R2.out.below (GC15.out.trans hg17)).past hg19 hv21)
  have R30 := Lib.hid (Row.made (zs := [.int .i64 0, .int .i64 0, .int .i64 0]) (ds := [.int .i64 a1, .int .i64 a2, .int .i64 a3]) rfl hg19 hv21)
  have G22 := Lib.hid (Gr.to (Gr.to G0.out (GC15.out.trans hg17)) (Gr.past hg19 hv21))
  clear hg19 hv21 
  go_upto_region 10 with fail
  refine wpG_region ?_
  refine wpG_tk (some 28) (v := .pointer (some ⟨w.heap.size, 3, none⟩)) rfl (.val (by rfl) (fun W hg => by go_simp)) ?_
  simp only [Act.put, List.setIfInBounds_toArray, List.set_cons_zero, List.set_cons_succ]
  refine wpG_tk (some 29) (v := .agg #[.int .i64 a4, .int .i64 a5, .int .i64 a6]) rfl (.load_mid (by rfl) 23 (.tmp 28) rfl (w.heap.size) 3 rfl [.int .i64 a4, .int .i64 a5, .int .i64 a6] _ (fun W hg => (R27.out.below hg).hi) Tryd.underlying23 rfl (by kernel_rfl)) ?_
  simp only [Act.put, List.setIfInBounds_toArray, List.set_cons_zero, List.set_cons_succ]
  refine wpG_tk (some 30) (v := .agg #[.int .i64 a4, .int .i64 a5, .int .i64 a6]) rfl (.call (f := 70) (args := #[.agg #[.int .i64 a4, .int .i64 a5, .int .i64 a6]]) (by rfl) (fun W => by go_simp) (fun W hg => rlist_any a4 a5 a6 W)) ?_
  simp only [Act.put, List.setIfInBounds_toArray, List.set_cons_zero, List.set_cons_succ]
  refine wpG_val (some 8) rfl (by rfl) (fun W31 hg32 => ⟨.pointer (some ⟨W31.heap.size, 0, none⟩), W31.alloc (.cells #[.int .i64 0, .int .i64 0, .int .i64 0] 64), by (go_simp <;> rfl), ?_⟩)
  simp only [Act.put, List.setIfInBounds_toArray, List.set_cons_zero, List.set_cons_succ]
  refine wpG_store (none) rfl (by rfl) (fun W33 hg34 => ⟨_, run_store_mid 64 (.tmp 8) (.tmp 30) rfl (W31.heap.size) 0 #[.int .i64 a4, .int .i64 a5, .int .i64 a6] rfl rfl (Row.room hg34 3 rfl) (by kernel_rfl) (by kernel_rfl), ?_⟩)
  simp only [Act.put]
  refine wpG_done (fun V35 hv36 => ?_)
  have l38 : w.heap.size < W31.heap.size := (R27.out.below hg32).lt
  have l39 : w.heap.size + 1 < W31.heap.size := (R28.out.below hg32).lt
  have l40 : w.heap.size + 1 + 1 < W31.heap.size := (R29.out.below hg32).lt
  have l41 : W16.heap.size < W31.heap.size := (R30.out.below hg32).lt
  have l42 : w.heap.size ≤ W31.heap.size := (Gr.to G22.out hg32).size
  have R43 := Lib.hid ((R27.out.below hg32).past hg34 hv36)
  have R44 := Lib.hid ((R28.out.below hg32).past hg34 hv36)
  have R45 := Lib.hid ((R29.out.below hg32).past hg34 hv36)
  have R46 := Lib.hid ((R30.out.below hg32).past hg34 hv36)
  have R47 := Lib.hid (Row.made (zs := [.int .i64 0, .int .i64 0, .int .i64 0]) (ds := [.int .i64 a4, .int .i64 a5, .int .i64 a6]) rfl hg34 hv36)
  have G37 := Lib.hid (Gr.to (Gr.to G22.out hg32) (Gr.past hg34 hv36))
  clear hg34 hv36 
  go_upto_region 11 with fail
  refine wpG_region ?_
  refine wpG_tk (some 31) (v := .pointer (some ⟨w.heap.size + 1, 0, none⟩)) rfl (.val (by rfl) (fun W hg => by go_simp)) ?_
  simp only [Act.put, List.setIfInBounds_toArray, List.set_cons_zero, List.set_cons_succ]
  refine wpG_tk (some 32) (v := .agg #[.int .i64 b1, .int .i64 b2, .int .i64 b3]) rfl (.load_mid (by rfl) 23 (.tmp 31) rfl (w.heap.size + 1) 0 rfl [.int .i64 b1, .int .i64 b2, .int .i64 b3] _ (fun W hg => (R44.out.below hg).lo) Tryd.underlying23 rfl (by kernel_rfl)) ?_
  simp only [Act.put, List.setIfInBounds_toArray, List.set_cons_zero, List.set_cons_succ]
  refine wpG_tk (some 33) (v := .agg #[.int .i64 b1, .int .i64 b2, .int .i64 b3]) rfl (.call (f := 70) (args := #[.agg #[.int .i64 b1, .int .i64 b2, .int .i64 b3]]) (by rfl) (fun W => by go_simp) (fun W hg => rlist_any b1 b2 b3 W)) ?_
  simp only [Act.put, List.setIfInBounds_toArray, List.set_cons_zero, List.set_cons_succ]
  refine wpG_val (some 9) rfl (by rfl) (fun W48 hg49 => ⟨.pointer (some ⟨W48.heap.size, 0, none⟩), W48.alloc (.cells #[.int .i64 0, .int .i64 0, .int .i64 0] 64), by (go_simp <;> rfl), ?_⟩)
  simp only [Act.put, List.setIfInBounds_toArray, List.set_cons_zero, List.set_cons_succ]
  refine wpG_store (none) rfl (by rfl) (fun W50 hg51 => ⟨_, run_store_mid 64 (.tmp 9) (.tmp 33) rfl (W48.heap.size) 0 #[.int .i64 b1, .int .i64 b2, .int .i64 b3] rfl rfl (Row.room hg51 3 rfl) (by kernel_rfl) (by kernel_rfl), ?_⟩)
  simp only [Act.put]
  refine wpG_done (fun V52 hv53 => ?_)
  have l55 : w.heap.size < W48.heap.size := (R43.out.below hg49).lt
  have l56 : w.heap.size + 1 < W48.heap.size := (R44.out.below hg49).lt
  have l57 : w.heap.size + 1 + 1 < W48.heap.size := (R45.out.below hg49).lt
  have l58 : W16.heap.size < W48.heap.size := (R46.out.below hg49).lt
  have l59 : W31.heap.size < W48.heap.size := (R47.out.below hg49).lt
  have l60 : w.heap.size ≤ W48.heap.size := (Gr.to G37.out hg49).size
  have R61 := Lib.hid ((R43.out.below hg49).past hg51 hv53)
  have R62 := Lib.hid ((R44.out.below hg49).past hg51 hv53)
  have R63 := Lib.hid ((R45.out.below hg49).past hg51 hv53)
  have R64 := Lib.hid ((R46.out.below hg49).past hg51 hv53)
  have R65 := Lib.hid ((R47.out.below hg49).past hg51 hv53)
  have R66 := Lib.hid (Row.made (zs := [.int .i64 0, .int .i64 0, .int .i64 0]) (ds := [.int .i64 b1, .int .i64 b2, .int .i64 b3]) rfl hg51 hv53)
  have G54 := Lib.hid (Gr.to (Gr.to G37.out hg49) (Gr.past hg51 hv53))
  clear hg51 hv53 
  go_upto_region 12 with fail
  refine wpG_region ?_
  refine wpG_tk (some 34) (v := .pointer (some ⟨w.heap.size + 1, 3, none⟩)) rfl (.val (by rfl) (fun W hg => by go_simp)) ?_
  simp only [Act.put, List.setIfInBounds_toArray, List.set_cons_zero, List.set_cons_succ]
  refine wpG_tk (some 35) (v := .agg #[.int .i64 b4, .int .i64 b5, .int .i64 b6]) rfl (.load_mid (by rfl) 23 (.tmp 34) rfl (w.heap.size + 1) 3 rfl [.int .i64 b4, .int .i64 b5, .int .i64 b6] _ (fun W hg => (R62.out.below hg).hi) Tryd.underlying23 rfl (by kernel_rfl)) ?_
  simp only [Act.put, List.setIfInBounds_toArray, List.set_cons_zero, List.set_cons_succ]
  refine wpG_tk (some 36) (v := .agg #[.int .i64 b4, .int .i64 b5, .int .i64 b6]) rfl (.call (f := 70) (args := #[.agg #[.int .i64 b4, .int .i64 b5, .int .i64 b6]]) (by rfl) (fun W => by go_simp) (fun W hg => rlist_any b4 b5 b6 W)) ?_
  simp only [Act.put, List.setIfInBounds_toArray, List.set_cons_zero, List.set_cons_succ]
  refine wpG_val (some 10) rfl (by rfl) (fun W67 hg68 => ⟨.pointer (some ⟨W67.heap.size, 0, none⟩), W67.alloc (.cells #[.int .i64 0, .int .i64 0, .int .i64 0] 64), by (go_simp <;> rfl), ?_⟩)
  simp only [Act.put, List.setIfInBounds_toArray, List.set_cons_zero, List.set_cons_succ]
  refine wpG_store (none) rfl (by rfl) (fun W69 hg70 => ⟨_, run_store_mid 64 (.tmp 10) (.tmp 36) rfl (W67.heap.size) 0 #[.int .i64 b4, .int .i64 b5, .int .i64 b6] rfl rfl (Row.room hg70 3 rfl) (by kernel_rfl) (by kernel_rfl), ?_⟩)
  simp only [Act.put]
  refine wpG_done (fun V71 hv72 => ?_)
  have l74 : w.heap.size < W67.heap.size := (R61.out.below hg68).lt
  have l75 : w.heap.size + 1 < W67.heap.size := (R62.out.below hg68).lt
  have l76 : w.heap.size + 1 + 1 < W67.heap.size := (R63.out.below hg68).lt
  have l77 : W16.heap.size < W67.heap.size := (R64.out.below hg68).lt
  have l78 : W31.heap.size < W67.heap.size := (R65.out.below hg68).lt
  have l79 : W48.heap.size < W67.heap.size := (R66.out.below hg68).lt
  have l80 : w.heap.size ≤ W67.heap.size := (Gr.to G54.out hg68).size
  have R81 := Lib.hid ((R61.out.below hg68).past hg70 hv72)
  have R82 := Lib.hid ((R62.out.below hg68).past hg70 hv72)
  have R83 := Lib.hid ((R63.out.below hg68).past hg70 hv72)
  have R84 := Lib.hid ((R64.out.below hg68).past hg70 hv72)
  have R85 := Lib.hid ((R65.out.below hg68).past hg70 hv72)
  have R86 := Lib.hid ((R66.out.below hg68).past hg70 hv72)
  have R87 := Lib.hid (Row.made (zs := [.int .i64 0, .int .i64 0, .int .i64 0]) (ds := [.int .i64 b4, .int .i64 b5, .int .i64 b6]) rfl hg70 hv72)
  have G73 := Lib.hid (Gr.to (Gr.to G54.out hg68) (Gr.past hg70 hv72))
  clear hg70 hv72 
  go_upto_region 13 with fail
  refine wpG_region ?_
  refine wpG_tk (some 11) (v := .int .i64 0) rfl (.val (by rfl) (fun _ _ => rfl)) ?_
  simp only [Act.put, List.setIfInBounds_toArray, List.set_cons_zero, List.set_cons_succ]
  refine wpG_done (fun V88 hv89 => ?_)
  have GC90 := Lib.hid hv89
  clear hv89
  go_wp2_with fail
  refine wp_loop_rounds 4 ?_
  rw [rounds_succ]
  go_upto_region 14 with fail
  refine wpG_region ?_
  refine wpG_tk (some 37) (v := .int .i64 0) rfl (.val (by rfl) (fun _ _ => rfl)) ?_
  simp only [Act.put, List.setIfInBounds_toArray, List.set_cons_zero, List.set_cons_succ]
  refine wpG_tk (some 38) (v := .bool true) rfl (.val (by rfl) (fun W hg => by go_simp)) ?_
  simp only [Act.put, List.setIfInBounds_toArray, List.set_cons_zero, List.set_cons_succ]
  refine wpG_done (fun V91 hv92 => ?_)
  have GC93 := Lib.hid (GC90.out.trans hv92)
  clear hv92
  go_upto_region 16 with fail
  refine wpK_region (by kernel_rfl) ?_
  refine wpK_ta (i := 0) (some 41) (v := .int .i64 0) rfl rfl (by kernel_rfl) (fun _ _ _ h => h) (Or.inl ⟨rfl, fun _ => rfl⟩) ?_
  simp only [Act.put, List.setIfInBounds_toArray, List.set_cons_zero, List.set_cons_succ]
  refine wpK_ta (i := 1) (some 42) (v := .int .i64 0) rfl rfl (by kernel_rfl) (fun _ _ _ h => h) (Or.inl ⟨rfl, fun _ => rfl⟩) ?_
  simp only [Act.put, List.setIfInBounds_toArray, List.set_cons_zero, List.set_cons_succ]
  refine wpK_ta (i := 2) (some 43) (v := .pointer (some ⟨W16.heap.size, 0, none⟩)) rfl rfl (by kernel_rfl) (fun _ _ _ h => h) (Or.inl ⟨by rfl, fun W => by go_simp⟩) ?_
  simp only [Act.put, List.setIfInBounds_toArray, List.set_cons_zero, List.set_cons_succ]
  refine wpK_tk (i := 3) (some 44) (v := .int .i64 a1) rfl rfl (by kernel_rfl) (fun _ _ _ h => h) (.val (by rfl) (fun W hg => by have c := (R84.out.below (GC93.out.trans (Gr.un hg)) 0 _ rfl).1; go_simp)) ?_
  simp only [Act.put, List.setIfInBounds_toArray, List.set_cons_zero, List.set_cons_succ]
  refine wpK_ta (i := 4) (some 45) (v := .int .i64 0) rfl rfl (by kernel_rfl) (fun _ _ _ h => h) (Or.inl ⟨rfl, fun _ => rfl⟩) ?_
  simp only [Act.put, List.setIfInBounds_toArray, List.set_cons_zero, List.set_cons_succ]
  refine wpK_ta (i := 5) (some 46) (v := .pointer (some ⟨W48.heap.size, 0, none⟩)) rfl rfl (by kernel_rfl) (fun _ _ _ h => h) (Or.inl ⟨by rfl, fun W => by go_simp⟩) ?_
  simp only [Act.put, List.setIfInBounds_toArray, List.set_cons_zero, List.set_cons_succ]
  refine wpK_tk (i := 6) (some 47) (v := .int .i64 b1) rfl rfl (by kernel_rfl) (fun _ _ _ h => h) (.val (by rfl) (fun W hg => by have c := (R86.out.below (GC93.out.trans (Gr.un hg)) 0 _ rfl).1; go_simp)) ?_
  simp only [Act.put, List.setIfInBounds_toArray, List.set_cons_zero, List.set_cons_succ]
  refine wpK_ta (i := 7) (some 48) (v := .int .i64 (min a1 b1)) rfl rfl (by kernel_rfl) (fun _ _ _ h => h) (Or.inl ⟨by rfl, fun W => by (go_simp <;> (repeat' split) <;> omega)⟩) ?_
  simp only [Act.put, List.setIfInBounds_toArray, List.set_cons_zero, List.set_cons_succ]
  refine wpK_ta (i := 8) (some 49) (v := .pointer (some ⟨W16.heap.size, 0, none⟩)) rfl rfl (by kernel_rfl) (fun _ _ _ h => h) (Or.inl ⟨by rfl, fun W => by go_simp⟩) ?_
  simp only [Act.put, List.setIfInBounds_toArray, List.set_cons_zero, List.set_cons_succ]
  refine wpK_store (i := 9) (none) rfl rfl (by kernel_rfl) (by rfl) (by rfl) (fun W94 hg95 => ⟨W94.setCell ⟨W16.heap.size, 0, none⟩ (.int .i64 (min a1 b1)), by have c := (R84.out.below (GC93.out.trans (Gr.un hg95))).cellx 0 _ rfl; have c2 := (R84.out.below (GC93.out.trans (Gr.un hg95))).softx 0 _ rfl; go_simp, ?_⟩)
  simp only [Act.put]
  refine wpK_done (by kernel_rfl) (fun V96 hv97 => ?_) _
  have R99 := Lib.hid (((R81.out.below (GC93.out.trans (Gr.un hg95))).far (b := W16.heap.size) (by omega) 0 [.int .i64 (min a1 b1)]).below hv97)
  have R100 := Lib.hid (((R82.out.below (GC93.out.trans (Gr.un hg95))).far (b := W16.heap.size) (by omega) 0 [.int .i64 (min a1 b1)]).below hv97)
  have R101 := Lib.hid (((R83.out.below (GC93.out.trans (Gr.un hg95))).far (b := W16.heap.size) (by omega) 0 [.int .i64 (min a1 b1)]).below hv97)
  have R102 := Lib.hid (((R85.out.below (GC93.out.trans (Gr.un hg95))).far (b := W16.heap.size) (by omega) 0 [.int .i64 (min a1 b1)]).below hv97)
  have R103 := Lib.hid (((R86.out.below (GC93.out.trans (Gr.un hg95))).far (b := W16.heap.size) (by omega) 0 [.int .i64 (min a1 b1)]).below hv97)
  have R104 := Lib.hid (((R87.out.below (GC93.out.trans (Gr.un hg95))).far (b := W16.heap.size) (by omega) 0 [.int .i64 (min a1 b1)]).below hv97)
  have R105 : Hid (Row W16.heap.size [.int .i64 (min a1 b1), .int .i64 a2, .int .i64 a3] V96) := Lib.hid (((R84.out.below (GC93.out.trans (Gr.un hg95))).set 0 (.int .i64 (min a1 b1)) (by simp)).below hv97)
  have G98 := Lib.hid (Gr.put1 G73.out (GC93.out.trans (Gr.un hg95)) (by omega) hv97)
  clear hg95 hv97
  go_upto_region 17 with fail
  refine wpK_region (by kernel_rfl) ?_
  refine wpK_ta (i := 0) (some 50) (v := .int .i64 0) rfl rfl (by kernel_rfl) (fun _ _ _ h => h) (Or.inl ⟨rfl, fun _ => rfl⟩) ?_
  simp only [Act.put, List.setIfInBounds_toArray, List.set_cons_zero, List.set_cons_succ]
  refine wpK_ta (i := 1) (some 51) (v := .int .i64 0) rfl rfl (by kernel_rfl) (fun _ _ _ h => h) (Or.inl ⟨rfl, fun _ => rfl⟩) ?_
  simp only [Act.put, List.setIfInBounds_toArray, List.set_cons_zero, List.set_cons_succ]
  refine wpK_ta (i := 2) (some 52) (v := .pointer (some ⟨W31.heap.size, 0, none⟩)) rfl rfl (by kernel_rfl) (fun _ _ _ h => h) (Or.inl ⟨by rfl, fun W => by go_simp⟩) ?_
  simp only [Act.put, List.setIfInBounds_toArray, List.set_cons_zero, List.set_cons_succ]
  refine wpK_tk (i := 3) (some 53) (v := .int .i64 a4) rfl rfl (by kernel_rfl) (fun _ _ _ h => h) (.val (by rfl) (fun W hg => by have c := (R102.out.below (Gr.un hg) 0 _ rfl).1; go_simp)) ?_
  simp only [Act.put, List.setIfInBounds_toArray, List.set_cons_zero, List.set_cons_succ]
  refine wpK_ta (i := 4) (some 54) (v := .int .i64 0) rfl rfl (by kernel_rfl) (fun _ _ _ h => h) (Or.inl ⟨rfl, fun _ => rfl⟩) ?_
  simp only [Act.put, List.setIfInBounds_toArray, List.set_cons_zero, List.set_cons_succ]
  refine wpK_ta (i := 5) (some 55) (v := .pointer (some ⟨W67.heap.size, 0, none⟩)) rfl rfl (by kernel_rfl) (fun _ _ _ h => h) (Or.inl ⟨by rfl, fun W => by go_simp⟩) ?_
  simp only [Act.put, List.setIfInBounds_toArray, List.set_cons_zero, List.set_cons_succ]
  refine wpK_tk (i := 6) (some 56) (v := .int .i64 b4) rfl rfl (by kernel_rfl) (fun _ _ _ h => h) (.val (by rfl) (fun W hg => by have c := (R104.out.below (Gr.un hg) 0 _ rfl).1; go_simp)) ?_
  simp only [Act.put, List.setIfInBounds_toArray, List.set_cons_zero, List.set_cons_succ]
  refine wpK_ta (i := 7) (some 57) (v := .int .i64 (max a4 b4)) rfl rfl (by kernel_rfl) (fun _ _ _ h => h) (Or.inl ⟨by rfl, fun W => by (go_simp <;> (repeat' split) <;> omega)⟩) ?_
  simp only [Act.put, List.setIfInBounds_toArray, List.set_cons_zero, List.set_cons_succ]
  refine wpK_ta (i := 8) (some 58) (v := .pointer (some ⟨W31.heap.size, 0, none⟩)) rfl rfl (by kernel_rfl) (fun _ _ _ h => h) (Or.inl ⟨by rfl, fun W => by go_simp⟩) ?_
  simp only [Act.put, List.setIfInBounds_toArray, List.set_cons_zero, List.set_cons_succ]
  refine wpK_store (i := 9) (none) rfl rfl (by kernel_rfl) (by rfl) (by rfl) (fun W106 hg107 => ⟨W106.setCell ⟨W31.heap.size, 0, none⟩ (.int .i64 (max a4 b4)), by have c := (R102.out.below (Gr.un hg107)).cellx 0 _ rfl; have c2 := (R102.out.below (Gr.un hg107)).softx 0 _ rfl; go_simp, ?_⟩)
  simp only [Act.put]
  refine wpK_done (by kernel_rfl) (fun V108 hv109 => ?_) _
  have R111 := Lib.hid (((R99.out.below (Gr.un hg107)).far (b := W31.heap.size) (by omega) 0 [.int .i64 (max a4 b4)]).below hv109)
  have R112 := Lib.hid (((R100.out.below (Gr.un hg107)).far (b := W31.heap.size) (by omega) 0 [.int .i64 (max a4 b4)]).below hv109)
  have R113 := Lib.hid (((R101.out.below (Gr.un hg107)).far (b := W31.heap.size) (by omega) 0 [.int .i64 (max a4 b4)]).below hv109)
  have R114 := Lib.hid (((R105.out.below (Gr.un hg107)).far (b := W31.heap.size) (by omega) 0 [.int .i64 (max a4 b4)]).below hv109)
  have R115 := Lib.hid (((R103.out.below (Gr.un hg107)).far (b := W31.heap.size) (by omega) 0 [.int .i64 (max a4 b4)]).below hv109)
  have R116 := Lib.hid (((R104.out.below (Gr.un hg107)).far (b := W31.heap.size) (by omega) 0 [.int .i64 (max a4 b4)]).below hv109)
  have R117 : Hid (Row W31.heap.size [.int .i64 (max a4 b4), .int .i64 a5, .int .i64 a6] V108) := Lib.hid (((R102.out.below (Gr.un hg107)).set 0 (.int .i64 (max a4 b4)) (by simp)).below hv109)
  have G110 := Lib.hid (Gr.put1 G98.out (Gr.un hg107) (by omega) hv109)
  clear hg107 hv109
  go_upto_region 15 with fail
  refine wpG_region ?_
  refine wpG_tk (some 39) (v := .int .i64 0) rfl (.val (by rfl) (fun _ _ => rfl)) ?_
  simp only [Act.put, List.setIfInBounds_toArray, List.set_cons_zero, List.set_cons_succ]
  refine wpG_tk (some 40) (v := .int .i64 1) rfl (.val (by rfl) (fun W hg => by go_simp <;> rfl)) ?_
  simp only [Act.put, List.setIfInBounds_toArray, List.set_cons_zero, List.set_cons_succ]
  refine wpG_tk (some 11) (v := .int .i64 1) rfl (.val (by rfl) (fun _ _ => rfl)) ?_
  simp only [Act.put, List.setIfInBounds_toArray, List.set_cons_zero, List.set_cons_succ]
  refine wpG_done (fun V118 hv119 => ?_)
  have GC120 := Lib.hid hv119
  clear hv119
  go_wp2_with fail
  rw [rounds_succ]
  go_upto_region 14 with fail
  refine wpG_region ?_
  refine wpG_tk (some 37) (v := .int .i64 1) rfl (.val (by rfl) (fun _ _ => rfl)) ?_
  simp only [Act.put, List.setIfInBounds_toArray, List.set_cons_zero, List.set_cons_succ]
  refine wpG_tk (some 38) (v := .bool true) rfl (.val (by rfl) (fun W hg => by go_simp)) ?_
  simp only [Act.put, List.setIfInBounds_toArray, List.set_cons_zero, List.set_cons_succ]
  refine wpG_done (fun V121 hv122 => ?_)
  have GC123 := Lib.hid (GC120.out.trans hv122)
  clear hv122
  go_upto_region 16 with fail
  refine wpK_region (by kernel_rfl) ?_
  refine wpK_ta (i := 0) (some 41) (v := .int .i64 1) rfl rfl (by kernel_rfl) (fun _ _ _ h => h) (Or.inl ⟨rfl, fun _ => rfl⟩) ?_
  simp only [Act.put, List.setIfInBounds_toArray, List.set_cons_zero, List.set_cons_succ]
  refine wpK_ta (i := 1) (some 42) (v := .int .i64 1) rfl rfl (by kernel_rfl) (fun _ _ _ h => h) (Or.inl ⟨rfl, fun _ => rfl⟩) ?_
  simp only [Act.put, List.setIfInBounds_toArray, List.set_cons_zero, List.set_cons_succ]
  refine wpK_ta (i := 2) (some 43) (v := .pointer (some ⟨W16.heap.size, 1, none⟩)) rfl rfl (by kernel_rfl) (fun _ _ _ h => h) (Or.inl ⟨by rfl, fun W => by go_simp⟩) ?_
  simp only [Act.put, List.setIfInBounds_toArray, List.set_cons_zero, List.set_cons_succ]
  refine wpK_tk (i := 3) (some 44) (v := .int .i64 a2) rfl rfl (by kernel_rfl) (fun _ _ _ h => h) (.val (by rfl) (fun W hg => by have c := (R114.out.below (GC123.out.trans (Gr.un hg)) 1 _ rfl).1; go_simp)) ?_
  simp only [Act.put, List.setIfInBounds_toArray, List.set_cons_zero, List.set_cons_succ]
  refine wpK_ta (i := 4) (some 45) (v := .int .i64 1) rfl rfl (by kernel_rfl) (fun _ _ _ h => h) (Or.inl ⟨rfl, fun _ => rfl⟩) ?_
  simp only [Act.put, List.setIfInBounds_toArray, List.set_cons_zero, List.set_cons_succ]
  refine wpK_ta (i := 5) (some 46) (v := .pointer (some ⟨W48.heap.size, 1, none⟩)) rfl rfl (by kernel_rfl) (fun _ _ _ h => h) (Or.inl ⟨by rfl, fun W => by go_simp⟩) ?_
  simp only [Act.put, List.setIfInBounds_toArray, List.set_cons_zero, List.set_cons_succ]
  refine wpK_tk (i := 6) (some 47) (v := .int .i64 b2) rfl rfl (by kernel_rfl) (fun _ _ _ h => h) (.val (by rfl) (fun W hg => by have c := (R115.out.below (GC123.out.trans (Gr.un hg)) 1 _ rfl).1; go_simp)) ?_
  simp only [Act.put, List.setIfInBounds_toArray, List.set_cons_zero, List.set_cons_succ]
  refine wpK_ta (i := 7) (some 48) (v := .int .i64 (min a2 b2)) rfl rfl (by kernel_rfl) (fun _ _ _ h => h) (Or.inl ⟨by rfl, fun W => by (go_simp <;> (repeat' split) <;> omega)⟩) ?_
  simp only [Act.put, List.setIfInBounds_toArray, List.set_cons_zero, List.set_cons_succ]
  refine wpK_ta (i := 8) (some 49) (v := .pointer (some ⟨W16.heap.size, 1, none⟩)) rfl rfl (by kernel_rfl) (fun _ _ _ h => h) (Or.inl ⟨by rfl, fun W => by go_simp⟩) ?_
  simp only [Act.put, List.setIfInBounds_toArray, List.set_cons_zero, List.set_cons_succ]
  refine wpK_store (i := 9) (none) rfl rfl (by kernel_rfl) (by rfl) (by rfl) (fun W124 hg125 => ⟨W124.setCell ⟨W16.heap.size, 1, none⟩ (.int .i64 (min a2 b2)), by have c := (R114.out.below (GC123.out.trans (Gr.un hg125))).cellx 1 _ rfl; have c2 := (R114.out.below (GC123.out.trans (Gr.un hg125))).softx 1 _ rfl; go_simp, ?_⟩)
  simp only [Act.put]
  refine wpK_done (by kernel_rfl) (fun V126 hv127 => ?_) _
  have R129 := Lib.hid (((R111.out.below (GC123.out.trans (Gr.un hg125))).far (b := W16.heap.size) (by omega) 1 [.int .i64 (min a2 b2)]).below hv127)
  have R130 := Lib.hid (((R112.out.below (GC123.out.trans (Gr.un hg125))).far (b := W16.heap.size) (by omega) 1 [.int .i64 (min a2 b2)]).below hv127)
  have R131 := Lib.hid (((R113.out.below (GC123.out.trans (Gr.un hg125))).far (b := W16.heap.size) (by omega) 1 [.int .i64 (min a2 b2)]).below hv127)
  have R132 := Lib.hid (((R117.out.below (GC123.out.trans (Gr.un hg125))).far (b := W16.heap.size) (by omega) 1 [.int .i64 (min a2 b2)]).below hv127)
  have R133 := Lib.hid (((R115.out.below (GC123.out.trans (Gr.un hg125))).far (b := W16.heap.size) (by omega) 1 [.int .i64 (min a2 b2)]).below hv127)
  have R134 := Lib.hid (((R116.out.below (GC123.out.trans (Gr.un hg125))).far (b := W16.heap.size) (by omega) 1 [.int .i64 (min a2 b2)]).below hv127)
  have R135 : Hid (Row W16.heap.size [.int .i64 (min a1 b1), .int .i64 (min a2 b2), .int .i64 a3] V126) := Lib.hid (((R114.out.below (GC123.out.trans (Gr.un hg125))).set 1 (.int .i64 (min a2 b2)) (by simp)).below hv127)
  have G128 := Lib.hid (Gr.put1 G110.out (GC123.out.trans (Gr.un hg125)) (by omega) hv127)
  clear hg125 hv127
  go_upto_region 17 with fail
  refine wpK_region (by kernel_rfl) ?_
  refine wpK_ta (i := 0) (some 50) (v := .int .i64 1) rfl rfl (by kernel_rfl) (fun _ _ _ h => h) (Or.inl ⟨rfl, fun _ => rfl⟩) ?_
  simp only [Act.put, List.setIfInBounds_toArray, List.set_cons_zero, List.set_cons_succ]
  refine wpK_ta (i := 1) (some 51) (v := .int .i64 1) rfl rfl (by kernel_rfl) (fun _ _ _ h => h) (Or.inl ⟨rfl, fun _ => rfl⟩) ?_
  simp only [Act.put, List.setIfInBounds_toArray, List.set_cons_zero, List.set_cons_succ]
  refine wpK_ta (i := 2) (some 52) (v := .pointer (some ⟨W31.heap.size, 1, none⟩)) rfl rfl (by kernel_rfl) (fun _ _ _ h => h) (Or.inl ⟨by rfl, fun W => by go_simp⟩) ?_
  simp only [Act.put, List.setIfInBounds_toArray, List.set_cons_zero, List.set_cons_succ]
  refine wpK_tk (i := 3) (some 53) (v := .int .i64 a5) rfl rfl (by kernel_rfl) (fun _ _ _ h => h) (.val (by rfl) (fun W hg => by have c := (R132.out.below (Gr.un hg) 1 _ rfl).1; go_simp)) ?_
  simp only [Act.put, List.setIfInBounds_toArray, List.set_cons_zero, List.set_cons_succ]
  refine wpK_ta (i := 4) (some 54) (v := .int .i64 1) rfl rfl (by kernel_rfl) (fun _ _ _ h => h) (Or.inl ⟨rfl, fun _ => rfl⟩) ?_
  simp only [Act.put, List.setIfInBounds_toArray, List.set_cons_zero, List.set_cons_succ]
  refine wpK_ta (i := 5) (some 55) (v := .pointer (some ⟨W67.heap.size, 1, none⟩)) rfl rfl (by kernel_rfl) (fun _ _ _ h => h) (Or.inl ⟨by rfl, fun W => by go_simp⟩) ?_
  simp only [Act.put, List.setIfInBounds_toArray, List.set_cons_zero, List.set_cons_succ]
  refine wpK_tk (i := 6) (some 56) (v := .int .i64 b5) rfl rfl (by kernel_rfl) (fun _ _ _ h => h) (.val (by rfl) (fun W hg => by have c := (R134.out.below (Gr.un hg) 1 _ rfl).1; go_simp)) ?_
  simp only [Act.put, List.setIfInBounds_toArray, List.set_cons_zero, List.set_cons_succ]
  refine wpK_ta (i := 7) (some 57) (v := .int .i64 (max a5 b5)) rfl rfl (by kernel_rfl) (fun _ _ _ h => h) (Or.inl ⟨by rfl, fun W => by (go_simp <;> (repeat' split) <;> omega)⟩) ?_
  simp only [Act.put, List.setIfInBounds_toArray, List.set_cons_zero, List.set_cons_succ]
  refine wpK_ta (i := 8) (some 58) (v := .pointer (some ⟨W31.heap.size, 1, none⟩)) rfl rfl (by kernel_rfl) (fun _ _ _ h => h) (Or.inl ⟨by rfl, fun W => by go_simp⟩) ?_
  simp only [Act.put, List.setIfInBounds_toArray, List.set_cons_zero, List.set_cons_succ]
  refine wpK_store (i := 9) (none) rfl rfl (by kernel_rfl) (by rfl) (by rfl) (fun W136 hg137 => ⟨W136.setCell ⟨W31.heap.size, 1, none⟩ (.int .i64 (max a5 b5)), by have c := (R132.out.below (Gr.un hg137)).cellx 1 _ rfl; have c2 := (R132.out.below (Gr.un hg137)).softx 1 _ rfl; go_simp, ?_⟩)
  simp only [Act.put]
  refine wpK_done (by kernel_rfl) (fun V138 hv139 => ?_) _
  have R141 := Lib.hid (((R129.out.below (Gr.un hg137)).far (b := W31.heap.size) (by omega) 1 [.int .i64 (max a5 b5)]).below hv139)
  have R142 := Lib.hid (((R130.out.below (Gr.un hg137)).far (b := W31.heap.size) (by omega) 1 [.int .i64 (max a5 b5)]).below hv139)
  have R143 := Lib.hid (((R131.out.below (Gr.un hg137)).far (b := W31.heap.size) (by omega) 1 [.int .i64 (max a5 b5)]).below hv139)
  have R144 := Lib.hid (((R135.out.below (Gr.un hg137)).far (b := W31.heap.size) (by omega) 1 [.int .i64 (max a5 b5)]).below hv139)
  have R145 := Lib.hid (((R133.out.below (Gr.un hg137)).far (b := W31.heap.size) (by omega) 1 [.int .i64 (max a5 b5)]).below hv139)
  have R146 := Lib.hid (((R134.out.below (Gr.un hg137)).far (b := W31.heap.size) (by omega) 1 [.int .i64 (max a5 b5)]).below hv139)
  have R147 : Hid (Row W31.heap.size [.int .i64 (max a4 b4), .int .i64 (max a5 b5), .int .i64 a6] V138) := Lib.hid (((R132.out.below (Gr.un hg137)).set 1 (.int .i64 (max a5 b5)) (by simp)).below hv139)
  have G140 := Lib.hid (Gr.put1 G128.out (Gr.un hg137) (by omega) hv139)
  clear hg137 hv139
  go_upto_region 15 with fail
  refine wpG_region ?_
  refine wpG_tk (some 39) (v := .int .i64 1) rfl (.val (by rfl) (fun _ _ => rfl)) ?_
  simp only [Act.put, List.setIfInBounds_toArray, List.set_cons_zero, List.set_cons_succ]
  refine wpG_tk (some 40) (v := .int .i64 2) rfl (.val (by rfl) (fun W hg => by go_simp <;> rfl)) ?_
  simp only [Act.put, List.setIfInBounds_toArray, List.set_cons_zero, List.set_cons_succ]
  refine wpG_tk (some 11) (v := .int .i64 2) rfl (.val (by rfl) (fun _ _ => rfl)) ?_
  simp only [Act.put, List.setIfInBounds_toArray, List.set_cons_zero, List.set_cons_succ]
  refine wpG_done (fun V148 hv149 => ?_)
  have GC150 := Lib.hid hv149
  clear hv149
  go_wp2_with fail
  rw [rounds_succ]
  go_upto_region 14 with fail
  refine wpG_region ?_
  refine wpG_tk (some 37) (v := .int .i64 2) rfl (.val (by rfl) (fun _ _ => rfl)) ?_
  simp only [Act.put, List.setIfInBounds_toArray, List.set_cons_zero, List.set_cons_succ]
  refine wpG_tk (some 38) (v := .bool true) rfl (.val (by rfl) (fun W hg => by go_simp)) ?_
  simp only [Act.put, List.setIfInBounds_toArray, List.set_cons_zero, List.set_cons_succ]
  refine wpG_done (fun V151 hv152 => ?_)
  have GC153 := Lib.hid (GC150.out.trans hv152)
  clear hv152
  go_upto_region 16 with fail
  refine wpK_region (by kernel_rfl) ?_
  refine wpK_ta (i := 0) (some 41) (v := .int .i64 2) rfl rfl (by kernel_rfl) (fun _ _ _ h => h) (Or.inl ⟨rfl, fun _ => rfl⟩) ?_
  simp only [Act.put, List.setIfInBounds_toArray, List.set_cons_zero, List.set_cons_succ]
  refine wpK_ta (i := 1) (some 42) (v := .int .i64 2) rfl rfl (by kernel_rfl) (fun _ _ _ h => h) (Or.inl ⟨rfl, fun _ => rfl⟩) ?_
  simp only [Act.put, List.setIfInBounds_toArray, List.set_cons_zero, List.set_cons_succ]
  refine wpK_ta (i := 2) (some 43) (v := .pointer (some ⟨W16.heap.size, 2, none⟩)) rfl rfl (by kernel_rfl) (fun _ _ _ h => h) (Or.inl ⟨by rfl, fun W => by go_simp⟩) ?_
  simp only [Act.put, List.setIfInBounds_toArray, List.set_cons_zero, List.set_cons_succ]
  refine wpK_tk (i := 3) (some 44) (v := .int .i64 a3) rfl rfl (by kernel_rfl) (fun _ _ _ h => h) (.val (by rfl) (fun W hg => by have c := (R144.out.below (GC153.out.trans (Gr.un hg)) 2 _ rfl).1; go_simp)) ?_
  simp only [Act.put, List.setIfInBounds_toArray, List.set_cons_zero, List.set_cons_succ]
  refine wpK_ta (i := 4) (some 45) (v := .int .i64 2) rfl rfl (by kernel_rfl) (fun _ _ _ h => h) (Or.inl ⟨rfl, fun _ => rfl⟩) ?_
  simp only [Act.put, List.setIfInBounds_toArray, List.set_cons_zero, List.set_cons_succ]
  refine wpK_ta (i := 5) (some 46) (v := .pointer (some ⟨W48.heap.size, 2, none⟩)) rfl rfl (by kernel_rfl) (fun _ _ _ h => h) (Or.inl ⟨by rfl, fun W => by go_simp⟩) ?_
  simp only [Act.put, List.setIfInBounds_toArray, List.set_cons_zero, List.set_cons_succ]
  refine wpK_tk (i := 6) (some 47) (v := .int .i64 b3) rfl rfl (by kernel_rfl) (fun _ _ _ h => h) (.val (by rfl) (fun W hg => by have c := (R145.out.below (GC153.out.trans (Gr.un hg)) 2 _ rfl).1; go_simp)) ?_
  simp only [Act.put, List.setIfInBounds_toArray, List.set_cons_zero, List.set_cons_succ]
  refine wpK_ta (i := 7) (some 48) (v := .int .i64 (min a3 b3)) rfl rfl (by kernel_rfl) (fun _ _ _ h => h) (Or.inl ⟨by rfl, fun W => by (go_simp <;> (repeat' split) <;> omega)⟩) ?_
  simp only [Act.put, List.setIfInBounds_toArray, List.set_cons_zero, List.set_cons_succ]
  refine wpK_ta (i := 8) (some 49) (v := .pointer (some ⟨W16.heap.size, 2, none⟩)) rfl rfl (by kernel_rfl) (fun _ _ _ h => h) (Or.inl ⟨by rfl, fun W => by go_simp⟩) ?_
  simp only [Act.put, List.setIfInBounds_toArray, List.set_cons_zero, List.set_cons_succ]
  refine wpK_store (i := 9) (none) rfl rfl (by kernel_rfl) (by rfl) (by rfl) (fun W154 hg155 => ⟨W154.setCell ⟨W16.heap.size, 2, none⟩ (.int .i64 (min a3 b3)), by have c := (R144.out.below (GC153.out.trans (Gr.un hg155))).cellx 2 _ rfl; have c2 := (R144.out.below (GC153.out.trans (Gr.un hg155))).softx 2 _ rfl; go_simp, ?_⟩)
  simp only [Act.put]
  refine wpK_done (by kernel_rfl) (fun V156 hv157 => ?_) _
  have R159 := Lib.hid (((R141.out.below (GC153.out.trans (Gr.un hg155))).far (b := W16.heap.size) (by omega) 2 [.int .i64 (min a3 b3)]).below hv157)
  have R160 := Lib.hid (((R142.out.below (GC153.out.trans (Gr.un hg155))).far (b := W16.heap.size) (by omega) 2 [.int .i64 (min a3 b3)]).below hv157)
  have R161 := Lib.hid (((R143.out.below (GC153.out.trans (Gr.un hg155))).far (b := W16.heap.size) (by omega) 2 [.int .i64 (min a3 b3)]).below hv157)
  have R162 := Lib.hid (((R147.out.below (GC153.out.trans (Gr.un hg155))).far (b := W16.heap.size) (by omega) 2 [.int .i64 (min a3 b3)]).below hv157)
  have R163 := Lib.hid (((R145.out.below (GC153.out.trans (Gr.un hg155))).far (b := W16.heap.size) (by omega) 2 [.int .i64 (min a3 b3)]).below hv157)
  have R164 := Lib.hid (((R146.out.below (GC153.out.trans (Gr.un hg155))).far (b := W16.heap.size) (by omega) 2 [.int .i64 (min a3 b3)]).below hv157)
  have R165 : Hid (Row W16.heap.size [.int .i64 (min a1 b1), .int .i64 (min a2 b2), .int .i64 (min a3 b3)] V156) := Lib.hid (((R144.out.below (GC153.out.trans (Gr.un hg155))).set 2 (.int .i64 (min a3 b3)) (by simp)).below hv157)
  have G158 := Lib.hid (Gr.put1 G140.out (GC153.out.trans (Gr.un hg155)) (by omega) hv157)
  clear hg155 hv157
  go_upto_region 17 with fail
  refine wpK_region (by kernel_rfl) ?_
  refine wpK_ta (i := 0) (some 50) (v := .int .i64 2) rfl rfl (by kernel_rfl) (fun _ _ _ h => h) (Or.inl ⟨rfl, fun _ => rfl⟩) ?_
  simp only [Act.put, List.setIfInBounds_toArray, List.set_cons_zero, List.set_cons_succ]
  refine wpK_ta (i := 1) (some 51) (v := .int .i64 2) rfl rfl (by kernel_rfl) (fun _ _ _ h => h) (Or.inl ⟨rfl, fun _ => rfl⟩) ?_
  simp only [Act.put, List.setIfInBounds_toArray, List.set_cons_zero, List.set_cons_succ]
  refine wpK_ta (i := 2) (some 52) (v := .pointer (some ⟨W31.heap.size, 2, none⟩)) rfl rfl (by kernel_rfl) (fun _ _ _ h => h) (Or.inl ⟨by rfl, fun W => by go_simp⟩) ?_
  simp only [Act.put, List.setIfInBounds_toArray, List.set_cons_zero, List.set_cons_succ]
  refine wpK_tk (i := 3) (some 53) (v := .int .i64 a6) rfl rfl (by kernel_rfl) (fun _ _ _ h => h) (.val (by rfl) (fun W hg => by have c := (R162.out.below (Gr.un hg) 2 _ rfl).1; go_simp)) ?_
  simp only [Act.put, List.setIfInBounds_toArray, List.set_cons_zero, List.set_cons_succ]
  refine wpK_ta (i := 4) (some 54) (v := .int .i64 2) rfl rfl (by kernel_rfl) (fun _ _ _ h => h) (Or.inl ⟨rfl, fun _ => rfl⟩) ?_
  simp only [Act.put, List.setIfInBounds_toArray, List.set_cons_zero, List.set_cons_succ]
  refine wpK_ta (i := 5) (some 55) (v := .pointer (some ⟨W67.heap.size, 2, none⟩)) rfl rfl (by kernel_rfl) (fun _ _ _ h => h) (Or.inl ⟨by rfl, fun W => by go_simp⟩) ?_
  simp only [Act.put, List.setIfInBounds_toArray, List.set_cons_zero, List.set_cons_succ]
  refine wpK_tk (i := 6) (some 56) (v := .int .i64 b6) rfl rfl (by kernel_rfl) (fun _ _ _ h => h) (.val (by rfl) (fun W hg => by have c := (R164.out.below (Gr.un hg) 2 _ rfl).1; go_simp)) ?_
  simp only [Act.put, List.setIfInBounds_toArray, List.set_cons_zero, List.set_cons_succ]
  refine wpK_ta (i := 7) (some 57) (v := .int .i64 (max a6 b6)) rfl rfl (by kernel_rfl) (fun _ _ _ h => h) (Or.inl ⟨by rfl, fun W => by (go_simp <;> (repeat' split) <;> omega)⟩) ?_
  simp only [Act.put, List.setIfInBounds_toArray, List.set_cons_zero, List.set_cons_succ]
  refine wpK_ta (i := 8) (some 58) (v := .pointer (some ⟨W31.heap.size, 2, none⟩)) rfl rfl (by kernel_rfl) (fun _ _ _ h => h) (Or.inl ⟨by rfl, fun W => by go_simp⟩) ?_
  simp only [Act.put, List.setIfInBounds_toArray, List.set_cons_zero, List.set_cons_succ]
  refine wpK_store (i := 9) (none) rfl rfl (by kernel_rfl) (by rfl) (by rfl) (fun W166 hg167 => ⟨W166.setCell ⟨W31.heap.size, 2, none⟩ (.int .i64 (max a6 b6)), by have c := (R162.out.below (Gr.un hg167)).cellx 2 _ rfl; have c2 := (R162.out.below (Gr.un hg167)).softx 2 _ rfl; go_simp, ?_⟩)
  simp only [Act.put]
  refine wpK_done (by kernel_rfl) (fun V168 hv169 => ?_) _
  have R171 := Lib.hid (((R159.out.below (Gr.un hg167)).far (b := W31.heap.size) (by omega) 2 [.int .i64 (max a6 b6)]).below hv169)
  have R172 := Lib.hid (((R160.out.below (Gr.un hg167)).far (b := W31.heap.size) (by omega) 2 [.int .i64 (max a6 b6)]).below hv169)
  have R173 := Lib.hid (((R161.out.below (Gr.un hg167)).far (b := W31.heap.size) (by omega) 2 [.int .i64 (max a6 b6)]).below hv169)
  have R174 := Lib.hid (((R165.out.below (Gr.un hg167)).far (b := W31.heap.size) (by omega) 2 [.int .i64 (max a6 b6)]).below hv169)
  have R175 := Lib.hid (((R163.out.below (Gr.un hg167)).far (b := W31.heap.size) (by omega) 2 [.int .i64 (max a6 b6)]).below hv169)
  have R176 := Lib.hid (((R164.out.below (Gr.un hg167)).far (b := W31.heap.size) (by omega) 2 [.int .i64 (max a6 b6)]).below hv169)
  have R177 : Hid (Row W31.heap.size [.int .i64 (max a4 b4), .int .i64 (max a5 b5), .int .i64 (max a6 b6)] V168) := Lib.hid (((R162.out.below (Gr.un hg167)).set 2 (.int .i64 (max a6 b6)) (by simp)).below hv169)
  have G170 := Lib.hid (Gr.put1 G158.out (Gr.un hg167) (by omega) hv169)
  clear hg167 hv169
  go_upto_region 15 with fail
  refine wpG_region ?_
  refine wpG_tk (some 39) (v := .int .i64 2) rfl (.val (by rfl) (fun _ _ => rfl)) ?_
  simp only [Act.put, List.setIfInBounds_toArray, List.set_cons_zero, List.set_cons_succ]
  refine wpG_tk (some 40) (v := .int .i64 3) rfl (.val (by rfl) (fun W hg => by go_simp <;> rfl)) ?_
  simp only [Act.put, List.setIfInBounds_toArray, List.set_cons_zero, List.set_cons_succ]
  refine wpG_tk (some 11) (v := .int .i64 3) rfl (.val (by rfl) (fun _ _ => rfl)) ?_
  simp only [Act.put, List.setIfInBounds_toArray, List.set_cons_zero, List.set_cons_succ]
  refine wpG_done (fun V178 hv179 => ?_)
  have GC180 := Lib.hid hv179
  clear hv179
  go_wp2_with fail
  rw [rounds_succ]
  go_upto_region 14 with fail
  refine wpG_region ?_
  refine wpG_tk (some 37) (v := .int .i64 3) rfl (.val (by rfl) (fun _ _ => rfl)) ?_
  simp only [Act.put, List.setIfInBounds_toArray, List.set_cons_zero, List.set_cons_succ]
  refine wpG_tk (some 38) (v := .bool false) rfl (.val (by rfl) (fun W hg => by go_simp)) ?_
  simp only [Act.put, List.setIfInBounds_toArray, List.set_cons_zero, List.set_cons_succ]
  refine wpG_done (fun V181 hv182 => ?_)
  have GC183 := Lib.hid (GC180.out.trans hv182)
  clear hv182
  go_upto_region 18 with fail
  refine wpK_region (by kernel_rfl) ?_
  refine wpK_tk (i := 0) (some 59) (v := .agg #[.int .i64 (min a1 b1), .int .i64 (min a2 b2), .int .i64 (min a3 b3)]) rfl rfl (by kernel_rfl) (fun _ _ _ h => h) (.load_mid (by rfl) 64 (.tmp 7) rfl (W16.heap.size) 0 rfl [.int .i64 (min a1 b1), .int .i64 (min a2 b2), .int .i64 (min a3 b3)] _ (fun W hg => (R174.out.below (GC183.out.trans (Gr.un hg))).range) Tryd.underlying64 rfl (by kernel_rfl)) ?_
  simp only [Act.put, List.setIfInBounds_toArray, List.set_cons_zero, List.set_cons_succ]
  refine wpK_tk (i := 1) (some 60) (v := .agg #[.int .i64 (min a1 b1), .int .i64 (min a2 b2), .int .i64 (min a3 b3)]) rfl rfl (by kernel_rfl) (fun _ _ _ h => h) (.call (f := 73) (args := #[.agg #[.int .i64 (min a1 b1), .int .i64 (min a2 b2), .int .i64 (min a3 b3)]]) (by rfl) (fun W => by go_simp) (fun W hg => rof_any (min a1 b1) (min a2 b2) (min a3 b3) W)) ?_
  simp only [Act.put, List.setIfInBounds_toArray, List.set_cons_zero, List.set_cons_succ]
  refine wpK_tk (i := 2) (some 61) (v := .agg #[.int .i64 (max a4 b4), .int .i64 (max a5 b5), .int .i64 (max a6 b6)]) rfl rfl (by kernel_rfl) (fun _ _ _ h => h) (.load_mid (by rfl) 64 (.tmp 8) rfl (W31.heap.size) 0 rfl [.int .i64 (max a4 b4), .int .i64 (max a5 b5), .int .i64 (max a6 b6)] _ (fun W hg => (R177.out.below (GC183.out.trans (Gr.un hg))).range) Tryd.underlying64 rfl (by kernel_rfl)) ?_
  simp only [Act.put, List.setIfInBounds_toArray, List.set_cons_zero, List.set_cons_succ]
  refine wpK_tk (i := 3) (some 62) (v := .agg #[.int .i64 (max a4 b4), .int .i64 (max a5 b5), .int .i64 (max a6 b6)]) rfl rfl (by kernel_rfl) (fun _ _ _ h => h) (.call (f := 73) (args := #[.agg #[.int .i64 (max a4 b4), .int .i64 (max a5 b5), .int .i64 (max a6 b6)]]) (by rfl) (fun W => by go_simp) (fun W hg => rof_any (max a4 b4) (max a5 b5) (max a6 b6) W)) ?_
  simp only [Act.put, List.setIfInBounds_toArray, List.set_cons_zero, List.set_cons_succ]
  refine wpK_ta (i := 4) (some 63) (v := .agg #[.int .i64 (min a1 b1), .int .i64 (min a2 b2), .int .i64 (min a3 b3), .int .i64 (max a4 b4), .int .i64 (max a5 b5), .int .i64 (max a6 b6)]) rfl rfl (by kernel_rfl) (fun _ _ _ h => h) (Or.inl ⟨by rfl, fun W => by go_simp⟩) ?_
  simp only [Act.put, List.setIfInBounds_toArray, List.set_cons_zero, List.set_cons_succ]
  refine wpK_store (i := 5) (none) rfl rfl (by kernel_rfl) (by rfl) (by rfl) (fun W184 hg185 => ⟨_, run_store_mid 31 (.tmp 4) (.tmp 63) rfl (w.heap.size + 1 + 1) 0 #[.int .i64 (min a1 b1), .int .i64 (min a2 b2), .int .i64 (min a3 b3), .int .i64 (max a4 b4), .int .i64 (max a5 b5), .int .i64 (max a6 b6)] rfl rfl (((R173.out.below (GC183.out.trans (Gr.un hg185))).there 0 6 (by decide))) (by kernel_rfl) (by kernel_rfl), ?_⟩)
  simp only [Act.put]
  refine wpK_done (by kernel_rfl) (fun V186 hv187 => ?_) _
  have R189 := Lib.hid (Row.put (ds := [.int .i64 (min a1 b1), .int .i64 (min a2 b2), .int .i64 (min a3 b3), .int .i64 (max a4 b4), .int .i64 (max a5 b5), .int .i64 (max a6 b6)]) R173.out (GC183.out.trans (Gr.un hg185)) rfl hv187)
  have G188 := Lib.hid (Gr.put G170.out (GC183.out.trans (Gr.un hg185)) (by omega) hv187)
  go_wp2_with fail
  refine bodyPost_ret (results_cell_mid rfl _ _ _ (w.heap.size + 1 + 1) 0 [.int .i64 (min a1 b1), .int .i64 (min a2 b2), .int .i64 (min a3 b3), .int .i64 (max a4 b4), .int .i64 (max a5 b5), .int .i64 (max a6 b6)] _ rfl R189.out.range Tryd.underlying31 rfl (by kernel_rfl)) rfl ?_
  exact ⟨rfl, G188.out⟩

end Go.Proofs.YthadlgjobjnhcaaDoor
