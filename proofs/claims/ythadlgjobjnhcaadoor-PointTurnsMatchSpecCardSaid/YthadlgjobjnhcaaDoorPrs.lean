/-
  Contracts of the specification: turned boxes.
-/
import Derived.Test.YthadlgjobjnhcaaDoorPrr
import Derived.Test.YthadlgjobjnhcaaDoorPrd
import Derived.Test.YthadlgjobjnhcaaDoorPm7
import Derived.Handy
namespace Go.Proofs.YthadlgjobjnhcaaDoor
open Go.RowKit
set_option linter.unusedVariables false
set_option maxRecDepth 1000000 in
theorem rturnbox_out (s a1 a2 a3 a4 a5 a6 : Int) (w : World) (h : decide (0 ≤ s ∧ s < 48) = false) :
    Calls Tryd.prog 52 #[.int .i64 s, .agg #[.int .i64 a1, .int .i64 a2, .int .i64 a3, .int .i64 a4, .int .i64 a5, .int .i64 a6]] w fun e w' => e = .returned (.agg #[.int .i64 a1, .int .i64 a2, .int .i64 a3, .int .i64 a4, .int .i64 a5, .int .i64 a6]) ∧ Below w.heap.size w w' := by
  have HS := Lib.hid h
  clear h
  obtain ⟨u, hu, r0, r1, g0⟩ := rows2 w [.int .i64 a1, .int .i64 a2, .int .i64 a3, .int .i64 a4, .int .i64 a5, .int .i64 a6] 31 [.int .i64 0, .int .i64 0, .int .i64 0, .int .i64 0, .int .i64 0, .int .i64 0] 31
  have R0 := Lib.hid r0
  have R1 := Lib.hid r1
  have G0 := Lib.hid g0
  have HU := Lib.hid hu
  clear hu g0 r0 r1
  go_enter Tryd.func52, Tryd.ntmps52
  go_upto_region 1 with fail
  rw [← HU.out]
  refine wpG_region ?_
  refine wpG_tk (some 10) (v := .int .i64 s) rfl (.val (by rfl) (fun _ _ => rfl)) ?_
  simp only [Act.put, List.setIfInBounds_toArray, List.set_cons_zero, List.set_cons_succ]
  refine wpG_tk (some 11) (v := .bool false) rfl (.call (f := 81) (args := #[.int .i64 s]) (by rfl) (fun W => by go_simp) (fun W hg => is_is s false W HS.out)) ?_
  simp only [Act.put, List.setIfInBounds_toArray, List.set_cons_zero, List.set_cons_succ]
  refine wpG_tk (some 5) (v := .bool false) rfl (.val (by rfl) (fun _ _ => rfl)) ?_
  simp only [Act.put, List.setIfInBounds_toArray, List.set_cons_zero, List.set_cons_succ]
  refine wpG_done (fun V1 hv2 => ?_)
  have GC3 := Lib.hid hv2
  clear hv2
  go_upto_region 2 with fail
  refine wpG_region ?_
  refine wpG_tk (some 12) (v := .bool false) rfl (.val (by rfl) (fun _ _ => rfl)) ?_
  simp only [Act.put, List.setIfInBounds_toArray, List.set_cons_zero, List.set_cons_succ]
  refine wpG_tk (some 13) (v := .bool true) rfl (.val (by rfl) (fun W hg => by go_simp)) ?_
  simp only [Act.put, List.setIfInBounds_toArray, List.set_cons_zero, List.set_cons_succ]
  refine wpG_done (fun V4 hv5 => ?_)
  have GC6 := Lib.hid (GC3.out.trans hv5)
  clear hv5
  go_upto_region 3 with fail
  refine wpG_region ?_
  refine wpG_tk (some 14) (v := .agg #[.int .i64 a1, .int .i64 a2, .int .i64 a3, .int .i64 a4, .int .i64 a5, .int .i64 a6]) rfl (.load_mid (by rfl) 31 (.tmp 3) rfl (w.heap.size) 0 rfl [.int .i64 a1, .int .i64 a2, .int .i64 a3, .int .i64 a4, .int .i64 a5, .int .i64 a6] _ (fun W hg => (R0.out.below (GC6.out.trans hg)).range) Tryd.underlying31 rfl (by kernel_rfl)) ?_
  simp only [Act.put, List.setIfInBounds_toArray, List.set_cons_zero, List.set_cons_succ]
  refine wpG_store (none) rfl (by rfl) (fun W7 hg8 => ⟨_, run_store_mid 31 (.tmp 4) (.tmp 14) rfl (w.heap.size + 1) 0 #[.int .i64 a1, .int .i64 a2, .int .i64 a3, .int .i64 a4, .int .i64 a5, .int .i64 a6] rfl rfl (((R1.out.below (GC6.out.trans hg8)).there 0 6 (by decide))) (by kernel_rfl) (by kernel_rfl), ?_⟩)
  simp only [Act.put]
  refine wpG_done (fun V9 hv10 => ?_)
  have R12 := Lib.hid (Row.put (ds := [.int .i64 a1, .int .i64 a2, .int .i64 a3, .int .i64 a4, .int .i64 a5, .int .i64 a6]) R1.out (GC6.out.trans hg8) rfl hv10)
  have G11 := Lib.hid (Gr.put G0.out (GC6.out.trans hg8) (by omega) hv10)
  go_wp2_with fail
  refine bodyPost_ret (results_cell_mid rfl _ _ _ (w.heap.size + 1) 0 [.int .i64 a1, .int .i64 a2, .int .i64 a3, .int .i64 a4, .int .i64 a5, .int .i64 a6] _ rfl R12.out.range Tryd.underlying31 rfl (by kernel_rfl)) rfl ?_
  exact ⟨rfl, G11.out⟩
set_option maxRecDepth 1000000 in
theorem rturnbox_t (s : Nat) (a1 a2 a3 a4 a5 a6 : Int) (w : World) (hs : s < 48) (he : Pt.emp a1 a2 a3 a4 a5 a6 = true) :
    Calls Tryd.prog 52 #[.int .i64 (s : Int), .agg #[.int .i64 a1, .int .i64 a2, .int .i64 a3, .int .i64 a4, .int .i64 a5, .int .i64 a6]] w fun e w' => e = .returned (.agg #[.int .i64 0, .int .i64 0, .int .i64 0, .int .i64 0, .int .i64 0, .int .i64 0]) ∧ Below w.heap.size w w' := by
  have HE := Lib.hid he
  clear he
  have HS : Hid (decide (0 ≤ (s : Int) ∧ (s : Int) < 48) = true) := Lib.hid (decide_eq_true (by omega))
  obtain ⟨u, hu, r0, r1, g0⟩ := rows2 w [.int .i64 a1, .int .i64 a2, .int .i64 a3, .int .i64 a4, .int .i64 a5, .int .i64 a6] 31 [.int .i64 0, .int .i64 0, .int .i64 0, .int .i64 0, .int .i64 0, .int .i64 0] 31
  have R0 := Lib.hid r0
  have R1 := Lib.hid r1
  have G0 := Lib.hid g0
  have HU := Lib.hid hu
  clear hu g0 r0 r1
  go_enter Tryd.func52, Tryd.ntmps52
  go_upto_region 1 with fail
  rw [← HU.out]
  refine wpG_region ?_
  refine wpG_tk (some 10) (v := .int .i64 (s : Int)) rfl (.val (by rfl) (fun _ _ => rfl)) ?_
  simp only [Act.put, List.setIfInBounds_toArray, List.set_cons_zero, List.set_cons_succ]
  refine wpG_tk (some 11) (v := .bool true) rfl (.call (f := 81) (args := #[.int .i64 (s : Int)]) (by rfl) (fun W => by go_simp) (fun W hg => is_is (s : Int) true W HS.out)) ?_
  simp only [Act.put, List.setIfInBounds_toArray, List.set_cons_zero, List.set_cons_succ]
  refine wpG_tk (some 5) (v := .bool true) rfl (.val (by rfl) (fun _ _ => rfl)) ?_
  simp only [Act.put, List.setIfInBounds_toArray, List.set_cons_zero, List.set_cons_succ]
  refine wpG_done (fun V1 hv2 => ?_)
  have GC3 := Lib.hid hv2
  clear hv2
  go_upto_region 2 with fail
  refine wpG_region ?_
  refine wpG_tk (some 12) (v := .bool true) rfl (.val (by rfl) (fun _ _ => rfl)) ?_
  simp only [Act.put, List.setIfInBounds_toArray, List.set_cons_zero, List.set_cons_succ]
  refine wpG_tk (some 13) (v := .bool false) rfl (.val (by rfl) (fun W hg => by go_simp)) ?_
  simp only [Act.put, List.setIfInBounds_toArray, List.set_cons_zero, List.set_cons_succ]
  refine wpG_done (fun V4 hv5 => ?_)
  have GC6 := Lib.hid (GC3.out.trans hv5)
  clear hv5
  go_upto_region 4 with fail
  refine wpG_region ?_
  refine wpG_tk (some 15) (v := .agg #[.int .i64 a1, .int .i64 a2, .int .i64 a3, .int .i64 a4, .int .i64 a5, .int .i64 a6]) rfl (.load_mid (by rfl) 31 (.tmp 3) rfl (w.heap.size) 0 rfl [.int .i64 a1, .int .i64 a2, .int .i64 a3, .int .i64 a4, .int .i64 a5, .int .i64 a6] _ (fun W hg => (R0.out.below (GC6.out.trans hg)).range) Tryd.underlying31 rfl (by kernel_rfl)) ?_
  simp only [Act.put, List.setIfInBounds_toArray, List.set_cons_zero, List.set_cons_succ]
  refine wpG_tk (some 16) (v := .bool true) rfl (.call (f := 24) (args := #[.agg #[.int .i64 a1, .int .i64 a2, .int .i64 a3, .int .i64 a4, .int .i64 a5, .int .i64 a6]]) (by rfl) (fun W => by go_simp) (fun W hg => rempty_any a1 a2 a3 a4 a5 a6 true W HE.out)) ?_
  simp only [Act.put, List.setIfInBounds_toArray, List.set_cons_zero, List.set_cons_succ]
  refine wpG_tk (some 6) (v := .bool true) rfl (.val (by rfl) (fun _ _ => rfl)) ?_
  simp only [Act.put, List.setIfInBounds_toArray, List.set_cons_zero, List.set_cons_succ]
  refine wpG_done (fun V7 hv8 => ?_)
  have GC9 := Lib.hid (GC6.out.trans hv8)
  clear hv8
  go_upto_region 5 with fail
  refine wpG_region ?_
  refine wpG_tk (some 17) (v := .bool true) rfl (.val (by rfl) (fun _ _ => rfl)) ?_
  simp only [Act.put, List.setIfInBounds_toArray, List.set_cons_zero, List.set_cons_succ]
  refine wpG_done (fun V10 hv11 => ?_)
  have GC12 := Lib.hid (GC9.out.trans hv11)
  clear hv11
  go_upto_region 6 with fail
  refine wpG_region ?_
  refine wpG_tk (some 18) (v := .agg #[.int .i64 0, .int .i64 0, .int .i64 0, .int .i64 0, .int .i64 0, .int .i64 0]) rfl (.val (by rfl) (fun W hg => by go_simp)) ?_
  simp only [Act.put, List.setIfInBounds_toArray, List.set_cons_zero, List.set_cons_succ]
  refine wpG_store (none) rfl (by rfl) (fun W13 hg14 => ⟨_, run_store_mid 31 (.tmp 4) (.tmp 18) rfl (w.heap.size + 1) 0 #[.int .i64 0, .int .i64 0, .int .i64 0, .int .i64 0, .int .i64 0, .int .i64 0] rfl rfl (((R1.out.below (GC12.out.trans hg14)).there 0 6 (by decide))) (by kernel_rfl) (by kernel_rfl), ?_⟩)
  simp only [Act.put]
  refine wpG_done (fun V15 hv16 => ?_)
  have R18 := Lib.hid (Row.put (ds := [.int .i64 0, .int .i64 0, .int .i64 0, .int .i64 0, .int .i64 0, .int .i64 0]) R1.out (GC12.out.trans hg14) rfl hv16)
  have G17 := Lib.hid (Gr.put G0.out (GC12.out.trans hg14) (by omega) hv16)
  go_wp2_with fail
  refine bodyPost_ret (results_cell_mid rfl _ _ _ (w.heap.size + 1) 0 [.int .i64 0, .int .i64 0, .int .i64 0, .int .i64 0, .int .i64 0, .int .i64 0] _ rfl R18.out.range Tryd.underlying31 rfl (by kernel_rfl)) rfl ?_
  exact ⟨rfl, G17.out⟩
theorem box_lo {s : Nat} {a b c d e f : Int} (i : Nat) (hs : s < 48) (h : a < d ∧ b < e ∧ c < f) : min (Pt.tc 1 s i a b c) (Pt.tc 1 s i (d - 1) (e - 1) (f - 1)) = min (Pt.tc 0 s i a b c) (Pt.tc 0 s i d e f) := by
  have hp := Pt.pick_lt (s / 8) i h
  have hq : Pt.pick (Pt.axis (s / 8) i) (d - 1) (e - 1) (f - 1) = Pt.pick (Pt.axis (s / 8) i) d e f - 1 := by unfold Pt.pick; split <;> rfl
  unfold Pt.tc
  cases Pt.bit s i
  · simp only [cond_false]; omega
  · simp only [cond_true]; omega
theorem box_hi {s : Nat} {a b c d e f : Int} (i : Nat) (hs : s < 48) (h : a < d ∧ b < e ∧ c < f) : max (Pt.tc 1 s i a b c + 1) (Pt.tc 1 s i (d - 1) (e - 1) (f - 1) + 1) = max (Pt.tc 0 s i a b c) (Pt.tc 0 s i d e f) := by
  have hp := Pt.pick_lt (s / 8) i h
  have hq : Pt.pick (Pt.axis (s / 8) i) (d - 1) (e - 1) (f - 1) = Pt.pick (Pt.axis (s / 8) i) d e f - 1 := by unfold Pt.pick; split <;> rfl
  unfold Pt.tc
  cases Pt.bit s i
  · simp only [cond_false]; omega
  · simp only [cond_true]; omega
set_option maxRecDepth 1000000 in
set_option maxHeartbeats 4000000 in
theorem rturnbox_f (s : Nat) (a1 a2 a3 a4 a5 a6 : Int) (w : World) (hs : s < 48) (b : (-1048575 ≤ a1 ∧ a1 ≤ 1048575) ∧ (-1048575 ≤ a2 ∧ a2 ≤ 1048575) ∧ (-1048575 ≤ a3 ∧ a3 ≤ 1048575) ∧ (-1048575 ≤ a4 ∧ a4 ≤ 1048575) ∧ (-1048575 ≤ a5 ∧ a5 ≤ 1048575) ∧ (-1048575 ≤ a6 ∧ a6 ≤ 1048575)) (he : Pt.emp a1 a2 a3 a4 a5 a6 = false) :
    Calls Tryd.prog 52 #[.int .i64 (s : Int), .agg #[.int .i64 a1, .int .i64 a2, .int .i64 a3, .int .i64 a4, .int .i64 a5, .int .i64 a6]] w fun e w' => e = .returned (.agg #[.int .i64 (min (Pt.tc 0 s 0 a1 a2 a3) (Pt.tc 0 s 0 a4 a5 a6)), .int .i64 (min (Pt.tc 0 s 1 a1 a2 a3) (Pt.tc 0 s 1 a4 a5 a6)), .int .i64 (min (Pt.tc 0 s 2 a1 a2 a3) (Pt.tc 0 s 2 a4 a5 a6)), .int .i64 (max (Pt.tc 0 s 0 a1 a2 a3) (Pt.tc 0 s 0 a4 a5 a6)), .int .i64 (max (Pt.tc 0 s 1 a1 a2 a3) (Pt.tc 0 s 1 a4 a5 a6)), .int .i64 (max (Pt.tc 0 s 2 a1 a2 a3) (Pt.tc 0 s 2 a4 a5 a6))]) ∧ Below w.heap.size w w' := by
  have hz := Pt.emp_false.1 he
  have HZ := Lib.hid hz
  have HE := Lib.hid he
  clear he
  have HS : Hid (decide (0 ≤ (s : Int) ∧ (s : Int) < 48) = true) := Lib.hid (decide_eq_true (by omega))
  have t0 := Pt.tc_bd (L := 1048576) (less := 1) (s := s) (i := 0) (x := a1) (y := a2) (z := a3) (by omega) (by omega)
  have v0 := Pt.tc_bd (L := 1048576) (less := 1) (s := s) (i := 0) (x := a4 - 1) (y := a5 - 1) (z := a6 - 1) (by omega) (by omega)
  have t1 := Pt.tc_bd (L := 1048576) (less := 1) (s := s) (i := 1) (x := a1) (y := a2) (z := a3) (by omega) (by omega)
  have v1 := Pt.tc_bd (L := 1048576) (less := 1) (s := s) (i := 1) (x := a4 - 1) (y := a5 - 1) (z := a6 - 1) (by omega) (by omega)
  have t2 := Pt.tc_bd (L := 1048576) (less := 1) (s := s) (i := 2) (x := a1) (y := a2) (z := a3) (by omega) (by omega)
  have v2 := Pt.tc_bd (L := 1048576) (less := 1) (s := s) (i := 2) (x := a4 - 1) (y := a5 - 1) (z := a6 - 1) (by omega) (by omega)
  obtain ⟨u, hu, r0, r1, g0⟩ := rows2 w [.int .i64 a1, .int .i64 a2, .int .i64 a3, .int .i64 a4, .int .i64 a5, .int .i64 a6] 31 [.int .i64 0, .int .i64 0, .int .i64 0, .int .i64 0, .int .i64 0, .int .i64 0] 31
  have R0 := Lib.hid r0
  have R1 := Lib.hid r1
  have G0 := Lib.hid g0
  have HU := Lib.hid hu
  clear hu g0 r0 r1
  go_enter Tryd.func52, Tryd.ntmps52
  go_upto_region 1 with fail
  rw [← HU.out]
  refine wpG_region ?_
  refine wpG_tk (some 10) (v := .int .i64 (s : Int)) rfl (.val (by rfl) (fun _ _ => rfl)) ?_
  simp only [Act.put, List.setIfInBounds_toArray, List.set_cons_zero, List.set_cons_succ]
  refine wpG_tk (some 11) (v := .bool true) rfl (.call (f := 81) (args := #[.int .i64 (s : Int)]) (by rfl) (fun W => by go_simp) (fun W hg => is_is (s : Int) true W HS.out)) ?_
  simp only [Act.put, List.setIfInBounds_toArray, List.set_cons_zero, List.set_cons_succ]
  refine wpG_tk (some 5) (v := .bool true) rfl (.val (by rfl) (fun _ _ => rfl)) ?_
  simp only [Act.put, List.setIfInBounds_toArray, List.set_cons_zero, List.set_cons_succ]
  refine wpG_done (fun V1 hv2 => ?_)
  have GC3 := Lib.hid hv2
  clear hv2
  go_upto_region 2 with fail
  refine wpG_region ?_
  refine wpG_tk (some 12) (v := .bool true) rfl (.val (by rfl) (fun _ _ => rfl)) ?_
  simp only [Act.put, List.setIfInBounds_toArray, List.set_cons_zero, List.set_cons_succ]
  refine wpG_tk (some 13) (v := .bool false) rfl (.val (by rfl) (fun W hg => by go_simp)) ?_
  simp only [Act.put, List.setIfInBounds_toArray, List.set_cons_zero, List.set_cons_succ]
  refine wpG_done (fun V4 hv5 => ?_)
  have GC6 := Lib.hid (GC3.out.trans hv5)
  clear hv5
  go_upto_region 4 with fail
  refine wpG_region ?_
  refine wpG_tk (some 15) (v := .agg #[.int .i64 a1, .int .i64 a2, .int .i64 a3, .int .i64 a4, .int .i64 a5, .int .i64 a6]) rfl (.load_mid (by rfl) 31 (.tmp 3) rfl (w.heap.size) 0 rfl [.int .i64 a1, .int .i64 a2, .int .i64 a3, .int .i64 a4, .int .i64 a5, .int .i64 a6] _ (fun W hg => (R0.out.below (GC6.out.trans hg)).range) Tryd.underlying31 rfl (by kernel_rfl)) ?_
  simp only [Act.put, List.setIfInBounds_toArray, List.set_cons_zero, List.set_cons_succ]
  refine wpG_tk (some 16) (v := .bool false) rfl (.call (f := 24) (args := #[.agg #[.int .i64 a1, .int .i64 a2, .int .i64 a3, .int .i64 a4, .int .i64 a5, .int .i64 a6]]) (by rfl) (fun W => by go_simp) (fun W hg => rempty_any a1 a2 a3 a4 a5 a6 false W HE.out)) ?_
  simp only [Act.put, List.setIfInBounds_toArray, List.set_cons_zero, List.set_cons_succ]
  refine wpG_tk (some 6) (v := .bool false) rfl (.val (by rfl) (fun _ _ => rfl)) ?_
  simp only [Act.put, List.setIfInBounds_toArray, List.set_cons_zero, List.set_cons_succ]
  refine wpG_done (fun V7 hv8 => ?_)
  have GC9 := Lib.hid (GC6.out.trans hv8)
  clear hv8
  go_upto_region 5 with fail
  refine wpG_region ?_
  refine wpG_tk (some 17) (v := .bool false) rfl (.val (by rfl) (fun _ _ => rfl)) ?_
  simp only [Act.put, List.setIfInBounds_toArray, List.set_cons_zero, List.set_cons_succ]
  refine wpG_done (fun V10 hv11 => ?_)
  have GC12 := Lib.hid (GC9.out.trans hv11)
  clear hv11
  go_upto_region 7 with fail
  refine wpG_region ?_
  refine wpG_tk (some 19) (v := .agg #[.int .i64 1, .int .i64 1, .int .i64 1]) rfl (.val (by rfl) (fun W hg => by go_simp)) ?_
  simp only [Act.put, List.setIfInBounds_toArray, List.set_cons_zero, List.set_cons_succ]
  refine wpG_val (some 7) rfl (by rfl) (fun W13 hg14 => ⟨.pointer (some ⟨W13.heap.size, 0, none⟩), W13.alloc (.cells #[.int .i64 0, .int .i64 0, .int .i64 0] 23), by (go_simp <;> rfl), ?_⟩)
  simp only [Act.put, List.setIfInBounds_toArray, List.set_cons_zero, List.set_cons_succ]
  refine wpG_store (none) rfl (by rfl) (fun W15 hg16 => ⟨_, run_store_mid 23 (.tmp 7) (.tmp 19) rfl (W13.heap.size) 0 #[.int .i64 1, .int .i64 1, .int .i64 1] rfl rfl (Row.room hg16 3 rfl) (by kernel_rfl) (by kernel_rfl), ?_⟩)
  simp only [Act.put]
  refine wpG_done (fun V17 hv18 => ?_)
  have l20 : w.heap.size < W13.heap.size := (R0.out.below (GC12.out.trans hg14)).lt
  have l21 : w.heap.size + 1 < W13.heap.size := (R1.out.below (GC12.out.trans hg14)).lt
  have l22 : w.heap.size ≤ W13.heap.size := (Gr.to G0.out (GC12.out.trans hg14)).size
  have R23 := Lib.hid ((R0.out.below (GC12.out.trans hg14)).past hg16 hv18)
  have R24 := Lib.hid ((R1.out.below (GC12.out.trans hg14)).past hg16 hv18)
  have R25 := Lib.hid (Row.made (zs := [.int .i64 0, .int .i64 0, .int .i64 0]) (ds := [.int .i64 1, .int .i64 1, .int .i64 1]) rfl hg16 hv18)
  have G19 := Lib.hid (Gr.to (Gr.to G0.out (GC12.out.trans hg14)) (Gr.past hg16 hv18))
  clear hg16 hv18 
  go_upto_region 8 with fail
  refine wpG_region ?_
  refine wpG_tk (some 20) (v := .int .i64 (s : Int)) rfl (.val (by rfl) (fun _ _ => rfl)) ?_
  simp only [Act.put, List.setIfInBounds_toArray, List.set_cons_zero, List.set_cons_succ]
  refine wpG_tk (some 21) (v := .pointer (some ⟨w.heap.size, 0, none⟩)) rfl (.val (by rfl) (fun W hg => by go_simp)) ?_
  simp only [Act.put, List.setIfInBounds_toArray, List.set_cons_zero, List.set_cons_succ]
  refine wpG_tk (some 22) (v := .agg #[.int .i64 a1, .int .i64 a2, .int .i64 a3]) rfl (.load_mid (by rfl) 23 (.tmp 21) rfl (w.heap.size) 0 rfl [.int .i64 a1, .int .i64 a2, .int .i64 a3] _ (fun W hg => (R23.out.below hg).lo) Tryd.underlying23 rfl (by kernel_rfl)) ?_
  simp only [Act.put, List.setIfInBounds_toArray, List.set_cons_zero, List.set_cons_succ]
  refine wpG_tk (some 23) (v := .agg #[.int .i64 (Pt.tc 1 s 0 a1 a2 a3), .int .i64 (Pt.tc 1 s 1 a1 a2 a3), .int .i64 (Pt.tc 1 s 2 a1 a2 a3)]) rfl (.call (f := 50) (args := #[.int .i64 (s : Int), .agg #[.int .i64 a1, .int .i64 a2, .int .i64 a3]]) (by rfl) (fun W => by go_simp) (fun W hg => rturncell_any s a1 a2 a3 W hs (by omega))) ?_
  simp only [Act.put, List.setIfInBounds_toArray, List.set_cons_zero, List.set_cons_succ]
  refine wpG_val (some 8) rfl (by rfl) (fun W26 hg27 => ⟨.pointer (some ⟨W26.heap.size, 0, none⟩), W26.alloc (.cells #[.int .i64 0, .int .i64 0, .int .i64 0] 23), by (go_simp <;> rfl), ?_⟩)
  simp only [Act.put, List.setIfInBounds_toArray, List.set_cons_zero, List.set_cons_succ]
  refine wpG_store (none) rfl (by rfl) (fun W28 hg29 => ⟨_, run_store_mid 23 (.tmp 8) (.tmp 23) rfl (W26.heap.size) 0 #[.int .i64 (Pt.tc 1 s 0 a1 a2 a3), .int .i64 (Pt.tc 1 s 1 a1 a2 a3), .int .i64 (Pt.tc 1 s 2 a1 a2 a3)] rfl rfl (Row.room hg29 3 rfl) (by kernel_rfl) (by kernel_rfl), ?_⟩)
  simp only [Act.put]
  refine wpG_done (fun V30 hv31 => ?_)
  have l33 : w.heap.size < W26.heap.size := (R23.out.below hg27).lt
  have l34 : w.heap.size + 1 < W26.heap.size := (R24.out.below hg27).lt
  have l35 : W13.heap.size < W26.heap.size := (R25.out.below hg27).lt
  have l36 : w.heap.size ≤ W26.heap.size := (Gr.to G19.out hg27).size
  have R37 := Lib.hid ((R23.out.below hg27).past hg29 hv31)
  have R38 := Lib.hid ((R24.out.below hg27).past hg29 hv31)
  have R39 := Lib.hid ((R25.out.below hg27).past hg29 hv31)
  have R40 := Lib.hid (Row.made (zs := [.int .i64 0, .int .i64 0, .int .i64 0]) (ds := [.int .i64 (Pt.tc 1 s 0 a1 a2 a3), .int .i64 (Pt.tc 1 s 1 a1 a2 a3), .int .i64 (Pt.tc 1 s 2 a1 a2 a3)]) rfl hg29 hv31)
  have G32 := Lib.hid (Gr.to (Gr.to G19.out hg27) (Gr.past hg29 hv31))
  clear hg29 hv31 
  go_upto_region 9 with fail
  refine wpG_region ?_
  refine wpG_tk (some 24) (v := .int .i64 (s : Int)) rfl (.val (by rfl) (fun _ _ => rfl)) ?_
  simp only [Act.put, List.setIfInBounds_toArray, List.set_cons_zero, List.set_cons_succ]
  refine wpG_tk (some 25) (v := .pointer (some ⟨w.heap.size, 3, none⟩)) rfl (.val (by rfl) (fun W hg => by go_simp)) ?_
  simp only [Act.put, List.setIfInBounds_toArray, List.set_cons_zero, List.set_cons_succ]
  refine wpG_tk (some 26) (v := .agg #[.int .i64 a4, .int .i64 a5, .int .i64 a6]) rfl (.load_mid (by rfl) 23 (.tmp 25) rfl (w.heap.size) 3 rfl [.int .i64 a4, .int .i64 a5, .int .i64 a6] _ (fun W hg => (R37.out.below hg).hi) Tryd.underlying23 rfl (by kernel_rfl)) ?_
  simp only [Act.put, List.setIfInBounds_toArray, List.set_cons_zero, List.set_cons_succ]
  refine wpG_tk (some 27) (v := .agg #[.int .i64 1, .int .i64 1, .int .i64 1]) rfl (.load_mid (by rfl) 23 (.tmp 7) rfl (W13.heap.size) 0 rfl [.int .i64 1, .int .i64 1, .int .i64 1] _ (fun W hg => (R39.out.below hg).range) Tryd.underlying23 rfl (by kernel_rfl)) ?_
  simp only [Act.put, List.setIfInBounds_toArray, List.set_cons_zero, List.set_cons_succ]
  refine wpG_tk (some 28) (v := .agg #[.int .i64 (a4 - 1), .int .i64 (a5 - 1), .int .i64 (a6 - 1)]) rfl (.call (f := 16) (args := #[.agg #[.int .i64 a4, .int .i64 a5, .int .i64 a6], .agg #[.int .i64 1, .int .i64 1, .int .i64 1]]) (by rfl) (fun W => by go_simp) (fun W hg => rsub_any a4 a5 a6 1 1 1 W (by omega))) ?_
  simp only [Act.put, List.setIfInBounds_toArray, List.set_cons_zero, List.set_cons_succ]
  refine wpG_tk (some 29) (v := .agg #[.int .i64 (Pt.tc 1 s 0 (a4 - 1) (a5 - 1) (a6 - 1)), .int .i64 (Pt.tc 1 s 1 (a4 - 1) (a5 - 1) (a6 - 1)), .int .i64 (Pt.tc 1 s 2 (a4 - 1) (a5 - 1) (a6 - 1))]) rfl (.call (f := 50) (args := #[.int .i64 (s : Int), .agg #[.int .i64 (a4 - 1), .int .i64 (a5 - 1), .int .i64 (a6 - 1)]]) (by rfl) (fun W => by go_simp) (fun W hg => rturncell_any s (a4 - 1) (a5 - 1) (a6 - 1) W hs (by omega))) ?_
  simp only [Act.put, List.setIfInBounds_toArray, List.set_cons_zero, List.set_cons_succ]
  refine wpG_val (some 9) rfl (by rfl) (fun W41 hg42 => ⟨.pointer (some ⟨W41.heap.size, 0, none⟩), W41.alloc (.cells #[.int .i64 0, .int .i64 0, .int .i64 0] 23), by (go_simp <;> rfl), ?_⟩)
  simp only [Act.put, List.setIfInBounds_toArray, List.set_cons_zero, List.set_cons_succ]
  refine wpG_store (none) rfl (by rfl) (fun W43 hg44 => ⟨_, run_store_mid 23 (.tmp 9) (.tmp 29) rfl (W41.heap.size) 0 #[.int .i64 (Pt.tc 1 s 0 (a4 - 1) (a5 - 1) (a6 - 1)), .int .i64 (Pt.tc 1 s 1 (a4 - 1) (a5 - 1) (a6 - 1)), .int .i64 (Pt.tc 1 s 2 (a4 - 1) (a5 - 1) (a6 - 1))] rfl rfl (Row.room hg44 3 rfl) (by kernel_rfl) (by kernel_rfl), ?_⟩)
  simp only [Act.put]
  refine wpG_done (fun V45 hv46 => ?_)
  have l48 : w.heap.size < W41.heap.size := (R37.out.below hg42).lt
  have l49 : w.heap.size + 1 < W41.heap.size := (R38.out.below hg42).lt
  have l50 : W13.heap.size < W41.heap.size := (R39.out.below hg42).lt
  have l51 : W26.heap.size < W41.heap.size := (R40.out.below hg42).lt
  have l52 : w.heap.size ≤ W41.heap.size := (Gr.to G32.out hg42).size
  have R53 := Lib.hid ((R37.out.below hg42).past hg44 hv46)
  have R54 := Lib.hid ((R38.out.below hg42).past hg44 hv46)
  have R55 := Lib.hid ((R39.out.below hg42).past hg44 hv46)
  have R56 := Lib.hid ((R40.out.below hg42).past hg44 hv46)
  have R57 := Lib.hid (Row.made (zs := [.int .i64 0, .int .i64 0, .int .i64 0]) (ds := [.int .i64 (Pt.tc 1 s 0 (a4 - 1) (a5 - 1) (a6 - 1)), .int .i64 (Pt.tc 1 s 1 (a4 - 1) (a5 - 1) (a6 - 1)), .int .i64 (Pt.tc 1 s 2 (a4 - 1) (a5 - 1) (a6 - 1))]) rfl hg44 hv46)
  have G47 := Lib.hid (Gr.to (Gr.to G32.out hg42) (Gr.past hg44 hv46))
  clear hg44 hv46 
  go_upto_region 10 with fail
  refine wpK_region (by kernel_rfl) ?_
  refine wpK_tk (i := 0) (some 30) (v := .agg #[.int .i64 (Pt.tc 1 s 0 a1 a2 a3), .int .i64 (Pt.tc 1 s 1 a1 a2 a3), .int .i64 (Pt.tc 1 s 2 a1 a2 a3)]) rfl rfl (by kernel_rfl) (fun _ _ _ h => h) (.load_mid (by rfl) 23 (.tmp 8) rfl (W26.heap.size) 0 rfl [.int .i64 (Pt.tc 1 s 0 a1 a2 a3), .int .i64 (Pt.tc 1 s 1 a1 a2 a3), .int .i64 (Pt.tc 1 s 2 a1 a2 a3)] _ (fun W hg => (R56.out.below (Gr.un hg)).range) Tryd.underlying23 rfl (by kernel_rfl)) ?_
  simp only [Act.put, List.setIfInBounds_toArray, List.set_cons_zero, List.set_cons_succ]
  refine wpK_tk (i := 1) (some 31) (v := .agg #[.int .i64 (Pt.tc 1 s 0 a1 a2 a3), .int .i64 (Pt.tc 1 s 1 a1 a2 a3), .int .i64 (Pt.tc 1 s 2 a1 a2 a3)]) rfl rfl (by kernel_rfl) (fun _ _ _ h => h) (.load_mid (by rfl) 23 (.tmp 8) rfl (W26.heap.size) 0 rfl [.int .i64 (Pt.tc 1 s 0 a1 a2 a3), .int .i64 (Pt.tc 1 s 1 a1 a2 a3), .int .i64 (Pt.tc 1 s 2 a1 a2 a3)] _ (fun W hg => (R56.out.below (Gr.un hg)).range) Tryd.underlying23 rfl (by kernel_rfl)) ?_
  simp only [Act.put, List.setIfInBounds_toArray, List.set_cons_zero, List.set_cons_succ]
  refine wpK_tk (i := 2) (some 32) (v := .agg #[.int .i64 1, .int .i64 1, .int .i64 1]) rfl rfl (by kernel_rfl) (fun _ _ _ h => h) (.load_mid (by rfl) 23 (.tmp 7) rfl (W13.heap.size) 0 rfl [.int .i64 1, .int .i64 1, .int .i64 1] _ (fun W hg => (R55.out.below (Gr.un hg)).range) Tryd.underlying23 rfl (by kernel_rfl)) ?_
  simp only [Act.put, List.setIfInBounds_toArray, List.set_cons_zero, List.set_cons_succ]
  refine wpK_tk (i := 3) (some 33) (v := .agg #[.int .i64 ((Pt.tc 1 s 0 a1 a2 a3) + 1), .int .i64 ((Pt.tc 1 s 1 a1 a2 a3) + 1), .int .i64 ((Pt.tc 1 s 2 a1 a2 a3) + 1)]) rfl rfl (by kernel_rfl) (fun _ _ _ h => h) (.call (f := 14) (args := #[.agg #[.int .i64 (Pt.tc 1 s 0 a1 a2 a3), .int .i64 (Pt.tc 1 s 1 a1 a2 a3), .int .i64 (Pt.tc 1 s 2 a1 a2 a3)], .agg #[.int .i64 1, .int .i64 1, .int .i64 1]]) (by rfl) (fun W => by go_simp) (fun W hg => radd_any (Pt.tc 1 s 0 a1 a2 a3) (Pt.tc 1 s 1 a1 a2 a3) (Pt.tc 1 s 2 a1 a2 a3) 1 1 1 W (by omega))) ?_
  simp only [Act.put, List.setIfInBounds_toArray, List.set_cons_zero, List.set_cons_succ]
  refine wpK_ta (i := 4) (some 34) (v := .agg #[.int .i64 (Pt.tc 1 s 0 a1 a2 a3), .int .i64 (Pt.tc 1 s 1 a1 a2 a3), .int .i64 (Pt.tc 1 s 2 a1 a2 a3), .int .i64 ((Pt.tc 1 s 0 a1 a2 a3) + 1), .int .i64 ((Pt.tc 1 s 1 a1 a2 a3) + 1), .int .i64 ((Pt.tc 1 s 2 a1 a2 a3) + 1)]) rfl rfl (by kernel_rfl) (fun _ _ _ h => h) (Or.inl ⟨by rfl, fun W => by go_simp⟩) ?_
  simp only [Act.put, List.setIfInBounds_toArray, List.set_cons_zero, List.set_cons_succ]
  refine wpK_tk (i := 5) (some 35) (v := .agg #[.int .i64 (Pt.tc 1 s 0 (a4 - 1) (a5 - 1) (a6 - 1)), .int .i64 (Pt.tc 1 s 1 (a4 - 1) (a5 - 1) (a6 - 1)), .int .i64 (Pt.tc 1 s 2 (a4 - 1) (a5 - 1) (a6 - 1))]) rfl rfl (by kernel_rfl) (fun _ _ _ h => h) (.load_mid (by rfl) 23 (.tmp 9) rfl (W41.heap.size) 0 rfl [.int .i64 (Pt.tc 1 s 0 (a4 - 1) (a5 - 1) (a6 - 1)), .int .i64 (Pt.tc 1 s 1 (a4 - 1) (a5 - 1) (a6 - 1)), .int .i64 (Pt.tc 1 s 2 (a4 - 1) (a5 - 1) (a6 - 1))] _ (fun W hg => (R57.out.below (Gr.un hg)).range) Tryd.underlying23 rfl (by kernel_rfl)) ?_
  simp only [Act.put, List.setIfInBounds_toArray, List.set_cons_zero, List.set_cons_succ]
  refine wpK_tk (i := 6) (some 36) (v := .agg #[.int .i64 (Pt.tc 1 s 0 (a4 - 1) (a5 - 1) (a6 - 1)), .int .i64 (Pt.tc 1 s 1 (a4 - 1) (a5 - 1) (a6 - 1)), .int .i64 (Pt.tc 1 s 2 (a4 - 1) (a5 - 1) (a6 - 1))]) rfl rfl (by kernel_rfl) (fun _ _ _ h => h) (.load_mid (by rfl) 23 (.tmp 9) rfl (W41.heap.size) 0 rfl [.int .i64 (Pt.tc 1 s 0 (a4 - 1) (a5 - 1) (a6 - 1)), .int .i64 (Pt.tc 1 s 1 (a4 - 1) (a5 - 1) (a6 - 1)), .int .i64 (Pt.tc 1 s 2 (a4 - 1) (a5 - 1) (a6 - 1))] _ (fun W hg => (R57.out.below (Gr.un hg)).range) Tryd.underlying23 rfl (by kernel_rfl)) ?_
  simp only [Act.put, List.setIfInBounds_toArray, List.set_cons_zero, List.set_cons_succ]
  refine wpK_tk (i := 7) (some 37) (v := .agg #[.int .i64 1, .int .i64 1, .int .i64 1]) rfl rfl (by kernel_rfl) (fun _ _ _ h => h) (.load_mid (by rfl) 23 (.tmp 7) rfl (W13.heap.size) 0 rfl [.int .i64 1, .int .i64 1, .int .i64 1] _ (fun W hg => (R55.out.below (Gr.un hg)).range) Tryd.underlying23 rfl (by kernel_rfl)) ?_
  simp only [Act.put, List.setIfInBounds_toArray, List.set_cons_zero, List.set_cons_succ]
  refine wpK_tk (i := 8) (some 38) (v := .agg #[.int .i64 ((Pt.tc 1 s 0 (a4 - 1) (a5 - 1) (a6 - 1)) + 1), .int .i64 ((Pt.tc 1 s 1 (a4 - 1) (a5 - 1) (a6 - 1)) + 1), .int .i64 ((Pt.tc 1 s 2 (a4 - 1) (a5 - 1) (a6 - 1)) + 1)]) rfl rfl (by kernel_rfl) (fun _ _ _ h => h) (.call (f := 14) (args := #[.agg #[.int .i64 (Pt.tc 1 s 0 (a4 - 1) (a5 - 1) (a6 - 1)), .int .i64 (Pt.tc 1 s 1 (a4 - 1) (a5 - 1) (a6 - 1)), .int .i64 (Pt.tc 1 s 2 (a4 - 1) (a5 - 1) (a6 - 1))], .agg #[.int .i64 1, .int .i64 1, .int .i64 1]]) (by rfl) (fun W => by go_simp) (fun W hg => radd_any (Pt.tc 1 s 0 (a4 - 1) (a5 - 1) (a6 - 1)) (Pt.tc 1 s 1 (a4 - 1) (a5 - 1) (a6 - 1)) (Pt.tc 1 s 2 (a4 - 1) (a5 - 1) (a6 - 1)) 1 1 1 W (by omega))) ?_
  simp only [Act.put, List.setIfInBounds_toArray, List.set_cons_zero, List.set_cons_succ]
  refine wpK_ta (i := 9) (some 39) (v := .agg #[.int .i64 (Pt.tc 1 s 0 (a4 - 1) (a5 - 1) (a6 - 1)), .int .i64 (Pt.tc 1 s 1 (a4 - 1) (a5 - 1) (a6 - 1)), .int .i64 (Pt.tc 1 s 2 (a4 - 1) (a5 - 1) (a6 - 1)), .int .i64 ((Pt.tc 1 s 0 (a4 - 1) (a5 - 1) (a6 - 1)) + 1), .int .i64 ((Pt.tc 1 s 1 (a4 - 1) (a5 - 1) (a6 - 1)) + 1), .int .i64 ((Pt.tc 1 s 2 (a4 - 1) (a5 - 1) (a6 - 1)) + 1)]) rfl rfl (by kernel_rfl) (fun _ _ _ h => h) (Or.inl ⟨by rfl, fun W => by go_simp⟩) ?_
  simp only [Act.put, List.setIfInBounds_toArray, List.set_cons_zero, List.set_cons_succ]
  refine wpK_tk (i := 10) (some 40) (v := .agg #[.int .i64 (min (Pt.tc 1 s 0 a1 a2 a3) (Pt.tc 1 s 0 (a4 - 1) (a5 - 1) (a6 - 1))), .int .i64 (min (Pt.tc 1 s 1 a1 a2 a3) (Pt.tc 1 s 1 (a4 - 1) (a5 - 1) (a6 - 1))), .int .i64 (min (Pt.tc 1 s 2 a1 a2 a3) (Pt.tc 1 s 2 (a4 - 1) (a5 - 1) (a6 - 1))), .int .i64 (max ((Pt.tc 1 s 0 a1 a2 a3) + 1) ((Pt.tc 1 s 0 (a4 - 1) (a5 - 1) (a6 - 1)) + 1)), .int .i64 (max ((Pt.tc 1 s 1 a1 a2 a3) + 1) ((Pt.tc 1 s 1 (a4 - 1) (a5 - 1) (a6 - 1)) + 1)), .int .i64 (max ((Pt.tc 1 s 2 a1 a2 a3) + 1) ((Pt.tc 1 s 2 (a4 - 1) (a5 - 1) (a6 - 1)) + 1))]) rfl rfl (by kernel_rfl) (fun _ _ _ h => h) (.call (f := 38) (args := #[.agg #[.int .i64 (Pt.tc 1 s 0 a1 a2 a3), .int .i64 (Pt.tc 1 s 1 a1 a2 a3), .int .i64 (Pt.tc 1 s 2 a1 a2 a3), .int .i64 ((Pt.tc 1 s 0 a1 a2 a3) + 1), .int .i64 ((Pt.tc 1 s 1 a1 a2 a3) + 1), .int .i64 ((Pt.tc 1 s 2 a1 a2 a3) + 1)], .agg #[.int .i64 (Pt.tc 1 s 0 (a4 - 1) (a5 - 1) (a6 - 1)), .int .i64 (Pt.tc 1 s 1 (a4 - 1) (a5 - 1) (a6 - 1)), .int .i64 (Pt.tc 1 s 2 (a4 - 1) (a5 - 1) (a6 - 1)), .int .i64 ((Pt.tc 1 s 0 (a4 - 1) (a5 - 1) (a6 - 1)) + 1), .int .i64 ((Pt.tc 1 s 1 (a4 - 1) (a5 - 1) (a6 - 1)) + 1), .int .i64 ((Pt.tc 1 s 2 (a4 - 1) (a5 - 1) (a6 - 1)) + 1)]]) (by rfl) (fun W => by go_simp) (fun W hg => rhull_ff (Pt.tc 1 s 0 a1 a2 a3) (Pt.tc 1 s 1 a1 a2 a3) (Pt.tc 1 s 2 a1 a2 a3) ((Pt.tc 1 s 0 a1 a2 a3) + 1) ((Pt.tc 1 s 1 a1 a2 a3) + 1) ((Pt.tc 1 s 2 a1 a2 a3) + 1) (Pt.tc 1 s 0 (a4 - 1) (a5 - 1) (a6 - 1)) (Pt.tc 1 s 1 (a4 - 1) (a5 - 1) (a6 - 1)) (Pt.tc 1 s 2 (a4 - 1) (a5 - 1) (a6 - 1)) ((Pt.tc 1 s 0 (a4 - 1) (a5 - 1) (a6 - 1)) + 1) ((Pt.tc 1 s 1 (a4 - 1) (a5 - 1) (a6 - 1)) + 1) ((Pt.tc 1 s 2 (a4 - 1) (a5 - 1) (a6 - 1)) + 1) W (by omega) (Pt.emp_false.2 (by omega)) (Pt.emp_false.2 (by omega)))) ?_
  simp only [Act.put, List.setIfInBounds_toArray, List.set_cons_zero, List.set_cons_succ]
  refine wpK_store (i := 11) (none) rfl rfl (by kernel_rfl) (by rfl) (by rfl) (fun W58 hg59 => ⟨_, run_store_mid 31 (.tmp 4) (.tmp 40) rfl (w.heap.size + 1) 0 #[.int .i64 (min (Pt.tc 1 s 0 a1 a2 a3) (Pt.tc 1 s 0 (a4 - 1) (a5 - 1) (a6 - 1))), .int .i64 (min (Pt.tc 1 s 1 a1 a2 a3) (Pt.tc 1 s 1 (a4 - 1) (a5 - 1) (a6 - 1))), .int .i64 (min (Pt.tc 1 s 2 a1 a2 a3) (Pt.tc 1 s 2 (a4 - 1) (a5 - 1) (a6 - 1))), .int .i64 (max ((Pt.tc 1 s 0 a1 a2 a3) + 1) ((Pt.tc 1 s 0 (a4 - 1) (a5 - 1) (a6 - 1)) + 1)), .int .i64 (max ((Pt.tc 1 s 1 a1 a2 a3) + 1) ((Pt.tc 1 s 1 (a4 - 1) (a5 - 1) (a6 - 1)) + 1)), .int .i64 (max ((Pt.tc 1 s 2 a1 a2 a3) + 1) ((Pt.tc 1 s 2 (a4 - 1) (a5 - 1) (a6 - 1)) + 1))] rfl rfl (((R54.out.below (Gr.un hg59)).there 0 6 (by decide))) (by kernel_rfl) (by kernel_rfl), ?_⟩)
  simp only [Act.put]
  refine wpK_done (by kernel_rfl) (fun V60 hv61 => ?_) _
  have R63 := Lib.hid (Row.put (ds := [.int .i64 (min (Pt.tc 1 s 0 a1 a2 a3) (Pt.tc 1 s 0 (a4 - 1) (a5 - 1) (a6 - 1))), .int .i64 (min (Pt.tc 1 s 1 a1 a2 a3) (Pt.tc 1 s 1 (a4 - 1) (a5 - 1) (a6 - 1))), .int .i64 (min (Pt.tc 1 s 2 a1 a2 a3) (Pt.tc 1 s 2 (a4 - 1) (a5 - 1) (a6 - 1))), .int .i64 (max ((Pt.tc 1 s 0 a1 a2 a3) + 1) ((Pt.tc 1 s 0 (a4 - 1) (a5 - 1) (a6 - 1)) + 1)), .int .i64 (max ((Pt.tc 1 s 1 a1 a2 a3) + 1) ((Pt.tc 1 s 1 (a4 - 1) (a5 - 1) (a6 - 1)) + 1)), .int .i64 (max ((Pt.tc 1 s 2 a1 a2 a3) + 1) ((Pt.tc 1 s 2 (a4 - 1) (a5 - 1) (a6 - 1)) + 1))]) R54.out (Gr.un hg59) rfl hv61)
  have G62 := Lib.hid (Gr.put G47.out (Gr.un hg59) (by omega) hv61)
  go_wp2_with fail
  refine bodyPost_ret (results_cell_mid rfl _ _ _ (w.heap.size + 1) 0 [.int .i64 (min (Pt.tc 1 s 0 a1 a2 a3) (Pt.tc 1 s 0 (a4 - 1) (a5 - 1) (a6 - 1))), .int .i64 (min (Pt.tc 1 s 1 a1 a2 a3) (Pt.tc 1 s 1 (a4 - 1) (a5 - 1) (a6 - 1))), .int .i64 (min (Pt.tc 1 s 2 a1 a2 a3) (Pt.tc 1 s 2 (a4 - 1) (a5 - 1) (a6 - 1))), .int .i64 (max ((Pt.tc 1 s 0 a1 a2 a3) + 1) ((Pt.tc 1 s 0 (a4 - 1) (a5 - 1) (a6 - 1)) + 1)), .int .i64 (max ((Pt.tc 1 s 1 a1 a2 a3) + 1) ((Pt.tc 1 s 1 (a4 - 1) (a5 - 1) (a6 - 1)) + 1)), .int .i64 (max ((Pt.tc 1 s 2 a1 a2 a3) + 1) ((Pt.tc 1 s 2 (a4 - 1) (a5 - 1) (a6 - 1)) + 1))] _ rfl R63.out.range Tryd.underlying31 rfl (by kernel_rfl)) rfl ?_
  exact ⟨by rw [box_lo 0 hs HZ.out, box_lo 1 hs HZ.out, box_lo 2 hs HZ.out, box_hi 0 hs HZ.out, box_hi 1 hs HZ.out, box_hi 2 hs HZ.out], G62.out⟩

end Go.Proofs.YthadlgjobjnhcaaDoor
