/-
  voxellaw04.PointDistances, its walk.
-/
import Derived.Test.YthadlgjobjnhcaaDoorPsn
import Derived.Test.YthadlgjobjnhcaaDoorPty2
import Derived.Test.YthadlgjobjnhcaaDoorPtf
import Derived.Test.YthadlgjobjnhcaaDoorRo4
import Derived.Handy
namespace Go.Proofs.YthadlgjobjnhcaaDoor
open Go.RowKit
set_option linter.unusedVariables false
theorem dist_nn (x1 x2 x3 y1 y2 y3 : Int) : 0 ≤ Pt.dist x1 x2 x3 y1 y2 y3 := by unfold Pt.dist; omega
theorem dist_sym (x1 x2 x3 y1 y2 y3 : Int) : Pt.dist y1 y2 y3 x1 x2 x3 = Pt.dist x1 x2 x3 y1 y2 y3 := by
  unfold Pt.dist; rw [Int.max_comm (y1 - x1), Int.max_comm (y2 - x2), Int.max_comm (y3 - x3)]
theorem dist_zero (x1 x2 x3 y1 y2 y3 : Int) : Pt.dist x1 x2 x3 y1 y2 y3 = 0 ↔ (x1 = y1 ∧ x2 = y2 ∧ x3 = y3) := by unfold Pt.dist; omega
theorem le_dist {m x1 x2 x3 y1 y2 y3 : Int} : Pt.dist x1 x2 x3 y1 y2 y3 ≤ m ↔ ((x1 - y1 ≤ m ∧ y1 - x1 ≤ m) ∧ (x2 - y2 ≤ m ∧ y2 - x2 ≤ m) ∧ (x3 - y3 ≤ m ∧ y3 - x3 ≤ m)) := by
  unfold Pt.dist
  generalize x1 - y1 = p1
  generalize y1 - x1 = p2
  generalize x2 - y2 = p3
  generalize y2 - x2 = p4
  generalize x3 - y3 = p5
  generalize y3 - x3 = p6
  omega
theorem dist_tri (x1 x2 x3 y1 y2 y3 r1 r2 r3 : Int) : Pt.dist x1 x2 x3 y1 y2 y3 ≤ Pt.dist x1 x2 x3 r1 r2 r3 + Pt.dist r1 r2 r3 y1 y2 y3 := by
  have h1 := le_dist.1 (Int.le_refl (Pt.dist x1 x2 x3 r1 r2 r3))
  have h2 := le_dist.1 (Int.le_refl (Pt.dist r1 r2 r3 y1 y2 y3))
  rw [le_dist]
  omega
theorem dist_bd {x1 x2 x3 y1 y2 y3 : Int} (h : (-1048575 ≤ x1 ∧ x1 ≤ 1048575) ∧ (-1048575 ≤ x2 ∧ x2 ≤ 1048575) ∧ (-1048575 ≤ x3 ∧ x3 ≤ 1048575) ∧ (-1048575 ≤ y1 ∧ y1 ≤ 1048575) ∧ (-1048575 ≤ y2 ∧ y2 ≤ 1048575) ∧ (-1048575 ≤ y3 ∧ y3 ≤ 1048575)) : Pt.dist x1 x2 x3 y1 y2 y3 ≤ 4194304 := by rw [le_dist]; omega
theorem near_le {m x1 x2 x3 a1 a2 a3 a4 a5 a6 : Int} : Pt.near x1 x2 x3 a1 a2 a3 a4 a5 a6 ≤ m ↔ (0 ≤ m ∧ (a1 - x1 ≤ m ∧ x1 - a4 ≤ m) ∧ (a2 - x2 ≤ m ∧ x2 - a5 ≤ m) ∧ (a3 - x3 ≤ m ∧ x3 - a6 ≤ m)) := by
  unfold Pt.near
  generalize a1 - x1 = p1
  generalize x1 - a4 = p2
  generalize a2 - x2 = p3
  generalize x2 - a5 = p4
  generalize a3 - x3 = p5
  generalize x3 - a6 = p6
  omega
theorem near_nn (x1 x2 x3 a1 a2 a3 a4 a5 a6 : Int) : 0 ≤ Pt.near x1 x2 x3 a1 a2 a3 a4 a5 a6 := (near_le.1 (Int.le_refl _)).1
theorem near_zero (x1 x2 x3 a1 a2 a3 a4 a5 a6 : Int) : Pt.near x1 x2 x3 a1 a2 a3 a4 a5 a6 = 0 ↔ ((a1 ≤ x1 ∧ x1 ≤ a4) ∧ (a2 ≤ x2 ∧ x2 ≤ a5) ∧ (a3 ≤ x3 ∧ x3 ≤ a6)) := by
  have h0 := near_nn x1 x2 x3 a1 a2 a3 a4 a5 a6
  constructor
  · intro h; have := near_le.1 (Int.le_of_eq h); omega
  · intro h; have := (near_le (m := 0) (x1 := x1) (x2 := x2) (x3 := x3) (a1 := a1) (a2 := a2) (a3 := a3) (a4 := a4) (a5 := a5) (a6 := a6)).2 (by omega); omega
theorem near_lip (x1 x2 x3 y1 y2 y3 a1 a2 a3 a4 a5 a6 : Int) : Pt.near x1 x2 x3 a1 a2 a3 a4 a5 a6 ≤ Pt.near y1 y2 y3 a1 a2 a3 a4 a5 a6 + Pt.dist x1 x2 x3 y1 y2 y3 := by
  have h1 := near_le.1 (Int.le_refl (Pt.near y1 y2 y3 a1 a2 a3 a4 a5 a6))
  have h2 := le_dist.1 (Int.le_refl (Pt.dist x1 x2 x3 y1 y2 y3))
  have h3 := dist_nn x1 x2 x3 y1 y2 y3
  rw [near_le]
  omega
theorem near_bd {x1 x2 x3 a1 a2 a3 a4 a5 a6 : Int} (h : (-1048575 ≤ x1 ∧ x1 ≤ 1048575) ∧ (-1048575 ≤ x2 ∧ x2 ≤ 1048575) ∧ (-1048575 ≤ x3 ∧ x3 ≤ 1048575) ∧ (-1048575 ≤ a1 ∧ a1 ≤ 1048575) ∧ (-1048575 ≤ a2 ∧ a2 ≤ 1048575) ∧ (-1048575 ≤ a3 ∧ a3 ≤ 1048575) ∧ (-1048575 ≤ a4 ∧ a4 ≤ 1048575) ∧ (-1048575 ≤ a5 ∧ a5 ≤ 1048575) ∧ (-1048575 ≤ a6 ∧ a6 ≤ 1048575)) : Pt.near x1 x2 x3 a1 a2 a3 a4 a5 a6 ≤ 4194304 := by rw [near_le]; omega
def closed (x1 x2 x3 a1 a2 a3 a4 a5 a6 : Int) : Bool := decide ((a1 ≤ x1 ∧ x1 ≤ a4) ∧ (a2 ≤ x2 ∧ x2 ≤ a5) ∧ (a3 ≤ x3 ∧ x3 ≤ a6))
set_option maxRecDepth 1000000 in
theorem closed_is (x1 x2 x3 a1 a2 a3 a4 a5 a6 : Int) (q : Nat) (r : Bool) (w : World) (hR : Row q [.int .i64 a1, .int .i64 a2, .int .i64 a3, .int .i64 a4, .int .i64 a5, .int .i64 a6] w) (h : closed x1 x2 x3 a1 a2 a3 a4 a5 a6 = r) :
    Calls Tryd.prog 62 #[.agg #[.int .i64 x1, .int .i64 x2, .int .i64 x3], .pointer (some ⟨q, 0, none⟩)] w fun e w' => e = .returned (.bool r) ∧ Below w.heap.size w w' := by
  have H := Lib.hid h
  have hl := hR.lt
  have k0 := hR.cellx 0 _ rfl
  have k1 := hR.cellx 1 _ rfl
  have k2 := hR.cellx 2 _ rfl
  have k3 := hR.cellx 3 _ rfl
  have k4 := hR.cellx 4 _ rfl
  have k5 := hR.cellx 5 _ rfl
  clear h hR
  go_enter Tryd.func62, Tryd.ntmps62
  go_wp2_with fail
  all_goals (go_ret; exact ⟨ret_bool (by rw [← H.out]; unfold closed; first | (symm; apply decide_eq_true; omega) | (symm; apply decide_eq_false; omega) | (apply decide_eq_decide.2; omega) | (simp; omega) | (rw [Bool.eq_iff_iff]; simp; omega)), by go_grown⟩)
set_option maxRecDepth 1000000 in
set_option maxHeartbeats 8000000 in
theorem law9_s (x1 x2 x3 y1 y2 y3 r1 r2 r3 a1 a2 a3 a4 a5 a6 : Int) (w : World) (hT : Tab w) (i1 : In64 (x1, x2, x3)) (i2 : In64 (y1, y2, y3)) (i3 : In64 (r1, r2, r3)) (i4 : In64 (a1, a2, a3)) (i5 : In64 (a4, a5, a6)) (hs : [(x1, x2, x3), (y1, y2, y3), (r1, r2, r3), (a1, a2, a3), (a4, a5, a6)].all inR = false) :
    Calls Tryd.prog 9 #[.agg #[.int .i64 x1, .int .i64 x2, .int .i64 x3], .agg #[.int .i64 y1, .int .i64 y2, .int .i64 y3], .agg #[.int .i64 r1, .int .i64 r2, .int .i64 r3], .agg #[.int .i64 a1, .int .i64 a2, .int .i64 a3, .int .i64 a4, .int .i64 a5, .int .i64 a6]] w fun e w' => e = .returned (.bool true) ∧ Below w.heap.size w w' := by
  have HS := Lib.hid hs
  clear hs
  obtain ⟨u, hu, r0, r1, r2, r3, g0⟩ := rows4 w [.int .i64 x1, .int .i64 x2, .int .i64 x3] 23 [.int .i64 y1, .int .i64 y2, .int .i64 y3] 23 [.int .i64 r1, .int .i64 r2, .int .i64 r3] 23 [.int .i64 a1, .int .i64 a2, .int .i64 a3, .int .i64 a4, .int .i64 a5, .int .i64 a6] 31
  have R0 := Lib.hid r0
  have R1 := Lib.hid r1
  have R2 := Lib.hid r2
  have R3 := Lib.hid r3
  have G0 := Lib.hid g0
  have HU := Lib.hid hu
  have HT := Lib.hid (hT.below g0)
  clear hT
  clear hu g0 r0 r1 r2 r3
  go_enter Tryd.func9, Tryd.ntmps9
  go_upto_region 1 with fail
  rw [← HU.out]
  refine wpG_region ?_
  refine wpG_tk (some 13) (v := .agg #[.int .i64 x1, .int .i64 x2, .int .i64 x3]) rfl (.load_mid (by rfl) 23 (.tmp 4) rfl (w.heap.size) 0 rfl [.int .i64 x1, .int .i64 x2, .int .i64 x3] _ (fun W hg => (R0.out.below hg).range) Tryd.underlying23 rfl (by kernel_rfl)) ?_
  simp only [Act.put, List.setIfInBounds_toArray, List.set_cons_zero, List.set_cons_succ]
  refine wpG_tk (some 14) (v := .agg #[.int .i64 y1, .int .i64 y2, .int .i64 y3]) rfl (.load_mid (by rfl) 23 (.tmp 5) rfl (w.heap.size + 1) 0 rfl [.int .i64 y1, .int .i64 y2, .int .i64 y3] _ (fun W hg => (R1.out.below hg).range) Tryd.underlying23 rfl (by kernel_rfl)) ?_
  simp only [Act.put, List.setIfInBounds_toArray, List.set_cons_zero, List.set_cons_succ]
  refine wpG_tk (some 15) (v := .agg #[.int .i64 r1, .int .i64 r2, .int .i64 r3]) rfl (.load_mid (by rfl) 23 (.tmp 6) rfl (w.heap.size + 1 + 1) 0 rfl [.int .i64 r1, .int .i64 r2, .int .i64 r3] _ (fun W hg => (R2.out.below hg).range) Tryd.underlying23 rfl (by kernel_rfl)) ?_
  simp only [Act.put, List.setIfInBounds_toArray, List.set_cons_zero, List.set_cons_succ]
  refine wpG_tk (some 16) (v := .pointer (some ⟨w.heap.size + 1 + 1 + 1, 0, none⟩)) rfl (.val (by rfl) (fun W hg => by go_simp)) ?_
  simp only [Act.put, List.setIfInBounds_toArray, List.set_cons_zero, List.set_cons_succ]
  refine wpG_tk (some 17) (v := .agg #[.int .i64 a1, .int .i64 a2, .int .i64 a3]) rfl (.load_mid (by rfl) 23 (.tmp 16) rfl (w.heap.size + 1 + 1 + 1) 0 rfl [.int .i64 a1, .int .i64 a2, .int .i64 a3] _ (fun W hg => (R3.out.below hg).lo) Tryd.underlying23 rfl (by kernel_rfl)) ?_
  simp only [Act.put, List.setIfInBounds_toArray, List.set_cons_zero, List.set_cons_succ]
  refine wpG_tk (some 18) (v := .pointer (some ⟨w.heap.size + 1 + 1 + 1, 3, none⟩)) rfl (.val (by rfl) (fun W hg => by go_simp)) ?_
  simp only [Act.put, List.setIfInBounds_toArray, List.set_cons_zero, List.set_cons_succ]
  refine wpG_tk (some 19) (v := .agg #[.int .i64 a4, .int .i64 a5, .int .i64 a6]) rfl (.load_mid (by rfl) 23 (.tmp 18) rfl (w.heap.size + 1 + 1 + 1) 3 rfl [.int .i64 a4, .int .i64 a5, .int .i64 a6] _ (fun W hg => (R3.out.below hg).hi) Tryd.underlying23 rfl (by kernel_rfl)) ?_
  simp only [Act.put, List.setIfInBounds_toArray, List.set_cons_zero, List.set_cons_succ]
  refine wpG_val (some 20) rfl (by rfl) (fun W1 hg2 => ⟨.slice (some ⟨W1.heap.size, 0, none⟩) 5 5, W1.alloc (.cells #[.int .i64 x1, .int .i64 x2, .int .i64 x3, .int .i64 y1, .int .i64 y2, .int .i64 y3, .int .i64 r1, .int .i64 r2, .int .i64 r3, .int .i64 a1, .int .i64 a2, .int .i64 a3, .int .i64 a4, .int .i64 a5, .int .i64 a6] 23), by (go_simp <;> rfl), ?_⟩)
  simp only [Act.put, List.setIfInBounds_toArray, List.set_cons_zero, List.set_cons_succ]
  obtain ⟨U3, hu, rn, gn⟩ : ∃ z, z = W1.alloc (.cells #[.int .i64 x1, .int .i64 x2, .int .i64 x3, .int .i64 y1, .int .i64 y2, .int .i64 y3, .int .i64 r1, .int .i64 r2, .int .i64 r3, .int .i64 a1, .int .i64 a2, .int .i64 a3, .int .i64 a4, .int .i64 a5, .int .i64 a6] 23) ∧ Row W1.heap.size [.int .i64 x1, .int .i64 x2, .int .i64 x3, .int .i64 y1, .int .i64 y2, .int .i64 y3, .int .i64 r1, .int .i64 r2, .int .i64 r3, .int .i64 a1, .int .i64 a2, .int .i64 a3, .int .i64 a4, .int .i64 a5, .int .i64 a6] z ∧ Gr W1 z := ⟨_, rfl, Row.newl W1 [.int .i64 x1, .int .i64 x2, .int .i64 x3, .int .i64 y1, .int .i64 y2, .int .i64 y3, .int .i64 r1, .int .i64 r2, .int .i64 r3, .int .i64 a1, .int .i64 a2, .int .i64 a3, .int .i64 a4, .int .i64 a5, .int .i64 a6] 23, Gr.al _ _⟩
  rw [← hu]
  have RN4 := Lib.hid rn
  have GB5 := Lib.hid (Gr.trans hg2 gn)
  clear hu rn gn hg2
  refine wpG_tk (some 21) (v := .bool false) rfl (.call (f := 11) (args := #[.slice (some ⟨W1.heap.size, 0, none⟩) 5 5]) (by rfl) (fun W => by go_simp) (fun W hg => small_is [(x1, x2, x3), (y1, y2, y3), (r1, r2, r3), (a1, a2, a3), (a4, a5, a6)] W1.heap.size 5 false W rfl (by decide) (RN4.out.below hg) (List.forall_mem_cons.2 ⟨i1, (List.forall_mem_cons.2 ⟨i2, (List.forall_mem_cons.2 ⟨i3, (List.forall_mem_cons.2 ⟨i4, (List.forall_mem_cons.2 ⟨i5, (fun _ h => absurd h List.not_mem_nil)⟩)⟩)⟩)⟩)⟩) HS.out)) ?_
  simp only [Act.put, List.setIfInBounds_toArray, List.set_cons_zero, List.set_cons_succ]
  refine wpG_tk (some 22) (v := .bool true) rfl (.val (by rfl) (fun W hg => by go_simp)) ?_
  simp only [Act.put, List.setIfInBounds_toArray, List.set_cons_zero, List.set_cons_succ]
  refine wpG_done (fun V6 hv7 => ?_)
  have GC8 := Lib.hid (GB5.out.trans hv7)
  clear hv7
  go_upto_region 2 with fail
  refine wpG_region ?_
  refine wpG_tk (some 23) (v := .bool true) rfl (.call (f := 12) (args := #[]) (by rfl) (fun W => by go_simp) (fun W hg => sanity_any W (HT.out.below (GC8.out.trans hg)))) ?_
  simp only [Act.put, List.setIfInBounds_toArray, List.set_cons_zero, List.set_cons_succ]
  refine wpG_tk (some 8) (v := .bool true) rfl (.val (by rfl) (fun _ _ => rfl)) ?_
  simp only [Act.put, List.setIfInBounds_toArray, List.set_cons_zero, List.set_cons_succ]
  refine wpG_done (fun V9 hv10 => ?_)
  have GC11 := Lib.hid (GC8.out.trans hv10)
  clear hv10
  go_wp2_with fail
  go_ret
  exact ⟨rfl, Gr.to G0.out GC11.out⟩
set_option maxRecDepth 1000000 in
set_option maxHeartbeats 8000000 in
theorem law9_e (x1 x2 x3 y1 y2 y3 r1 r2 r3 a1 a2 a3 a4 a5 a6 : Int) (w : World) (hT : Tab w) (i1 : In64 (x1, x2, x3)) (i2 : In64 (y1, y2, y3)) (i3 : In64 (r1, r2, r3)) (i4 : In64 (a1, a2, a3)) (i5 : In64 (a4, a5, a6)) (hs : [(x1, x2, x3), (y1, y2, y3), (r1, r2, r3), (a1, a2, a3), (a4, a5, a6)].all inR = true) (he : Pt.emp a1 a2 a3 a4 a5 a6 = true) :
    Calls Tryd.prog 9 #[.agg #[.int .i64 x1, .int .i64 x2, .int .i64 x3], .agg #[.int .i64 y1, .int .i64 y2, .int .i64 y3], .agg #[.int .i64 r1, .int .i64 r2, .int .i64 r3], .agg #[.int .i64 a1, .int .i64 a2, .int .i64 a3, .int .i64 a4, .int .i64 a5, .int .i64 a6]] w fun e w' => e = .returned (.bool true) ∧ Below w.heap.size w w' := by
  have hb := hs
  simp only [List.all_cons, List.all_nil, Bool.and_true, Bool.and_eq_true, inR_true] at hb
  have HS := Lib.hid hs
  have d1 := dist_nn x1 x2 x3 y1 y2 y3
  have d2 := dist_sym x1 x2 x3 y1 y2 y3
  have d3 := dist_tri x1 x2 x3 y1 y2 y3 r1 r2 r3
  have d4 := dist_nn x1 x2 x3 r1 r2 r3
  have d5 := dist_nn r1 r2 r3 y1 y2 y3
  have d6 := dist_bd (x1 := x1) (x2 := x2) (x3 := x3) (y1 := r1) (y2 := r2) (y3 := r3) (by omega)
  have d7 := dist_bd (x1 := r1) (x2 := r2) (x3 := r3) (y1 := y1) (y2 := y2) (y3 := y3) (by omega)
  obtain ⟨pq, hpq⟩ : ∃ b : Bool, b = decide (x1 = y1 ∧ x2 = y2 ∧ x3 = y3) := ⟨_, rfl⟩
  have HP := Lib.hid hpq.symm
  have HD : Hid (decide (Pt.dist x1 x2 x3 y1 y2 y3 = 0) = pq) := Lib.hid (by rw [hpq]; exact decide_eq_decide.2 (dist_zero _ _ _ _ _ _))
  clear hs hpq
  have HE := Lib.hid he
  clear he
  obtain ⟨u, hu, r0, r1, r2, r3, g0⟩ := rows4 w [.int .i64 x1, .int .i64 x2, .int .i64 x3] 23 [.int .i64 y1, .int .i64 y2, .int .i64 y3] 23 [.int .i64 r1, .int .i64 r2, .int .i64 r3] 23 [.int .i64 a1, .int .i64 a2, .int .i64 a3, .int .i64 a4, .int .i64 a5, .int .i64 a6] 31
  have R0 := Lib.hid r0
  have R1 := Lib.hid r1
  have R2 := Lib.hid r2
  have R3 := Lib.hid r3
  have G0 := Lib.hid g0
  have HU := Lib.hid hu
  have HT := Lib.hid (hT.below g0)
  clear hT
  clear hu g0 r0 r1 r2 r3
  go_enter Tryd.func9, Tryd.ntmps9
  go_upto_region 1 with fail
  rw [← HU.out]
  refine wpG_region ?_
  refine wpG_tk (some 13) (v := .agg #[.int .i64 x1, .int .i64 x2, .int .i64 x3]) rfl (.load_mid (by rfl) 23 (.tmp 4) rfl (w.heap.size) 0 rfl [.int .i64 x1, .int .i64 x2, .int .i64 x3] _ (fun W hg => (R0.out.below hg).range) Tryd.underlying23 rfl (by kernel_rfl)) ?_
  simp only [Act.put, List.setIfInBounds_toArray, List.set_cons_zero, List.set_cons_succ]
  refine wpG_tk (some 14) (v := .agg #[.int .i64 y1, .int .i64 y2, .int .i64 y3]) rfl (.load_mid (by rfl) 23 (.tmp 5) rfl (w.heap.size + 1) 0 rfl [.int .i64 y1, .int .i64 y2, .int .i64 y3] _ (fun W hg => (R1.out.below hg).range) Tryd.underlying23 rfl (by kernel_rfl)) ?_
  simp only [Act.put, List.setIfInBounds_toArray, List.set_cons_zero, List.set_cons_succ]
  refine wpG_tk (some 15) (v := .agg #[.int .i64 r1, .int .i64 r2, .int .i64 r3]) rfl (.load_mid (by rfl) 23 (.tmp 6) rfl (w.heap.size + 1 + 1) 0 rfl [.int .i64 r1, .int .i64 r2, .int .i64 r3] _ (fun W hg => (R2.out.below hg).range) Tryd.underlying23 rfl (by kernel_rfl)) ?_
  simp only [Act.put, List.setIfInBounds_toArray, List.set_cons_zero, List.set_cons_succ]
  refine wpG_tk (some 16) (v := .pointer (some ⟨w.heap.size + 1 + 1 + 1, 0, none⟩)) rfl (.val (by rfl) (fun W hg => by go_simp)) ?_
  simp only [Act.put, List.setIfInBounds_toArray, List.set_cons_zero, List.set_cons_succ]
  refine wpG_tk (some 17) (v := .agg #[.int .i64 a1, .int .i64 a2, .int .i64 a3]) rfl (.load_mid (by rfl) 23 (.tmp 16) rfl (w.heap.size + 1 + 1 + 1) 0 rfl [.int .i64 a1, .int .i64 a2, .int .i64 a3] _ (fun W hg => (R3.out.below hg).lo) Tryd.underlying23 rfl (by kernel_rfl)) ?_
  simp only [Act.put, List.setIfInBounds_toArray, List.set_cons_zero, List.set_cons_succ]
  refine wpG_tk (some 18) (v := .pointer (some ⟨w.heap.size + 1 + 1 + 1, 3, none⟩)) rfl (.val (by rfl) (fun W hg => by go_simp)) ?_
  simp only [Act.put, List.setIfInBounds_toArray, List.set_cons_zero, List.set_cons_succ]
  refine wpG_tk (some 19) (v := .agg #[.int .i64 a4, .int .i64 a5, .int .i64 a6]) rfl (.load_mid (by rfl) 23 (.tmp 18) rfl (w.heap.size + 1 + 1 + 1) 3 rfl [.int .i64 a4, .int .i64 a5, .int .i64 a6] _ (fun W hg => (R3.out.below hg).hi) Tryd.underlying23 rfl (by kernel_rfl)) ?_
  simp only [Act.put, List.setIfInBounds_toArray, List.set_cons_zero, List.set_cons_succ]
  refine wpG_val (some 20) rfl (by rfl) (fun W1 hg2 => ⟨.slice (some ⟨W1.heap.size, 0, none⟩) 5 5, W1.alloc (.cells #[.int .i64 x1, .int .i64 x2, .int .i64 x3, .int .i64 y1, .int .i64 y2, .int .i64 y3, .int .i64 r1, .int .i64 r2, .int .i64 r3, .int .i64 a1, .int .i64 a2, .int .i64 a3, .int .i64 a4, .int .i64 a5, .int .i64 a6] 23), by (go_simp <;> rfl), ?_⟩)
  simp only [Act.put, List.setIfInBounds_toArray, List.set_cons_zero, List.set_cons_succ]
  obtain ⟨U3, hu, rn, gn⟩ : ∃ z, z = W1.alloc (.cells #[.int .i64 x1, .int .i64 x2, .int .i64 x3, .int .i64 y1, .int .i64 y2, .int .i64 y3, .int .i64 r1, .int .i64 r2, .int .i64 r3, .int .i64 a1, .int .i64 a2, .int .i64 a3, .int .i64 a4, .int .i64 a5, .int .i64 a6] 23) ∧ Row W1.heap.size [.int .i64 x1, .int .i64 x2, .int .i64 x3, .int .i64 y1, .int .i64 y2, .int .i64 y3, .int .i64 r1, .int .i64 r2, .int .i64 r3, .int .i64 a1, .int .i64 a2, .int .i64 a3, .int .i64 a4, .int .i64 a5, .int .i64 a6] z ∧ Gr W1 z := ⟨_, rfl, Row.newl W1 [.int .i64 x1, .int .i64 x2, .int .i64 x3, .int .i64 y1, .int .i64 y2, .int .i64 y3, .int .i64 r1, .int .i64 r2, .int .i64 r3, .int .i64 a1, .int .i64 a2, .int .i64 a3, .int .i64 a4, .int .i64 a5, .int .i64 a6] 23, Gr.al _ _⟩
  rw [← hu]
  have RN4 := Lib.hid rn
  have GB5 := Lib.hid (Gr.trans hg2 gn)
  clear hu rn gn hg2
  refine wpG_tk (some 21) (v := .bool true) rfl (.call (f := 11) (args := #[.slice (some ⟨W1.heap.size, 0, none⟩) 5 5]) (by rfl) (fun W => by go_simp) (fun W hg => small_is [(x1, x2, x3), (y1, y2, y3), (r1, r2, r3), (a1, a2, a3), (a4, a5, a6)] W1.heap.size 5 true W rfl (by decide) (RN4.out.below hg) (List.forall_mem_cons.2 ⟨i1, (List.forall_mem_cons.2 ⟨i2, (List.forall_mem_cons.2 ⟨i3, (List.forall_mem_cons.2 ⟨i4, (List.forall_mem_cons.2 ⟨i5, (fun _ h => absurd h List.not_mem_nil)⟩)⟩)⟩)⟩)⟩) HS.out)) ?_
  simp only [Act.put, List.setIfInBounds_toArray, List.set_cons_zero, List.set_cons_succ]
  refine wpG_tk (some 22) (v := .bool false) rfl (.val (by rfl) (fun W hg => by go_simp)) ?_
  simp only [Act.put, List.setIfInBounds_toArray, List.set_cons_zero, List.set_cons_succ]
  refine wpG_done (fun V6 hv7 => ?_)
  have GC8 := Lib.hid (GB5.out.trans hv7)
  clear hv7
  go_upto_region 3 with fail
  refine wpG_region ?_
  refine wpG_tk (some 24) (v := .agg #[.int .i64 x1, .int .i64 x2, .int .i64 x3]) rfl (.load_mid (by rfl) 23 (.tmp 4) rfl (w.heap.size) 0 rfl [.int .i64 x1, .int .i64 x2, .int .i64 x3] _ (fun W hg => (R0.out.below (GC8.out.trans hg)).range) Tryd.underlying23 rfl (by kernel_rfl)) ?_
  simp only [Act.put, List.setIfInBounds_toArray, List.set_cons_zero, List.set_cons_succ]
  refine wpG_tk (some 25) (v := .agg #[.int .i64 y1, .int .i64 y2, .int .i64 y3]) rfl (.load_mid (by rfl) 23 (.tmp 5) rfl (w.heap.size + 1) 0 rfl [.int .i64 y1, .int .i64 y2, .int .i64 y3] _ (fun W hg => (R1.out.below (GC8.out.trans hg)).range) Tryd.underlying23 rfl (by kernel_rfl)) ?_
  simp only [Act.put, List.setIfInBounds_toArray, List.set_cons_zero, List.set_cons_succ]
  refine wpG_tk (some 26) (v := .int .i64 (Pt.dist x1 x2 x3 y1 y2 y3)) rfl (.call (f := 19) (args := #[.agg #[.int .i64 x1, .int .i64 x2, .int .i64 x3], .agg #[.int .i64 y1, .int .i64 y2, .int .i64 y3]]) (by rfl) (fun W => by go_simp) (fun W hg => distance_any x1 x2 x3 y1 y2 y3 W (by omega))) ?_
  simp only [Act.put, List.setIfInBounds_toArray, List.set_cons_zero, List.set_cons_succ]
  refine wpG_tk (some 9) (v := .int .i64 (Pt.dist x1 x2 x3 y1 y2 y3)) rfl (.val (by rfl) (fun _ _ => rfl)) ?_
  simp only [Act.put, List.setIfInBounds_toArray, List.set_cons_zero, List.set_cons_succ]
  refine wpG_done (fun V9 hv10 => ?_)
  have GC11 := Lib.hid (GC8.out.trans hv10)
  clear hv10
  go_upto_region 4 with fail
  refine wpK_region (by kernel_rfl) ?_
  refine wpK_ta (i := 0) (some 27) (v := .int .i64 (Pt.dist x1 x2 x3 y1 y2 y3)) rfl rfl (by kernel_rfl) (fun _ _ _ h => h) (Or.inl ⟨rfl, fun _ => rfl⟩) ?_
  simp only [Act.put, List.setIfInBounds_toArray, List.set_cons_zero, List.set_cons_succ]
  refine wpK_ta (i := 1) (some 28) (v := .bool false) rfl rfl (by kernel_rfl) (fun _ _ _ h => h) (Or.inl ⟨by rfl, fun W => by have hq : ¬ (Pt.dist x1 x2 x3 y1 y2 y3 < 0) := (by omega); first | (go_simp; done) | (go_simp <;> omega)⟩) ?_
  simp only [Act.put, List.setIfInBounds_toArray, List.set_cons_zero, List.set_cons_succ]
  refine wpK_ta (i := 2) (some 29) (v := .bool false) rfl rfl (by kernel_rfl) (fun _ _ _ h => h) (Or.inl ⟨rfl, fun _ => rfl⟩) ?_
  simp only [Act.put, List.setIfInBounds_toArray, List.set_cons_zero, List.set_cons_succ]
  refine wpK_ta (i := 3) (some 30) (v := .int .i64 (Pt.dist x1 x2 x3 y1 y2 y3)) rfl rfl (by kernel_rfl) (fun _ _ _ h => h) (Or.inl ⟨rfl, fun _ => rfl⟩) ?_
  simp only [Act.put, List.setIfInBounds_toArray, List.set_cons_zero, List.set_cons_succ]
  refine wpK_ta (i := 4) (some 31) (v := .bool pq) rfl rfl (by kernel_rfl) (fun _ _ _ h => h) (Or.inl ⟨by rfl, fun W => by (go_simp <;> (first | exact HD.out | simpa using HD.out))⟩) ?_
  simp only [Act.put, List.setIfInBounds_toArray, List.set_cons_zero, List.set_cons_succ]
  refine wpK_tk (i := 5) (some 32) (v := .agg #[.int .i64 x1, .int .i64 x2, .int .i64 x3]) rfl rfl (by kernel_rfl) (fun _ _ _ h => h) (.load_mid (by rfl) 23 (.tmp 4) rfl (w.heap.size) 0 rfl [.int .i64 x1, .int .i64 x2, .int .i64 x3] _ (fun W hg => (R0.out.below (GC11.out.trans (Gr.un hg))).range) Tryd.underlying23 rfl (by kernel_rfl)) ?_
  simp only [Act.put, List.setIfInBounds_toArray, List.set_cons_zero, List.set_cons_succ]
  refine wpK_tk (i := 6) (some 33) (v := .agg #[.int .i64 y1, .int .i64 y2, .int .i64 y3]) rfl rfl (by kernel_rfl) (fun _ _ _ h => h) (.load_mid (by rfl) 23 (.tmp 5) rfl (w.heap.size + 1) 0 rfl [.int .i64 y1, .int .i64 y2, .int .i64 y3] _ (fun W hg => (R1.out.below (GC11.out.trans (Gr.un hg))).range) Tryd.underlying23 rfl (by kernel_rfl)) ?_
  simp only [Act.put, List.setIfInBounds_toArray, List.set_cons_zero, List.set_cons_succ]
  refine wpK_ta (i := 7) (some 34) (v := .bool pq) rfl rfl (by kernel_rfl) (fun _ _ _ h => h) (Or.inl ⟨by rfl, fun W => by (go_simp; rw [← HP.out]; by_cases q1 : x1 = y1 <;> by_cases q2 : x2 = y2 <;> by_cases q3 : x3 = y3 <;> simp [q1, q2, q3])⟩) ?_
  simp only [Act.put, List.setIfInBounds_toArray, List.set_cons_zero, List.set_cons_succ]
  refine wpK_ta (i := 8) (some 35) (v := .bool false) rfl rfl (by kernel_rfl) (fun _ _ _ h => h) (Or.inl ⟨by rfl, fun W => by go_simp⟩) ?_
  simp only [Act.put, List.setIfInBounds_toArray, List.set_cons_zero, List.set_cons_succ]
  refine wpK_ta (i := 9) (some 36) (v := .bool false) rfl rfl (by kernel_rfl) (fun _ _ _ h => h) (Or.inl ⟨by rfl, fun W => by go_simp⟩) ?_
  simp only [Act.put, List.setIfInBounds_toArray, List.set_cons_zero, List.set_cons_succ]
  refine wpK_ta (i := 10) (some 37) (v := .bool false) rfl rfl (by kernel_rfl) (fun _ _ _ h => h) (Or.inl ⟨rfl, fun _ => rfl⟩) ?_
  simp only [Act.put, List.setIfInBounds_toArray, List.set_cons_zero, List.set_cons_succ]
  refine wpK_ta (i := 11) (some 38) (v := .int .i64 (Pt.dist x1 x2 x3 y1 y2 y3)) rfl rfl (by kernel_rfl) (fun _ _ _ h => h) (Or.inl ⟨rfl, fun _ => rfl⟩) ?_
  simp only [Act.put, List.setIfInBounds_toArray, List.set_cons_zero, List.set_cons_succ]
  refine wpK_tk (i := 12) (some 39) (v := .agg #[.int .i64 y1, .int .i64 y2, .int .i64 y3]) rfl rfl (by kernel_rfl) (fun _ _ _ h => h) (.load_mid (by rfl) 23 (.tmp 5) rfl (w.heap.size + 1) 0 rfl [.int .i64 y1, .int .i64 y2, .int .i64 y3] _ (fun W hg => (R1.out.below (GC11.out.trans (Gr.un hg))).range) Tryd.underlying23 rfl (by kernel_rfl)) ?_
  simp only [Act.put, List.setIfInBounds_toArray, List.set_cons_zero, List.set_cons_succ]
  refine wpK_tk (i := 13) (some 40) (v := .agg #[.int .i64 x1, .int .i64 x2, .int .i64 x3]) rfl rfl (by kernel_rfl) (fun _ _ _ h => h) (.load_mid (by rfl) 23 (.tmp 4) rfl (w.heap.size) 0 rfl [.int .i64 x1, .int .i64 x2, .int .i64 x3] _ (fun W hg => (R0.out.below (GC11.out.trans (Gr.un hg))).range) Tryd.underlying23 rfl (by kernel_rfl)) ?_
  simp only [Act.put, List.setIfInBounds_toArray, List.set_cons_zero, List.set_cons_succ]
  refine wpK_tk (i := 14) (some 41) (v := .int .i64 (Pt.dist y1 y2 y3 x1 x2 x3)) rfl rfl (by kernel_rfl) (fun _ _ _ h => h) (.call (f := 19) (args := #[.agg #[.int .i64 y1, .int .i64 y2, .int .i64 y3], .agg #[.int .i64 x1, .int .i64 x2, .int .i64 x3]]) (by rfl) (fun W => by go_simp) (fun W hg => distance_any y1 y2 y3 x1 x2 x3 W (by omega))) ?_
  simp only [Act.put, List.setIfInBounds_toArray, List.set_cons_zero, List.set_cons_succ]
  refine wpK_ta (i := 15) (some 42) (v := .bool false) rfl rfl (by kernel_rfl) (fun _ _ _ h => h) (Or.inl ⟨by rfl, fun W => by have hq : ¬ (Pt.dist x1 x2 x3 y1 y2 y3 ≠ Pt.dist y1 y2 y3 x1 x2 x3) := (by omega); first | (go_simp; done) | (go_simp <;> omega)⟩) ?_
  simp only [Act.put, List.setIfInBounds_toArray, List.set_cons_zero, List.set_cons_succ]
  refine wpK_ta (i := 16) (some 43) (v := .bool false) rfl rfl (by kernel_rfl) (fun _ _ _ h => h) (Or.inl ⟨by rfl, fun W => by go_simp⟩) ?_
  simp only [Act.put, List.setIfInBounds_toArray, List.set_cons_zero, List.set_cons_succ]
  refine wpK_ta (i := 17) (some 44) (v := .bool false) rfl rfl (by kernel_rfl) (fun _ _ _ h => h) (Or.inl ⟨rfl, fun _ => rfl⟩) ?_
  simp only [Act.put, List.setIfInBounds_toArray, List.set_cons_zero, List.set_cons_succ]
  refine wpK_ta (i := 18) (some 45) (v := .int .i64 (Pt.dist x1 x2 x3 y1 y2 y3)) rfl rfl (by kernel_rfl) (fun _ _ _ h => h) (Or.inl ⟨rfl, fun _ => rfl⟩) ?_
  simp only [Act.put, List.setIfInBounds_toArray, List.set_cons_zero, List.set_cons_succ]
  refine wpK_tk (i := 19) (some 46) (v := .agg #[.int .i64 x1, .int .i64 x2, .int .i64 x3]) rfl rfl (by kernel_rfl) (fun _ _ _ h => h) (.load_mid (by rfl) 23 (.tmp 4) rfl (w.heap.size) 0 rfl [.int .i64 x1, .int .i64 x2, .int .i64 x3] _ (fun W hg => (R0.out.below (GC11.out.trans (Gr.un hg))).range) Tryd.underlying23 rfl (by kernel_rfl)) ?_
  simp only [Act.put, List.setIfInBounds_toArray, List.set_cons_zero, List.set_cons_succ]
  refine wpK_tk (i := 20) (some 47) (v := .agg #[.int .i64 r1, .int .i64 r2, .int .i64 r3]) rfl rfl (by kernel_rfl) (fun _ _ _ h => h) (.load_mid (by rfl) 23 (.tmp 6) rfl (w.heap.size + 1 + 1) 0 rfl [.int .i64 r1, .int .i64 r2, .int .i64 r3] _ (fun W hg => (R2.out.below (GC11.out.trans (Gr.un hg))).range) Tryd.underlying23 rfl (by kernel_rfl)) ?_
  simp only [Act.put, List.setIfInBounds_toArray, List.set_cons_zero, List.set_cons_succ]
  refine wpK_tk (i := 21) (some 48) (v := .int .i64 (Pt.dist x1 x2 x3 r1 r2 r3)) rfl rfl (by kernel_rfl) (fun _ _ _ h => h) (.call (f := 19) (args := #[.agg #[.int .i64 x1, .int .i64 x2, .int .i64 x3], .agg #[.int .i64 r1, .int .i64 r2, .int .i64 r3]]) (by rfl) (fun W => by go_simp) (fun W hg => distance_any x1 x2 x3 r1 r2 r3 W (by omega))) ?_
  simp only [Act.put, List.setIfInBounds_toArray, List.set_cons_zero, List.set_cons_succ]
  refine wpK_tk (i := 22) (some 49) (v := .agg #[.int .i64 r1, .int .i64 r2, .int .i64 r3]) rfl rfl (by kernel_rfl) (fun _ _ _ h => h) (.load_mid (by rfl) 23 (.tmp 6) rfl (w.heap.size + 1 + 1) 0 rfl [.int .i64 r1, .int .i64 r2, .int .i64 r3] _ (fun W hg => (R2.out.below (GC11.out.trans (Gr.un hg))).range) Tryd.underlying23 rfl (by kernel_rfl)) ?_
  simp only [Act.put, List.setIfInBounds_toArray, List.set_cons_zero, List.set_cons_succ]
  refine wpK_tk (i := 23) (some 50) (v := .agg #[.int .i64 y1, .int .i64 y2, .int .i64 y3]) rfl rfl (by kernel_rfl) (fun _ _ _ h => h) (.load_mid (by rfl) 23 (.tmp 5) rfl (w.heap.size + 1) 0 rfl [.int .i64 y1, .int .i64 y2, .int .i64 y3] _ (fun W hg => (R1.out.below (GC11.out.trans (Gr.un hg))).range) Tryd.underlying23 rfl (by kernel_rfl)) ?_
  simp only [Act.put, List.setIfInBounds_toArray, List.set_cons_zero, List.set_cons_succ]
  refine wpK_tk (i := 24) (some 51) (v := .int .i64 (Pt.dist r1 r2 r3 y1 y2 y3)) rfl rfl (by kernel_rfl) (fun _ _ _ h => h) (.call (f := 19) (args := #[.agg #[.int .i64 r1, .int .i64 r2, .int .i64 r3], .agg #[.int .i64 y1, .int .i64 y2, .int .i64 y3]]) (by rfl) (fun W => by go_simp) (fun W hg => distance_any r1 r2 r3 y1 y2 y3 W (by omega))) ?_
  simp only [Act.put, List.setIfInBounds_toArray, List.set_cons_zero, List.set_cons_succ]
  refine wpK_ta (i := 25) (some 52) (v := .int .i64 ((Pt.dist x1 x2 x3 r1 r2 r3) + (Pt.dist r1 r2 r3 y1 y2 y3))) rfl rfl (by kernel_rfl) (fun _ _ _ h => h) (Or.inl ⟨by rfl, fun W => by (first | (go_simp; done) | (go_simp; rw [IntWalk.i64_in _ (by omega)]))⟩) ?_
  simp only [Act.put, List.setIfInBounds_toArray, List.set_cons_zero, List.set_cons_succ]
  refine wpK_ta (i := 26) (some 53) (v := .bool false) rfl rfl (by kernel_rfl) (fun _ _ _ h => h) (Or.inl ⟨by rfl, fun W => by have hq : ¬ (Pt.dist x1 x2 x3 y1 y2 y3 > (Pt.dist x1 x2 x3 r1 r2 r3) + (Pt.dist r1 r2 r3 y1 y2 y3)) := (by omega); first | (go_simp; done) | (go_simp <;> omega)⟩) ?_
  simp only [Act.put, List.setIfInBounds_toArray, List.set_cons_zero, List.set_cons_succ]
  refine wpK_ta (i := 27) (some 54) (v := .bool false) rfl rfl (by kernel_rfl) (fun _ _ _ h => h) (Or.inl ⟨by rfl, fun W => by go_simp⟩) ?_
  simp only [Act.put, List.setIfInBounds_toArray, List.set_cons_zero, List.set_cons_succ]
  refine wpK_done (by kernel_rfl) (fun V12 hv13 => ?_) _
  have GC14 := Lib.hid (GC11.out.trans (Gr.un hv13))
  clear hv13
  go_upto_region 6 with fail
  refine wpG_region ?_
  refine wpG_tk (some 55) (v := .agg #[.int .i64 a1, .int .i64 a2, .int .i64 a3, .int .i64 a4, .int .i64 a5, .int .i64 a6]) rfl (.load_mid (by rfl) 31 (.tmp 7) rfl (w.heap.size + 1 + 1 + 1) 0 rfl [.int .i64 a1, .int .i64 a2, .int .i64 a3, .int .i64 a4, .int .i64 a5, .int .i64 a6] _ (fun W hg => (R3.out.below (GC14.out.trans hg)).range) Tryd.underlying31 rfl (by kernel_rfl)) ?_
  simp only [Act.put, List.setIfInBounds_toArray, List.set_cons_zero, List.set_cons_succ]
  refine wpG_tk (some 56) (v := .bool true) rfl (.call (f := 23) (args := #[.agg #[.int .i64 a1, .int .i64 a2, .int .i64 a3, .int .i64 a4, .int .i64 a5, .int .i64 a6]]) (by rfl) (fun W => by go_simp) (fun W hg => empty_any a1 a2 a3 a4 a5 a6 true W HE.out)) ?_
  simp only [Act.put, List.setIfInBounds_toArray, List.set_cons_zero, List.set_cons_succ]
  refine wpG_done (fun V15 hv16 => ?_)
  have GC17 := Lib.hid (GC14.out.trans hv16)
  clear hv16
  go_upto_region 7 with fail
  refine wpG_region ?_
  refine wpG_tk (some 57) (v := .bool true) rfl (.call (f := 12) (args := #[]) (by rfl) (fun W => by go_simp) (fun W hg => sanity_any W (HT.out.below (GC17.out.trans hg)))) ?_
  simp only [Act.put, List.setIfInBounds_toArray, List.set_cons_zero, List.set_cons_succ]
  refine wpG_tk (some 58) (v := .bool true) rfl (.val (by rfl) (fun _ _ => rfl)) ?_
  simp only [Act.put, List.setIfInBounds_toArray, List.set_cons_zero, List.set_cons_succ]
  refine wpG_tk (some 59) (v := .agg #[.int .i64 x1, .int .i64 x2, .int .i64 x3]) rfl (.load_mid (by rfl) 23 (.tmp 4) rfl (w.heap.size) 0 rfl [.int .i64 x1, .int .i64 x2, .int .i64 x3] _ (fun W hg => (R0.out.below (GC17.out.trans hg)).range) Tryd.underlying23 rfl (by kernel_rfl)) ?_
  simp only [Act.put, List.setIfInBounds_toArray, List.set_cons_zero, List.set_cons_succ]
  refine wpG_tk (some 60) (v := .agg #[.int .i64 a1, .int .i64 a2, .int .i64 a3, .int .i64 a4, .int .i64 a5, .int .i64 a6]) rfl (.load_mid (by rfl) 31 (.tmp 7) rfl (w.heap.size + 1 + 1 + 1) 0 rfl [.int .i64 a1, .int .i64 a2, .int .i64 a3, .int .i64 a4, .int .i64 a5, .int .i64 a6] _ (fun W hg => (R3.out.below (GC17.out.trans hg)).range) Tryd.underlying31 rfl (by kernel_rfl)) ?_
  simp only [Act.put, List.setIfInBounds_toArray, List.set_cons_zero, List.set_cons_succ]
  refine wpG_tk (some 61) (v := .int .i64 (-1)) rfl (.call (f := 41) (args := #[.agg #[.int .i64 x1, .int .i64 x2, .int .i64 x3], .agg #[.int .i64 a1, .int .i64 a2, .int .i64 a3, .int .i64 a4, .int .i64 a5, .int .i64 a6]]) (by rfl) (fun W => by go_simp) (fun W hg => near_t x1 x2 x3 a1 a2 a3 a4 a5 a6 W (by omega) HE.out)) ?_
  simp only [Act.put, List.setIfInBounds_toArray, List.set_cons_zero, List.set_cons_succ]
  refine wpG_tk (some 62) (v := .bool true) rfl (.val (by rfl) (fun W hg => by go_simp)) ?_
  simp only [Act.put, List.setIfInBounds_toArray, List.set_cons_zero, List.set_cons_succ]
  refine wpG_tk (some 63) (v := .bool true) rfl (.val (by rfl) (fun W hg => by go_simp)) ?_
  simp only [Act.put, List.setIfInBounds_toArray, List.set_cons_zero, List.set_cons_succ]
  refine wpG_tk (some 8) (v := .bool true) rfl (.val (by rfl) (fun _ _ => rfl)) ?_
  simp only [Act.put, List.setIfInBounds_toArray, List.set_cons_zero, List.set_cons_succ]
  refine wpG_done (fun V18 hv19 => ?_)
  have GC20 := Lib.hid (GC17.out.trans hv19)
  clear hv19
  go_wp2_with fail
  go_ret
  exact ⟨rfl, Gr.to G0.out GC20.out⟩
set_option maxRecDepth 1000000 in
set_option maxHeartbeats 8000000 in
theorem law9_t (x1 x2 x3 y1 y2 y3 r1 r2 r3 a1 a2 a3 a4 a5 a6 : Int) (w : World) (hT : Tab w) (i1 : In64 (x1, x2, x3)) (i2 : In64 (y1, y2, y3)) (i3 : In64 (r1, r2, r3)) (i4 : In64 (a1, a2, a3)) (i5 : In64 (a4, a5, a6)) (hs : [(x1, x2, x3), (y1, y2, y3), (r1, r2, r3), (a1, a2, a3), (a4, a5, a6)].all inR = true) (he : Pt.emp a1 a2 a3 a4 a5 a6 = false) (hq : closed y1 y2 y3 a1 a2 a3 a4 a5 a6 = true) :
    Calls Tryd.prog 9 #[.agg #[.int .i64 x1, .int .i64 x2, .int .i64 x3], .agg #[.int .i64 y1, .int .i64 y2, .int .i64 y3], .agg #[.int .i64 r1, .int .i64 r2, .int .i64 r3], .agg #[.int .i64 a1, .int .i64 a2, .int .i64 a3, .int .i64 a4, .int .i64 a5, .int .i64 a6]] w fun e w' => e = .returned (.bool true) ∧ Below w.heap.size w w' := by
  have hb := hs
  simp only [List.all_cons, List.all_nil, Bool.and_true, Bool.and_eq_true, inR_true] at hb
  have HS := Lib.hid hs
  have d1 := dist_nn x1 x2 x3 y1 y2 y3
  have d2 := dist_sym x1 x2 x3 y1 y2 y3
  have d3 := dist_tri x1 x2 x3 y1 y2 y3 r1 r2 r3
  have d4 := dist_nn x1 x2 x3 r1 r2 r3
  have d5 := dist_nn r1 r2 r3 y1 y2 y3
  have d6 := dist_bd (x1 := x1) (x2 := x2) (x3 := x3) (y1 := r1) (y2 := r2) (y3 := r3) (by omega)
  have d7 := dist_bd (x1 := r1) (x2 := r2) (x3 := r3) (y1 := y1) (y2 := y2) (y3 := y3) (by omega)
  obtain ⟨pq, hpq⟩ : ∃ b : Bool, b = decide (x1 = y1 ∧ x2 = y2 ∧ x3 = y3) := ⟨_, rfl⟩
  have HP := Lib.hid hpq.symm
  have HD : Hid (decide (Pt.dist x1 x2 x3 y1 y2 y3 = 0) = pq) := Lib.hid (by rw [hpq]; exact decide_eq_decide.2 (dist_zero _ _ _ _ _ _))
  clear hs hpq
  have n1 := near_lip x1 x2 x3 y1 y2 y3 a1 a2 a3 a4 a5 a6
  have n2 := near_lip y1 y2 y3 x1 x2 x3 a1 a2 a3 a4 a5 a6
  rw [d2] at n2
  have n3 := near_nn x1 x2 x3 a1 a2 a3 a4 a5 a6
  have n4 := near_nn y1 y2 y3 a1 a2 a3 a4 a5 a6
  have n5 := near_bd (x1 := x1) (x2 := x2) (x3 := x3) (a1 := a1) (a2 := a2) (a3 := a3) (a4 := a4) (a5 := a5) (a6 := a6) (by omega)
  have n6 := near_bd (x1 := y1) (x2 := y2) (x3 := y3) (a1 := a1) (a2 := a2) (a3 := a3) (a4 := a4) (a5 := a5) (a6 := a6) (by omega)
  have n7 : Pt.near y1 y2 y3 a1 a2 a3 a4 a5 a6 = 0 := (near_zero _ _ _ _ _ _ _ _ _).2 (of_decide_eq_true hq)
  obtain ⟨cp, hcp⟩ : ∃ b : Bool, closed x1 x2 x3 a1 a2 a3 a4 a5 a6 = b := ⟨_, rfl⟩
  have HCP := Lib.hid hcp
  have HNZ : Hid (decide (Pt.near x1 x2 x3 a1 a2 a3 a4 a5 a6 = 0) = cp) := Lib.hid (by rw [← hcp]; exact decide_eq_decide.2 (near_zero _ _ _ _ _ _ _ _ _))
  have HCQ := Lib.hid hq
  have HE := Lib.hid he
  clear he hq hcp
  obtain ⟨u, hu, r0, r1, r2, r3, g0⟩ := rows4 w [.int .i64 x1, .int .i64 x2, .int .i64 x3] 23 [.int .i64 y1, .int .i64 y2, .int .i64 y3] 23 [.int .i64 r1, .int .i64 r2, .int .i64 r3] 23 [.int .i64 a1, .int .i64 a2, .int .i64 a3, .int .i64 a4, .int .i64 a5, .int .i64 a6] 31
  have R0 := Lib.hid r0
  have R1 := Lib.hid r1
  have R2 := Lib.hid r2
  have R3 := Lib.hid r3
  have G0 := Lib.hid g0
  have HU := Lib.hid hu
  have HT := Lib.hid (hT.below g0)
  clear hT
  clear hu g0 r0 r1 r2 r3
  go_enter Tryd.func9, Tryd.ntmps9
  go_upto_region 1 with fail
  rw [← HU.out]
  refine wpG_region ?_
  refine wpG_tk (some 13) (v := .agg #[.int .i64 x1, .int .i64 x2, .int .i64 x3]) rfl (.load_mid (by rfl) 23 (.tmp 4) rfl (w.heap.size) 0 rfl [.int .i64 x1, .int .i64 x2, .int .i64 x3] _ (fun W hg => (R0.out.below hg).range) Tryd.underlying23 rfl (by kernel_rfl)) ?_
  simp only [Act.put, List.setIfInBounds_toArray, List.set_cons_zero, List.set_cons_succ]
  refine wpG_tk (some 14) (v := .agg #[.int .i64 y1, .int .i64 y2, .int .i64 y3]) rfl (.load_mid (by rfl) 23 (.tmp 5) rfl (w.heap.size + 1) 0 rfl [.int .i64 y1, .int .i64 y2, .int .i64 y3] _ (fun W hg => (R1.out.below hg).range) Tryd.underlying23 rfl (by kernel_rfl)) ?_
  simp only [Act.put, List.setIfInBounds_toArray, List.set_cons_zero, List.set_cons_succ]
  refine wpG_tk (some 15) (v := .agg #[.int .i64 r1, .int .i64 r2, .int .i64 r3]) rfl (.load_mid (by rfl) 23 (.tmp 6) rfl (w.heap.size + 1 + 1) 0 rfl [.int .i64 r1, .int .i64 r2, .int .i64 r3] _ (fun W hg => (R2.out.below hg).range) Tryd.underlying23 rfl (by kernel_rfl)) ?_
  simp only [Act.put, List.setIfInBounds_toArray, List.set_cons_zero, List.set_cons_succ]
  refine wpG_tk (some 16) (v := .pointer (some ⟨w.heap.size + 1 + 1 + 1, 0, none⟩)) rfl (.val (by rfl) (fun W hg => by go_simp)) ?_
  simp only [Act.put, List.setIfInBounds_toArray, List.set_cons_zero, List.set_cons_succ]
  refine wpG_tk (some 17) (v := .agg #[.int .i64 a1, .int .i64 a2, .int .i64 a3]) rfl (.load_mid (by rfl) 23 (.tmp 16) rfl (w.heap.size + 1 + 1 + 1) 0 rfl [.int .i64 a1, .int .i64 a2, .int .i64 a3] _ (fun W hg => (R3.out.below hg).lo) Tryd.underlying23 rfl (by kernel_rfl)) ?_
  simp only [Act.put, List.setIfInBounds_toArray, List.set_cons_zero, List.set_cons_succ]
  refine wpG_tk (some 18) (v := .pointer (some ⟨w.heap.size + 1 + 1 + 1, 3, none⟩)) rfl (.val (by rfl) (fun W hg => by go_simp)) ?_
  simp only [Act.put, List.setIfInBounds_toArray, List.set_cons_zero, List.set_cons_succ]
  refine wpG_tk (some 19) (v := .agg #[.int .i64 a4, .int .i64 a5, .int .i64 a6]) rfl (.load_mid (by rfl) 23 (.tmp 18) rfl (w.heap.size + 1 + 1 + 1) 3 rfl [.int .i64 a4, .int .i64 a5, .int .i64 a6] _ (fun W hg => (R3.out.below hg).hi) Tryd.underlying23 rfl (by kernel_rfl)) ?_
  simp only [Act.put, List.setIfInBounds_toArray, List.set_cons_zero, List.set_cons_succ]
  refine wpG_val (some 20) rfl (by rfl) (fun W1 hg2 => ⟨.slice (some ⟨W1.heap.size, 0, none⟩) 5 5, W1.alloc (.cells #[.int .i64 x1, .int .i64 x2, .int .i64 x3, .int .i64 y1, .int .i64 y2, .int .i64 y3, .int .i64 r1, .int .i64 r2, .int .i64 r3, .int .i64 a1, .int .i64 a2, .int .i64 a3, .int .i64 a4, .int .i64 a5, .int .i64 a6] 23), by (go_simp <;> rfl), ?_⟩)
  simp only [Act.put, List.setIfInBounds_toArray, List.set_cons_zero, List.set_cons_succ]
  obtain ⟨U3, hu, rn, gn⟩ : ∃ z, z = W1.alloc (.cells #[.int .i64 x1, .int .i64 x2, .int .i64 x3, .int .i64 y1, .int .i64 y2, .int .i64 y3, .int .i64 r1, .int .i64 r2, .int .i64 r3, .int .i64 a1, .int .i64 a2, .int .i64 a3, .int .i64 a4, .int .i64 a5, .int .i64 a6] 23) ∧ Row W1.heap.size [.int .i64 x1, .int .i64 x2, .int .i64 x3, .int .i64 y1, .int .i64 y2, .int .i64 y3, .int .i64 r1, .int .i64 r2, .int .i64 r3, .int .i64 a1, .int .i64 a2, .int .i64 a3, .int .i64 a4, .int .i64 a5, .int .i64 a6] z ∧ Gr W1 z := ⟨_, rfl, Row.newl W1 [.int .i64 x1, .int .i64 x2, .int .i64 x3, .int .i64 y1, .int .i64 y2, .int .i64 y3, .int .i64 r1, .int .i64 r2, .int .i64 r3, .int .i64 a1, .int .i64 a2, .int .i64 a3, .int .i64 a4, .int .i64 a5, .int .i64 a6] 23, Gr.al _ _⟩
  rw [← hu]
  have RN4 := Lib.hid rn
  have GB5 := Lib.hid (Gr.trans hg2 gn)
  clear hu rn gn hg2
  refine wpG_tk (some 21) (v := .bool true) rfl (.call (f := 11) (args := #[.slice (some ⟨W1.heap.size, 0, none⟩) 5 5]) (by rfl) (fun W => by go_simp) (fun W hg => small_is [(x1, x2, x3), (y1, y2, y3), (r1, r2, r3), (a1, a2, a3), (a4, a5, a6)] W1.heap.size 5 true W rfl (by decide) (RN4.out.below hg) (List.forall_mem_cons.2 ⟨i1, (List.forall_mem_cons.2 ⟨i2, (List.forall_mem_cons.2 ⟨i3, (List.forall_mem_cons.2 ⟨i4, (List.forall_mem_cons.2 ⟨i5, (fun _ h => absurd h List.not_mem_nil)⟩)⟩)⟩)⟩)⟩) HS.out)) ?_
  simp only [Act.put, List.setIfInBounds_toArray, List.set_cons_zero, List.set_cons_succ]
  refine wpG_tk (some 22) (v := .bool false) rfl (.val (by rfl) (fun W hg => by go_simp)) ?_
  simp only [Act.put, List.setIfInBounds_toArray, List.set_cons_zero, List.set_cons_succ]
  refine wpG_done (fun V6 hv7 => ?_)
  have GC8 := Lib.hid (GB5.out.trans hv7)
  clear hv7
  go_upto_region 3 with fail
  refine wpG_region ?_
  refine wpG_tk (some 24) (v := .agg #[.int .i64 x1, .int .i64 x2, .int .i64 x3]) rfl (.load_mid (by rfl) 23 (.tmp 4) rfl (w.heap.size) 0 rfl [.int .i64 x1, .int .i64 x2, .int .i64 x3] _ (fun W hg => (R0.out.below (GC8.out.trans hg)).range) Tryd.underlying23 rfl (by kernel_rfl)) ?_
  simp only [Act.put, List.setIfInBounds_toArray, List.set_cons_zero, List.set_cons_succ]
  refine wpG_tk (some 25) (v := .agg #[.int .i64 y1, .int .i64 y2, .int .i64 y3]) rfl (.load_mid (by rfl) 23 (.tmp 5) rfl (w.heap.size + 1) 0 rfl [.int .i64 y1, .int .i64 y2, .int .i64 y3] _ (fun W hg => (R1.out.below (GC8.out.trans hg)).range) Tryd.underlying23 rfl (by kernel_rfl)) ?_
  simp only [Act.put, List.setIfInBounds_toArray, List.set_cons_zero, List.set_cons_succ]
  refine wpG_tk (some 26) (v := .int .i64 (Pt.dist x1 x2 x3 y1 y2 y3)) rfl (.call (f := 19) (args := #[.agg #[.int .i64 x1, .int .i64 x2, .int .i64 x3], .agg #[.int .i64 y1, .int .i64 y2, .int .i64 y3]]) (by rfl) (fun W => by go_simp) (fun W hg => distance_any x1 x2 x3 y1 y2 y3 W (by omega))) ?_
  simp only [Act.put, List.setIfInBounds_toArray, List.set_cons_zero, List.set_cons_succ]
  refine wpG_tk (some 9) (v := .int .i64 (Pt.dist x1 x2 x3 y1 y2 y3)) rfl (.val (by rfl) (fun _ _ => rfl)) ?_
  simp only [Act.put, List.setIfInBounds_toArray, List.set_cons_zero, List.set_cons_succ]
  refine wpG_done (fun V9 hv10 => ?_)
  have GC11 := Lib.hid (GC8.out.trans hv10)
  clear hv10
  go_upto_region 4 with fail
  refine wpK_region (by kernel_rfl) ?_
  refine wpK_ta (i := 0) (some 27) (v := .int .i64 (Pt.dist x1 x2 x3 y1 y2 y3)) rfl rfl (by kernel_rfl) (fun _ _ _ h => h) (Or.inl ⟨rfl, fun _ => rfl⟩) ?_
  simp only [Act.put, List.setIfInBounds_toArray, List.set_cons_zero, List.set_cons_succ]
  refine wpK_ta (i := 1) (some 28) (v := .bool false) rfl rfl (by kernel_rfl) (fun _ _ _ h => h) (Or.inl ⟨by rfl, fun W => by have hq : ¬ (Pt.dist x1 x2 x3 y1 y2 y3 < 0) := (by omega); first | (go_simp; done) | (go_simp <;> omega)⟩) ?_
  simp only [Act.put, List.setIfInBounds_toArray, List.set_cons_zero, List.set_cons_succ]
  refine wpK_ta (i := 2) (some 29) (v := .bool false) rfl rfl (by kernel_rfl) (fun _ _ _ h => h) (Or.inl ⟨rfl, fun _ => rfl⟩) ?_
  simp only [Act.put, List.setIfInBounds_toArray, List.set_cons_zero, List.set_cons_succ]
  refine wpK_ta (i := 3) (some 30) (v := .int .i64 (Pt.dist x1 x2 x3 y1 y2 y3)) rfl rfl (by kernel_rfl) (fun _ _ _ h => h) (Or.inl ⟨rfl, fun _ => rfl⟩) ?_
  simp only [Act.put, List.setIfInBounds_toArray, List.set_cons_zero, List.set_cons_succ]
  refine wpK_ta (i := 4) (some 31) (v := .bool pq) rfl rfl (by kernel_rfl) (fun _ _ _ h => h) (Or.inl ⟨by rfl, fun W => by (go_simp <;> (first | exact HD.out | simpa using HD.out))⟩) ?_
  simp only [Act.put, List.setIfInBounds_toArray, List.set_cons_zero, List.set_cons_succ]
  refine wpK_tk (i := 5) (some 32) (v := .agg #[.int .i64 x1, .int .i64 x2, .int .i64 x3]) rfl rfl (by kernel_rfl) (fun _ _ _ h => h) (.load_mid (by rfl) 23 (.tmp 4) rfl (w.heap.size) 0 rfl [.int .i64 x1, .int .i64 x2, .int .i64 x3] _ (fun W hg => (R0.out.below (GC11.out.trans (Gr.un hg))).range) Tryd.underlying23 rfl (by kernel_rfl)) ?_
  simp only [Act.put, List.setIfInBounds_toArray, List.set_cons_zero, List.set_cons_succ]
  refine wpK_tk (i := 6) (some 33) (v := .agg #[.int .i64 y1, .int .i64 y2, .int .i64 y3]) rfl rfl (by kernel_rfl) (fun _ _ _ h => h) (.load_mid (by rfl) 23 (.tmp 5) rfl (w.heap.size + 1) 0 rfl [.int .i64 y1, .int .i64 y2, .int .i64 y3] _ (fun W hg => (R1.out.below (GC11.out.trans (Gr.un hg))).range) Tryd.underlying23 rfl (by kernel_rfl)) ?_
  simp only [Act.put, List.setIfInBounds_toArray, List.set_cons_zero, List.set_cons_succ]
  refine wpK_ta (i := 7) (some 34) (v := .bool pq) rfl rfl (by kernel_rfl) (fun _ _ _ h => h) (Or.inl ⟨by rfl, fun W => by (go_simp; rw [← HP.out]; by_cases q1 : x1 = y1 <;> by_cases q2 : x2 = y2 <;> by_cases q3 : x3 = y3 <;> simp [q1, q2, q3])⟩) ?_
  simp only [Act.put, List.setIfInBounds_toArray, List.set_cons_zero, List.set_cons_succ]
  refine wpK_ta (i := 8) (some 35) (v := .bool false) rfl rfl (by kernel_rfl) (fun _ _ _ h => h) (Or.inl ⟨by rfl, fun W => by go_simp⟩) ?_
  simp only [Act.put, List.setIfInBounds_toArray, List.set_cons_zero, List.set_cons_succ]
  refine wpK_ta (i := 9) (some 36) (v := .bool false) rfl rfl (by kernel_rfl) (fun _ _ _ h => h) (Or.inl ⟨by rfl, fun W => by go_simp⟩) ?_
  simp only [Act.put, List.setIfInBounds_toArray, List.set_cons_zero, List.set_cons_succ]
  refine wpK_ta (i := 10) (some 37) (v := .bool false) rfl rfl (by kernel_rfl) (fun _ _ _ h => h) (Or.inl ⟨rfl, fun _ => rfl⟩) ?_
  simp only [Act.put, List.setIfInBounds_toArray, List.set_cons_zero, List.set_cons_succ]
  refine wpK_ta (i := 11) (some 38) (v := .int .i64 (Pt.dist x1 x2 x3 y1 y2 y3)) rfl rfl (by kernel_rfl) (fun _ _ _ h => h) (Or.inl ⟨rfl, fun _ => rfl⟩) ?_
  simp only [Act.put, List.setIfInBounds_toArray, List.set_cons_zero, List.set_cons_succ]
  refine wpK_tk (i := 12) (some 39) (v := .agg #[.int .i64 y1, .int .i64 y2, .int .i64 y3]) rfl rfl (by kernel_rfl) (fun _ _ _ h => h) (.load_mid (by rfl) 23 (.tmp 5) rfl (w.heap.size + 1) 0 rfl [.int .i64 y1, .int .i64 y2, .int .i64 y3] _ (fun W hg => (R1.out.below (GC11.out.trans (Gr.un hg))).range) Tryd.underlying23 rfl (by kernel_rfl)) ?_
  simp only [Act.put, List.setIfInBounds_toArray, List.set_cons_zero, List.set_cons_succ]
  refine wpK_tk (i := 13) (some 40) (v := .agg #[.int .i64 x1, .int .i64 x2, .int .i64 x3]) rfl rfl (by kernel_rfl) (fun _ _ _ h => h) (.load_mid (by rfl) 23 (.tmp 4) rfl (w.heap.size) 0 rfl [.int .i64 x1, .int .i64 x2, .int .i64 x3] _ (fun W hg => (R0.out.below (GC11.out.trans (Gr.un hg))).range) Tryd.underlying23 rfl (by kernel_rfl)) ?_
  simp only [Act.put, List.setIfInBounds_toArray, List.set_cons_zero, List.set_cons_succ]
  refine wpK_tk (i := 14) (some 41) (v := .int .i64 (Pt.dist y1 y2 y3 x1 x2 x3)) rfl rfl (by kernel_rfl) (fun _ _ _ h => h) (.call (f := 19) (args := #[.agg #[.int .i64 y1, .int .i64 y2, .int .i64 y3], .agg #[.int .i64 x1, .int .i64 x2, .int .i64 x3]]) (by rfl) (fun W => by go_simp) (fun W hg => distance_any y1 y2 y3 x1 x2 x3 W (by omega))) ?_
  simp only [Act.put, List.setIfInBounds_toArray, List.set_cons_zero, List.set_cons_succ]
  refine wpK_ta (i := 15) (some 42) (v := .bool false) rfl rfl (by kernel_rfl) (fun _ _ _ h => h) (Or.inl ⟨by rfl, fun W => by have hq : ¬ (Pt.dist x1 x2 x3 y1 y2 y3 ≠ Pt.dist y1 y2 y3 x1 x2 x3) := (by omega); first | (go_simp; done) | (go_simp <;> omega)⟩) ?_
  simp only [Act.put, List.setIfInBounds_toArray, List.set_cons_zero, List.set_cons_succ]
  refine wpK_ta (i := 16) (some 43) (v := .bool false) rfl rfl (by kernel_rfl) (fun _ _ _ h => h) (Or.inl ⟨by rfl, fun W => by go_simp⟩) ?_
  simp only [Act.put, List.setIfInBounds_toArray, List.set_cons_zero, List.set_cons_succ]
  refine wpK_ta (i := 17) (some 44) (v := .bool false) rfl rfl (by kernel_rfl) (fun _ _ _ h => h) (Or.inl ⟨rfl, fun _ => rfl⟩) ?_
  simp only [Act.put, List.setIfInBounds_toArray, List.set_cons_zero, List.set_cons_succ]
  refine wpK_ta (i := 18) (some 45) (v := .int .i64 (Pt.dist x1 x2 x3 y1 y2 y3)) rfl rfl (by kernel_rfl) (fun _ _ _ h => h) (Or.inl ⟨rfl, fun _ => rfl⟩) ?_
  simp only [Act.put, List.setIfInBounds_toArray, List.set_cons_zero, List.set_cons_succ]
  refine wpK_tk (i := 19) (some 46) (v := .agg #[.int .i64 x1, .int .i64 x2, .int .i64 x3]) rfl rfl (by kernel_rfl) (fun _ _ _ h => h) (.load_mid (by rfl) 23 (.tmp 4) rfl (w.heap.size) 0 rfl [.int .i64 x1, .int .i64 x2, .int .i64 x3] _ (fun W hg => (R0.out.below (GC11.out.trans (Gr.un hg))).range) Tryd.underlying23 rfl (by kernel_rfl)) ?_
  simp only [Act.put, List.setIfInBounds_toArray, List.set_cons_zero, List.set_cons_succ]
  refine wpK_tk (i := 20) (some 47) (v := .agg #[.int .i64 r1, .int .i64 r2, .int .i64 r3]) rfl rfl (by kernel_rfl) (fun _ _ _ h => h) (.load_mid (by rfl) 23 (.tmp 6) rfl (w.heap.size + 1 + 1) 0 rfl [.int .i64 r1, .int .i64 r2, .int .i64 r3] _ (fun W hg => (R2.out.below (GC11.out.trans (Gr.un hg))).range) Tryd.underlying23 rfl (by kernel_rfl)) ?_
  simp only [Act.put, List.setIfInBounds_toArray, List.set_cons_zero, List.set_cons_succ]
  refine wpK_tk (i := 21) (some 48) (v := .int .i64 (Pt.dist x1 x2 x3 r1 r2 r3)) rfl rfl (by kernel_rfl) (fun _ _ _ h => h) (.call (f := 19) (args := #[.agg #[.int .i64 x1, .int .i64 x2, .int .i64 x3], .agg #[.int .i64 r1, .int .i64 r2, .int .i64 r3]]) (by rfl) (fun W => by go_simp) (fun W hg => distance_any x1 x2 x3 r1 r2 r3 W (by omega))) ?_
  simp only [Act.put, List.setIfInBounds_toArray, List.set_cons_zero, List.set_cons_succ]
  refine wpK_tk (i := 22) (some 49) (v := .agg #[.int .i64 r1, .int .i64 r2, .int .i64 r3]) rfl rfl (by kernel_rfl) (fun _ _ _ h => h) (.load_mid (by rfl) 23 (.tmp 6) rfl (w.heap.size + 1 + 1) 0 rfl [.int .i64 r1, .int .i64 r2, .int .i64 r3] _ (fun W hg => (R2.out.below (GC11.out.trans (Gr.un hg))).range) Tryd.underlying23 rfl (by kernel_rfl)) ?_
  simp only [Act.put, List.setIfInBounds_toArray, List.set_cons_zero, List.set_cons_succ]
  refine wpK_tk (i := 23) (some 50) (v := .agg #[.int .i64 y1, .int .i64 y2, .int .i64 y3]) rfl rfl (by kernel_rfl) (fun _ _ _ h => h) (.load_mid (by rfl) 23 (.tmp 5) rfl (w.heap.size + 1) 0 rfl [.int .i64 y1, .int .i64 y2, .int .i64 y3] _ (fun W hg => (R1.out.below (GC11.out.trans (Gr.un hg))).range) Tryd.underlying23 rfl (by kernel_rfl)) ?_
  simp only [Act.put, List.setIfInBounds_toArray, List.set_cons_zero, List.set_cons_succ]
  refine wpK_tk (i := 24) (some 51) (v := .int .i64 (Pt.dist r1 r2 r3 y1 y2 y3)) rfl rfl (by kernel_rfl) (fun _ _ _ h => h) (.call (f := 19) (args := #[.agg #[.int .i64 r1, .int .i64 r2, .int .i64 r3], .agg #[.int .i64 y1, .int .i64 y2, .int .i64 y3]]) (by rfl) (fun W => by go_simp) (fun W hg => distance_any r1 r2 r3 y1 y2 y3 W (by omega))) ?_
  simp only [Act.put, List.setIfInBounds_toArray, List.set_cons_zero, List.set_cons_succ]
  refine wpK_ta (i := 25) (some 52) (v := .int .i64 ((Pt.dist x1 x2 x3 r1 r2 r3) + (Pt.dist r1 r2 r3 y1 y2 y3))) rfl rfl (by kernel_rfl) (fun _ _ _ h => h) (Or.inl ⟨by rfl, fun W => by (first | (go_simp; done) | (go_simp; rw [IntWalk.i64_in _ (by omega)]))⟩) ?_
  simp only [Act.put, List.setIfInBounds_toArray, List.set_cons_zero, List.set_cons_succ]
  refine wpK_ta (i := 26) (some 53) (v := .bool false) rfl rfl (by kernel_rfl) (fun _ _ _ h => h) (Or.inl ⟨by rfl, fun W => by have hq : ¬ (Pt.dist x1 x2 x3 y1 y2 y3 > (Pt.dist x1 x2 x3 r1 r2 r3) + (Pt.dist r1 r2 r3 y1 y2 y3)) := (by omega); first | (go_simp; done) | (go_simp <;> omega)⟩) ?_
  simp only [Act.put, List.setIfInBounds_toArray, List.set_cons_zero, List.set_cons_succ]
  refine wpK_ta (i := 27) (some 54) (v := .bool false) rfl rfl (by kernel_rfl) (fun _ _ _ h => h) (Or.inl ⟨by rfl, fun W => by go_simp⟩) ?_
  simp only [Act.put, List.setIfInBounds_toArray, List.set_cons_zero, List.set_cons_succ]
  refine wpK_done (by kernel_rfl) (fun V12 hv13 => ?_) _
  have GC14 := Lib.hid (GC11.out.trans (Gr.un hv13))
  clear hv13
  go_upto_region 6 with fail
  refine wpG_region ?_
  refine wpG_tk (some 55) (v := .agg #[.int .i64 a1, .int .i64 a2, .int .i64 a3, .int .i64 a4, .int .i64 a5, .int .i64 a6]) rfl (.load_mid (by rfl) 31 (.tmp 7) rfl (w.heap.size + 1 + 1 + 1) 0 rfl [.int .i64 a1, .int .i64 a2, .int .i64 a3, .int .i64 a4, .int .i64 a5, .int .i64 a6] _ (fun W hg => (R3.out.below (GC14.out.trans hg)).range) Tryd.underlying31 rfl (by kernel_rfl)) ?_
  simp only [Act.put, List.setIfInBounds_toArray, List.set_cons_zero, List.set_cons_succ]
  refine wpG_tk (some 56) (v := .bool false) rfl (.call (f := 23) (args := #[.agg #[.int .i64 a1, .int .i64 a2, .int .i64 a3, .int .i64 a4, .int .i64 a5, .int .i64 a6]]) (by rfl) (fun W => by go_simp) (fun W hg => empty_any a1 a2 a3 a4 a5 a6 false W HE.out)) ?_
  simp only [Act.put, List.setIfInBounds_toArray, List.set_cons_zero, List.set_cons_succ]
  refine wpG_done (fun V15 hv16 => ?_)
  have GC17 := Lib.hid (GC14.out.trans hv16)
  clear hv16
  go_upto_region 8 with fail
  refine wpG_region ?_
  refine wpG_tk (some 64) (v := .func (.func 62) #[] #[.pointer (some ⟨w.heap.size + 1 + 1 + 1, 0, none⟩)]) rfl (.val (by rfl) (fun W hg => by go_simp)) ?_
  simp only [Act.put, List.setIfInBounds_toArray, List.set_cons_zero, List.set_cons_succ]
  refine wpG_tk (some 10) (v := .func (.func 62) #[] #[.pointer (some ⟨w.heap.size + 1 + 1 + 1, 0, none⟩)]) rfl (.val (by rfl) (fun _ _ => rfl)) ?_
  simp only [Act.put, List.setIfInBounds_toArray, List.set_cons_zero, List.set_cons_succ]
  refine wpG_done (fun V18 hv19 => ?_)
  have GC20 := Lib.hid (GC17.out.trans hv19)
  clear hv19
  go_upto_region 9 with fail
  refine wpK_region (by kernel_rfl) ?_
  refine wpK_tk (i := 0) (some 65) (v := .agg #[.int .i64 x1, .int .i64 x2, .int .i64 x3]) rfl rfl (by kernel_rfl) (fun _ _ _ h => h) (.load_mid (by rfl) 23 (.tmp 4) rfl (w.heap.size) 0 rfl [.int .i64 x1, .int .i64 x2, .int .i64 x3] _ (fun W hg => (R0.out.below (GC20.out.trans (Gr.un hg))).range) Tryd.underlying23 rfl (by kernel_rfl)) ?_
  simp only [Act.put, List.setIfInBounds_toArray, List.set_cons_zero, List.set_cons_succ]
  refine wpK_tk (i := 1) (some 66) (v := .agg #[.int .i64 a1, .int .i64 a2, .int .i64 a3, .int .i64 a4, .int .i64 a5, .int .i64 a6]) rfl rfl (by kernel_rfl) (fun _ _ _ h => h) (.load_mid (by rfl) 31 (.tmp 7) rfl (w.heap.size + 1 + 1 + 1) 0 rfl [.int .i64 a1, .int .i64 a2, .int .i64 a3, .int .i64 a4, .int .i64 a5, .int .i64 a6] _ (fun W hg => (R3.out.below (GC20.out.trans (Gr.un hg))).range) Tryd.underlying31 rfl (by kernel_rfl)) ?_
  simp only [Act.put, List.setIfInBounds_toArray, List.set_cons_zero, List.set_cons_succ]
  refine wpK_tk (i := 2) (some 67) (v := .int .i64 (Pt.near x1 x2 x3 a1 a2 a3 a4 a5 a6)) rfl rfl (by kernel_rfl) (fun _ _ _ h => h) (.call (f := 41) (args := #[.agg #[.int .i64 x1, .int .i64 x2, .int .i64 x3], .agg #[.int .i64 a1, .int .i64 a2, .int .i64 a3, .int .i64 a4, .int .i64 a5, .int .i64 a6]]) (by rfl) (fun W => by go_simp) (fun W hg => (by have c := near_f x1 x2 x3 a1 a2 a3 a4 a5 a6 W (by omega) HE.out; rwa [near_dist HE.out] at c))) ?_
  simp only [Act.put, List.setIfInBounds_toArray, List.set_cons_zero, List.set_cons_succ]
  refine wpK_tk (i := 3) (some 68) (v := .agg #[.int .i64 y1, .int .i64 y2, .int .i64 y3]) rfl rfl (by kernel_rfl) (fun _ _ _ h => h) (.load_mid (by rfl) 23 (.tmp 5) rfl (w.heap.size + 1) 0 rfl [.int .i64 y1, .int .i64 y2, .int .i64 y3] _ (fun W hg => (R1.out.below (GC20.out.trans (Gr.un hg))).range) Tryd.underlying23 rfl (by kernel_rfl)) ?_
  simp only [Act.put, List.setIfInBounds_toArray, List.set_cons_zero, List.set_cons_succ]
  refine wpK_tk (i := 4) (some 69) (v := .agg #[.int .i64 a1, .int .i64 a2, .int .i64 a3, .int .i64 a4, .int .i64 a5, .int .i64 a6]) rfl rfl (by kernel_rfl) (fun _ _ _ h => h) (.load_mid (by rfl) 31 (.tmp 7) rfl (w.heap.size + 1 + 1 + 1) 0 rfl [.int .i64 a1, .int .i64 a2, .int .i64 a3, .int .i64 a4, .int .i64 a5, .int .i64 a6] _ (fun W hg => (R3.out.below (GC20.out.trans (Gr.un hg))).range) Tryd.underlying31 rfl (by kernel_rfl)) ?_
  simp only [Act.put, List.setIfInBounds_toArray, List.set_cons_zero, List.set_cons_succ]
  refine wpK_tk (i := 5) (some 70) (v := .int .i64 (Pt.near y1 y2 y3 a1 a2 a3 a4 a5 a6)) rfl rfl (by kernel_rfl) (fun _ _ _ h => h) (.call (f := 41) (args := #[.agg #[.int .i64 y1, .int .i64 y2, .int .i64 y3], .agg #[.int .i64 a1, .int .i64 a2, .int .i64 a3, .int .i64 a4, .int .i64 a5, .int .i64 a6]]) (by rfl) (fun W => by go_simp) (fun W hg => (by have c := near_f y1 y2 y3 a1 a2 a3 a4 a5 a6 W (by omega) HE.out; rwa [near_dist HE.out] at c))) ?_
  simp only [Act.put, List.setIfInBounds_toArray, List.set_cons_zero, List.set_cons_succ]
  refine wpK_ta (i := 6) (some 11) (v := .int .i64 (Pt.near x1 x2 x3 a1 a2 a3 a4 a5 a6)) rfl rfl (by kernel_rfl) (fun _ _ _ h => h) (Or.inl ⟨rfl, fun _ => rfl⟩) ?_
  simp only [Act.put, List.setIfInBounds_toArray, List.set_cons_zero, List.set_cons_succ]
  refine wpK_ta (i := 7) (some 12) (v := .int .i64 (Pt.near y1 y2 y3 a1 a2 a3 a4 a5 a6)) rfl rfl (by kernel_rfl) (fun _ _ _ h => h) (Or.inl ⟨rfl, fun _ => rfl⟩) ?_
  simp only [Act.put, List.setIfInBounds_toArray, List.set_cons_zero, List.set_cons_succ]
  refine wpK_done (by kernel_rfl) (fun V21 hv22 => ?_) _
  have GC23 := Lib.hid (GC20.out.trans (Gr.un hv22))
  clear hv22
  go_upto_region 10 with fail
  refine wpG_region ?_
  refine wpG_tk (some 71) (v := .bool true) rfl (.call (f := 12) (args := #[]) (by rfl) (fun W => by go_simp) (fun W hg => sanity_any W (HT.out.below (GC23.out.trans hg)))) ?_
  simp only [Act.put, List.setIfInBounds_toArray, List.set_cons_zero, List.set_cons_succ]
  refine wpG_tk (some 72) (v := .bool true) rfl (.val (by rfl) (fun _ _ => rfl)) ?_
  simp only [Act.put, List.setIfInBounds_toArray, List.set_cons_zero, List.set_cons_succ]
  refine wpG_tk (some 73) (v := .int .i64 (Pt.near x1 x2 x3 a1 a2 a3 a4 a5 a6)) rfl (.val (by rfl) (fun _ _ => rfl)) ?_
  simp only [Act.put, List.setIfInBounds_toArray, List.set_cons_zero, List.set_cons_succ]
  refine wpG_tk (some 74) (v := .bool cp) rfl (.val (by rfl) (fun W hg => by (go_simp <;> (first | exact HNZ.out | simpa using HNZ.out)))) ?_
  simp only [Act.put, List.setIfInBounds_toArray, List.set_cons_zero, List.set_cons_succ]
  refine wpG_tk (some 75) (v := .func (.func 62) #[] #[.pointer (some ⟨w.heap.size + 1 + 1 + 1, 0, none⟩)]) rfl (.val (by rfl) (fun _ _ => rfl)) ?_
  simp only [Act.put, List.setIfInBounds_toArray, List.set_cons_zero, List.set_cons_succ]
  refine wpG_tk (some 76) (v := .agg #[.int .i64 x1, .int .i64 x2, .int .i64 x3]) rfl (.load_mid (by rfl) 23 (.tmp 4) rfl (w.heap.size) 0 rfl [.int .i64 x1, .int .i64 x2, .int .i64 x3] _ (fun W hg => (R0.out.below (GC23.out.trans hg)).range) Tryd.underlying23 rfl (by kernel_rfl)) ?_
  simp only [Act.put, List.setIfInBounds_toArray, List.set_cons_zero, List.set_cons_succ]
  refine wpG_tk (some 77) (v := .bool cp) rfl (.call (f := 62) (args := #[.agg #[.int .i64 x1, .int .i64 x2, .int .i64 x3], .pointer (some ⟨w.heap.size + 1 + 1 + 1, 0, none⟩)]) (by rfl) (fun W => by go_simp) (fun W hg => closed_is x1 x2 x3 a1 a2 a3 a4 a5 a6 (w.heap.size + 1 + 1 + 1) cp W (R3.out.below (GC23.out.trans hg)) HCP.out)) ?_
  simp only [Act.put, List.setIfInBounds_toArray, List.set_cons_zero, List.set_cons_succ]
  refine wpG_tk (some 78) (v := .bool true) rfl (.val (by rfl) (fun W hg => by go_simp)) ?_
  simp only [Act.put, List.setIfInBounds_toArray, List.set_cons_zero, List.set_cons_succ]
  refine wpG_tk (some 79) (v := .bool true) rfl (.val (by rfl) (fun W hg => by go_simp)) ?_
  simp only [Act.put, List.setIfInBounds_toArray, List.set_cons_zero, List.set_cons_succ]
  refine wpG_tk (some 80) (v := .bool true) rfl (.val (by rfl) (fun _ _ => rfl)) ?_
  simp only [Act.put, List.setIfInBounds_toArray, List.set_cons_zero, List.set_cons_succ]
  refine wpG_tk (some 81) (v := .func (.func 62) #[] #[.pointer (some ⟨w.heap.size + 1 + 1 + 1, 0, none⟩)]) rfl (.val (by rfl) (fun _ _ => rfl)) ?_
  simp only [Act.put, List.setIfInBounds_toArray, List.set_cons_zero, List.set_cons_succ]
  refine wpG_tk (some 82) (v := .agg #[.int .i64 y1, .int .i64 y2, .int .i64 y3]) rfl (.load_mid (by rfl) 23 (.tmp 5) rfl (w.heap.size + 1) 0 rfl [.int .i64 y1, .int .i64 y2, .int .i64 y3] _ (fun W hg => (R1.out.below (GC23.out.trans hg)).range) Tryd.underlying23 rfl (by kernel_rfl)) ?_
  simp only [Act.put, List.setIfInBounds_toArray, List.set_cons_zero, List.set_cons_succ]
  refine wpG_tk (some 83) (v := .bool true) rfl (.call (f := 62) (args := #[.agg #[.int .i64 y1, .int .i64 y2, .int .i64 y3], .pointer (some ⟨w.heap.size + 1 + 1 + 1, 0, none⟩)]) (by rfl) (fun W => by go_simp) (fun W hg => closed_is y1 y2 y3 a1 a2 a3 a4 a5 a6 (w.heap.size + 1 + 1 + 1) true W (R3.out.below (GC23.out.trans hg)) HCQ.out)) ?_
  simp only [Act.put, List.setIfInBounds_toArray, List.set_cons_zero, List.set_cons_succ]
  refine wpG_tk (some 84) (v := .bool false) rfl (.val (by rfl) (fun W hg => by go_simp)) ?_
  simp only [Act.put, List.setIfInBounds_toArray, List.set_cons_zero, List.set_cons_succ]
  refine wpG_tk (some 85) (v := .bool false) rfl (.val (by rfl) (fun _ _ => rfl)) ?_
  simp only [Act.put, List.setIfInBounds_toArray, List.set_cons_zero, List.set_cons_succ]
  refine wpG_tk (some 86) (v := .int .i64 (Pt.near x1 x2 x3 a1 a2 a3 a4 a5 a6)) rfl (.val (by rfl) (fun _ _ => rfl)) ?_
  simp only [Act.put, List.setIfInBounds_toArray, List.set_cons_zero, List.set_cons_succ]
  refine wpG_tk (some 87) (v := .int .i64 (Pt.dist x1 x2 x3 y1 y2 y3)) rfl (.val (by rfl) (fun _ _ => rfl)) ?_
  simp only [Act.put, List.setIfInBounds_toArray, List.set_cons_zero, List.set_cons_succ]
  refine wpG_tk (some 88) (v := .bool true) rfl (.val (by rfl) (fun W hg => by have hq : (Pt.near x1 x2 x3 a1 a2 a3 a4 a5 a6 ≤ Pt.dist x1 x2 x3 y1 y2 y3) := (by omega); first | (go_simp; done) | (go_simp <;> omega))) ?_
  simp only [Act.put, List.setIfInBounds_toArray, List.set_cons_zero, List.set_cons_succ]
  refine wpG_tk (some 89) (v := .bool true) rfl (.val (by rfl) (fun W hg => by go_simp)) ?_
  simp only [Act.put, List.setIfInBounds_toArray, List.set_cons_zero, List.set_cons_succ]
  refine wpG_tk (some 90) (v := .bool true) rfl (.val (by rfl) (fun W hg => by go_simp)) ?_
  simp only [Act.put, List.setIfInBounds_toArray, List.set_cons_zero, List.set_cons_succ]
  refine wpG_tk (some 91) (v := .bool true) rfl (.val (by rfl) (fun _ _ => rfl)) ?_
  simp only [Act.put, List.setIfInBounds_toArray, List.set_cons_zero, List.set_cons_succ]
  refine wpG_tk (some 92) (v := .int .i64 (Pt.near x1 x2 x3 a1 a2 a3 a4 a5 a6)) rfl (.val (by rfl) (fun _ _ => rfl)) ?_
  simp only [Act.put, List.setIfInBounds_toArray, List.set_cons_zero, List.set_cons_succ]
  refine wpG_tk (some 93) (v := .int .i64 (Pt.near y1 y2 y3 a1 a2 a3 a4 a5 a6)) rfl (.val (by rfl) (fun _ _ => rfl)) ?_
  simp only [Act.put, List.setIfInBounds_toArray, List.set_cons_zero, List.set_cons_succ]
  refine wpG_tk (some 94) (v := .int .i64 ((Pt.near x1 x2 x3 a1 a2 a3 a4 a5 a6) - (Pt.near y1 y2 y3 a1 a2 a3 a4 a5 a6))) rfl (.val (by rfl) (fun W hg => by (first | (go_simp; done) | (go_simp; rw [IntWalk.i64_in _ (by omega)])))) ?_
  simp only [Act.put, List.setIfInBounds_toArray, List.set_cons_zero, List.set_cons_succ]
  refine wpG_tk (some 95) (v := .int .i64 (Pt.dist x1 x2 x3 y1 y2 y3)) rfl (.val (by rfl) (fun _ _ => rfl)) ?_
  simp only [Act.put, List.setIfInBounds_toArray, List.set_cons_zero, List.set_cons_succ]
  refine wpG_tk (some 96) (v := .bool true) rfl (.val (by rfl) (fun W hg => by have hq : ((Pt.near x1 x2 x3 a1 a2 a3 a4 a5 a6) - (Pt.near y1 y2 y3 a1 a2 a3 a4 a5 a6) ≤ Pt.dist x1 x2 x3 y1 y2 y3) := (by omega); first | (go_simp; done) | (go_simp <;> omega))) ?_
  simp only [Act.put, List.setIfInBounds_toArray, List.set_cons_zero, List.set_cons_succ]
  refine wpG_tk (some 97) (v := .bool true) rfl (.val (by rfl) (fun W hg => by go_simp)) ?_
  simp only [Act.put, List.setIfInBounds_toArray, List.set_cons_zero, List.set_cons_succ]
  refine wpG_tk (some 98) (v := .bool true) rfl (.val (by rfl) (fun _ _ => rfl)) ?_
  simp only [Act.put, List.setIfInBounds_toArray, List.set_cons_zero, List.set_cons_succ]
  refine wpG_tk (some 99) (v := .int .i64 (Pt.near y1 y2 y3 a1 a2 a3 a4 a5 a6)) rfl (.val (by rfl) (fun _ _ => rfl)) ?_
  simp only [Act.put, List.setIfInBounds_toArray, List.set_cons_zero, List.set_cons_succ]
  refine wpG_tk (some 100) (v := .int .i64 (Pt.near x1 x2 x3 a1 a2 a3 a4 a5 a6)) rfl (.val (by rfl) (fun _ _ => rfl)) ?_
  simp only [Act.put, List.setIfInBounds_toArray, List.set_cons_zero, List.set_cons_succ]
  refine wpG_tk (some 101) (v := .int .i64 ((Pt.near y1 y2 y3 a1 a2 a3 a4 a5 a6) - (Pt.near x1 x2 x3 a1 a2 a3 a4 a5 a6))) rfl (.val (by rfl) (fun W hg => by (first | (go_simp; done) | (go_simp; rw [IntWalk.i64_in _ (by omega)])))) ?_
  simp only [Act.put, List.setIfInBounds_toArray, List.set_cons_zero, List.set_cons_succ]
  refine wpG_tk (some 102) (v := .int .i64 (Pt.dist x1 x2 x3 y1 y2 y3)) rfl (.val (by rfl) (fun _ _ => rfl)) ?_
  simp only [Act.put, List.setIfInBounds_toArray, List.set_cons_zero, List.set_cons_succ]
  refine wpG_tk (some 103) (v := .bool true) rfl (.val (by rfl) (fun W hg => by have hq : ((Pt.near y1 y2 y3 a1 a2 a3 a4 a5 a6) - (Pt.near x1 x2 x3 a1 a2 a3 a4 a5 a6) ≤ Pt.dist x1 x2 x3 y1 y2 y3) := (by omega); first | (go_simp; done) | (go_simp <;> omega))) ?_
  simp only [Act.put, List.setIfInBounds_toArray, List.set_cons_zero, List.set_cons_succ]
  refine wpG_tk (some 104) (v := .bool true) rfl (.val (by rfl) (fun W hg => by go_simp)) ?_
  simp only [Act.put, List.setIfInBounds_toArray, List.set_cons_zero, List.set_cons_succ]
  refine wpG_tk (some 8) (v := .bool true) rfl (.val (by rfl) (fun _ _ => rfl)) ?_
  simp only [Act.put, List.setIfInBounds_toArray, List.set_cons_zero, List.set_cons_succ]
  refine wpG_done (fun V24 hv25 => ?_)
  have GC26 := Lib.hid (GC23.out.trans hv25)
  clear hv25
  go_wp2_with fail
  go_ret
  exact ⟨rfl, Gr.to G0.out GC26.out⟩
set_option maxRecDepth 1000000 in
set_option maxHeartbeats 8000000 in
theorem law9_f (x1 x2 x3 y1 y2 y3 r1 r2 r3 a1 a2 a3 a4 a5 a6 : Int) (w : World) (hT : Tab w) (i1 : In64 (x1, x2, x3)) (i2 : In64 (y1, y2, y3)) (i3 : In64 (r1, r2, r3)) (i4 : In64 (a1, a2, a3)) (i5 : In64 (a4, a5, a6)) (hs : [(x1, x2, x3), (y1, y2, y3), (r1, r2, r3), (a1, a2, a3), (a4, a5, a6)].all inR = true) (he : Pt.emp a1 a2 a3 a4 a5 a6 = false) (hq : closed y1 y2 y3 a1 a2 a3 a4 a5 a6 = false) :
    Calls Tryd.prog 9 #[.agg #[.int .i64 x1, .int .i64 x2, .int .i64 x3], .agg #[.int .i64 y1, .int .i64 y2, .int .i64 y3], .agg #[.int .i64 r1, .int .i64 r2, .int .i64 r3], .agg #[.int .i64 a1, .int .i64 a2, .int .i64 a3, .int .i64 a4, .int .i64 a5, .int .i64 a6]] w fun e w' => e = .returned (.bool true) ∧ Below w.heap.size w w' := by
  have hb := hs
  simp only [List.all_cons, List.all_nil, Bool.and_true, Bool.and_eq_true, inR_true] at hb
  have HS := Lib.hid hs
  have d1 := dist_nn x1 x2 x3 y1 y2 y3
  have d2 := dist_sym x1 x2 x3 y1 y2 y3
  have d3 := dist_tri x1 x2 x3 y1 y2 y3 r1 r2 r3
  have d4 := dist_nn x1 x2 x3 r1 r2 r3
  have d5 := dist_nn r1 r2 r3 y1 y2 y3
  have d6 := dist_bd (x1 := x1) (x2 := x2) (x3 := x3) (y1 := r1) (y2 := r2) (y3 := r3) (by omega)
  have d7 := dist_bd (x1 := r1) (x2 := r2) (x3 := r3) (y1 := y1) (y2 := y2) (y3 := y3) (by omega)
  obtain ⟨pq, hpq⟩ : ∃ b : Bool, b = decide (x1 = y1 ∧ x2 = y2 ∧ x3 = y3) := ⟨_, rfl⟩
  have HP := Lib.hid hpq.symm
  have HD : Hid (decide (Pt.dist x1 x2 x3 y1 y2 y3 = 0) = pq) := Lib.hid (by rw [hpq]; exact decide_eq_decide.2 (dist_zero _ _ _ _ _ _))
  clear hs hpq
  have n1 := near_lip x1 x2 x3 y1 y2 y3 a1 a2 a3 a4 a5 a6
  have n2 := near_lip y1 y2 y3 x1 x2 x3 a1 a2 a3 a4 a5 a6
  rw [d2] at n2
  have n3 := near_nn x1 x2 x3 a1 a2 a3 a4 a5 a6
  have n4 := near_nn y1 y2 y3 a1 a2 a3 a4 a5 a6
  have n5 := near_bd (x1 := x1) (x2 := x2) (x3 := x3) (a1 := a1) (a2 := a2) (a3 := a3) (a4 := a4) (a5 := a5) (a6 := a6) (by omega)
  have n6 := near_bd (x1 := y1) (x2 := y2) (x3 := y3) (a1 := a1) (a2 := a2) (a3 := a3) (a4 := a4) (a5 := a5) (a6 := a6) (by omega)
  obtain ⟨cp, hcp⟩ : ∃ b : Bool, closed x1 x2 x3 a1 a2 a3 a4 a5 a6 = b := ⟨_, rfl⟩
  have HCP := Lib.hid hcp
  have HNZ : Hid (decide (Pt.near x1 x2 x3 a1 a2 a3 a4 a5 a6 = 0) = cp) := Lib.hid (by rw [← hcp]; exact decide_eq_decide.2 (near_zero _ _ _ _ _ _ _ _ _))
  have HCQ := Lib.hid hq
  have HE := Lib.hid he
  clear he hq hcp
  obtain ⟨u, hu, r0, r1, r2, r3, g0⟩ := rows4 w [.int .i64 x1, .int .i64 x2, .int .i64 x3] 23 [.int .i64 y1, .int .i64 y2, .int .i64 y3] 23 [.int .i64 r1, .int .i64 r2, .int .i64 r3] 23 [.int .i64 a1, .int .i64 a2, .int .i64 a3, .int .i64 a4, .int .i64 a5, .int .i64 a6] 31
  have R0 := Lib.hid r0
  have R1 := Lib.hid r1
  have R2 := Lib.hid r2
  have R3 := Lib.hid r3
  have G0 := Lib.hid g0
  have HU := Lib.hid hu
  have HT := Lib.hid (hT.below g0)
  clear hT
  clear hu g0 r0 r1 r2 r3
  go_enter Tryd.func9, Tryd.ntmps9
  go_upto_region 1 with fail
  rw [← HU.out]
  refine wpG_region ?_
  refine wpG_tk (some 13) (v := .agg #[.int .i64 x1, .int .i64 x2, .int .i64 x3]) rfl (.load_mid (by rfl) 23 (.tmp 4) rfl (w.heap.size) 0 rfl [.int .i64 x1, .int .i64 x2, .int .i64 x3] _ (fun W hg => (R0.out.below hg).range) Tryd.underlying23 rfl (by kernel_rfl)) ?_
  simp only [Act.put, List.setIfInBounds_toArray, List.set_cons_zero, List.set_cons_succ]
  refine wpG_tk (some 14) (v := .agg #[.int .i64 y1, .int .i64 y2, .int .i64 y3]) rfl (.load_mid (by rfl) 23 (.tmp 5) rfl (w.heap.size + 1) 0 rfl [.int .i64 y1, .int .i64 y2, .int .i64 y3] _ (fun W hg => (R1.out.below hg).range) Tryd.underlying23 rfl (by kernel_rfl)) ?_
  simp only [Act.put, List.setIfInBounds_toArray, List.set_cons_zero, List.set_cons_succ]
  refine wpG_tk (some 15) (v := .agg #[.int .i64 r1, .int .i64 r2, .int .i64 r3]) rfl (.load_mid (by rfl) 23 (.tmp 6) rfl (w.heap.size + 1 + 1) 0 rfl [.int .i64 r1, .int .i64 r2, .int .i64 r3] _ (fun W hg => (R2.out.below hg).range) Tryd.underlying23 rfl (by kernel_rfl)) ?_
  simp only [Act.put, List.setIfInBounds_toArray, List.set_cons_zero, List.set_cons_succ]
  refine wpG_tk (some 16) (v := .pointer (some ⟨w.heap.size + 1 + 1 + 1, 0, none⟩)) rfl (.val (by rfl) (fun W hg => by go_simp)) ?_
  simp only [Act.put, List.setIfInBounds_toArray, List.set_cons_zero, List.set_cons_succ]
  refine wpG_tk (some 17) (v := .agg #[.int .i64 a1, .int .i64 a2, .int .i64 a3]) rfl (.load_mid (by rfl) 23 (.tmp 16) rfl (w.heap.size + 1 + 1 + 1) 0 rfl [.int .i64 a1, .int .i64 a2, .int .i64 a3] _ (fun W hg => (R3.out.below hg).lo) Tryd.underlying23 rfl (by kernel_rfl)) ?_
  simp only [Act.put, List.setIfInBounds_toArray, List.set_cons_zero, List.set_cons_succ]
  refine wpG_tk (some 18) (v := .pointer (some ⟨w.heap.size + 1 + 1 + 1, 3, none⟩)) rfl (.val (by rfl) (fun W hg => by go_simp)) ?_
  simp only [Act.put, List.setIfInBounds_toArray, List.set_cons_zero, List.set_cons_succ]
  refine wpG_tk (some 19) (v := .agg #[.int .i64 a4, .int .i64 a5, .int .i64 a6]) rfl (.load_mid (by rfl) 23 (.tmp 18) rfl (w.heap.size + 1 + 1 + 1) 3 rfl [.int .i64 a4, .int .i64 a5, .int .i64 a6] _ (fun W hg => (R3.out.below hg).hi) Tryd.underlying23 rfl (by kernel_rfl)) ?_
  simp only [Act.put, List.setIfInBounds_toArray, List.set_cons_zero, List.set_cons_succ]
  refine wpG_val (some 20) rfl (by rfl) (fun W1 hg2 => ⟨.slice (some ⟨W1.heap.size, 0, none⟩) 5 5, W1.alloc (.cells #[.int .i64 x1, .int .i64 x2, .int .i64 x3, .int .i64 y1, .int .i64 y2, .int .i64 y3, .int .i64 r1, .int .i64 r2, .int .i64 r3, .int .i64 a1, .int .i64 a2, .int .i64 a3, .int .i64 a4, .int .i64 a5, .int .i64 a6] 23), by (go_simp <;> rfl), ?_⟩)
  simp only [Act.put, List.setIfInBounds_toArray, List.set_cons_zero, List.set_cons_succ]
  obtain ⟨U3, hu, rn, gn⟩ : ∃ z, z = W1.alloc (.cells #[.int .i64 x1, .int .i64 x2, .int .i64 x3, .int .i64 y1, .int .i64 y2, .int .i64 y3, .int .i64 r1, .int .i64 r2, .int .i64 r3, .int .i64 a1, .int .i64 a2, .int .i64 a3, .int .i64 a4, .int .i64 a5, .int .i64 a6] 23) ∧ Row W1.heap.size [.int .i64 x1, .int .i64 x2, .int .i64 x3, .int .i64 y1, .int .i64 y2, .int .i64 y3, .int .i64 r1, .int .i64 r2, .int .i64 r3, .int .i64 a1, .int .i64 a2, .int .i64 a3, .int .i64 a4, .int .i64 a5, .int .i64 a6] z ∧ Gr W1 z := ⟨_, rfl, Row.newl W1 [.int .i64 x1, .int .i64 x2, .int .i64 x3, .int .i64 y1, .int .i64 y2, .int .i64 y3, .int .i64 r1, .int .i64 r2, .int .i64 r3, .int .i64 a1, .int .i64 a2, .int .i64 a3, .int .i64 a4, .int .i64 a5, .int .i64 a6] 23, Gr.al _ _⟩
  rw [← hu]
  have RN4 := Lib.hid rn
  have GB5 := Lib.hid (Gr.trans hg2 gn)
  clear hu rn gn hg2
  refine wpG_tk (some 21) (v := .bool true) rfl (.call (f := 11) (args := #[.slice (some ⟨W1.heap.size, 0, none⟩) 5 5]) (by rfl) (fun W => by go_simp) (fun W hg => small_is [(x1, x2, x3), (y1, y2, y3), (r1, r2, r3), (a1, a2, a3), (a4, a5, a6)] W1.heap.size 5 true W rfl (by decide) (RN4.out.below hg) (List.forall_mem_cons.2 ⟨i1, (List.forall_mem_cons.2 ⟨i2, (List.forall_mem_cons.2 ⟨i3, (List.forall_mem_cons.2 ⟨i4, (List.forall_mem_cons.2 ⟨i5, (fun _ h => absurd h List.not_mem_nil)⟩)⟩)⟩)⟩)⟩) HS.out)) ?_
  simp only [Act.put, List.setIfInBounds_toArray, List.set_cons_zero, List.set_cons_succ]
  refine wpG_tk (some 22) (v := .bool false) rfl (.val (by rfl) (fun W hg => by go_simp)) ?_
  simp only [Act.put, List.setIfInBounds_toArray, List.set_cons_zero, List.set_cons_succ]
  refine wpG_done (fun V6 hv7 => ?_)
  have GC8 := Lib.hid (GB5.out.trans hv7)
  clear hv7
  go_upto_region 3 with fail
  refine wpG_region ?_
  refine wpG_tk (some 24) (v := .agg #[.int .i64 x1, .int .i64 x2, .int .i64 x3]) rfl (.load_mid (by rfl) 23 (.tmp 4) rfl (w.heap.size) 0 rfl [.int .i64 x1, .int .i64 x2, .int .i64 x3] _ (fun W hg => (R0.out.below (GC8.out.trans hg)).range) Tryd.underlying23 rfl (by kernel_rfl)) ?_
  simp only [Act.put, List.setIfInBounds_toArray, List.set_cons_zero, List.set_cons_succ]
  refine wpG_tk (some 25) (v := .agg #[.int .i64 y1, .int .i64 y2, .int .i64 y3]) rfl (.load_mid (by rfl) 23 (.tmp 5) rfl (w.heap.size + 1) 0 rfl [.int .i64 y1, .int .i64 y2, .int .i64 y3] _ (fun W hg => (R1.out.below (GC8.out.trans hg)).range) Tryd.underlying23 rfl (by kernel_rfl)) ?_
  simp only [Act.put, List.setIfInBounds_toArray, List.set_cons_zero, List.set_cons_succ]
  refine wpG_tk (some 26) (v := .int .i64 (Pt.dist x1 x2 x3 y1 y2 y3)) rfl (.call (f := 19) (args := #[.agg #[.int .i64 x1, .int .i64 x2, .int .i64 x3], .agg #[.int .i64 y1, .int .i64 y2, .int .i64 y3]]) (by rfl) (fun W => by go_simp) (fun W hg => distance_any x1 x2 x3 y1 y2 y3 W (by omega))) ?_
  simp only [Act.put, List.setIfInBounds_toArray, List.set_cons_zero, List.set_cons_succ]
  refine wpG_tk (some 9) (v := .int .i64 (Pt.dist x1 x2 x3 y1 y2 y3)) rfl (.val (by rfl) (fun _ _ => rfl)) ?_
  simp only [Act.put, List.setIfInBounds_toArray, List.set_cons_zero, List.set_cons_succ]
  refine wpG_done (fun V9 hv10 => ?_)
  have GC11 := Lib.hid (GC8.out.trans hv10)
  clear hv10
  go_upto_region 4 with fail
  refine wpK_region (by kernel_rfl) ?_
  refine wpK_ta (i := 0) (some 27) (v := .int .i64 (Pt.dist x1 x2 x3 y1 y2 y3)) rfl rfl (by kernel_rfl) (fun _ _ _ h => h) (Or.inl ⟨rfl, fun _ => rfl⟩) ?_
  simp only [Act.put, List.setIfInBounds_toArray, List.set_cons_zero, List.set_cons_succ]
  refine wpK_ta (i := 1) (some 28) (v := .bool false) rfl rfl (by kernel_rfl) (fun _ _ _ h => h) (Or.inl ⟨by rfl, fun W => by have hq : ¬ (Pt.dist x1 x2 x3 y1 y2 y3 < 0) := (by omega); first | (go_simp; done) | (go_simp <;> omega)⟩) ?_
  simp only [Act.put, List.setIfInBounds_toArray, List.set_cons_zero, List.set_cons_succ]
  refine wpK_ta (i := 2) (some 29) (v := .bool false) rfl rfl (by kernel_rfl) (fun _ _ _ h => h) (Or.inl ⟨rfl, fun _ => rfl⟩) ?_
  simp only [Act.put, List.setIfInBounds_toArray, List.set_cons_zero, List.set_cons_succ]
  refine wpK_ta (i := 3) (some 30) (v := .int .i64 (Pt.dist x1 x2 x3 y1 y2 y3)) rfl rfl (by kernel_rfl) (fun _ _ _ h => h) (Or.inl ⟨rfl, fun _ => rfl⟩) ?_
  simp only [Act.put, List.setIfInBounds_toArray, List.set_cons_zero, List.set_cons_succ]
  refine wpK_ta (i := 4) (some 31) (v := .bool pq) rfl rfl (by kernel_rfl) (fun _ _ _ h => h) (Or.inl ⟨by rfl, fun W => by (go_simp <;> (first | exact HD.out | simpa using HD.out))⟩) ?_
  simp only [Act.put, List.setIfInBounds_toArray, List.set_cons_zero, List.set_cons_succ]
  refine wpK_tk (i := 5) (some 32) (v := .agg #[.int .i64 x1, .int .i64 x2, .int .i64 x3]) rfl rfl (by kernel_rfl) (fun _ _ _ h => h) (.load_mid (by rfl) 23 (.tmp 4) rfl (w.heap.size) 0 rfl [.int .i64 x1, .int .i64 x2, .int .i64 x3] _ (fun W hg => (R0.out.below (GC11.out.trans (Gr.un hg))).range) Tryd.underlying23 rfl (by kernel_rfl)) ?_
  simp only [Act.put, List.setIfInBounds_toArray, List.set_cons_zero, List.set_cons_succ]
  refine wpK_tk (i := 6) (some 33) (v := .agg #[.int .i64 y1, .int .i64 y2, .int .i64 y3]) rfl rfl (by kernel_rfl) (fun _ _ _ h => h) (.load_mid (by rfl) 23 (.tmp 5) rfl (w.heap.size + 1) 0 rfl [.int .i64 y1, .int .i64 y2, .int .i64 y3] _ (fun W hg => (R1.out.below (GC11.out.trans (Gr.un hg))).range) Tryd.underlying23 rfl (by kernel_rfl)) ?_
  simp only [Act.put, List.setIfInBounds_toArray, List.set_cons_zero, List.set_cons_succ]
  refine wpK_ta (i := 7) (some 34) (v := .bool pq) rfl rfl (by kernel_rfl) (fun _ _ _ h => h) (Or.inl ⟨by rfl, fun W => by (go_simp; rw [← HP.out]; by_cases q1 : x1 = y1 <;> by_cases q2 : x2 = y2 <;> by_cases q3 : x3 = y3 <;> simp [q1, q2, q3])⟩) ?_
  simp only [Act.put, List.setIfInBounds_toArray, List.set_cons_zero, List.set_cons_succ]
  refine wpK_ta (i := 8) (some 35) (v := .bool false) rfl rfl (by kernel_rfl) (fun _ _ _ h => h) (Or.inl ⟨by rfl, fun W => by go_simp⟩) ?_
  simp only [Act.put, List.setIfInBounds_toArray, List.set_cons_zero, List.set_cons_succ]
  refine wpK_ta (i := 9) (some 36) (v := .bool false) rfl rfl (by kernel_rfl) (fun _ _ _ h => h) (Or.inl ⟨by rfl, fun W => by go_simp⟩) ?_
  simp only [Act.put, List.setIfInBounds_toArray, List.set_cons_zero, List.set_cons_succ]
  refine wpK_ta (i := 10) (some 37) (v := .bool false) rfl rfl (by kernel_rfl) (fun _ _ _ h => h) (Or.inl ⟨rfl, fun _ => rfl⟩) ?_
  simp only [Act.put, List.setIfInBounds_toArray, List.set_cons_zero, List.set_cons_succ]
  refine wpK_ta (i := 11) (some 38) (v := .int .i64 (Pt.dist x1 x2 x3 y1 y2 y3)) rfl rfl (by kernel_rfl) (fun _ _ _ h => h) (Or.inl ⟨rfl, fun _ => rfl⟩) ?_
  simp only [Act.put, List.setIfInBounds_toArray, List.set_cons_zero, List.set_cons_succ]
  refine wpK_tk (i := 12) (some 39) (v := .agg #[.int .i64 y1, .int .i64 y2, .int .i64 y3]) rfl rfl (by kernel_rfl) (fun _ _ _ h => h) (.load_mid (by rfl) 23 (.tmp 5) rfl (w.heap.size + 1) 0 rfl [.int .i64 y1, .int .i64 y2, .int .i64 y3] _ (fun W hg => (R1.out.below (GC11.out.trans (Gr.un hg))).range) Tryd.underlying23 rfl (by kernel_rfl)) ?_
  simp only [Act.put, List.setIfInBounds_toArray, List.set_cons_zero, List.set_cons_succ]
  refine wpK_tk (i := 13) (some 40) (v := .agg #[.int .i64 x1, .int .i64 x2, .int .i64 x3]) rfl rfl (by kernel_rfl) (fun _ _ _ h => h) (.load_mid (by rfl) 23 (.tmp 4) rfl (w.heap.size) 0 rfl [.int .i64 x1, .int .i64 x2, .int .i64 x3] _ (fun W hg => (R0.out.below (GC11.out.trans (Gr.un hg))).range) Tryd.underlying23 rfl (by kernel_rfl)) ?_
  simp only [Act.put, List.setIfInBounds_toArray, List.set_cons_zero, List.set_cons_succ]
  refine wpK_tk (i := 14) (some 41) (v := .int .i64 (Pt.dist y1 y2 y3 x1 x2 x3)) rfl rfl (by kernel_rfl) (fun _ _ _ h => h) (.call (f := 19) (args := #[.agg #[.int .i64 y1, .int .i64 y2, .int .i64 y3], .agg #[.int .i64 x1, .int .i64 x2, .int .i64 x3]]) (by rfl) (fun W => by go_simp) (fun W hg => distance_any y1 y2 y3 x1 x2 x3 W (by omega))) ?_
  simp only [Act.put, List.setIfInBounds_toArray, List.set_cons_zero, List.set_cons_succ]
  refine wpK_ta (i := 15) (some 42) (v := .bool false) rfl rfl (by kernel_rfl) (fun _ _ _ h => h) (Or.inl ⟨by rfl, fun W => by have hq : ¬ (Pt.dist x1 x2 x3 y1 y2 y3 ≠ Pt.dist y1 y2 y3 x1 x2 x3) := (by omega); first | (go_simp; done) | (go_simp <;> omega)⟩) ?_
  simp only [Act.put, List.setIfInBounds_toArray, List.set_cons_zero, List.set_cons_succ]
  refine wpK_ta (i := 16) (some 43) (v := .bool false) rfl rfl (by kernel_rfl) (fun _ _ _ h => h) (Or.inl ⟨by rfl, fun W => by go_simp⟩) ?_
  simp only [Act.put, List.setIfInBounds_toArray, List.set_cons_zero, List.set_cons_succ]
  refine wpK_ta (i := 17) (some 44) (v := .bool false) rfl rfl (by kernel_rfl) (fun _ _ _ h => h) (Or.inl ⟨rfl, fun _ => rfl⟩) ?_
  simp only [Act.put, List.setIfInBounds_toArray, List.set_cons_zero, List.set_cons_succ]
  refine wpK_ta (i := 18) (some 45) (v := .int .i64 (Pt.dist x1 x2 x3 y1 y2 y3)) rfl rfl (by kernel_rfl) (fun _ _ _ h => h) (Or.inl ⟨rfl, fun _ => rfl⟩) ?_
  simp only [Act.put, List.setIfInBounds_toArray, List.set_cons_zero, List.set_cons_succ]
  refine wpK_tk (i := 19) (some 46) (v := .agg #[.int .i64 x1, .int .i64 x2, .int .i64 x3]) rfl rfl (by kernel_rfl) (fun _ _ _ h => h) (.load_mid (by rfl) 23 (.tmp 4) rfl (w.heap.size) 0 rfl [.int .i64 x1, .int .i64 x2, .int .i64 x3] _ (fun W hg => (R0.out.below (GC11.out.trans (Gr.un hg))).range) Tryd.underlying23 rfl (by kernel_rfl)) ?_
  simp only [Act.put, List.setIfInBounds_toArray, List.set_cons_zero, List.set_cons_succ]
  refine wpK_tk (i := 20) (some 47) (v := .agg #[.int .i64 r1, .int .i64 r2, .int .i64 r3]) rfl rfl (by kernel_rfl) (fun _ _ _ h => h) (.load_mid (by rfl) 23 (.tmp 6) rfl (w.heap.size + 1 + 1) 0 rfl [.int .i64 r1, .int .i64 r2, .int .i64 r3] _ (fun W hg => (R2.out.below (GC11.out.trans (Gr.un hg))).range) Tryd.underlying23 rfl (by kernel_rfl)) ?_
  simp only [Act.put, List.setIfInBounds_toArray, List.set_cons_zero, List.set_cons_succ]
  refine wpK_tk (i := 21) (some 48) (v := .int .i64 (Pt.dist x1 x2 x3 r1 r2 r3)) rfl rfl (by kernel_rfl) (fun _ _ _ h => h) (.call (f := 19) (args := #[.agg #[.int .i64 x1, .int .i64 x2, .int .i64 x3], .agg #[.int .i64 r1, .int .i64 r2, .int .i64 r3]]) (by rfl) (fun W => by go_simp) (fun W hg => distance_any x1 x2 x3 r1 r2 r3 W (by omega))) ?_
  simp only [Act.put, List.setIfInBounds_toArray, List.set_cons_zero, List.set_cons_succ]
  refine wpK_tk (i := 22) (some 49) (v := .agg #[.int .i64 r1, .int .i64 r2, .int .i64 r3]) rfl rfl (by kernel_rfl) (fun _ _ _ h => h) (.load_mid (by rfl) 23 (.tmp 6) rfl (w.heap.size + 1 + 1) 0 rfl [.int .i64 r1, .int .i64 r2, .int .i64 r3] _ (fun W hg => (R2.out.below (GC11.out.trans (Gr.un hg))).range) Tryd.underlying23 rfl (by kernel_rfl)) ?_
  simp only [Act.put, List.setIfInBounds_toArray, List.set_cons_zero, List.set_cons_succ]
  refine wpK_tk (i := 23) (some 50) (v := .agg #[.int .i64 y1, .int .i64 y2, .int .i64 y3]) rfl rfl (by kernel_rfl) (fun _ _ _ h => h) (.load_mid (by rfl) 23 (.tmp 5) rfl (w.heap.size + 1) 0 rfl [.int .i64 y1, .int .i64 y2, .int .i64 y3] _ (fun W hg => (R1.out.below (GC11.out.trans (Gr.un hg))).range) Tryd.underlying23 rfl (by kernel_rfl)) ?_
  simp only [Act.put, List.setIfInBounds_toArray, List.set_cons_zero, List.set_cons_succ]
  refine wpK_tk (i := 24) (some 51) (v := .int .i64 (Pt.dist r1 r2 r3 y1 y2 y3)) rfl rfl (by kernel_rfl) (fun _ _ _ h => h) (.call (f := 19) (args := #[.agg #[.int .i64 r1, .int .i64 r2, .int .i64 r3], .agg #[.int .i64 y1, .int .i64 y2, .int .i64 y3]]) (by rfl) (fun W => by go_simp) (fun W hg => distance_any r1 r2 r3 y1 y2 y3 W (by omega))) ?_
  simp only [Act.put, List.setIfInBounds_toArray, List.set_cons_zero, List.set_cons_succ]
  refine wpK_ta (i := 25) (some 52) (v := .int .i64 ((Pt.dist x1 x2 x3 r1 r2 r3) + (Pt.dist r1 r2 r3 y1 y2 y3))) rfl rfl (by kernel_rfl) (fun _ _ _ h => h) (Or.inl ⟨by rfl, fun W => by (first | (go_simp; done) | (go_simp; rw [IntWalk.i64_in _ (by omega)]))⟩) ?_
  simp only [Act.put, List.setIfInBounds_toArray, List.set_cons_zero, List.set_cons_succ]
  refine wpK_ta (i := 26) (some 53) (v := .bool false) rfl rfl (by kernel_rfl) (fun _ _ _ h => h) (Or.inl ⟨by rfl, fun W => by have hq : ¬ (Pt.dist x1 x2 x3 y1 y2 y3 > (Pt.dist x1 x2 x3 r1 r2 r3) + (Pt.dist r1 r2 r3 y1 y2 y3)) := (by omega); first | (go_simp; done) | (go_simp <;> omega)⟩) ?_
  simp only [Act.put, List.setIfInBounds_toArray, List.set_cons_zero, List.set_cons_succ]
  refine wpK_ta (i := 27) (some 54) (v := .bool false) rfl rfl (by kernel_rfl) (fun _ _ _ h => h) (Or.inl ⟨by rfl, fun W => by go_simp⟩) ?_
  simp only [Act.put, List.setIfInBounds_toArray, List.set_cons_zero, List.set_cons_succ]
  refine wpK_done (by kernel_rfl) (fun V12 hv13 => ?_) _
  have GC14 := Lib.hid (GC11.out.trans (Gr.un hv13))
  clear hv13
  go_upto_region 6 with fail
  refine wpG_region ?_
  refine wpG_tk (some 55) (v := .agg #[.int .i64 a1, .int .i64 a2, .int .i64 a3, .int .i64 a4, .int .i64 a5, .int .i64 a6]) rfl (.load_mid (by rfl) 31 (.tmp 7) rfl (w.heap.size + 1 + 1 + 1) 0 rfl [.int .i64 a1, .int .i64 a2, .int .i64 a3, .int .i64 a4, .int .i64 a5, .int .i64 a6] _ (fun W hg => (R3.out.below (GC14.out.trans hg)).range) Tryd.underlying31 rfl (by kernel_rfl)) ?_
  simp only [Act.put, List.setIfInBounds_toArray, List.set_cons_zero, List.set_cons_succ]
  refine wpG_tk (some 56) (v := .bool false) rfl (.call (f := 23) (args := #[.agg #[.int .i64 a1, .int .i64 a2, .int .i64 a3, .int .i64 a4, .int .i64 a5, .int .i64 a6]]) (by rfl) (fun W => by go_simp) (fun W hg => empty_any a1 a2 a3 a4 a5 a6 false W HE.out)) ?_
  simp only [Act.put, List.setIfInBounds_toArray, List.set_cons_zero, List.set_cons_succ]
  refine wpG_done (fun V15 hv16 => ?_)
  have GC17 := Lib.hid (GC14.out.trans hv16)
  clear hv16
  go_upto_region 8 with fail
  refine wpG_region ?_
  refine wpG_tk (some 64) (v := .func (.func 62) #[] #[.pointer (some ⟨w.heap.size + 1 + 1 + 1, 0, none⟩)]) rfl (.val (by rfl) (fun W hg => by go_simp)) ?_
  simp only [Act.put, List.setIfInBounds_toArray, List.set_cons_zero, List.set_cons_succ]
  refine wpG_tk (some 10) (v := .func (.func 62) #[] #[.pointer (some ⟨w.heap.size + 1 + 1 + 1, 0, none⟩)]) rfl (.val (by rfl) (fun _ _ => rfl)) ?_
  simp only [Act.put, List.setIfInBounds_toArray, List.set_cons_zero, List.set_cons_succ]
  refine wpG_done (fun V18 hv19 => ?_)
  have GC20 := Lib.hid (GC17.out.trans hv19)
  clear hv19
  go_upto_region 9 with fail
  refine wpK_region (by kernel_rfl) ?_
  refine wpK_tk (i := 0) (some 65) (v := .agg #[.int .i64 x1, .int .i64 x2, .int .i64 x3]) rfl rfl (by kernel_rfl) (fun _ _ _ h => h) (.load_mid (by rfl) 23 (.tmp 4) rfl (w.heap.size) 0 rfl [.int .i64 x1, .int .i64 x2, .int .i64 x3] _ (fun W hg => (R0.out.below (GC20.out.trans (Gr.un hg))).range) Tryd.underlying23 rfl (by kernel_rfl)) ?_
  simp only [Act.put, List.setIfInBounds_toArray, List.set_cons_zero, List.set_cons_succ]
  refine wpK_tk (i := 1) (some 66) (v := .agg #[.int .i64 a1, .int .i64 a2, .int .i64 a3, .int .i64 a4, .int .i64 a5, .int .i64 a6]) rfl rfl (by kernel_rfl) (fun _ _ _ h => h) (.load_mid (by rfl) 31 (.tmp 7) rfl (w.heap.size + 1 + 1 + 1) 0 rfl [.int .i64 a1, .int .i64 a2, .int .i64 a3, .int .i64 a4, .int .i64 a5, .int .i64 a6] _ (fun W hg => (R3.out.below (GC20.out.trans (Gr.un hg))).range) Tryd.underlying31 rfl (by kernel_rfl)) ?_
  simp only [Act.put, List.setIfInBounds_toArray, List.set_cons_zero, List.set_cons_succ]
  refine wpK_tk (i := 2) (some 67) (v := .int .i64 (Pt.near x1 x2 x3 a1 a2 a3 a4 a5 a6)) rfl rfl (by kernel_rfl) (fun _ _ _ h => h) (.call (f := 41) (args := #[.agg #[.int .i64 x1, .int .i64 x2, .int .i64 x3], .agg #[.int .i64 a1, .int .i64 a2, .int .i64 a3, .int .i64 a4, .int .i64 a5, .int .i64 a6]]) (by rfl) (fun W => by go_simp) (fun W hg => (by have c := near_f x1 x2 x3 a1 a2 a3 a4 a5 a6 W (by omega) HE.out; rwa [near_dist HE.out] at c))) ?_
  simp only [Act.put, List.setIfInBounds_toArray, List.set_cons_zero, List.set_cons_succ]
  refine wpK_tk (i := 3) (some 68) (v := .agg #[.int .i64 y1, .int .i64 y2, .int .i64 y3]) rfl rfl (by kernel_rfl) (fun _ _ _ h => h) (.load_mid (by rfl) 23 (.tmp 5) rfl (w.heap.size + 1) 0 rfl [.int .i64 y1, .int .i64 y2, .int .i64 y3] _ (fun W hg => (R1.out.below (GC20.out.trans (Gr.un hg))).range) Tryd.underlying23 rfl (by kernel_rfl)) ?_
  simp only [Act.put, List.setIfInBounds_toArray, List.set_cons_zero, List.set_cons_succ]
  refine wpK_tk (i := 4) (some 69) (v := .agg #[.int .i64 a1, .int .i64 a2, .int .i64 a3, .int .i64 a4, .int .i64 a5, .int .i64 a6]) rfl rfl (by kernel_rfl) (fun _ _ _ h => h) (.load_mid (by rfl) 31 (.tmp 7) rfl (w.heap.size + 1 + 1 + 1) 0 rfl [.int .i64 a1, .int .i64 a2, .int .i64 a3, .int .i64 a4, .int .i64 a5, .int .i64 a6] _ (fun W hg => (R3.out.below (GC20.out.trans (Gr.un hg))).range) Tryd.underlying31 rfl (by kernel_rfl)) ?_
  simp only [Act.put, List.setIfInBounds_toArray, List.set_cons_zero, List.set_cons_succ]
  refine wpK_tk (i := 5) (some 70) (v := .int .i64 (Pt.near y1 y2 y3 a1 a2 a3 a4 a5 a6)) rfl rfl (by kernel_rfl) (fun _ _ _ h => h) (.call (f := 41) (args := #[.agg #[.int .i64 y1, .int .i64 y2, .int .i64 y3], .agg #[.int .i64 a1, .int .i64 a2, .int .i64 a3, .int .i64 a4, .int .i64 a5, .int .i64 a6]]) (by rfl) (fun W => by go_simp) (fun W hg => (by have c := near_f y1 y2 y3 a1 a2 a3 a4 a5 a6 W (by omega) HE.out; rwa [near_dist HE.out] at c))) ?_
  simp only [Act.put, List.setIfInBounds_toArray, List.set_cons_zero, List.set_cons_succ]
  refine wpK_ta (i := 6) (some 11) (v := .int .i64 (Pt.near x1 x2 x3 a1 a2 a3 a4 a5 a6)) rfl rfl (by kernel_rfl) (fun _ _ _ h => h) (Or.inl ⟨rfl, fun _ => rfl⟩) ?_
  simp only [Act.put, List.setIfInBounds_toArray, List.set_cons_zero, List.set_cons_succ]
  refine wpK_ta (i := 7) (some 12) (v := .int .i64 (Pt.near y1 y2 y3 a1 a2 a3 a4 a5 a6)) rfl rfl (by kernel_rfl) (fun _ _ _ h => h) (Or.inl ⟨rfl, fun _ => rfl⟩) ?_
  simp only [Act.put, List.setIfInBounds_toArray, List.set_cons_zero, List.set_cons_succ]
  refine wpK_done (by kernel_rfl) (fun V21 hv22 => ?_) _
  have GC23 := Lib.hid (GC20.out.trans (Gr.un hv22))
  clear hv22
  go_upto_region 10 with fail
  refine wpG_region ?_
  refine wpG_tk (some 71) (v := .bool true) rfl (.call (f := 12) (args := #[]) (by rfl) (fun W => by go_simp) (fun W hg => sanity_any W (HT.out.below (GC23.out.trans hg)))) ?_
  simp only [Act.put, List.setIfInBounds_toArray, List.set_cons_zero, List.set_cons_succ]
  refine wpG_tk (some 72) (v := .bool true) rfl (.val (by rfl) (fun _ _ => rfl)) ?_
  simp only [Act.put, List.setIfInBounds_toArray, List.set_cons_zero, List.set_cons_succ]
  refine wpG_tk (some 73) (v := .int .i64 (Pt.near x1 x2 x3 a1 a2 a3 a4 a5 a6)) rfl (.val (by rfl) (fun _ _ => rfl)) ?_
  simp only [Act.put, List.setIfInBounds_toArray, List.set_cons_zero, List.set_cons_succ]
  refine wpG_tk (some 74) (v := .bool cp) rfl (.val (by rfl) (fun W hg => by (go_simp <;> (first | exact HNZ.out | simpa using HNZ.out)))) ?_
  simp only [Act.put, List.setIfInBounds_toArray, List.set_cons_zero, List.set_cons_succ]
  refine wpG_tk (some 75) (v := .func (.func 62) #[] #[.pointer (some ⟨w.heap.size + 1 + 1 + 1, 0, none⟩)]) rfl (.val (by rfl) (fun _ _ => rfl)) ?_
  simp only [Act.put, List.setIfInBounds_toArray, List.set_cons_zero, List.set_cons_succ]
  refine wpG_tk (some 76) (v := .agg #[.int .i64 x1, .int .i64 x2, .int .i64 x3]) rfl (.load_mid (by rfl) 23 (.tmp 4) rfl (w.heap.size) 0 rfl [.int .i64 x1, .int .i64 x2, .int .i64 x3] _ (fun W hg => (R0.out.below (GC23.out.trans hg)).range) Tryd.underlying23 rfl (by kernel_rfl)) ?_
  simp only [Act.put, List.setIfInBounds_toArray, List.set_cons_zero, List.set_cons_succ]
  refine wpG_tk (some 77) (v := .bool cp) rfl (.call (f := 62) (args := #[.agg #[.int .i64 x1, .int .i64 x2, .int .i64 x3], .pointer (some ⟨w.heap.size + 1 + 1 + 1, 0, none⟩)]) (by rfl) (fun W => by go_simp) (fun W hg => closed_is x1 x2 x3 a1 a2 a3 a4 a5 a6 (w.heap.size + 1 + 1 + 1) cp W (R3.out.below (GC23.out.trans hg)) HCP.out)) ?_
  simp only [Act.put, List.setIfInBounds_toArray, List.set_cons_zero, List.set_cons_succ]
  refine wpG_tk (some 78) (v := .bool true) rfl (.val (by rfl) (fun W hg => by go_simp)) ?_
  simp only [Act.put, List.setIfInBounds_toArray, List.set_cons_zero, List.set_cons_succ]
  refine wpG_tk (some 79) (v := .bool true) rfl (.val (by rfl) (fun W hg => by go_simp)) ?_
  simp only [Act.put, List.setIfInBounds_toArray, List.set_cons_zero, List.set_cons_succ]
  refine wpG_tk (some 80) (v := .bool true) rfl (.val (by rfl) (fun _ _ => rfl)) ?_
  simp only [Act.put, List.setIfInBounds_toArray, List.set_cons_zero, List.set_cons_succ]
  refine wpG_tk (some 81) (v := .func (.func 62) #[] #[.pointer (some ⟨w.heap.size + 1 + 1 + 1, 0, none⟩)]) rfl (.val (by rfl) (fun _ _ => rfl)) ?_
  simp only [Act.put, List.setIfInBounds_toArray, List.set_cons_zero, List.set_cons_succ]
  refine wpG_tk (some 82) (v := .agg #[.int .i64 y1, .int .i64 y2, .int .i64 y3]) rfl (.load_mid (by rfl) 23 (.tmp 5) rfl (w.heap.size + 1) 0 rfl [.int .i64 y1, .int .i64 y2, .int .i64 y3] _ (fun W hg => (R1.out.below (GC23.out.trans hg)).range) Tryd.underlying23 rfl (by kernel_rfl)) ?_
  simp only [Act.put, List.setIfInBounds_toArray, List.set_cons_zero, List.set_cons_succ]
  refine wpG_tk (some 83) (v := .bool false) rfl (.call (f := 62) (args := #[.agg #[.int .i64 y1, .int .i64 y2, .int .i64 y3], .pointer (some ⟨w.heap.size + 1 + 1 + 1, 0, none⟩)]) (by rfl) (fun W => by go_simp) (fun W hg => closed_is y1 y2 y3 a1 a2 a3 a4 a5 a6 (w.heap.size + 1 + 1 + 1) false W (R3.out.below (GC23.out.trans hg)) HCQ.out)) ?_
  simp only [Act.put, List.setIfInBounds_toArray, List.set_cons_zero, List.set_cons_succ]
  refine wpG_tk (some 84) (v := .bool true) rfl (.val (by rfl) (fun W hg => by go_simp)) ?_
  simp only [Act.put, List.setIfInBounds_toArray, List.set_cons_zero, List.set_cons_succ]
  refine wpG_tk (some 85) (v := .bool true) rfl (.val (by rfl) (fun _ _ => rfl)) ?_
  simp only [Act.put, List.setIfInBounds_toArray, List.set_cons_zero, List.set_cons_succ]
  refine wpG_tk (some 86) (v := undef) rfl (.no (by rfl)) ?_
  simp only [Act.put, List.setIfInBounds_toArray, List.set_cons_zero, List.set_cons_succ]
  refine wpG_tk (some 87) (v := undef) rfl (.no (by rfl)) ?_
  simp only [Act.put, List.setIfInBounds_toArray, List.set_cons_zero, List.set_cons_succ]
  refine wpG_tk (some 88) (v := undef) rfl (.no (by rfl)) ?_
  simp only [Act.put, List.setIfInBounds_toArray, List.set_cons_zero, List.set_cons_succ]
  refine wpG_tk (some 89) (v := .bool true) rfl (.val (by rfl) (fun W hg => by go_simp)) ?_
  simp only [Act.put, List.setIfInBounds_toArray, List.set_cons_zero, List.set_cons_succ]
  refine wpG_tk (some 90) (v := .bool true) rfl (.val (by rfl) (fun W hg => by go_simp)) ?_
  simp only [Act.put, List.setIfInBounds_toArray, List.set_cons_zero, List.set_cons_succ]
  refine wpG_tk (some 91) (v := .bool true) rfl (.val (by rfl) (fun _ _ => rfl)) ?_
  simp only [Act.put, List.setIfInBounds_toArray, List.set_cons_zero, List.set_cons_succ]
  refine wpG_tk (some 92) (v := .int .i64 (Pt.near x1 x2 x3 a1 a2 a3 a4 a5 a6)) rfl (.val (by rfl) (fun _ _ => rfl)) ?_
  simp only [Act.put, List.setIfInBounds_toArray, List.set_cons_zero, List.set_cons_succ]
  refine wpG_tk (some 93) (v := .int .i64 (Pt.near y1 y2 y3 a1 a2 a3 a4 a5 a6)) rfl (.val (by rfl) (fun _ _ => rfl)) ?_
  simp only [Act.put, List.setIfInBounds_toArray, List.set_cons_zero, List.set_cons_succ]
  refine wpG_tk (some 94) (v := .int .i64 ((Pt.near x1 x2 x3 a1 a2 a3 a4 a5 a6) - (Pt.near y1 y2 y3 a1 a2 a3 a4 a5 a6))) rfl (.val (by rfl) (fun W hg => by (first | (go_simp; done) | (go_simp; rw [IntWalk.i64_in _ (by omega)])))) ?_
  simp only [Act.put, List.setIfInBounds_toArray, List.set_cons_zero, List.set_cons_succ]
  refine wpG_tk (some 95) (v := .int .i64 (Pt.dist x1 x2 x3 y1 y2 y3)) rfl (.val (by rfl) (fun _ _ => rfl)) ?_
  simp only [Act.put, List.setIfInBounds_toArray, List.set_cons_zero, List.set_cons_succ]
  refine wpG_tk (some 96) (v := .bool true) rfl (.val (by rfl) (fun W hg => by have hq : ((Pt.near x1 x2 x3 a1 a2 a3 a4 a5 a6) - (Pt.near y1 y2 y3 a1 a2 a3 a4 a5 a6) ≤ Pt.dist x1 x2 x3 y1 y2 y3) := (by omega); first | (go_simp; done) | (go_simp <;> omega))) ?_
  simp only [Act.put, List.setIfInBounds_toArray, List.set_cons_zero, List.set_cons_succ]
  refine wpG_tk (some 97) (v := .bool true) rfl (.val (by rfl) (fun W hg => by go_simp)) ?_
  simp only [Act.put, List.setIfInBounds_toArray, List.set_cons_zero, List.set_cons_succ]
  refine wpG_tk (some 98) (v := .bool true) rfl (.val (by rfl) (fun _ _ => rfl)) ?_
  simp only [Act.put, List.setIfInBounds_toArray, List.set_cons_zero, List.set_cons_succ]
  refine wpG_tk (some 99) (v := .int .i64 (Pt.near y1 y2 y3 a1 a2 a3 a4 a5 a6)) rfl (.val (by rfl) (fun _ _ => rfl)) ?_
  simp only [Act.put, List.setIfInBounds_toArray, List.set_cons_zero, List.set_cons_succ]
  refine wpG_tk (some 100) (v := .int .i64 (Pt.near x1 x2 x3 a1 a2 a3 a4 a5 a6)) rfl (.val (by rfl) (fun _ _ => rfl)) ?_
  simp only [Act.put, List.setIfInBounds_toArray, List.set_cons_zero, List.set_cons_succ]
  refine wpG_tk (some 101) (v := .int .i64 ((Pt.near y1 y2 y3 a1 a2 a3 a4 a5 a6) - (Pt.near x1 x2 x3 a1 a2 a3 a4 a5 a6))) rfl (.val (by rfl) (fun W hg => by (first | (go_simp; done) | (go_simp; rw [IntWalk.i64_in _ (by omega)])))) ?_
  simp only [Act.put, List.setIfInBounds_toArray, List.set_cons_zero, List.set_cons_succ]
  refine wpG_tk (some 102) (v := .int .i64 (Pt.dist x1 x2 x3 y1 y2 y3)) rfl (.val (by rfl) (fun _ _ => rfl)) ?_
  simp only [Act.put, List.setIfInBounds_toArray, List.set_cons_zero, List.set_cons_succ]
  refine wpG_tk (some 103) (v := .bool true) rfl (.val (by rfl) (fun W hg => by have hq : ((Pt.near y1 y2 y3 a1 a2 a3 a4 a5 a6) - (Pt.near x1 x2 x3 a1 a2 a3 a4 a5 a6) ≤ Pt.dist x1 x2 x3 y1 y2 y3) := (by omega); first | (go_simp; done) | (go_simp <;> omega))) ?_
  simp only [Act.put, List.setIfInBounds_toArray, List.set_cons_zero, List.set_cons_succ]
  refine wpG_tk (some 104) (v := .bool true) rfl (.val (by rfl) (fun W hg => by go_simp)) ?_
  simp only [Act.put, List.setIfInBounds_toArray, List.set_cons_zero, List.set_cons_succ]
  refine wpG_tk (some 8) (v := .bool true) rfl (.val (by rfl) (fun _ _ => rfl)) ?_
  simp only [Act.put, List.setIfInBounds_toArray, List.set_cons_zero, List.set_cons_succ]
  refine wpG_done (fun V24 hv25 => ?_)
  have GC26 := Lib.hid (GC23.out.trans hv25)
  clear hv25
  go_wp2_with fail
  go_ret
  exact ⟨rfl, Gr.to G0.out GC26.out⟩
theorem law9 (x1 x2 x3 y1 y2 y3 r1 r2 r3 a1 a2 a3 a4 a5 a6 : Int) (w : World) (hT : Tab w) (i1 : In64 (x1, x2, x3)) (i2 : In64 (y1, y2, y3)) (i3 : In64 (r1, r2, r3)) (i4 : In64 (a1, a2, a3)) (i5 : In64 (a4, a5, a6)) :
    Calls Tryd.prog 9 #[.agg #[.int .i64 x1, .int .i64 x2, .int .i64 x3], .agg #[.int .i64 y1, .int .i64 y2, .int .i64 y3], .agg #[.int .i64 r1, .int .i64 r2, .int .i64 r3], .agg #[.int .i64 a1, .int .i64 a2, .int .i64 a3, .int .i64 a4, .int .i64 a5, .int .i64 a6]] w fun e w' => e = .returned (.bool true) ∧ Below w.heap.size w w' := by
  cases hs : [(x1, x2, x3), (y1, y2, y3), (r1, r2, r3), (a1, a2, a3), (a4, a5, a6)].all inR with
  | false => exact law9_s _ _ _ _ _ _ _ _ _ _ _ _ _ _ _ w hT i1 i2 i3 i4 i5 hs
  | true =>
    cases he : Pt.emp a1 a2 a3 a4 a5 a6 with
    | true => exact law9_e _ _ _ _ _ _ _ _ _ _ _ _ _ _ _ w hT i1 i2 i3 i4 i5 hs he
    | false =>
      cases hq : closed y1 y2 y3 a1 a2 a3 a4 a5 a6 with
      | true => exact law9_t _ _ _ _ _ _ _ _ _ _ _ _ _ _ _ w hT i1 i2 i3 i4 i5 hs he hq
      | false => exact law9_f _ _ _ _ _ _ _ _ _ _ _ _ _ _ _ w hT i1 i2 i3 i4 i5 hs he hq

end Go.Proofs.YthadlgjobjnhcaaDoor
