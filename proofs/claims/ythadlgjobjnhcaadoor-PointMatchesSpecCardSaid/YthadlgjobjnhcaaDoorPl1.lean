/-
  voxellaw04.PointMatchesSpec, its walk.
-/
import Derived.Test.YthadlgjobjnhcaaDoorPsn
import Derived.Test.YthadlgjobjnhcaaDoorPty2
import Derived.Handy
namespace Go.Proofs.YthadlgjobjnhcaaDoor
open Go.RowKit
set_option linter.unusedVariables false
set_option maxRecDepth 1000000 in
set_option maxHeartbeats 8000000 in
theorem law1 (x1 x2 x3 y1 y2 y3 n : Int) (w : World) (hT : Tab w) (i1 : In64 (x1, x2, x3)) (i2 : In64 (y1, y2, y3)) :
    Calls Tryd.prog 3 #[.agg #[.int .i64 x1, .int .i64 x2, .int .i64 x3], .agg #[.int .i64 y1, .int .i64 y2, .int .i64 y3], .int .i64 n] w fun e w' => e = .returned (.bool true) ∧ Below w.heap.size w w' := by
  have hc : [(x1, x2, x3), (y1, y2, y3)].all inR = false ∨ ([(x1, x2, x3), (y1, y2, y3)].all inR = true ∧ n < -1048575) ∨ ([(x1, x2, x3), (y1, y2, y3)].all inR = true ∧ ¬ n < -1048575 ∧ n > 1048575) ∨ ([(x1, x2, x3), (y1, y2, y3)].all inR = true ∧ ¬ n < -1048575 ∧ ¬ n > 1048575) := by
    cases h : [(x1, x2, x3), (y1, y2, y3)].all inR with
    | false => exact .inl rfl
    | true => right; by_cases h1 : n < -1048575 <;> by_cases h2 : n > 1048575 <;> simp [h1, h2]
  rcases hc with hs | ⟨hs, h1⟩ | ⟨hs, h1, h2⟩ | ⟨hs, h1, h2⟩
  · have HS := Lib.hid hs
    clear hs
    obtain ⟨u, hu, r0, r1, g0⟩ := rows2 w [.int .i64 x1, .int .i64 x2, .int .i64 x3] 23 [.int .i64 y1, .int .i64 y2, .int .i64 y3] 23
    have R0 := Lib.hid r0
    have R1 := Lib.hid r1
    have G0 := Lib.hid g0
    have HU := Lib.hid hu
    have HT := Lib.hid (hT.below g0)
    clear hT
    clear hu g0 r0 r1
    go_enter Tryd.func3, Tryd.ntmps3
    go_upto_region 1 with fail
    rw [← HU.out]
    refine wpG_region ?_
    refine wpG_tk (some 7) (v := .agg #[.int .i64 x1, .int .i64 x2, .int .i64 x3]) rfl (.load_mid (by rfl) 23 (.tmp 3) rfl (w.heap.size) 0 rfl [.int .i64 x1, .int .i64 x2, .int .i64 x3] _ (fun W hg => (R0.out.below hg).range) Tryd.underlying23 rfl (by kernel_rfl)) ?_
    simp only [Act.put, List.setIfInBounds_toArray, List.set_cons_zero, List.set_cons_succ]
    refine wpG_tk (some 8) (v := .agg #[.int .i64 y1, .int .i64 y2, .int .i64 y3]) rfl (.load_mid (by rfl) 23 (.tmp 4) rfl (w.heap.size + 1) 0 rfl [.int .i64 y1, .int .i64 y2, .int .i64 y3] _ (fun W hg => (R1.out.below hg).range) Tryd.underlying23 rfl (by kernel_rfl)) ?_
    simp only [Act.put, List.setIfInBounds_toArray, List.set_cons_zero, List.set_cons_succ]
    refine wpG_val (some 9) rfl (by rfl) (fun W1 hg2 => ⟨.slice (some ⟨W1.heap.size, 0, none⟩) 2 2, W1.alloc (.cells #[.int .i64 x1, .int .i64 x2, .int .i64 x3, .int .i64 y1, .int .i64 y2, .int .i64 y3] 23), by (go_simp <;> rfl), ?_⟩)
    simp only [Act.put, List.setIfInBounds_toArray, List.set_cons_zero, List.set_cons_succ]
    obtain ⟨U3, hu, rn, gn⟩ : ∃ z, z = W1.alloc (.cells #[.int .i64 x1, .int .i64 x2, .int .i64 x3, .int .i64 y1, .int .i64 y2, .int .i64 y3] 23) ∧ Row W1.heap.size [.int .i64 x1, .int .i64 x2, .int .i64 x3, .int .i64 y1, .int .i64 y2, .int .i64 y3] z ∧ Gr W1 z := ⟨_, rfl, Row.newl W1 [.int .i64 x1, .int .i64 x2, .int .i64 x3, .int .i64 y1, .int .i64 y2, .int .i64 y3] 23, Gr.al _ _⟩
    rw [← hu]
    have RN4 := Lib.hid rn
    have GB5 := Lib.hid (Gr.trans hg2 gn)
    clear hu rn gn hg2
    refine wpG_tk (some 10) (v := .bool false) rfl (.call (f := 11) (args := #[.slice (some ⟨W1.heap.size, 0, none⟩) 2 2]) (by rfl) (fun W => by go_simp) (fun W hg => small_is [(x1, x2, x3), (y1, y2, y3)] W1.heap.size 2 false W rfl (by decide) (RN4.out.below hg) (List.forall_mem_cons.2 ⟨i1, (List.forall_mem_cons.2 ⟨i2, (fun _ h => absurd h List.not_mem_nil)⟩)⟩) HS.out)) ?_
    simp only [Act.put, List.setIfInBounds_toArray, List.set_cons_zero, List.set_cons_succ]
    refine wpG_tk (some 11) (v := .bool true) rfl (.val (by rfl) (fun W hg => by go_simp)) ?_
    simp only [Act.put, List.setIfInBounds_toArray, List.set_cons_zero, List.set_cons_succ]
    refine wpG_tk (some 12) (v := .bool true) rfl (.val (by rfl) (fun _ _ => rfl)) ?_
    simp only [Act.put, List.setIfInBounds_toArray, List.set_cons_zero, List.set_cons_succ]
    refine wpG_tk (some 13) (v := undef) rfl (.no (by rfl)) ?_
    simp only [Act.put, List.setIfInBounds_toArray, List.set_cons_zero, List.set_cons_succ]
    refine wpG_tk (some 14) (v := undef) rfl (.no (by rfl)) ?_
    simp only [Act.put, List.setIfInBounds_toArray, List.set_cons_zero, List.set_cons_succ]
    refine wpG_tk (some 15) (v := .bool true) rfl (.val (by rfl) (fun W hg => by go_simp)) ?_
    simp only [Act.put, List.setIfInBounds_toArray, List.set_cons_zero, List.set_cons_succ]
    refine wpG_tk (some 16) (v := .bool true) rfl (.val (by rfl) (fun _ _ => rfl)) ?_
    simp only [Act.put, List.setIfInBounds_toArray, List.set_cons_zero, List.set_cons_succ]
    refine wpG_tk (some 17) (v := undef) rfl (.no (by rfl)) ?_
    simp only [Act.put, List.setIfInBounds_toArray, List.set_cons_zero, List.set_cons_succ]
    refine wpG_tk (some 18) (v := undef) rfl (.no (by rfl)) ?_
    simp only [Act.put, List.setIfInBounds_toArray, List.set_cons_zero, List.set_cons_succ]
    refine wpG_tk (some 19) (v := .bool true) rfl (.val (by rfl) (fun W hg => by go_simp)) ?_
    simp only [Act.put, List.setIfInBounds_toArray, List.set_cons_zero, List.set_cons_succ]
    refine wpG_done (fun V6 hv7 => ?_)
    have GC8 := Lib.hid (GB5.out.trans hv7)
    clear hv7
    go_upto_region 2 with fail
    refine wpG_region ?_
    refine wpG_tk (some 20) (v := .bool true) rfl (.call (f := 12) (args := #[]) (by rfl) (fun W => by go_simp) (fun W hg => sanity_any W (HT.out.below (GC8.out.trans hg)))) ?_
    simp only [Act.put, List.setIfInBounds_toArray, List.set_cons_zero, List.set_cons_succ]
    refine wpG_tk (some 6) (v := .bool true) rfl (.val (by rfl) (fun _ _ => rfl)) ?_
    simp only [Act.put, List.setIfInBounds_toArray, List.set_cons_zero, List.set_cons_succ]
    refine wpG_done (fun V9 hv10 => ?_)
    have GC11 := Lib.hid (GC8.out.trans hv10)
    clear hv10
    go_wp2_with fail
    go_ret
    exact ⟨rfl, Gr.to G0.out GC11.out⟩
  · have HS := Lib.hid hs
    clear hs
    obtain ⟨u, hu, r0, r1, g0⟩ := rows2 w [.int .i64 x1, .int .i64 x2, .int .i64 x3] 23 [.int .i64 y1, .int .i64 y2, .int .i64 y3] 23
    have R0 := Lib.hid r0
    have R1 := Lib.hid r1
    have G0 := Lib.hid g0
    have HU := Lib.hid hu
    have HT := Lib.hid (hT.below g0)
    clear hT
    clear hu g0 r0 r1
    go_enter Tryd.func3, Tryd.ntmps3
    go_upto_region 1 with fail
    rw [← HU.out]
    refine wpG_region ?_
    refine wpG_tk (some 7) (v := .agg #[.int .i64 x1, .int .i64 x2, .int .i64 x3]) rfl (.load_mid (by rfl) 23 (.tmp 3) rfl (w.heap.size) 0 rfl [.int .i64 x1, .int .i64 x2, .int .i64 x3] _ (fun W hg => (R0.out.below hg).range) Tryd.underlying23 rfl (by kernel_rfl)) ?_
    simp only [Act.put, List.setIfInBounds_toArray, List.set_cons_zero, List.set_cons_succ]
    refine wpG_tk (some 8) (v := .agg #[.int .i64 y1, .int .i64 y2, .int .i64 y3]) rfl (.load_mid (by rfl) 23 (.tmp 4) rfl (w.heap.size + 1) 0 rfl [.int .i64 y1, .int .i64 y2, .int .i64 y3] _ (fun W hg => (R1.out.below hg).range) Tryd.underlying23 rfl (by kernel_rfl)) ?_
    simp only [Act.put, List.setIfInBounds_toArray, List.set_cons_zero, List.set_cons_succ]
    refine wpG_val (some 9) rfl (by rfl) (fun W1 hg2 => ⟨.slice (some ⟨W1.heap.size, 0, none⟩) 2 2, W1.alloc (.cells #[.int .i64 x1, .int .i64 x2, .int .i64 x3, .int .i64 y1, .int .i64 y2, .int .i64 y3] 23), by (go_simp <;> rfl), ?_⟩)
    simp only [Act.put, List.setIfInBounds_toArray, List.set_cons_zero, List.set_cons_succ]
    obtain ⟨U3, hu, rn, gn⟩ : ∃ z, z = W1.alloc (.cells #[.int .i64 x1, .int .i64 x2, .int .i64 x3, .int .i64 y1, .int .i64 y2, .int .i64 y3] 23) ∧ Row W1.heap.size [.int .i64 x1, .int .i64 x2, .int .i64 x3, .int .i64 y1, .int .i64 y2, .int .i64 y3] z ∧ Gr W1 z := ⟨_, rfl, Row.newl W1 [.int .i64 x1, .int .i64 x2, .int .i64 x3, .int .i64 y1, .int .i64 y2, .int .i64 y3] 23, Gr.al _ _⟩
    rw [← hu]
    have RN4 := Lib.hid rn
    have GB5 := Lib.hid (Gr.trans hg2 gn)
    clear hu rn gn hg2
    refine wpG_tk (some 10) (v := .bool true) rfl (.call (f := 11) (args := #[.slice (some ⟨W1.heap.size, 0, none⟩) 2 2]) (by rfl) (fun W => by go_simp) (fun W hg => small_is [(x1, x2, x3), (y1, y2, y3)] W1.heap.size 2 true W rfl (by decide) (RN4.out.below hg) (List.forall_mem_cons.2 ⟨i1, (List.forall_mem_cons.2 ⟨i2, (fun _ h => absurd h List.not_mem_nil)⟩)⟩) HS.out)) ?_
    simp only [Act.put, List.setIfInBounds_toArray, List.set_cons_zero, List.set_cons_succ]
    refine wpG_tk (some 11) (v := .bool false) rfl (.val (by rfl) (fun W hg => by go_simp)) ?_
    simp only [Act.put, List.setIfInBounds_toArray, List.set_cons_zero, List.set_cons_succ]
    refine wpG_tk (some 12) (v := .bool false) rfl (.val (by rfl) (fun _ _ => rfl)) ?_
    simp only [Act.put, List.setIfInBounds_toArray, List.set_cons_zero, List.set_cons_succ]
    refine wpG_tk (some 13) (v := .int .i64 n) rfl (.val (by rfl) (fun _ _ => rfl)) ?_
    simp only [Act.put, List.setIfInBounds_toArray, List.set_cons_zero, List.set_cons_succ]
    refine wpG_tk (some 14) (v := .bool true) rfl (.val (by rfl) (fun W hg => by have hq : (n < (-1048575)) := (by omega); go_simp)) ?_
    simp only [Act.put, List.setIfInBounds_toArray, List.set_cons_zero, List.set_cons_succ]
    refine wpG_tk (some 15) (v := .bool true) rfl (.val (by rfl) (fun W hg => by go_simp)) ?_
    simp only [Act.put, List.setIfInBounds_toArray, List.set_cons_zero, List.set_cons_succ]
    refine wpG_tk (some 16) (v := .bool true) rfl (.val (by rfl) (fun _ _ => rfl)) ?_
    simp only [Act.put, List.setIfInBounds_toArray, List.set_cons_zero, List.set_cons_succ]
    refine wpG_tk (some 17) (v := undef) rfl (.no (by rfl)) ?_
    simp only [Act.put, List.setIfInBounds_toArray, List.set_cons_zero, List.set_cons_succ]
    refine wpG_tk (some 18) (v := undef) rfl (.no (by rfl)) ?_
    simp only [Act.put, List.setIfInBounds_toArray, List.set_cons_zero, List.set_cons_succ]
    refine wpG_tk (some 19) (v := .bool true) rfl (.val (by rfl) (fun W hg => by go_simp)) ?_
    simp only [Act.put, List.setIfInBounds_toArray, List.set_cons_zero, List.set_cons_succ]
    refine wpG_done (fun V6 hv7 => ?_)
    have GC8 := Lib.hid (GB5.out.trans hv7)
    clear hv7
    go_upto_region 2 with fail
    refine wpG_region ?_
    refine wpG_tk (some 20) (v := .bool true) rfl (.call (f := 12) (args := #[]) (by rfl) (fun W => by go_simp) (fun W hg => sanity_any W (HT.out.below (GC8.out.trans hg)))) ?_
    simp only [Act.put, List.setIfInBounds_toArray, List.set_cons_zero, List.set_cons_succ]
    refine wpG_tk (some 6) (v := .bool true) rfl (.val (by rfl) (fun _ _ => rfl)) ?_
    simp only [Act.put, List.setIfInBounds_toArray, List.set_cons_zero, List.set_cons_succ]
    refine wpG_done (fun V9 hv10 => ?_)
    have GC11 := Lib.hid (GC8.out.trans hv10)
    clear hv10
    go_wp2_with fail
    go_ret
    exact ⟨rfl, Gr.to G0.out GC11.out⟩
  · have HS := Lib.hid hs
    clear hs
    obtain ⟨u, hu, r0, r1, g0⟩ := rows2 w [.int .i64 x1, .int .i64 x2, .int .i64 x3] 23 [.int .i64 y1, .int .i64 y2, .int .i64 y3] 23
    have R0 := Lib.hid r0
    have R1 := Lib.hid r1
    have G0 := Lib.hid g0
    have HU := Lib.hid hu
    have HT := Lib.hid (hT.below g0)
    clear hT
    clear hu g0 r0 r1
    go_enter Tryd.func3, Tryd.ntmps3
    go_upto_region 1 with fail
    rw [← HU.out]
    refine wpG_region ?_
    refine wpG_tk (some 7) (v := .agg #[.int .i64 x1, .int .i64 x2, .int .i64 x3]) rfl (.load_mid (by rfl) 23 (.tmp 3) rfl (w.heap.size) 0 rfl [.int .i64 x1, .int .i64 x2, .int .i64 x3] _ (fun W hg => (R0.out.below hg).range) Tryd.underlying23 rfl (by kernel_rfl)) ?_
    simp only [Act.put, List.setIfInBounds_toArray, List.set_cons_zero, List.set_cons_succ]
    refine wpG_tk (some 8) (v := .agg #[.int .i64 y1, .int .i64 y2, .int .i64 y3]) rfl (.load_mid (by rfl) 23 (.tmp 4) rfl (w.heap.size + 1) 0 rfl [.int .i64 y1, .int .i64 y2, .int .i64 y3] _ (fun W hg => (R1.out.below hg).range) Tryd.underlying23 rfl (by kernel_rfl)) ?_
    simp only [Act.put, List.setIfInBounds_toArray, List.set_cons_zero, List.set_cons_succ]
    refine wpG_val (some 9) rfl (by rfl) (fun W1 hg2 => ⟨.slice (some ⟨W1.heap.size, 0, none⟩) 2 2, W1.alloc (.cells #[.int .i64 x1, .int .i64 x2, .int .i64 x3, .int .i64 y1, .int .i64 y2, .int .i64 y3] 23), by (go_simp <;> rfl), ?_⟩)
    simp only [Act.put, List.setIfInBounds_toArray, List.set_cons_zero, List.set_cons_succ]
    obtain ⟨U3, hu, rn, gn⟩ : ∃ z, z = W1.alloc (.cells #[.int .i64 x1, .int .i64 x2, .int .i64 x3, .int .i64 y1, .int .i64 y2, .int .i64 y3] 23) ∧ Row W1.heap.size [.int .i64 x1, .int .i64 x2, .int .i64 x3, .int .i64 y1, .int .i64 y2, .int .i64 y3] z ∧ Gr W1 z := ⟨_, rfl, Row.newl W1 [.int .i64 x1, .int .i64 x2, .int .i64 x3, .int .i64 y1, .int .i64 y2, .int .i64 y3] 23, Gr.al _ _⟩
    rw [← hu]
    have RN4 := Lib.hid rn
    have GB5 := Lib.hid (Gr.trans hg2 gn)
    clear hu rn gn hg2
    refine wpG_tk (some 10) (v := .bool true) rfl (.call (f := 11) (args := #[.slice (some ⟨W1.heap.size, 0, none⟩) 2 2]) (by rfl) (fun W => by go_simp) (fun W hg => small_is [(x1, x2, x3), (y1, y2, y3)] W1.heap.size 2 true W rfl (by decide) (RN4.out.below hg) (List.forall_mem_cons.2 ⟨i1, (List.forall_mem_cons.2 ⟨i2, (fun _ h => absurd h List.not_mem_nil)⟩)⟩) HS.out)) ?_
    simp only [Act.put, List.setIfInBounds_toArray, List.set_cons_zero, List.set_cons_succ]
    refine wpG_tk (some 11) (v := .bool false) rfl (.val (by rfl) (fun W hg => by go_simp)) ?_
    simp only [Act.put, List.setIfInBounds_toArray, List.set_cons_zero, List.set_cons_succ]
    refine wpG_tk (some 12) (v := .bool false) rfl (.val (by rfl) (fun _ _ => rfl)) ?_
    simp only [Act.put, List.setIfInBounds_toArray, List.set_cons_zero, List.set_cons_succ]
    refine wpG_tk (some 13) (v := .int .i64 n) rfl (.val (by rfl) (fun _ _ => rfl)) ?_
    simp only [Act.put, List.setIfInBounds_toArray, List.set_cons_zero, List.set_cons_succ]
    refine wpG_tk (some 14) (v := .bool false) rfl (.val (by rfl) (fun W hg => by have hq : ¬ (n < (-1048575)) := (by omega); go_simp)) ?_
    simp only [Act.put, List.setIfInBounds_toArray, List.set_cons_zero, List.set_cons_succ]
    refine wpG_tk (some 15) (v := .bool false) rfl (.val (by rfl) (fun W hg => by go_simp)) ?_
    simp only [Act.put, List.setIfInBounds_toArray, List.set_cons_zero, List.set_cons_succ]
    refine wpG_tk (some 16) (v := .bool false) rfl (.val (by rfl) (fun _ _ => rfl)) ?_
    simp only [Act.put, List.setIfInBounds_toArray, List.set_cons_zero, List.set_cons_succ]
    refine wpG_tk (some 17) (v := .int .i64 n) rfl (.val (by rfl) (fun _ _ => rfl)) ?_
    simp only [Act.put, List.setIfInBounds_toArray, List.set_cons_zero, List.set_cons_succ]
    refine wpG_tk (some 18) (v := .bool true) rfl (.val (by rfl) (fun W hg => by have hq : (n > 1048575) := (by omega); go_simp)) ?_
    simp only [Act.put, List.setIfInBounds_toArray, List.set_cons_zero, List.set_cons_succ]
    refine wpG_tk (some 19) (v := .bool true) rfl (.val (by rfl) (fun W hg => by go_simp)) ?_
    simp only [Act.put, List.setIfInBounds_toArray, List.set_cons_zero, List.set_cons_succ]
    refine wpG_done (fun V6 hv7 => ?_)
    have GC8 := Lib.hid (GB5.out.trans hv7)
    clear hv7
    go_upto_region 2 with fail
    refine wpG_region ?_
    refine wpG_tk (some 20) (v := .bool true) rfl (.call (f := 12) (args := #[]) (by rfl) (fun W => by go_simp) (fun W hg => sanity_any W (HT.out.below (GC8.out.trans hg)))) ?_
    simp only [Act.put, List.setIfInBounds_toArray, List.set_cons_zero, List.set_cons_succ]
    refine wpG_tk (some 6) (v := .bool true) rfl (.val (by rfl) (fun _ _ => rfl)) ?_
    simp only [Act.put, List.setIfInBounds_toArray, List.set_cons_zero, List.set_cons_succ]
    refine wpG_done (fun V9 hv10 => ?_)
    have GC11 := Lib.hid (GC8.out.trans hv10)
    clear hv10
    go_wp2_with fail
    go_ret
    exact ⟨rfl, Gr.to G0.out GC11.out⟩
  · have hb := hs
    simp only [List.all_cons, List.all_nil, Bool.and_true, Bool.and_eq_true, inR_true] at hb
    have HS := Lib.hid hs
    clear hs
    obtain ⟨u, hu, r0, r1, g0⟩ := rows2 w [.int .i64 x1, .int .i64 x2, .int .i64 x3] 23 [.int .i64 y1, .int .i64 y2, .int .i64 y3] 23
    have R0 := Lib.hid r0
    have R1 := Lib.hid r1
    have G0 := Lib.hid g0
    have HU := Lib.hid hu
    have HT := Lib.hid (hT.below g0)
    clear hT
    clear hu g0 r0 r1
    go_enter Tryd.func3, Tryd.ntmps3
    go_upto_region 1 with fail
    rw [← HU.out]
    refine wpG_region ?_
    refine wpG_tk (some 7) (v := .agg #[.int .i64 x1, .int .i64 x2, .int .i64 x3]) rfl (.load_mid (by rfl) 23 (.tmp 3) rfl (w.heap.size) 0 rfl [.int .i64 x1, .int .i64 x2, .int .i64 x3] _ (fun W hg => (R0.out.below hg).range) Tryd.underlying23 rfl (by kernel_rfl)) ?_
    simp only [Act.put, List.setIfInBounds_toArray, List.set_cons_zero, List.set_cons_succ]
    refine wpG_tk (some 8) (v := .agg #[.int .i64 y1, .int .i64 y2, .int .i64 y3]) rfl (.load_mid (by rfl) 23 (.tmp 4) rfl (w.heap.size + 1) 0 rfl [.int .i64 y1, .int .i64 y2, .int .i64 y3] _ (fun W hg => (R1.out.below hg).range) Tryd.underlying23 rfl (by kernel_rfl)) ?_
    simp only [Act.put, List.setIfInBounds_toArray, List.set_cons_zero, List.set_cons_succ]
    refine wpG_val (some 9) rfl (by rfl) (fun W1 hg2 => ⟨.slice (some ⟨W1.heap.size, 0, none⟩) 2 2, W1.alloc (.cells #[.int .i64 x1, .int .i64 x2, .int .i64 x3, .int .i64 y1, .int .i64 y2, .int .i64 y3] 23), by (go_simp <;> rfl), ?_⟩)
    simp only [Act.put, List.setIfInBounds_toArray, List.set_cons_zero, List.set_cons_succ]
    obtain ⟨U3, hu, rn, gn⟩ : ∃ z, z = W1.alloc (.cells #[.int .i64 x1, .int .i64 x2, .int .i64 x3, .int .i64 y1, .int .i64 y2, .int .i64 y3] 23) ∧ Row W1.heap.size [.int .i64 x1, .int .i64 x2, .int .i64 x3, .int .i64 y1, .int .i64 y2, .int .i64 y3] z ∧ Gr W1 z := ⟨_, rfl, Row.newl W1 [.int .i64 x1, .int .i64 x2, .int .i64 x3, .int .i64 y1, .int .i64 y2, .int .i64 y3] 23, Gr.al _ _⟩
    rw [← hu]
    have RN4 := Lib.hid rn
    have GB5 := Lib.hid (Gr.trans hg2 gn)
    clear hu rn gn hg2
    refine wpG_tk (some 10) (v := .bool true) rfl (.call (f := 11) (args := #[.slice (some ⟨W1.heap.size, 0, none⟩) 2 2]) (by rfl) (fun W => by go_simp) (fun W hg => small_is [(x1, x2, x3), (y1, y2, y3)] W1.heap.size 2 true W rfl (by decide) (RN4.out.below hg) (List.forall_mem_cons.2 ⟨i1, (List.forall_mem_cons.2 ⟨i2, (fun _ h => absurd h List.not_mem_nil)⟩)⟩) HS.out)) ?_
    simp only [Act.put, List.setIfInBounds_toArray, List.set_cons_zero, List.set_cons_succ]
    refine wpG_tk (some 11) (v := .bool false) rfl (.val (by rfl) (fun W hg => by go_simp)) ?_
    simp only [Act.put, List.setIfInBounds_toArray, List.set_cons_zero, List.set_cons_succ]
    refine wpG_tk (some 12) (v := .bool false) rfl (.val (by rfl) (fun _ _ => rfl)) ?_
    simp only [Act.put, List.setIfInBounds_toArray, List.set_cons_zero, List.set_cons_succ]
    refine wpG_tk (some 13) (v := .int .i64 n) rfl (.val (by rfl) (fun _ _ => rfl)) ?_
    simp only [Act.put, List.setIfInBounds_toArray, List.set_cons_zero, List.set_cons_succ]
    refine wpG_tk (some 14) (v := .bool false) rfl (.val (by rfl) (fun W hg => by have hq : ¬ (n < (-1048575)) := (by omega); go_simp)) ?_
    simp only [Act.put, List.setIfInBounds_toArray, List.set_cons_zero, List.set_cons_succ]
    refine wpG_tk (some 15) (v := .bool false) rfl (.val (by rfl) (fun W hg => by go_simp)) ?_
    simp only [Act.put, List.setIfInBounds_toArray, List.set_cons_zero, List.set_cons_succ]
    refine wpG_tk (some 16) (v := .bool false) rfl (.val (by rfl) (fun _ _ => rfl)) ?_
    simp only [Act.put, List.setIfInBounds_toArray, List.set_cons_zero, List.set_cons_succ]
    refine wpG_tk (some 17) (v := .int .i64 n) rfl (.val (by rfl) (fun _ _ => rfl)) ?_
    simp only [Act.put, List.setIfInBounds_toArray, List.set_cons_zero, List.set_cons_succ]
    refine wpG_tk (some 18) (v := .bool false) rfl (.val (by rfl) (fun W hg => by have hq : ¬ (n > 1048575) := (by omega); go_simp)) ?_
    simp only [Act.put, List.setIfInBounds_toArray, List.set_cons_zero, List.set_cons_succ]
    refine wpG_tk (some 19) (v := .bool false) rfl (.val (by rfl) (fun W hg => by go_simp)) ?_
    simp only [Act.put, List.setIfInBounds_toArray, List.set_cons_zero, List.set_cons_succ]
    refine wpG_done (fun V6 hv7 => ?_)
    have GC8 := Lib.hid (GB5.out.trans hv7)
    clear hv7
    go_upto_region 3 with fail
    refine wpK_region (by kernel_rfl) ?_
    refine wpK_tk (i := 0) (some 21) (v := .bool true) rfl rfl (by kernel_rfl) (fun _ _ _ h => h) (.call (f := 12) (args := #[]) (by rfl) (fun W => by go_simp) (fun W hg => sanity_any W (HT.out.below (GC8.out.trans (Gr.un hg))))) ?_
    simp only [Act.put, List.setIfInBounds_toArray, List.set_cons_zero, List.set_cons_succ]
    refine wpK_ta (i := 1) (some 22) (v := .bool true) rfl rfl (by kernel_rfl) (fun _ _ _ h => h) (Or.inl ⟨rfl, fun _ => rfl⟩) ?_
    simp only [Act.put, List.setIfInBounds_toArray, List.set_cons_zero, List.set_cons_succ]
    refine wpK_tk (i := 2) (some 23) (v := .agg #[.int .i64 x1, .int .i64 x2, .int .i64 x3]) rfl rfl (by kernel_rfl) (fun _ _ _ h => h) (.load_mid (by rfl) 23 (.tmp 3) rfl (w.heap.size) 0 rfl [.int .i64 x1, .int .i64 x2, .int .i64 x3] _ (fun W hg => (R0.out.below (GC8.out.trans (Gr.un hg))).range) Tryd.underlying23 rfl (by kernel_rfl)) ?_
    simp only [Act.put, List.setIfInBounds_toArray, List.set_cons_zero, List.set_cons_succ]
    refine wpK_tk (i := 3) (some 24) (v := .agg #[.int .i64 y1, .int .i64 y2, .int .i64 y3]) rfl rfl (by kernel_rfl) (fun _ _ _ h => h) (.load_mid (by rfl) 23 (.tmp 4) rfl (w.heap.size + 1) 0 rfl [.int .i64 y1, .int .i64 y2, .int .i64 y3] _ (fun W hg => (R1.out.below (GC8.out.trans (Gr.un hg))).range) Tryd.underlying23 rfl (by kernel_rfl)) ?_
    simp only [Act.put, List.setIfInBounds_toArray, List.set_cons_zero, List.set_cons_succ]
    refine wpK_tk (i := 4) (some 25) (v := .agg #[.int .i64 (x1 + y1), .int .i64 (x2 + y2), .int .i64 (x3 + y3)]) rfl rfl (by kernel_rfl) (fun _ _ _ h => h) (.call (f := 13) (args := #[.agg #[.int .i64 x1, .int .i64 x2, .int .i64 x3], .agg #[.int .i64 y1, .int .i64 y2, .int .i64 y3]]) (by rfl) (fun W => by go_simp) (fun W hg => add_any x1 x2 x3 y1 y2 y3 W (by omega))) ?_
    simp only [Act.put, List.setIfInBounds_toArray, List.set_cons_zero, List.set_cons_succ]
    refine wpK_tk (i := 5) (some 26) (v := .agg #[.int .i64 x1, .int .i64 x2, .int .i64 x3]) rfl rfl (by kernel_rfl) (fun _ _ _ h => h) (.load_mid (by rfl) 23 (.tmp 3) rfl (w.heap.size) 0 rfl [.int .i64 x1, .int .i64 x2, .int .i64 x3] _ (fun W hg => (R0.out.below (GC8.out.trans (Gr.un hg))).range) Tryd.underlying23 rfl (by kernel_rfl)) ?_
    simp only [Act.put, List.setIfInBounds_toArray, List.set_cons_zero, List.set_cons_succ]
    refine wpK_tk (i := 6) (some 27) (v := .agg #[.int .i64 y1, .int .i64 y2, .int .i64 y3]) rfl rfl (by kernel_rfl) (fun _ _ _ h => h) (.load_mid (by rfl) 23 (.tmp 4) rfl (w.heap.size + 1) 0 rfl [.int .i64 y1, .int .i64 y2, .int .i64 y3] _ (fun W hg => (R1.out.below (GC8.out.trans (Gr.un hg))).range) Tryd.underlying23 rfl (by kernel_rfl)) ?_
    simp only [Act.put, List.setIfInBounds_toArray, List.set_cons_zero, List.set_cons_succ]
    refine wpK_tk (i := 7) (some 28) (v := .agg #[.int .i64 (x1 + y1), .int .i64 (x2 + y2), .int .i64 (x3 + y3)]) rfl rfl (by kernel_rfl) (fun _ _ _ h => h) (.call (f := 14) (args := #[.agg #[.int .i64 x1, .int .i64 x2, .int .i64 x3], .agg #[.int .i64 y1, .int .i64 y2, .int .i64 y3]]) (by rfl) (fun W => by go_simp) (fun W hg => radd_any x1 x2 x3 y1 y2 y3 W (by omega))) ?_
    simp only [Act.put, List.setIfInBounds_toArray, List.set_cons_zero, List.set_cons_succ]
    refine wpK_ta (i := 8) (some 29) (v := .bool true) rfl rfl (by kernel_rfl) (fun _ _ _ h => h) (Or.inl ⟨by rfl, fun W => by go_simp <;> omega⟩) ?_
    simp only [Act.put, List.setIfInBounds_toArray, List.set_cons_zero, List.set_cons_succ]
    refine wpK_ta (i := 9) (some 30) (v := .bool true) rfl rfl (by kernel_rfl) (fun _ _ _ h => h) (Or.inl ⟨by rfl, fun W => by go_simp⟩) ?_
    simp only [Act.put, List.setIfInBounds_toArray, List.set_cons_zero, List.set_cons_succ]
    refine wpK_ta (i := 10) (some 31) (v := .bool true) rfl rfl (by kernel_rfl) (fun _ _ _ h => h) (Or.inl ⟨rfl, fun _ => rfl⟩) ?_
    simp only [Act.put, List.setIfInBounds_toArray, List.set_cons_zero, List.set_cons_succ]
    refine wpK_tk (i := 11) (some 32) (v := .agg #[.int .i64 x1, .int .i64 x2, .int .i64 x3]) rfl rfl (by kernel_rfl) (fun _ _ _ h => h) (.load_mid (by rfl) 23 (.tmp 3) rfl (w.heap.size) 0 rfl [.int .i64 x1, .int .i64 x2, .int .i64 x3] _ (fun W hg => (R0.out.below (GC8.out.trans (Gr.un hg))).range) Tryd.underlying23 rfl (by kernel_rfl)) ?_
    simp only [Act.put, List.setIfInBounds_toArray, List.set_cons_zero, List.set_cons_succ]
    refine wpK_tk (i := 12) (some 33) (v := .agg #[.int .i64 y1, .int .i64 y2, .int .i64 y3]) rfl rfl (by kernel_rfl) (fun _ _ _ h => h) (.load_mid (by rfl) 23 (.tmp 4) rfl (w.heap.size + 1) 0 rfl [.int .i64 y1, .int .i64 y2, .int .i64 y3] _ (fun W hg => (R1.out.below (GC8.out.trans (Gr.un hg))).range) Tryd.underlying23 rfl (by kernel_rfl)) ?_
    simp only [Act.put, List.setIfInBounds_toArray, List.set_cons_zero, List.set_cons_succ]
    refine wpK_tk (i := 13) (some 34) (v := .agg #[.int .i64 (x1 - y1), .int .i64 (x2 - y2), .int .i64 (x3 - y3)]) rfl rfl (by kernel_rfl) (fun _ _ _ h => h) (.call (f := 15) (args := #[.agg #[.int .i64 x1, .int .i64 x2, .int .i64 x3], .agg #[.int .i64 y1, .int .i64 y2, .int .i64 y3]]) (by rfl) (fun W => by go_simp) (fun W hg => sub_any x1 x2 x3 y1 y2 y3 W (by omega))) ?_
    simp only [Act.put, List.setIfInBounds_toArray, List.set_cons_zero, List.set_cons_succ]
    refine wpK_tk (i := 14) (some 35) (v := .agg #[.int .i64 x1, .int .i64 x2, .int .i64 x3]) rfl rfl (by kernel_rfl) (fun _ _ _ h => h) (.load_mid (by rfl) 23 (.tmp 3) rfl (w.heap.size) 0 rfl [.int .i64 x1, .int .i64 x2, .int .i64 x3] _ (fun W hg => (R0.out.below (GC8.out.trans (Gr.un hg))).range) Tryd.underlying23 rfl (by kernel_rfl)) ?_
    simp only [Act.put, List.setIfInBounds_toArray, List.set_cons_zero, List.set_cons_succ]
    refine wpK_tk (i := 15) (some 36) (v := .agg #[.int .i64 y1, .int .i64 y2, .int .i64 y3]) rfl rfl (by kernel_rfl) (fun _ _ _ h => h) (.load_mid (by rfl) 23 (.tmp 4) rfl (w.heap.size + 1) 0 rfl [.int .i64 y1, .int .i64 y2, .int .i64 y3] _ (fun W hg => (R1.out.below (GC8.out.trans (Gr.un hg))).range) Tryd.underlying23 rfl (by kernel_rfl)) ?_
    simp only [Act.put, List.setIfInBounds_toArray, List.set_cons_zero, List.set_cons_succ]
    refine wpK_tk (i := 16) (some 37) (v := .agg #[.int .i64 (x1 - y1), .int .i64 (x2 - y2), .int .i64 (x3 - y3)]) rfl rfl (by kernel_rfl) (fun _ _ _ h => h) (.call (f := 16) (args := #[.agg #[.int .i64 x1, .int .i64 x2, .int .i64 x3], .agg #[.int .i64 y1, .int .i64 y2, .int .i64 y3]]) (by rfl) (fun W => by go_simp) (fun W hg => rsub_any x1 x2 x3 y1 y2 y3 W (by omega))) ?_
    simp only [Act.put, List.setIfInBounds_toArray, List.set_cons_zero, List.set_cons_succ]
    refine wpK_ta (i := 17) (some 38) (v := .bool true) rfl rfl (by kernel_rfl) (fun _ _ _ h => h) (Or.inl ⟨by rfl, fun W => by go_simp <;> omega⟩) ?_
    simp only [Act.put, List.setIfInBounds_toArray, List.set_cons_zero, List.set_cons_succ]
    refine wpK_ta (i := 18) (some 39) (v := .bool true) rfl rfl (by kernel_rfl) (fun _ _ _ h => h) (Or.inl ⟨by rfl, fun W => by go_simp⟩) ?_
    simp only [Act.put, List.setIfInBounds_toArray, List.set_cons_zero, List.set_cons_succ]
    refine wpK_ta (i := 19) (some 40) (v := .bool true) rfl rfl (by kernel_rfl) (fun _ _ _ h => h) (Or.inl ⟨rfl, fun _ => rfl⟩) ?_
    simp only [Act.put, List.setIfInBounds_toArray, List.set_cons_zero, List.set_cons_succ]
    refine wpK_tk (i := 20) (some 41) (v := .agg #[.int .i64 x1, .int .i64 x2, .int .i64 x3]) rfl rfl (by kernel_rfl) (fun _ _ _ h => h) (.load_mid (by rfl) 23 (.tmp 3) rfl (w.heap.size) 0 rfl [.int .i64 x1, .int .i64 x2, .int .i64 x3] _ (fun W hg => (R0.out.below (GC8.out.trans (Gr.un hg))).range) Tryd.underlying23 rfl (by kernel_rfl)) ?_
    simp only [Act.put, List.setIfInBounds_toArray, List.set_cons_zero, List.set_cons_succ]
    refine wpK_ta (i := 21) (some 42) (v := .int .i64 n) rfl rfl (by kernel_rfl) (fun _ _ _ h => h) (Or.inl ⟨rfl, fun _ => rfl⟩) ?_
    simp only [Act.put, List.setIfInBounds_toArray, List.set_cons_zero, List.set_cons_succ]
    refine wpK_tk (i := 22) (some 43) (v := .agg #[.int .i64 (x1 * n), .int .i64 (x2 * n), .int .i64 (x3 * n)]) rfl rfl (by kernel_rfl) (fun _ _ _ h => h) (.call (f := 17) (args := #[.agg #[.int .i64 x1, .int .i64 x2, .int .i64 x3], .int .i64 n]) (by rfl) (fun W => by go_simp) (fun W hg => scale_any x1 x2 x3 n W (by omega))) ?_
    simp only [Act.put, List.setIfInBounds_toArray, List.set_cons_zero, List.set_cons_succ]
    refine wpK_tk (i := 23) (some 44) (v := .agg #[.int .i64 x1, .int .i64 x2, .int .i64 x3]) rfl rfl (by kernel_rfl) (fun _ _ _ h => h) (.load_mid (by rfl) 23 (.tmp 3) rfl (w.heap.size) 0 rfl [.int .i64 x1, .int .i64 x2, .int .i64 x3] _ (fun W hg => (R0.out.below (GC8.out.trans (Gr.un hg))).range) Tryd.underlying23 rfl (by kernel_rfl)) ?_
    simp only [Act.put, List.setIfInBounds_toArray, List.set_cons_zero, List.set_cons_succ]
    refine wpK_ta (i := 24) (some 45) (v := .int .i64 n) rfl rfl (by kernel_rfl) (fun _ _ _ h => h) (Or.inl ⟨rfl, fun _ => rfl⟩) ?_
    simp only [Act.put, List.setIfInBounds_toArray, List.set_cons_zero, List.set_cons_succ]
    refine wpK_tk (i := 25) (some 46) (v := .agg #[.int .i64 (x1 * n), .int .i64 (x2 * n), .int .i64 (x3 * n)]) rfl rfl (by kernel_rfl) (fun _ _ _ h => h) (.call (f := 18) (args := #[.agg #[.int .i64 x1, .int .i64 x2, .int .i64 x3], .int .i64 n]) (by rfl) (fun W => by go_simp) (fun W hg => rscale_any x1 x2 x3 n W (by omega))) ?_
    simp only [Act.put, List.setIfInBounds_toArray, List.set_cons_zero, List.set_cons_succ]
    refine wpK_ta (i := 26) (some 47) (v := .bool true) rfl rfl (by kernel_rfl) (fun _ _ _ h => h) (Or.inl ⟨by rfl, fun W => by go_simp <;> omega⟩) ?_
    simp only [Act.put, List.setIfInBounds_toArray, List.set_cons_zero, List.set_cons_succ]
    refine wpK_ta (i := 27) (some 48) (v := .bool true) rfl rfl (by kernel_rfl) (fun _ _ _ h => h) (Or.inl ⟨by rfl, fun W => by go_simp⟩) ?_
    simp only [Act.put, List.setIfInBounds_toArray, List.set_cons_zero, List.set_cons_succ]
    refine wpK_ta (i := 28) (some 49) (v := .bool true) rfl rfl (by kernel_rfl) (fun _ _ _ h => h) (Or.inl ⟨rfl, fun _ => rfl⟩) ?_
    simp only [Act.put, List.setIfInBounds_toArray, List.set_cons_zero, List.set_cons_succ]
    refine wpK_tk (i := 29) (some 50) (v := .agg #[.int .i64 x1, .int .i64 x2, .int .i64 x3]) rfl rfl (by kernel_rfl) (fun _ _ _ h => h) (.load_mid (by rfl) 23 (.tmp 3) rfl (w.heap.size) 0 rfl [.int .i64 x1, .int .i64 x2, .int .i64 x3] _ (fun W hg => (R0.out.below (GC8.out.trans (Gr.un hg))).range) Tryd.underlying23 rfl (by kernel_rfl)) ?_
    simp only [Act.put, List.setIfInBounds_toArray, List.set_cons_zero, List.set_cons_succ]
    refine wpK_tk (i := 30) (some 51) (v := .agg #[.int .i64 y1, .int .i64 y2, .int .i64 y3]) rfl rfl (by kernel_rfl) (fun _ _ _ h => h) (.load_mid (by rfl) 23 (.tmp 4) rfl (w.heap.size + 1) 0 rfl [.int .i64 y1, .int .i64 y2, .int .i64 y3] _ (fun W hg => (R1.out.below (GC8.out.trans (Gr.un hg))).range) Tryd.underlying23 rfl (by kernel_rfl)) ?_
    simp only [Act.put, List.setIfInBounds_toArray, List.set_cons_zero, List.set_cons_succ]
    refine wpK_tk (i := 31) (some 52) (v := .int .i64 (Pt.dist x1 x2 x3 y1 y2 y3)) rfl rfl (by kernel_rfl) (fun _ _ _ h => h) (.call (f := 19) (args := #[.agg #[.int .i64 x1, .int .i64 x2, .int .i64 x3], .agg #[.int .i64 y1, .int .i64 y2, .int .i64 y3]]) (by rfl) (fun W => by go_simp) (fun W hg => distance_any x1 x2 x3 y1 y2 y3 W (by omega))) ?_
    simp only [Act.put, List.setIfInBounds_toArray, List.set_cons_zero, List.set_cons_succ]
    refine wpK_tk (i := 32) (some 53) (v := .agg #[.int .i64 x1, .int .i64 x2, .int .i64 x3]) rfl rfl (by kernel_rfl) (fun _ _ _ h => h) (.load_mid (by rfl) 23 (.tmp 3) rfl (w.heap.size) 0 rfl [.int .i64 x1, .int .i64 x2, .int .i64 x3] _ (fun W hg => (R0.out.below (GC8.out.trans (Gr.un hg))).range) Tryd.underlying23 rfl (by kernel_rfl)) ?_
    simp only [Act.put, List.setIfInBounds_toArray, List.set_cons_zero, List.set_cons_succ]
    refine wpK_tk (i := 33) (some 54) (v := .agg #[.int .i64 y1, .int .i64 y2, .int .i64 y3]) rfl rfl (by kernel_rfl) (fun _ _ _ h => h) (.load_mid (by rfl) 23 (.tmp 4) rfl (w.heap.size + 1) 0 rfl [.int .i64 y1, .int .i64 y2, .int .i64 y3] _ (fun W hg => (R1.out.below (GC8.out.trans (Gr.un hg))).range) Tryd.underlying23 rfl (by kernel_rfl)) ?_
    simp only [Act.put, List.setIfInBounds_toArray, List.set_cons_zero, List.set_cons_succ]
    refine wpK_tk (i := 34) (some 55) (v := .int .i64 (Pt.dist x1 x2 x3 y1 y2 y3)) rfl rfl (by kernel_rfl) (fun _ _ _ h => h) (.call (f := 20) (args := #[.agg #[.int .i64 x1, .int .i64 x2, .int .i64 x3], .agg #[.int .i64 y1, .int .i64 y2, .int .i64 y3]]) (by rfl) (fun W => by go_simp) (fun W hg => rdistance_any x1 x2 x3 y1 y2 y3 W (by omega))) ?_
    simp only [Act.put, List.setIfInBounds_toArray, List.set_cons_zero, List.set_cons_succ]
    refine wpK_ta (i := 35) (some 56) (v := .bool true) rfl rfl (by kernel_rfl) (fun _ _ _ h => h) (Or.inl ⟨by rfl, fun W => by go_simp⟩) ?_
    simp only [Act.put, List.setIfInBounds_toArray, List.set_cons_zero, List.set_cons_succ]
    refine wpK_ta (i := 36) (some 57) (v := .bool true) rfl rfl (by kernel_rfl) (fun _ _ _ h => h) (Or.inl ⟨by rfl, fun W => by go_simp⟩) ?_
    simp only [Act.put, List.setIfInBounds_toArray, List.set_cons_zero, List.set_cons_succ]
    refine wpK_ta (i := 37) (some 6) (v := .bool true) rfl rfl (by kernel_rfl) (fun _ _ _ h => h) (Or.inl ⟨rfl, fun _ => rfl⟩) ?_
    simp only [Act.put, List.setIfInBounds_toArray, List.set_cons_zero, List.set_cons_succ]
    refine wpK_done (by kernel_rfl) (fun V9 hv10 => ?_) _
    have GC11 := Lib.hid (GC8.out.trans (Gr.un hv10))
    clear hv10
    go_wp2_with fail
    go_ret
    exact ⟨rfl, Gr.to G0.out GC11.out⟩

end Go.Proofs.YthadlgjobjnhcaaDoor
