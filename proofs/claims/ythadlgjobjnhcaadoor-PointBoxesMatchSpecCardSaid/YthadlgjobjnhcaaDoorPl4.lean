/-
  voxellaw04.PointBoxesMatchSpec, its walk.
-/
import Derived.Test.YthadlgjobjnhcaaDoorPsn
import Derived.Test.YthadlgjobjnhcaaDoorPty2
import Derived.Test.YthadlgjobjnhcaaDoorPsy
import Derived.Test.YthadlgjobjnhcaaDoorRo4
import Derived.Handy
namespace Go.Proofs.YthadlgjobjnhcaaDoor
open Go.RowKit
set_option linter.unusedVariables false
set_option maxRecDepth 1000000 in
set_option maxHeartbeats 16000000 in
theorem law4 (a1 a2 a3 a4 a5 a6 b1 b2 b3 b4 b5 b6 x1 x2 x3 n i : Int) (w : World) (hT : Tab w) (i1 : In64 (a1, a2, a3)) (i2 : In64 (a4, a5, a6)) (i3 : In64 (b1, b2, b3)) (i4 : In64 (b4, b5, b6)) (i5 : In64 (x1, x2, x3)) :
    Calls Tryd.prog 4 #[.agg #[.int .i64 a1, .int .i64 a2, .int .i64 a3, .int .i64 a4, .int .i64 a5, .int .i64 a6], .agg #[.int .i64 b1, .int .i64 b2, .int .i64 b3, .int .i64 b4, .int .i64 b5, .int .i64 b6], .agg #[.int .i64 x1, .int .i64 x2, .int .i64 x3], .int .i64 n, .int .i64 i] w fun e w' => e = .returned (.bool true) ∧ Below w.heap.size w w' := by
  have hc : [(a1, a2, a3), (a4, a5, a6), (b1, b2, b3), (b4, b5, b6), (x1, x2, x3)].all inR = false ∨ ([(a1, a2, a3), (a4, a5, a6), (b1, b2, b3), (b4, b5, b6), (x1, x2, x3)].all inR = true ∧ n < -1048575) ∨ ([(a1, a2, a3), (a4, a5, a6), (b1, b2, b3), (b4, b5, b6), (x1, x2, x3)].all inR = true ∧ ¬ n < -1048575 ∧ n > 1048575) ∨ ([(a1, a2, a3), (a4, a5, a6), (b1, b2, b3), (b4, b5, b6), (x1, x2, x3)].all inR = true ∧ ¬ n < -1048575 ∧ ¬ n > 1048575) := by
    cases h : [(a1, a2, a3), (a4, a5, a6), (b1, b2, b3), (b4, b5, b6), (x1, x2, x3)].all inR with
    | false => exact .inl rfl
    | true => right; by_cases h1 : n < -1048575 <;> by_cases h2 : n > 1048575 <;> simp [h1, h2]
  rcases hc with hs | ⟨hs, h1⟩ | ⟨hs, h1, h2⟩ | ⟨hs, h1, h2⟩
  · have HS := Lib.hid hs
    clear hs
    obtain ⟨u, hu, r0, r1, r2, g0⟩ := rows3 w [.int .i64 a1, .int .i64 a2, .int .i64 a3, .int .i64 a4, .int .i64 a5, .int .i64 a6] 31 [.int .i64 b1, .int .i64 b2, .int .i64 b3, .int .i64 b4, .int .i64 b5, .int .i64 b6] 31 [.int .i64 x1, .int .i64 x2, .int .i64 x3] 23
    have R0 := Lib.hid r0
    have R1 := Lib.hid r1
    have R2 := Lib.hid r2
    have G0 := Lib.hid g0
    have HU := Lib.hid hu
    have HT := Lib.hid (hT.below g0)
    clear hT
    clear hu g0 r0 r1 r2
    go_enter Tryd.func4, Tryd.ntmps4
    go_upto_region 1 with fail
    rw [← HU.out]
    refine wpG_region ?_
    refine wpG_tk (some 17) (v := .pointer (some ⟨w.heap.size, 0, none⟩)) rfl (.val (by rfl) (fun W hg => by go_simp)) ?_
    simp only [Act.put, List.setIfInBounds_toArray, List.set_cons_zero, List.set_cons_succ]
    refine wpG_tk (some 18) (v := .agg #[.int .i64 a1, .int .i64 a2, .int .i64 a3]) rfl (.load_mid (by rfl) 23 (.tmp 17) rfl (w.heap.size) 0 rfl [.int .i64 a1, .int .i64 a2, .int .i64 a3] _ (fun W hg => (R0.out.below hg).lo) Tryd.underlying23 rfl (by kernel_rfl)) ?_
    simp only [Act.put, List.setIfInBounds_toArray, List.set_cons_zero, List.set_cons_succ]
    refine wpG_tk (some 19) (v := .pointer (some ⟨w.heap.size, 3, none⟩)) rfl (.val (by rfl) (fun W hg => by go_simp)) ?_
    simp only [Act.put, List.setIfInBounds_toArray, List.set_cons_zero, List.set_cons_succ]
    refine wpG_tk (some 20) (v := .agg #[.int .i64 a4, .int .i64 a5, .int .i64 a6]) rfl (.load_mid (by rfl) 23 (.tmp 19) rfl (w.heap.size) 3 rfl [.int .i64 a4, .int .i64 a5, .int .i64 a6] _ (fun W hg => (R0.out.below hg).hi) Tryd.underlying23 rfl (by kernel_rfl)) ?_
    simp only [Act.put, List.setIfInBounds_toArray, List.set_cons_zero, List.set_cons_succ]
    refine wpG_tk (some 21) (v := .pointer (some ⟨w.heap.size + 1, 0, none⟩)) rfl (.val (by rfl) (fun W hg => by go_simp)) ?_
    simp only [Act.put, List.setIfInBounds_toArray, List.set_cons_zero, List.set_cons_succ]
    refine wpG_tk (some 22) (v := .agg #[.int .i64 b1, .int .i64 b2, .int .i64 b3]) rfl (.load_mid (by rfl) 23 (.tmp 21) rfl (w.heap.size + 1) 0 rfl [.int .i64 b1, .int .i64 b2, .int .i64 b3] _ (fun W hg => (R1.out.below hg).lo) Tryd.underlying23 rfl (by kernel_rfl)) ?_
    simp only [Act.put, List.setIfInBounds_toArray, List.set_cons_zero, List.set_cons_succ]
    refine wpG_tk (some 23) (v := .pointer (some ⟨w.heap.size + 1, 3, none⟩)) rfl (.val (by rfl) (fun W hg => by go_simp)) ?_
    simp only [Act.put, List.setIfInBounds_toArray, List.set_cons_zero, List.set_cons_succ]
    refine wpG_tk (some 24) (v := .agg #[.int .i64 b4, .int .i64 b5, .int .i64 b6]) rfl (.load_mid (by rfl) 23 (.tmp 23) rfl (w.heap.size + 1) 3 rfl [.int .i64 b4, .int .i64 b5, .int .i64 b6] _ (fun W hg => (R1.out.below hg).hi) Tryd.underlying23 rfl (by kernel_rfl)) ?_
    simp only [Act.put, List.setIfInBounds_toArray, List.set_cons_zero, List.set_cons_succ]
    refine wpG_tk (some 25) (v := .agg #[.int .i64 x1, .int .i64 x2, .int .i64 x3]) rfl (.load_mid (by rfl) 23 (.tmp 7) rfl (w.heap.size + 1 + 1) 0 rfl [.int .i64 x1, .int .i64 x2, .int .i64 x3] _ (fun W hg => (R2.out.below hg).range) Tryd.underlying23 rfl (by kernel_rfl)) ?_
    simp only [Act.put, List.setIfInBounds_toArray, List.set_cons_zero, List.set_cons_succ]
    refine wpG_val (some 26) rfl (by rfl) (fun W1 hg2 => ⟨.slice (some ⟨W1.heap.size, 0, none⟩) 5 5, W1.alloc (.cells #[.int .i64 a1, .int .i64 a2, .int .i64 a3, .int .i64 a4, .int .i64 a5, .int .i64 a6, .int .i64 b1, .int .i64 b2, .int .i64 b3, .int .i64 b4, .int .i64 b5, .int .i64 b6, .int .i64 x1, .int .i64 x2, .int .i64 x3] 23), by (go_simp <;> rfl), ?_⟩)
    simp only [Act.put, List.setIfInBounds_toArray, List.set_cons_zero, List.set_cons_succ]
    obtain ⟨U3, hu, rn, gn⟩ : ∃ z, z = W1.alloc (.cells #[.int .i64 a1, .int .i64 a2, .int .i64 a3, .int .i64 a4, .int .i64 a5, .int .i64 a6, .int .i64 b1, .int .i64 b2, .int .i64 b3, .int .i64 b4, .int .i64 b5, .int .i64 b6, .int .i64 x1, .int .i64 x2, .int .i64 x3] 23) ∧ Row W1.heap.size [.int .i64 a1, .int .i64 a2, .int .i64 a3, .int .i64 a4, .int .i64 a5, .int .i64 a6, .int .i64 b1, .int .i64 b2, .int .i64 b3, .int .i64 b4, .int .i64 b5, .int .i64 b6, .int .i64 x1, .int .i64 x2, .int .i64 x3] z ∧ Gr W1 z := ⟨_, rfl, Row.newl W1 [.int .i64 a1, .int .i64 a2, .int .i64 a3, .int .i64 a4, .int .i64 a5, .int .i64 a6, .int .i64 b1, .int .i64 b2, .int .i64 b3, .int .i64 b4, .int .i64 b5, .int .i64 b6, .int .i64 x1, .int .i64 x2, .int .i64 x3] 23, Gr.al _ _⟩
    rw [← hu]
    have RN4 := Lib.hid rn
    have GB5 := Lib.hid (Gr.trans hg2 gn)
    clear hu rn gn hg2
    refine wpG_tk (some 27) (v := .bool false) rfl (.call (f := 11) (args := #[.slice (some ⟨W1.heap.size, 0, none⟩) 5 5]) (by rfl) (fun W => by go_simp) (fun W hg => small_is [(a1, a2, a3), (a4, a5, a6), (b1, b2, b3), (b4, b5, b6), (x1, x2, x3)] W1.heap.size 5 false W rfl (by decide) (RN4.out.below hg) (List.forall_mem_cons.2 ⟨i1, (List.forall_mem_cons.2 ⟨i2, (List.forall_mem_cons.2 ⟨i3, (List.forall_mem_cons.2 ⟨i4, (List.forall_mem_cons.2 ⟨i5, (fun _ h => absurd h List.not_mem_nil)⟩)⟩)⟩)⟩)⟩) HS.out)) ?_
    simp only [Act.put, List.setIfInBounds_toArray, List.set_cons_zero, List.set_cons_succ]
    refine wpG_tk (some 28) (v := .bool true) rfl (.val (by rfl) (fun W hg => by go_simp)) ?_
    simp only [Act.put, List.setIfInBounds_toArray, List.set_cons_zero, List.set_cons_succ]
    refine wpG_tk (some 29) (v := .bool true) rfl (.val (by rfl) (fun _ _ => rfl)) ?_
    simp only [Act.put, List.setIfInBounds_toArray, List.set_cons_zero, List.set_cons_succ]
    refine wpG_tk (some 30) (v := undef) rfl (.no (by rfl)) ?_
    simp only [Act.put, List.setIfInBounds_toArray, List.set_cons_zero, List.set_cons_succ]
    refine wpG_tk (some 31) (v := undef) rfl (.no (by rfl)) ?_
    simp only [Act.put, List.setIfInBounds_toArray, List.set_cons_zero, List.set_cons_succ]
    refine wpG_tk (some 32) (v := .bool true) rfl (.val (by rfl) (fun W hg => by go_simp)) ?_
    simp only [Act.put, List.setIfInBounds_toArray, List.set_cons_zero, List.set_cons_succ]
    refine wpG_tk (some 33) (v := .bool true) rfl (.val (by rfl) (fun _ _ => rfl)) ?_
    simp only [Act.put, List.setIfInBounds_toArray, List.set_cons_zero, List.set_cons_succ]
    refine wpG_tk (some 34) (v := undef) rfl (.no (by rfl)) ?_
    simp only [Act.put, List.setIfInBounds_toArray, List.set_cons_zero, List.set_cons_succ]
    refine wpG_tk (some 35) (v := undef) rfl (.no (by rfl)) ?_
    simp only [Act.put, List.setIfInBounds_toArray, List.set_cons_zero, List.set_cons_succ]
    refine wpG_tk (some 36) (v := .bool true) rfl (.val (by rfl) (fun W hg => by go_simp)) ?_
    simp only [Act.put, List.setIfInBounds_toArray, List.set_cons_zero, List.set_cons_succ]
    refine wpG_done (fun V6 hv7 => ?_)
    have GC8 := Lib.hid (GB5.out.trans hv7)
    clear hv7
    go_upto_region 2 with fail
    refine wpG_region ?_
    refine wpG_tk (some 37) (v := .bool true) rfl (.call (f := 12) (args := #[]) (by rfl) (fun W => by go_simp) (fun W hg => sanity_any W (HT.out.below (GC8.out.trans hg)))) ?_
    simp only [Act.put, List.setIfInBounds_toArray, List.set_cons_zero, List.set_cons_succ]
    refine wpG_tk (some 10) (v := .bool true) rfl (.val (by rfl) (fun _ _ => rfl)) ?_
    simp only [Act.put, List.setIfInBounds_toArray, List.set_cons_zero, List.set_cons_succ]
    refine wpG_done (fun V9 hv10 => ?_)
    have GC11 := Lib.hid (GC8.out.trans hv10)
    clear hv10
    go_wp2_with fail
    go_ret
    exact ⟨rfl, Gr.to G0.out GC11.out⟩
  · have HS := Lib.hid hs
    clear hs
    obtain ⟨u, hu, r0, r1, r2, g0⟩ := rows3 w [.int .i64 a1, .int .i64 a2, .int .i64 a3, .int .i64 a4, .int .i64 a5, .int .i64 a6] 31 [.int .i64 b1, .int .i64 b2, .int .i64 b3, .int .i64 b4, .int .i64 b5, .int .i64 b6] 31 [.int .i64 x1, .int .i64 x2, .int .i64 x3] 23
    have R0 := Lib.hid r0
    have R1 := Lib.hid r1
    have R2 := Lib.hid r2
    have G0 := Lib.hid g0
    have HU := Lib.hid hu
    have HT := Lib.hid (hT.below g0)
    clear hT
    clear hu g0 r0 r1 r2
    go_enter Tryd.func4, Tryd.ntmps4
    go_upto_region 1 with fail
    rw [← HU.out]
    refine wpG_region ?_
    refine wpG_tk (some 17) (v := .pointer (some ⟨w.heap.size, 0, none⟩)) rfl (.val (by rfl) (fun W hg => by go_simp)) ?_
    simp only [Act.put, List.setIfInBounds_toArray, List.set_cons_zero, List.set_cons_succ]
    refine wpG_tk (some 18) (v := .agg #[.int .i64 a1, .int .i64 a2, .int .i64 a3]) rfl (.load_mid (by rfl) 23 (.tmp 17) rfl (w.heap.size) 0 rfl [.int .i64 a1, .int .i64 a2, .int .i64 a3] _ (fun W hg => (R0.out.below hg).lo) Tryd.underlying23 rfl (by kernel_rfl)) ?_
    simp only [Act.put, List.setIfInBounds_toArray, List.set_cons_zero, List.set_cons_succ]
    refine wpG_tk (some 19) (v := .pointer (some ⟨w.heap.size, 3, none⟩)) rfl (.val (by rfl) (fun W hg => by go_simp)) ?_
    simp only [Act.put, List.setIfInBounds_toArray, List.set_cons_zero, List.set_cons_succ]
    refine wpG_tk (some 20) (v := .agg #[.int .i64 a4, .int .i64 a5, .int .i64 a6]) rfl (.load_mid (by rfl) 23 (.tmp 19) rfl (w.heap.size) 3 rfl [.int .i64 a4, .int .i64 a5, .int .i64 a6] _ (fun W hg => (R0.out.below hg).hi) Tryd.underlying23 rfl (by kernel_rfl)) ?_
    simp only [Act.put, List.setIfInBounds_toArray, List.set_cons_zero, List.set_cons_succ]
    refine wpG_tk (some 21) (v := .pointer (some ⟨w.heap.size + 1, 0, none⟩)) rfl (.val (by rfl) (fun W hg => by go_simp)) ?_
    simp only [Act.put, List.setIfInBounds_toArray, List.set_cons_zero, List.set_cons_succ]
    refine wpG_tk (some 22) (v := .agg #[.int .i64 b1, .int .i64 b2, .int .i64 b3]) rfl (.load_mid (by rfl) 23 (.tmp 21) rfl (w.heap.size + 1) 0 rfl [.int .i64 b1, .int .i64 b2, .int .i64 b3] _ (fun W hg => (R1.out.below hg).lo) Tryd.underlying23 rfl (by kernel_rfl)) ?_
    simp only [Act.put, List.setIfInBounds_toArray, List.set_cons_zero, List.set_cons_succ]
    refine wpG_tk (some 23) (v := .pointer (some ⟨w.heap.size + 1, 3, none⟩)) rfl (.val (by rfl) (fun W hg => by go_simp)) ?_
    simp only [Act.put, List.setIfInBounds_toArray, List.set_cons_zero, List.set_cons_succ]
    refine wpG_tk (some 24) (v := .agg #[.int .i64 b4, .int .i64 b5, .int .i64 b6]) rfl (.load_mid (by rfl) 23 (.tmp 23) rfl (w.heap.size + 1) 3 rfl [.int .i64 b4, .int .i64 b5, .int .i64 b6] _ (fun W hg => (R1.out.below hg).hi) Tryd.underlying23 rfl (by kernel_rfl)) ?_
    simp only [Act.put, List.setIfInBounds_toArray, List.set_cons_zero, List.set_cons_succ]
    refine wpG_tk (some 25) (v := .agg #[.int .i64 x1, .int .i64 x2, .int .i64 x3]) rfl (.load_mid (by rfl) 23 (.tmp 7) rfl (w.heap.size + 1 + 1) 0 rfl [.int .i64 x1, .int .i64 x2, .int .i64 x3] _ (fun W hg => (R2.out.below hg).range) Tryd.underlying23 rfl (by kernel_rfl)) ?_
    simp only [Act.put, List.setIfInBounds_toArray, List.set_cons_zero, List.set_cons_succ]
    refine wpG_val (some 26) rfl (by rfl) (fun W1 hg2 => ⟨.slice (some ⟨W1.heap.size, 0, none⟩) 5 5, W1.alloc (.cells #[.int .i64 a1, .int .i64 a2, .int .i64 a3, .int .i64 a4, .int .i64 a5, .int .i64 a6, .int .i64 b1, .int .i64 b2, .int .i64 b3, .int .i64 b4, .int .i64 b5, .int .i64 b6, .int .i64 x1, .int .i64 x2, .int .i64 x3] 23), by (go_simp <;> rfl), ?_⟩)
    simp only [Act.put, List.setIfInBounds_toArray, List.set_cons_zero, List.set_cons_succ]
    obtain ⟨U3, hu, rn, gn⟩ : ∃ z, z = W1.alloc (.cells #[.int .i64 a1, .int .i64 a2, .int .i64 a3, .int .i64 a4, .int .i64 a5, .int .i64 a6, .int .i64 b1, .int .i64 b2, .int .i64 b3, .int .i64 b4, .int .i64 b5, .int .i64 b6, .int .i64 x1, .int .i64 x2, .int .i64 x3] 23) ∧ Row W1.heap.size [.int .i64 a1, .int .i64 a2, .int .i64 a3, .int .i64 a4, .int .i64 a5, .int .i64 a6, .int .i64 b1, .int .i64 b2, .int .i64 b3, .int .i64 b4, .int .i64 b5, .int .i64 b6, .int .i64 x1, .int .i64 x2, .int .i64 x3] z ∧ Gr W1 z := ⟨_, rfl, Row.newl W1 [.int .i64 a1, .int .i64 a2, .int .i64 a3, .int .i64 a4, .int .i64 a5, .int .i64 a6, .int .i64 b1, .int .i64 b2, .int .i64 b3, .int .i64 b4, .int .i64 b5, .int .i64 b6, .int .i64 x1, .int .i64 x2, .int .i64 x3] 23, Gr.al _ _⟩
    rw [← hu]
    have RN4 := Lib.hid rn
    have GB5 := Lib.hid (Gr.trans hg2 gn)
    clear hu rn gn hg2
    refine wpG_tk (some 27) (v := .bool true) rfl (.call (f := 11) (args := #[.slice (some ⟨W1.heap.size, 0, none⟩) 5 5]) (by rfl) (fun W => by go_simp) (fun W hg => small_is [(a1, a2, a3), (a4, a5, a6), (b1, b2, b3), (b4, b5, b6), (x1, x2, x3)] W1.heap.size 5 true W rfl (by decide) (RN4.out.below hg) (List.forall_mem_cons.2 ⟨i1, (List.forall_mem_cons.2 ⟨i2, (List.forall_mem_cons.2 ⟨i3, (List.forall_mem_cons.2 ⟨i4, (List.forall_mem_cons.2 ⟨i5, (fun _ h => absurd h List.not_mem_nil)⟩)⟩)⟩)⟩)⟩) HS.out)) ?_
    simp only [Act.put, List.setIfInBounds_toArray, List.set_cons_zero, List.set_cons_succ]
    refine wpG_tk (some 28) (v := .bool false) rfl (.val (by rfl) (fun W hg => by go_simp)) ?_
    simp only [Act.put, List.setIfInBounds_toArray, List.set_cons_zero, List.set_cons_succ]
    refine wpG_tk (some 29) (v := .bool false) rfl (.val (by rfl) (fun _ _ => rfl)) ?_
    simp only [Act.put, List.setIfInBounds_toArray, List.set_cons_zero, List.set_cons_succ]
    refine wpG_tk (some 30) (v := .int .i64 n) rfl (.val (by rfl) (fun _ _ => rfl)) ?_
    simp only [Act.put, List.setIfInBounds_toArray, List.set_cons_zero, List.set_cons_succ]
    refine wpG_tk (some 31) (v := .bool true) rfl (.val (by rfl) (fun W hg => by have hq : (n < (-1048575)) := (by omega); first | (go_simp; done) | (go_simp <;> omega))) ?_
    simp only [Act.put, List.setIfInBounds_toArray, List.set_cons_zero, List.set_cons_succ]
    refine wpG_tk (some 32) (v := .bool true) rfl (.val (by rfl) (fun W hg => by go_simp)) ?_
    simp only [Act.put, List.setIfInBounds_toArray, List.set_cons_zero, List.set_cons_succ]
    refine wpG_tk (some 33) (v := .bool true) rfl (.val (by rfl) (fun _ _ => rfl)) ?_
    simp only [Act.put, List.setIfInBounds_toArray, List.set_cons_zero, List.set_cons_succ]
    refine wpG_tk (some 34) (v := undef) rfl (.no (by rfl)) ?_
    simp only [Act.put, List.setIfInBounds_toArray, List.set_cons_zero, List.set_cons_succ]
    refine wpG_tk (some 35) (v := undef) rfl (.no (by rfl)) ?_
    simp only [Act.put, List.setIfInBounds_toArray, List.set_cons_zero, List.set_cons_succ]
    refine wpG_tk (some 36) (v := .bool true) rfl (.val (by rfl) (fun W hg => by go_simp)) ?_
    simp only [Act.put, List.setIfInBounds_toArray, List.set_cons_zero, List.set_cons_succ]
    refine wpG_done (fun V6 hv7 => ?_)
    have GC8 := Lib.hid (GB5.out.trans hv7)
    clear hv7
    go_upto_region 2 with fail
    refine wpG_region ?_
    refine wpG_tk (some 37) (v := .bool true) rfl (.call (f := 12) (args := #[]) (by rfl) (fun W => by go_simp) (fun W hg => sanity_any W (HT.out.below (GC8.out.trans hg)))) ?_
    simp only [Act.put, List.setIfInBounds_toArray, List.set_cons_zero, List.set_cons_succ]
    refine wpG_tk (some 10) (v := .bool true) rfl (.val (by rfl) (fun _ _ => rfl)) ?_
    simp only [Act.put, List.setIfInBounds_toArray, List.set_cons_zero, List.set_cons_succ]
    refine wpG_done (fun V9 hv10 => ?_)
    have GC11 := Lib.hid (GC8.out.trans hv10)
    clear hv10
    go_wp2_with fail
    go_ret
    exact ⟨rfl, Gr.to G0.out GC11.out⟩
  · have HS := Lib.hid hs
    clear hs
    obtain ⟨u, hu, r0, r1, r2, g0⟩ := rows3 w [.int .i64 a1, .int .i64 a2, .int .i64 a3, .int .i64 a4, .int .i64 a5, .int .i64 a6] 31 [.int .i64 b1, .int .i64 b2, .int .i64 b3, .int .i64 b4, .int .i64 b5, .int .i64 b6] 31 [.int .i64 x1, .int .i64 x2, .int .i64 x3] 23
    have R0 := Lib.hid r0
    have R1 := Lib.hid r1
    have R2 := Lib.hid r2
    have G0 := Lib.hid g0
    have HU := Lib.hid hu
    have HT := Lib.hid (hT.below g0)
    clear hT
    clear hu g0 r0 r1 r2
    go_enter Tryd.func4, Tryd.ntmps4
    go_upto_region 1 with fail
    rw [← HU.out]
    refine wpG_region ?_
    refine wpG_tk (some 17) (v := .pointer (some ⟨w.heap.size, 0, none⟩)) rfl (.val (by rfl) (fun W hg => by go_simp)) ?_
    simp only [Act.put, List.setIfInBounds_toArray, List.set_cons_zero, List.set_cons_succ]
    refine wpG_tk (some 18) (v := .agg #[.int .i64 a1, .int .i64 a2, .int .i64 a3]) rfl (.load_mid (by rfl) 23 (.tmp 17) rfl (w.heap.size) 0 rfl [.int .i64 a1, .int .i64 a2, .int .i64 a3] _ (fun W hg => (R0.out.below hg).lo) Tryd.underlying23 rfl (by kernel_rfl)) ?_
    simp only [Act.put, List.setIfInBounds_toArray, List.set_cons_zero, List.set_cons_succ]
    refine wpG_tk (some 19) (v := .pointer (some ⟨w.heap.size, 3, none⟩)) rfl (.val (by rfl) (fun W hg => by go_simp)) ?_
    simp only [Act.put, List.setIfInBounds_toArray, List.set_cons_zero, List.set_cons_succ]
    refine wpG_tk (some 20) (v := .agg #[.int .i64 a4, .int .i64 a5, .int .i64 a6]) rfl (.load_mid (by rfl) 23 (.tmp 19) rfl (w.heap.size) 3 rfl [.int .i64 a4, .int .i64 a5, .int .i64 a6] _ (fun W hg => (R0.out.below hg).hi) Tryd.underlying23 rfl (by kernel_rfl)) ?_
    simp only [Act.put, List.setIfInBounds_toArray, List.set_cons_zero, List.set_cons_succ]
    refine wpG_tk (some 21) (v := .pointer (some ⟨w.heap.size + 1, 0, none⟩)) rfl (.val (by rfl) (fun W hg => by go_simp)) ?_
    simp only [Act.put, List.setIfInBounds_toArray, List.set_cons_zero, List.set_cons_succ]
    refine wpG_tk (some 22) (v := .agg #[.int .i64 b1, .int .i64 b2, .int .i64 b3]) rfl (.load_mid (by rfl) 23 (.tmp 21) rfl (w.heap.size + 1) 0 rfl [.int .i64 b1, .int .i64 b2, .int .i64 b3] _ (fun W hg => (R1.out.below hg).lo) Tryd.underlying23 rfl (by kernel_rfl)) ?_
    simp only [Act.put, List.setIfInBounds_toArray, List.set_cons_zero, List.set_cons_succ]
    refine wpG_tk (some 23) (v := .pointer (some ⟨w.heap.size + 1, 3, none⟩)) rfl (.val (by rfl) (fun W hg => by go_simp)) ?_
    simp only [Act.put, List.setIfInBounds_toArray, List.set_cons_zero, List.set_cons_succ]
    refine wpG_tk (some 24) (v := .agg #[.int .i64 b4, .int .i64 b5, .int .i64 b6]) rfl (.load_mid (by rfl) 23 (.tmp 23) rfl (w.heap.size + 1) 3 rfl [.int .i64 b4, .int .i64 b5, .int .i64 b6] _ (fun W hg => (R1.out.below hg).hi) Tryd.underlying23 rfl (by kernel_rfl)) ?_
    simp only [Act.put, List.setIfInBounds_toArray, List.set_cons_zero, List.set_cons_succ]
    refine wpG_tk (some 25) (v := .agg #[.int .i64 x1, .int .i64 x2, .int .i64 x3]) rfl (.load_mid (by rfl) 23 (.tmp 7) rfl (w.heap.size + 1 + 1) 0 rfl [.int .i64 x1, .int .i64 x2, .int .i64 x3] _ (fun W hg => (R2.out.below hg).range) Tryd.underlying23 rfl (by kernel_rfl)) ?_
    simp only [Act.put, List.setIfInBounds_toArray, List.set_cons_zero, List.set_cons_succ]
    refine wpG_val (some 26) rfl (by rfl) (fun W1 hg2 => ⟨.slice (some ⟨W1.heap.size, 0, none⟩) 5 5, W1.alloc (.cells #[.int .i64 a1, .int .i64 a2, .int .i64 a3, .int .i64 a4, .int .i64 a5, .int .i64 a6, .int .i64 b1, .int .i64 b2, .int .i64 b3, .int .i64 b4, .int .i64 b5, .int .i64 b6, .int .i64 x1, .int .i64 x2, .int .i64 x3] 23), by (go_simp <;> rfl), ?_⟩)
    simp only [Act.put, List.setIfInBounds_toArray, List.set_cons_zero, List.set_cons_succ]
    obtain ⟨U3, hu, rn, gn⟩ : ∃ z, z = W1.alloc (.cells #[.int .i64 a1, .int .i64 a2, .int .i64 a3, .int .i64 a4, .int .i64 a5, .int .i64 a6, .int .i64 b1, .int .i64 b2, .int .i64 b3, .int .i64 b4, .int .i64 b5, .int .i64 b6, .int .i64 x1, .int .i64 x2, .int .i64 x3] 23) ∧ Row W1.heap.size [.int .i64 a1, .int .i64 a2, .int .i64 a3, .int .i64 a4, .int .i64 a5, .int .i64 a6, .int .i64 b1, .int .i64 b2, .int .i64 b3, .int .i64 b4, .int .i64 b5, .int .i64 b6, .int .i64 x1, .int .i64 x2, .int .i64 x3] z ∧ Gr W1 z := ⟨_, rfl, Row.newl W1 [.int .i64 a1, .int .i64 a2, .int .i64 a3, .int .i64 a4, .int .i64 a5, .int .i64 a6, .int .i64 b1, .int .i64 b2, .int .i64 b3, .int .i64 b4, .int .i64 b5, .int .i64 b6, .int .i64 x1, .int .i64 x2, .int .i64 x3] 23, Gr.al _ _⟩
    rw [← hu]
    have RN4 := Lib.hid rn
    have GB5 := Lib.hid (Gr.trans hg2 gn)
    clear hu rn gn hg2
    refine wpG_tk (some 27) (v := .bool true) rfl (.call (f := 11) (args := #[.slice (some ⟨W1.heap.size, 0, none⟩) 5 5]) (by rfl) (fun W => by go_simp) (fun W hg => small_is [(a1, a2, a3), (a4, a5, a6), (b1, b2, b3), (b4, b5, b6), (x1, x2, x3)] W1.heap.size 5 true W rfl (by decide) (RN4.out.below hg) (List.forall_mem_cons.2 ⟨i1, (List.forall_mem_cons.2 ⟨i2, (List.forall_mem_cons.2 ⟨i3, (List.forall_mem_cons.2 ⟨i4, (List.forall_mem_cons.2 ⟨i5, (fun _ h => absurd h List.not_mem_nil)⟩)⟩)⟩)⟩)⟩) HS.out)) ?_
    simp only [Act.put, List.setIfInBounds_toArray, List.set_cons_zero, List.set_cons_succ]
    refine wpG_tk (some 28) (v := .bool false) rfl (.val (by rfl) (fun W hg => by go_simp)) ?_
    simp only [Act.put, List.setIfInBounds_toArray, List.set_cons_zero, List.set_cons_succ]
    refine wpG_tk (some 29) (v := .bool false) rfl (.val (by rfl) (fun _ _ => rfl)) ?_
    simp only [Act.put, List.setIfInBounds_toArray, List.set_cons_zero, List.set_cons_succ]
    refine wpG_tk (some 30) (v := .int .i64 n) rfl (.val (by rfl) (fun _ _ => rfl)) ?_
    simp only [Act.put, List.setIfInBounds_toArray, List.set_cons_zero, List.set_cons_succ]
    refine wpG_tk (some 31) (v := .bool false) rfl (.val (by rfl) (fun W hg => by have hq : ¬ (n < (-1048575)) := (by omega); first | (go_simp; done) | (go_simp <;> omega))) ?_
    simp only [Act.put, List.setIfInBounds_toArray, List.set_cons_zero, List.set_cons_succ]
    refine wpG_tk (some 32) (v := .bool false) rfl (.val (by rfl) (fun W hg => by go_simp)) ?_
    simp only [Act.put, List.setIfInBounds_toArray, List.set_cons_zero, List.set_cons_succ]
    refine wpG_tk (some 33) (v := .bool false) rfl (.val (by rfl) (fun _ _ => rfl)) ?_
    simp only [Act.put, List.setIfInBounds_toArray, List.set_cons_zero, List.set_cons_succ]
    refine wpG_tk (some 34) (v := .int .i64 n) rfl (.val (by rfl) (fun _ _ => rfl)) ?_
    simp only [Act.put, List.setIfInBounds_toArray, List.set_cons_zero, List.set_cons_succ]
    refine wpG_tk (some 35) (v := .bool true) rfl (.val (by rfl) (fun W hg => by have hq : (n > 1048575) := (by omega); first | (go_simp; done) | (go_simp <;> omega))) ?_
    simp only [Act.put, List.setIfInBounds_toArray, List.set_cons_zero, List.set_cons_succ]
    refine wpG_tk (some 36) (v := .bool true) rfl (.val (by rfl) (fun W hg => by go_simp)) ?_
    simp only [Act.put, List.setIfInBounds_toArray, List.set_cons_zero, List.set_cons_succ]
    refine wpG_done (fun V6 hv7 => ?_)
    have GC8 := Lib.hid (GB5.out.trans hv7)
    clear hv7
    go_upto_region 2 with fail
    refine wpG_region ?_
    refine wpG_tk (some 37) (v := .bool true) rfl (.call (f := 12) (args := #[]) (by rfl) (fun W => by go_simp) (fun W hg => sanity_any W (HT.out.below (GC8.out.trans hg)))) ?_
    simp only [Act.put, List.setIfInBounds_toArray, List.set_cons_zero, List.set_cons_succ]
    refine wpG_tk (some 10) (v := .bool true) rfl (.val (by rfl) (fun _ _ => rfl)) ?_
    simp only [Act.put, List.setIfInBounds_toArray, List.set_cons_zero, List.set_cons_succ]
    refine wpG_done (fun V9 hv10 => ?_)
    have GC11 := Lib.hid (GC8.out.trans hv10)
    clear hv10
    go_wp2_with fail
    go_ret
    exact ⟨rfl, Gr.to G0.out GC11.out⟩
  · have hb := hs
    simp only [List.all_cons, List.all_nil, Bool.and_true, Bool.and_eq_true, inR_true] at hb
    have HS := Lib.hid hs
    clear hs
    obtain ⟨u, hu, r0, r1, r2, g0⟩ := rows3 w [.int .i64 a1, .int .i64 a2, .int .i64 a3, .int .i64 a4, .int .i64 a5, .int .i64 a6] 31 [.int .i64 b1, .int .i64 b2, .int .i64 b3, .int .i64 b4, .int .i64 b5, .int .i64 b6] 31 [.int .i64 x1, .int .i64 x2, .int .i64 x3] 23
    have R0 := Lib.hid r0
    have R1 := Lib.hid r1
    have R2 := Lib.hid r2
    have G0 := Lib.hid g0
    have HU := Lib.hid hu
    have HT := Lib.hid (hT.below g0)
    clear hT
    clear hu g0 r0 r1 r2
    go_enter Tryd.func4, Tryd.ntmps4
    go_upto_region 1 with fail
    rw [← HU.out]
    refine wpG_region ?_
    refine wpG_tk (some 17) (v := .pointer (some ⟨w.heap.size, 0, none⟩)) rfl (.val (by rfl) (fun W hg => by go_simp)) ?_
    simp only [Act.put, List.setIfInBounds_toArray, List.set_cons_zero, List.set_cons_succ]
    refine wpG_tk (some 18) (v := .agg #[.int .i64 a1, .int .i64 a2, .int .i64 a3]) rfl (.load_mid (by rfl) 23 (.tmp 17) rfl (w.heap.size) 0 rfl [.int .i64 a1, .int .i64 a2, .int .i64 a3] _ (fun W hg => (R0.out.below hg).lo) Tryd.underlying23 rfl (by kernel_rfl)) ?_
    simp only [Act.put, List.setIfInBounds_toArray, List.set_cons_zero, List.set_cons_succ]
    refine wpG_tk (some 19) (v := .pointer (some ⟨w.heap.size, 3, none⟩)) rfl (.val (by rfl) (fun W hg => by go_simp)) ?_
    simp only [Act.put, List.setIfInBounds_toArray, List.set_cons_zero, List.set_cons_succ]
    refine wpG_tk (some 20) (v := .agg #[.int .i64 a4, .int .i64 a5, .int .i64 a6]) rfl (.load_mid (by rfl) 23 (.tmp 19) rfl (w.heap.size) 3 rfl [.int .i64 a4, .int .i64 a5, .int .i64 a6] _ (fun W hg => (R0.out.below hg).hi) Tryd.underlying23 rfl (by kernel_rfl)) ?_
    simp only [Act.put, List.setIfInBounds_toArray, List.set_cons_zero, List.set_cons_succ]
    refine wpG_tk (some 21) (v := .pointer (some ⟨w.heap.size + 1, 0, none⟩)) rfl (.val (by rfl) (fun W hg => by go_simp)) ?_
    simp only [Act.put, List.setIfInBounds_toArray, List.set_cons_zero, List.set_cons_succ]
    refine wpG_tk (some 22) (v := .agg #[.int .i64 b1, .int .i64 b2, .int .i64 b3]) rfl (.load_mid (by rfl) 23 (.tmp 21) rfl (w.heap.size + 1) 0 rfl [.int .i64 b1, .int .i64 b2, .int .i64 b3] _ (fun W hg => (R1.out.below hg).lo) Tryd.underlying23 rfl (by kernel_rfl)) ?_
    simp only [Act.put, List.setIfInBounds_toArray, List.set_cons_zero, List.set_cons_succ]
    refine wpG_tk (some 23) (v := .pointer (some ⟨w.heap.size + 1, 3, none⟩)) rfl (.val (by rfl) (fun W hg => by go_simp)) ?_
    simp only [Act.put, List.setIfInBounds_toArray, List.set_cons_zero, List.set_cons_succ]
    refine wpG_tk (some 24) (v := .agg #[.int .i64 b4, .int .i64 b5, .int .i64 b6]) rfl (.load_mid (by rfl) 23 (.tmp 23) rfl (w.heap.size + 1) 3 rfl [.int .i64 b4, .int .i64 b5, .int .i64 b6] _ (fun W hg => (R1.out.below hg).hi) Tryd.underlying23 rfl (by kernel_rfl)) ?_
    simp only [Act.put, List.setIfInBounds_toArray, List.set_cons_zero, List.set_cons_succ]
    refine wpG_tk (some 25) (v := .agg #[.int .i64 x1, .int .i64 x2, .int .i64 x3]) rfl (.load_mid (by rfl) 23 (.tmp 7) rfl (w.heap.size + 1 + 1) 0 rfl [.int .i64 x1, .int .i64 x2, .int .i64 x3] _ (fun W hg => (R2.out.below hg).range) Tryd.underlying23 rfl (by kernel_rfl)) ?_
    simp only [Act.put, List.setIfInBounds_toArray, List.set_cons_zero, List.set_cons_succ]
    refine wpG_val (some 26) rfl (by rfl) (fun W1 hg2 => ⟨.slice (some ⟨W1.heap.size, 0, none⟩) 5 5, W1.alloc (.cells #[.int .i64 a1, .int .i64 a2, .int .i64 a3, .int .i64 a4, .int .i64 a5, .int .i64 a6, .int .i64 b1, .int .i64 b2, .int .i64 b3, .int .i64 b4, .int .i64 b5, .int .i64 b6, .int .i64 x1, .int .i64 x2, .int .i64 x3] 23), by (go_simp <;> rfl), ?_⟩)
    simp only [Act.put, List.setIfInBounds_toArray, List.set_cons_zero, List.set_cons_succ]
    obtain ⟨U3, hu, rn, gn⟩ : ∃ z, z = W1.alloc (.cells #[.int .i64 a1, .int .i64 a2, .int .i64 a3, .int .i64 a4, .int .i64 a5, .int .i64 a6, .int .i64 b1, .int .i64 b2, .int .i64 b3, .int .i64 b4, .int .i64 b5, .int .i64 b6, .int .i64 x1, .int .i64 x2, .int .i64 x3] 23) ∧ Row W1.heap.size [.int .i64 a1, .int .i64 a2, .int .i64 a3, .int .i64 a4, .int .i64 a5, .int .i64 a6, .int .i64 b1, .int .i64 b2, .int .i64 b3, .int .i64 b4, .int .i64 b5, .int .i64 b6, .int .i64 x1, .int .i64 x2, .int .i64 x3] z ∧ Gr W1 z := ⟨_, rfl, Row.newl W1 [.int .i64 a1, .int .i64 a2, .int .i64 a3, .int .i64 a4, .int .i64 a5, .int .i64 a6, .int .i64 b1, .int .i64 b2, .int .i64 b3, .int .i64 b4, .int .i64 b5, .int .i64 b6, .int .i64 x1, .int .i64 x2, .int .i64 x3] 23, Gr.al _ _⟩
    rw [← hu]
    have RN4 := Lib.hid rn
    have GB5 := Lib.hid (Gr.trans hg2 gn)
    clear hu rn gn hg2
    refine wpG_tk (some 27) (v := .bool true) rfl (.call (f := 11) (args := #[.slice (some ⟨W1.heap.size, 0, none⟩) 5 5]) (by rfl) (fun W => by go_simp) (fun W hg => small_is [(a1, a2, a3), (a4, a5, a6), (b1, b2, b3), (b4, b5, b6), (x1, x2, x3)] W1.heap.size 5 true W rfl (by decide) (RN4.out.below hg) (List.forall_mem_cons.2 ⟨i1, (List.forall_mem_cons.2 ⟨i2, (List.forall_mem_cons.2 ⟨i3, (List.forall_mem_cons.2 ⟨i4, (List.forall_mem_cons.2 ⟨i5, (fun _ h => absurd h List.not_mem_nil)⟩)⟩)⟩)⟩)⟩) HS.out)) ?_
    simp only [Act.put, List.setIfInBounds_toArray, List.set_cons_zero, List.set_cons_succ]
    refine wpG_tk (some 28) (v := .bool false) rfl (.val (by rfl) (fun W hg => by go_simp)) ?_
    simp only [Act.put, List.setIfInBounds_toArray, List.set_cons_zero, List.set_cons_succ]
    refine wpG_tk (some 29) (v := .bool false) rfl (.val (by rfl) (fun _ _ => rfl)) ?_
    simp only [Act.put, List.setIfInBounds_toArray, List.set_cons_zero, List.set_cons_succ]
    refine wpG_tk (some 30) (v := .int .i64 n) rfl (.val (by rfl) (fun _ _ => rfl)) ?_
    simp only [Act.put, List.setIfInBounds_toArray, List.set_cons_zero, List.set_cons_succ]
    refine wpG_tk (some 31) (v := .bool false) rfl (.val (by rfl) (fun W hg => by have hq : ¬ (n < (-1048575)) := (by omega); first | (go_simp; done) | (go_simp <;> omega))) ?_
    simp only [Act.put, List.setIfInBounds_toArray, List.set_cons_zero, List.set_cons_succ]
    refine wpG_tk (some 32) (v := .bool false) rfl (.val (by rfl) (fun W hg => by go_simp)) ?_
    simp only [Act.put, List.setIfInBounds_toArray, List.set_cons_zero, List.set_cons_succ]
    refine wpG_tk (some 33) (v := .bool false) rfl (.val (by rfl) (fun _ _ => rfl)) ?_
    simp only [Act.put, List.setIfInBounds_toArray, List.set_cons_zero, List.set_cons_succ]
    refine wpG_tk (some 34) (v := .int .i64 n) rfl (.val (by rfl) (fun _ _ => rfl)) ?_
    simp only [Act.put, List.setIfInBounds_toArray, List.set_cons_zero, List.set_cons_succ]
    refine wpG_tk (some 35) (v := .bool false) rfl (.val (by rfl) (fun W hg => by have hq : ¬ (n > 1048575) := (by omega); first | (go_simp; done) | (go_simp <;> omega))) ?_
    simp only [Act.put, List.setIfInBounds_toArray, List.set_cons_zero, List.set_cons_succ]
    refine wpG_tk (some 36) (v := .bool false) rfl (.val (by rfl) (fun W hg => by go_simp)) ?_
    simp only [Act.put, List.setIfInBounds_toArray, List.set_cons_zero, List.set_cons_succ]
    refine wpG_done (fun V6 hv7 => ?_)
    have GC8 := Lib.hid (GB5.out.trans hv7)
    clear hv7
    go_upto_region 3 with fail
    refine wpG_region ?_
    refine wpG_tk (some 39) (v := .agg #[.int .i64 a1, .int .i64 a2, .int .i64 a3, .int .i64 a4, .int .i64 a5, .int .i64 a6]) rfl (.load_mid (by rfl) 31 (.tmp 5) rfl (w.heap.size) 0 rfl [.int .i64 a1, .int .i64 a2, .int .i64 a3, .int .i64 a4, .int .i64 a5, .int .i64 a6] _ (fun W hg => (R0.out.below (GC8.out.trans hg)).range) Tryd.underlying31 rfl (by kernel_rfl)) ?_
    simp only [Act.put, List.setIfInBounds_toArray, List.set_cons_zero, List.set_cons_succ]
    refine wpG_tk (some 40) (v := .int .i64 i) rfl (.val (by rfl) (fun _ _ => rfl)) ?_
    simp only [Act.put, List.setIfInBounds_toArray, List.set_cons_zero, List.set_cons_succ]
    refine wpG_tk (some 41) (v := .tuple #[.agg #[.int .i64 (qv (okAt a1 a2 a3 a4 a5 a6 i) (a1 + i % (a4 - a1))), .int .i64 (qv (okAt a1 a2 a3 a4 a5 a6 i) (a2 + i / (a4 - a1) % (a5 - a2))), .int .i64 (qv (okAt a1 a2 a3 a4 a5 a6 i) (a3 + i / (a4 - a1) / (a5 - a2)))], .bool (okAt a1 a2 a3 a4 a5 a6 i)]) rfl (.call (f := 21) (args := #[.agg #[.int .i64 a1, .int .i64 a2, .int .i64 a3, .int .i64 a4, .int .i64 a5, .int .i64 a6], .int .i64 i]) (by rfl) (fun W => by go_simp) (fun W hg => at_s a1 a2 a3 a4 a5 a6 i W (by omega))) ?_
    simp only [Act.put, List.setIfInBounds_toArray, List.set_cons_zero, List.set_cons_succ]
    refine wpG_tk (some 38) (v := .tuple #[.agg #[.int .i64 (qv (okAt a1 a2 a3 a4 a5 a6 i) (a1 + i % (a4 - a1))), .int .i64 (qv (okAt a1 a2 a3 a4 a5 a6 i) (a2 + i / (a4 - a1) % (a5 - a2))), .int .i64 (qv (okAt a1 a2 a3 a4 a5 a6 i) (a3 + i / (a4 - a1) / (a5 - a2)))], .bool (okAt a1 a2 a3 a4 a5 a6 i)]) rfl (.val (by rfl) (fun _ _ => rfl)) ?_
    simp only [Act.put, List.setIfInBounds_toArray, List.set_cons_zero, List.set_cons_succ]
    refine wpG_tk (some 42) (v := .agg #[.int .i64 (qv (okAt a1 a2 a3 a4 a5 a6 i) (a1 + i % (a4 - a1))), .int .i64 (qv (okAt a1 a2 a3 a4 a5 a6 i) (a2 + i / (a4 - a1) % (a5 - a2))), .int .i64 (qv (okAt a1 a2 a3 a4 a5 a6 i) (a3 + i / (a4 - a1) / (a5 - a2)))]) rfl (.val (by rfl) (fun W hg => by go_simp)) ?_
    simp only [Act.put, List.setIfInBounds_toArray, List.set_cons_zero, List.set_cons_succ]
    refine wpG_tk (some 43) (v := .bool (okAt a1 a2 a3 a4 a5 a6 i)) rfl (.val (by rfl) (fun W hg => by go_simp)) ?_
    simp only [Act.put, List.setIfInBounds_toArray, List.set_cons_zero, List.set_cons_succ]
    refine wpG_val (some 11) rfl (by rfl) (fun W9 hg10 => ⟨.pointer (some ⟨W9.heap.size, 0, none⟩), W9.alloc (.cells #[.int .i64 0, .int .i64 0, .int .i64 0] 23), by (go_simp <;> rfl), ?_⟩)
    simp only [Act.put, List.setIfInBounds_toArray, List.set_cons_zero, List.set_cons_succ]
    refine wpG_store (none) rfl (by rfl) (fun W11 hg12 => ⟨_, run_store_mid 23 (.tmp 11) (.tmp 42) rfl (W9.heap.size) 0 #[.int .i64 (qv (okAt a1 a2 a3 a4 a5 a6 i) (a1 + i % (a4 - a1))), .int .i64 (qv (okAt a1 a2 a3 a4 a5 a6 i) (a2 + i / (a4 - a1) % (a5 - a2))), .int .i64 (qv (okAt a1 a2 a3 a4 a5 a6 i) (a3 + i / (a4 - a1) / (a5 - a2)))] rfl rfl (Row.room hg12 3 rfl) (by kernel_rfl) (by kernel_rfl), ?_⟩)
    simp only [Act.put]
    refine wpG_tk (some 12) (v := .bool (okAt a1 a2 a3 a4 a5 a6 i)) rfl (.val (by rfl) (fun _ _ => rfl)) ?_
    simp only [Act.put, List.setIfInBounds_toArray, List.set_cons_zero, List.set_cons_succ]
    refine wpG_done (fun V13 hv14 => ?_)
    have l16 : w.heap.size < W9.heap.size := (R0.out.below (GC8.out.trans hg10)).lt
    have l17 : w.heap.size + 1 < W9.heap.size := (R1.out.below (GC8.out.trans hg10)).lt
    have l18 : w.heap.size + 1 + 1 < W9.heap.size := (R2.out.below (GC8.out.trans hg10)).lt
    have l19 : w.heap.size ≤ W9.heap.size := (Gr.to G0.out (GC8.out.trans hg10)).size
    have R20 := Lib.hid ((R0.out.below (GC8.out.trans hg10)).past hg12 hv14)
    have R21 := Lib.hid ((R1.out.below (GC8.out.trans hg10)).past hg12 hv14)
    have R22 := Lib.hid ((R2.out.below (GC8.out.trans hg10)).past hg12 hv14)
    have R23 := Lib.hid (Row.made (zs := [.int .i64 0, .int .i64 0, .int .i64 0]) (ds := [.int .i64 (qv (okAt a1 a2 a3 a4 a5 a6 i) (a1 + i % (a4 - a1))), .int .i64 (qv (okAt a1 a2 a3 a4 a5 a6 i) (a2 + i / (a4 - a1) % (a5 - a2))), .int .i64 (qv (okAt a1 a2 a3 a4 a5 a6 i) (a3 + i / (a4 - a1) / (a5 - a2)))]) rfl hg12 hv14)
    have G15 := Lib.hid (Gr.to (Gr.to G0.out (GC8.out.trans hg10)) (Gr.past hg12 hv14))
    have HT := Lib.hid (HT.out.below ((GC8.out.trans hg10).trans (Gr.past hg12 hv14)))
    clear hg12 hv14 
    go_upto_region 4 with fail
    refine wpG_region ?_
    refine wpG_tk (some 45) (v := .agg #[.int .i64 a1, .int .i64 a2, .int .i64 a3, .int .i64 a4, .int .i64 a5, .int .i64 a6]) rfl (.load_mid (by rfl) 31 (.tmp 5) rfl (w.heap.size) 0 rfl [.int .i64 a1, .int .i64 a2, .int .i64 a3, .int .i64 a4, .int .i64 a5, .int .i64 a6] _ (fun W hg => (R20.out.below hg).range) Tryd.underlying31 rfl (by kernel_rfl)) ?_
    simp only [Act.put, List.setIfInBounds_toArray, List.set_cons_zero, List.set_cons_succ]
    refine wpG_tk (some 46) (v := .int .i64 i) rfl (.val (by rfl) (fun _ _ => rfl)) ?_
    simp only [Act.put, List.setIfInBounds_toArray, List.set_cons_zero, List.set_cons_succ]
    refine wpG_tk (some 47) (v := .tuple #[.agg #[.int .i64 (qv (okAt a1 a2 a3 a4 a5 a6 i) (a1 + i % (a4 - a1))), .int .i64 (qv (okAt a1 a2 a3 a4 a5 a6 i) (a2 + i / (a4 - a1) % (a5 - a2))), .int .i64 (qv (okAt a1 a2 a3 a4 a5 a6 i) (a3 + i / (a4 - a1) / (a5 - a2)))], .bool (okAt a1 a2 a3 a4 a5 a6 i)]) rfl (.call (f := 22) (args := #[.agg #[.int .i64 a1, .int .i64 a2, .int .i64 a3, .int .i64 a4, .int .i64 a5, .int .i64 a6], .int .i64 i]) (by rfl) (fun W => by go_simp) (fun W hg => rat_s a1 a2 a3 a4 a5 a6 i W (by omega))) ?_
    simp only [Act.put, List.setIfInBounds_toArray, List.set_cons_zero, List.set_cons_succ]
    refine wpG_tk (some 44) (v := .tuple #[.agg #[.int .i64 (qv (okAt a1 a2 a3 a4 a5 a6 i) (a1 + i % (a4 - a1))), .int .i64 (qv (okAt a1 a2 a3 a4 a5 a6 i) (a2 + i / (a4 - a1) % (a5 - a2))), .int .i64 (qv (okAt a1 a2 a3 a4 a5 a6 i) (a3 + i / (a4 - a1) / (a5 - a2)))], .bool (okAt a1 a2 a3 a4 a5 a6 i)]) rfl (.val (by rfl) (fun _ _ => rfl)) ?_
    simp only [Act.put, List.setIfInBounds_toArray, List.set_cons_zero, List.set_cons_succ]
    refine wpG_tk (some 48) (v := .agg #[.int .i64 (qv (okAt a1 a2 a3 a4 a5 a6 i) (a1 + i % (a4 - a1))), .int .i64 (qv (okAt a1 a2 a3 a4 a5 a6 i) (a2 + i / (a4 - a1) % (a5 - a2))), .int .i64 (qv (okAt a1 a2 a3 a4 a5 a6 i) (a3 + i / (a4 - a1) / (a5 - a2)))]) rfl (.val (by rfl) (fun W hg => by go_simp)) ?_
    simp only [Act.put, List.setIfInBounds_toArray, List.set_cons_zero, List.set_cons_succ]
    refine wpG_tk (some 49) (v := .bool (okAt a1 a2 a3 a4 a5 a6 i)) rfl (.val (by rfl) (fun W hg => by go_simp)) ?_
    simp only [Act.put, List.setIfInBounds_toArray, List.set_cons_zero, List.set_cons_succ]
    refine wpG_val (some 13) rfl (by rfl) (fun W24 hg25 => ⟨.pointer (some ⟨W24.heap.size, 0, none⟩), W24.alloc (.cells #[.int .i64 0, .int .i64 0, .int .i64 0] 23), by (go_simp <;> rfl), ?_⟩)
    simp only [Act.put, List.setIfInBounds_toArray, List.set_cons_zero, List.set_cons_succ]
    refine wpG_store (none) rfl (by rfl) (fun W26 hg27 => ⟨_, run_store_mid 23 (.tmp 13) (.tmp 48) rfl (W24.heap.size) 0 #[.int .i64 (qv (okAt a1 a2 a3 a4 a5 a6 i) (a1 + i % (a4 - a1))), .int .i64 (qv (okAt a1 a2 a3 a4 a5 a6 i) (a2 + i / (a4 - a1) % (a5 - a2))), .int .i64 (qv (okAt a1 a2 a3 a4 a5 a6 i) (a3 + i / (a4 - a1) / (a5 - a2)))] rfl rfl (Row.room hg27 3 rfl) (by kernel_rfl) (by kernel_rfl), ?_⟩)
    simp only [Act.put]
    refine wpG_tk (some 14) (v := .bool (okAt a1 a2 a3 a4 a5 a6 i)) rfl (.val (by rfl) (fun _ _ => rfl)) ?_
    simp only [Act.put, List.setIfInBounds_toArray, List.set_cons_zero, List.set_cons_succ]
    refine wpG_done (fun V28 hv29 => ?_)
    have l31 : w.heap.size < W24.heap.size := (R20.out.below hg25).lt
    have l32 : w.heap.size + 1 < W24.heap.size := (R21.out.below hg25).lt
    have l33 : w.heap.size + 1 + 1 < W24.heap.size := (R22.out.below hg25).lt
    have l34 : W9.heap.size < W24.heap.size := (R23.out.below hg25).lt
    have l35 : w.heap.size ≤ W24.heap.size := (Gr.to G15.out hg25).size
    have R36 := Lib.hid ((R20.out.below hg25).past hg27 hv29)
    have R37 := Lib.hid ((R21.out.below hg25).past hg27 hv29)
    have R38 := Lib.hid ((R22.out.below hg25).past hg27 hv29)
    have R39 := Lib.hid ((R23.out.below hg25).past hg27 hv29)
    have R40 := Lib.hid (Row.made (zs := [.int .i64 0, .int .i64 0, .int .i64 0]) (ds := [.int .i64 (qv (okAt a1 a2 a3 a4 a5 a6 i) (a1 + i % (a4 - a1))), .int .i64 (qv (okAt a1 a2 a3 a4 a5 a6 i) (a2 + i / (a4 - a1) % (a5 - a2))), .int .i64 (qv (okAt a1 a2 a3 a4 a5 a6 i) (a3 + i / (a4 - a1) / (a5 - a2)))]) rfl hg27 hv29)
    have G30 := Lib.hid (Gr.to (Gr.to G15.out hg25) (Gr.past hg27 hv29))
    have HT := Lib.hid (HT.out.below (hg25.trans (Gr.past hg27 hv29)))
    clear hg27 hv29 
    go_upto_region 5 with fail
    refine wpK_region (by kernel_rfl) ?_
    refine wpK_tk (i := 0) (some 50) (v := .agg #[.int .i64 a1, .int .i64 a2, .int .i64 a3, .int .i64 a4, .int .i64 a5, .int .i64 a6]) rfl rfl (by kernel_rfl) (fun _ _ _ h => h) (.load_mid (by rfl) 31 (.tmp 5) rfl (w.heap.size) 0 rfl [.int .i64 a1, .int .i64 a2, .int .i64 a3, .int .i64 a4, .int .i64 a5, .int .i64 a6] _ (fun W hg => (R36.out.below (Gr.un hg)).range) Tryd.underlying31 rfl (by kernel_rfl)) ?_
    simp only [Act.put, List.setIfInBounds_toArray, List.set_cons_zero, List.set_cons_succ]
    refine wpK_tk (i := 1) (some 51) (v := .bool (Pt.emp a1 a2 a3 a4 a5 a6)) rfl rfl (by kernel_rfl) (fun _ _ _ h => h) (.call (f := 23) (args := #[.agg #[.int .i64 a1, .int .i64 a2, .int .i64 a3, .int .i64 a4, .int .i64 a5, .int .i64 a6]]) (by rfl) (fun W => by go_simp) (fun W hg => empty_any a1 a2 a3 a4 a5 a6 (Pt.emp a1 a2 a3 a4 a5 a6) W rfl)) ?_
    simp only [Act.put, List.setIfInBounds_toArray, List.set_cons_zero, List.set_cons_succ]
    refine wpK_tk (i := 2) (some 52) (v := .agg #[.int .i64 a1, .int .i64 a2, .int .i64 a3, .int .i64 a4, .int .i64 a5, .int .i64 a6]) rfl rfl (by kernel_rfl) (fun _ _ _ h => h) (.load_mid (by rfl) 31 (.tmp 5) rfl (w.heap.size) 0 rfl [.int .i64 a1, .int .i64 a2, .int .i64 a3, .int .i64 a4, .int .i64 a5, .int .i64 a6] _ (fun W hg => (R36.out.below (Gr.un hg)).range) Tryd.underlying31 rfl (by kernel_rfl)) ?_
    simp only [Act.put, List.setIfInBounds_toArray, List.set_cons_zero, List.set_cons_succ]
    refine wpK_tk (i := 3) (some 53) (v := .bool (Pt.emp a1 a2 a3 a4 a5 a6)) rfl rfl (by kernel_rfl) (fun _ _ _ h => h) (.call (f := 24) (args := #[.agg #[.int .i64 a1, .int .i64 a2, .int .i64 a3, .int .i64 a4, .int .i64 a5, .int .i64 a6]]) (by rfl) (fun W => by go_simp) (fun W hg => rempty_any a1 a2 a3 a4 a5 a6 (Pt.emp a1 a2 a3 a4 a5 a6) W rfl)) ?_
    simp only [Act.put, List.setIfInBounds_toArray, List.set_cons_zero, List.set_cons_succ]
    refine wpK_ta (i := 4) (some 54) (v := .bool true) rfl rfl (by kernel_rfl) (fun _ _ _ h => h) (Or.inl ⟨by rfl, fun W => by go_simp⟩) ?_
    simp only [Act.put, List.setIfInBounds_toArray, List.set_cons_zero, List.set_cons_succ]
    refine wpK_ta (i := 5) (some 55) (v := .bool true) rfl rfl (by kernel_rfl) (fun _ _ _ h => h) (Or.inl ⟨rfl, fun _ => rfl⟩) ?_
    simp only [Act.put, List.setIfInBounds_toArray, List.set_cons_zero, List.set_cons_succ]
    refine wpK_tk (i := 6) (some 56) (v := .agg #[.int .i64 x1, .int .i64 x2, .int .i64 x3]) rfl rfl (by kernel_rfl) (fun _ _ _ h => h) (.load_mid (by rfl) 23 (.tmp 7) rfl (w.heap.size + 1 + 1) 0 rfl [.int .i64 x1, .int .i64 x2, .int .i64 x3] _ (fun W hg => (R38.out.below (Gr.un hg)).range) Tryd.underlying23 rfl (by kernel_rfl)) ?_
    simp only [Act.put, List.setIfInBounds_toArray, List.set_cons_zero, List.set_cons_succ]
    refine wpK_tk (i := 7) (some 57) (v := .agg #[.int .i64 a1, .int .i64 a2, .int .i64 a3, .int .i64 a4, .int .i64 a5, .int .i64 a6]) rfl rfl (by kernel_rfl) (fun _ _ _ h => h) (.load_mid (by rfl) 31 (.tmp 5) rfl (w.heap.size) 0 rfl [.int .i64 a1, .int .i64 a2, .int .i64 a3, .int .i64 a4, .int .i64 a5, .int .i64 a6] _ (fun W hg => (R36.out.below (Gr.un hg)).range) Tryd.underlying31 rfl (by kernel_rfl)) ?_
    simp only [Act.put, List.setIfInBounds_toArray, List.set_cons_zero, List.set_cons_succ]
    refine wpK_tk (i := 8) (some 58) (v := .bool (Pt.inB x1 x2 x3 a1 a2 a3 a4 a5 a6)) rfl rfl (by kernel_rfl) (fun _ _ _ h => h) (.call (f := 25) (args := #[.agg #[.int .i64 x1, .int .i64 x2, .int .i64 x3], .agg #[.int .i64 a1, .int .i64 a2, .int .i64 a3, .int .i64 a4, .int .i64 a5, .int .i64 a6]]) (by rfl) (fun W => by go_simp) (fun W hg => in_any x1 x2 x3 a1 a2 a3 a4 a5 a6 (Pt.inB x1 x2 x3 a1 a2 a3 a4 a5 a6) W rfl)) ?_
    simp only [Act.put, List.setIfInBounds_toArray, List.set_cons_zero, List.set_cons_succ]
    refine wpK_tk (i := 9) (some 59) (v := .agg #[.int .i64 x1, .int .i64 x2, .int .i64 x3]) rfl rfl (by kernel_rfl) (fun _ _ _ h => h) (.load_mid (by rfl) 23 (.tmp 7) rfl (w.heap.size + 1 + 1) 0 rfl [.int .i64 x1, .int .i64 x2, .int .i64 x3] _ (fun W hg => (R38.out.below (Gr.un hg)).range) Tryd.underlying23 rfl (by kernel_rfl)) ?_
    simp only [Act.put, List.setIfInBounds_toArray, List.set_cons_zero, List.set_cons_succ]
    refine wpK_tk (i := 10) (some 60) (v := .agg #[.int .i64 a1, .int .i64 a2, .int .i64 a3, .int .i64 a4, .int .i64 a5, .int .i64 a6]) rfl rfl (by kernel_rfl) (fun _ _ _ h => h) (.load_mid (by rfl) 31 (.tmp 5) rfl (w.heap.size) 0 rfl [.int .i64 a1, .int .i64 a2, .int .i64 a3, .int .i64 a4, .int .i64 a5, .int .i64 a6] _ (fun W hg => (R36.out.below (Gr.un hg)).range) Tryd.underlying31 rfl (by kernel_rfl)) ?_
    simp only [Act.put, List.setIfInBounds_toArray, List.set_cons_zero, List.set_cons_succ]
    refine wpK_tk (i := 11) (some 61) (v := .bool (Pt.inB x1 x2 x3 a1 a2 a3 a4 a5 a6)) rfl rfl (by kernel_rfl) (fun _ _ _ h => h) (.call (f := 26) (args := #[.agg #[.int .i64 x1, .int .i64 x2, .int .i64 x3], .agg #[.int .i64 a1, .int .i64 a2, .int .i64 a3, .int .i64 a4, .int .i64 a5, .int .i64 a6]]) (by rfl) (fun W => by go_simp) (fun W hg => rin_any x1 x2 x3 a1 a2 a3 a4 a5 a6 (Pt.inB x1 x2 x3 a1 a2 a3 a4 a5 a6) W rfl)) ?_
    simp only [Act.put, List.setIfInBounds_toArray, List.set_cons_zero, List.set_cons_succ]
    refine wpK_ta (i := 12) (some 62) (v := .bool true) rfl rfl (by kernel_rfl) (fun _ _ _ h => h) (Or.inl ⟨by rfl, fun W => by go_simp⟩) ?_
    simp only [Act.put, List.setIfInBounds_toArray, List.set_cons_zero, List.set_cons_succ]
    refine wpK_ta (i := 13) (some 63) (v := .bool true) rfl rfl (by kernel_rfl) (fun _ _ _ h => h) (Or.inl ⟨by rfl, fun W => by go_simp⟩) ?_
    simp only [Act.put, List.setIfInBounds_toArray, List.set_cons_zero, List.set_cons_succ]
    refine wpK_ta (i := 14) (some 64) (v := .bool true) rfl rfl (by kernel_rfl) (fun _ _ _ h => h) (Or.inl ⟨rfl, fun _ => rfl⟩) ?_
    simp only [Act.put, List.setIfInBounds_toArray, List.set_cons_zero, List.set_cons_succ]
    refine wpK_tk (i := 15) (some 65) (v := .agg #[.int .i64 a1, .int .i64 a2, .int .i64 a3, .int .i64 a4, .int .i64 a5, .int .i64 a6]) rfl rfl (by kernel_rfl) (fun _ _ _ h => h) (.load_mid (by rfl) 31 (.tmp 5) rfl (w.heap.size) 0 rfl [.int .i64 a1, .int .i64 a2, .int .i64 a3, .int .i64 a4, .int .i64 a5, .int .i64 a6] _ (fun W hg => (R36.out.below (Gr.un hg)).range) Tryd.underlying31 rfl (by kernel_rfl)) ?_
    simp only [Act.put, List.setIfInBounds_toArray, List.set_cons_zero, List.set_cons_succ]
    refine wpK_tk (i := 16) (some 66) (v := .agg #[.int .i64 (Pt.sz (Pt.emp a1 a2 a3 a4 a5 a6) a1 a4), .int .i64 (Pt.sz (Pt.emp a1 a2 a3 a4 a5 a6) a2 a5), .int .i64 (Pt.sz (Pt.emp a1 a2 a3 a4 a5 a6) a3 a6)]) rfl rfl (by kernel_rfl) (fun _ _ _ h => h) (.call (f := 27) (args := #[.agg #[.int .i64 a1, .int .i64 a2, .int .i64 a3, .int .i64 a4, .int .i64 a5, .int .i64 a6]]) (by rfl) (fun W => by go_simp) (fun W hg => size_s a1 a2 a3 a4 a5 a6 W (by omega))) ?_
    simp only [Act.put, List.setIfInBounds_toArray, List.set_cons_zero, List.set_cons_succ]
    refine wpK_tk (i := 17) (some 67) (v := .agg #[.int .i64 a1, .int .i64 a2, .int .i64 a3, .int .i64 a4, .int .i64 a5, .int .i64 a6]) rfl rfl (by kernel_rfl) (fun _ _ _ h => h) (.load_mid (by rfl) 31 (.tmp 5) rfl (w.heap.size) 0 rfl [.int .i64 a1, .int .i64 a2, .int .i64 a3, .int .i64 a4, .int .i64 a5, .int .i64 a6] _ (fun W hg => (R36.out.below (Gr.un hg)).range) Tryd.underlying31 rfl (by kernel_rfl)) ?_
    simp only [Act.put, List.setIfInBounds_toArray, List.set_cons_zero, List.set_cons_succ]
    refine wpK_tk (i := 18) (some 68) (v := .agg #[.int .i64 (Pt.sz (Pt.emp a1 a2 a3 a4 a5 a6) a1 a4), .int .i64 (Pt.sz (Pt.emp a1 a2 a3 a4 a5 a6) a2 a5), .int .i64 (Pt.sz (Pt.emp a1 a2 a3 a4 a5 a6) a3 a6)]) rfl rfl (by kernel_rfl) (fun _ _ _ h => h) (.call (f := 28) (args := #[.agg #[.int .i64 a1, .int .i64 a2, .int .i64 a3, .int .i64 a4, .int .i64 a5, .int .i64 a6]]) (by rfl) (fun W => by go_simp) (fun W hg => rsize_s a1 a2 a3 a4 a5 a6 W (by omega))) ?_
    simp only [Act.put, List.setIfInBounds_toArray, List.set_cons_zero, List.set_cons_succ]
    refine wpK_ta (i := 19) (some 69) (v := .bool true) rfl rfl (by kernel_rfl) (fun _ _ _ h => h) (Or.inl ⟨by rfl, fun W => by (go_simp <;> first | omega | (repeat' split <;> first | rfl | (exfalso; omega)))⟩) ?_
    simp only [Act.put, List.setIfInBounds_toArray, List.set_cons_zero, List.set_cons_succ]
    refine wpK_ta (i := 20) (some 70) (v := .bool true) rfl rfl (by kernel_rfl) (fun _ _ _ h => h) (Or.inl ⟨by rfl, fun W => by go_simp⟩) ?_
    simp only [Act.put, List.setIfInBounds_toArray, List.set_cons_zero, List.set_cons_succ]
    refine wpK_ta (i := 21) (some 71) (v := .bool true) rfl rfl (by kernel_rfl) (fun _ _ _ h => h) (Or.inl ⟨rfl, fun _ => rfl⟩) ?_
    simp only [Act.put, List.setIfInBounds_toArray, List.set_cons_zero, List.set_cons_succ]
    refine wpK_tk (i := 22) (some 72) (v := .agg #[.int .i64 a1, .int .i64 a2, .int .i64 a3, .int .i64 a4, .int .i64 a5, .int .i64 a6]) rfl rfl (by kernel_rfl) (fun _ _ _ h => h) (.load_mid (by rfl) 31 (.tmp 5) rfl (w.heap.size) 0 rfl [.int .i64 a1, .int .i64 a2, .int .i64 a3, .int .i64 a4, .int .i64 a5, .int .i64 a6] _ (fun W hg => (R36.out.below (Gr.un hg)).range) Tryd.underlying31 rfl (by kernel_rfl)) ?_
    simp only [Act.put, List.setIfInBounds_toArray, List.set_cons_zero, List.set_cons_succ]
    refine wpK_tk (i := 23) (some 73) (v := .int .i64 (Pt.vol a1 a2 a3 a4 a5 a6)) rfl rfl (by kernel_rfl) (fun _ _ _ h => h) (.call (f := 29) (args := #[.agg #[.int .i64 a1, .int .i64 a2, .int .i64 a3, .int .i64 a4, .int .i64 a5, .int .i64 a6]]) (by rfl) (fun W => by go_simp) (fun W hg => volume_any a1 a2 a3 a4 a5 a6 W (by omega))) ?_
    simp only [Act.put, List.setIfInBounds_toArray, List.set_cons_zero, List.set_cons_succ]
    refine wpK_tk (i := 24) (some 74) (v := .agg #[.int .i64 a1, .int .i64 a2, .int .i64 a3, .int .i64 a4, .int .i64 a5, .int .i64 a6]) rfl rfl (by kernel_rfl) (fun _ _ _ h => h) (.load_mid (by rfl) 31 (.tmp 5) rfl (w.heap.size) 0 rfl [.int .i64 a1, .int .i64 a2, .int .i64 a3, .int .i64 a4, .int .i64 a5, .int .i64 a6] _ (fun W hg => (R36.out.below (Gr.un hg)).range) Tryd.underlying31 rfl (by kernel_rfl)) ?_
    simp only [Act.put, List.setIfInBounds_toArray, List.set_cons_zero, List.set_cons_succ]
    refine wpK_tk (i := 25) (some 75) (v := .int .i64 (Pt.vol a1 a2 a3 a4 a5 a6)) rfl rfl (by kernel_rfl) (fun _ _ _ h => h) (.call (f := 30) (args := #[.agg #[.int .i64 a1, .int .i64 a2, .int .i64 a3, .int .i64 a4, .int .i64 a5, .int .i64 a6]]) (by rfl) (fun W => by go_simp) (fun W hg => rvolume_any a1 a2 a3 a4 a5 a6 W (by omega))) ?_
    simp only [Act.put, List.setIfInBounds_toArray, List.set_cons_zero, List.set_cons_succ]
    refine wpK_ta (i := 26) (some 76) (v := .bool true) rfl rfl (by kernel_rfl) (fun _ _ _ h => h) (Or.inl ⟨by rfl, fun W => by go_simp⟩) ?_
    simp only [Act.put, List.setIfInBounds_toArray, List.set_cons_zero, List.set_cons_succ]
    refine wpK_ta (i := 27) (some 77) (v := .bool true) rfl rfl (by kernel_rfl) (fun _ _ _ h => h) (Or.inl ⟨by rfl, fun W => by go_simp⟩) ?_
    simp only [Act.put, List.setIfInBounds_toArray, List.set_cons_zero, List.set_cons_succ]
    refine wpK_ta (i := 28) (some 78) (v := .bool true) rfl rfl (by kernel_rfl) (fun _ _ _ h => h) (Or.inl ⟨rfl, fun _ => rfl⟩) ?_
    simp only [Act.put, List.setIfInBounds_toArray, List.set_cons_zero, List.set_cons_succ]
    refine wpK_ta (i := 29) (some 79) (v := .int .i64 n) rfl rfl (by kernel_rfl) (fun _ _ _ h => h) (Or.inl ⟨rfl, fun _ => rfl⟩) ?_
    simp only [Act.put, List.setIfInBounds_toArray, List.set_cons_zero, List.set_cons_succ]
    refine wpK_tk (i := 30) (some 80) (v := .agg #[.int .i64 0, .int .i64 0, .int .i64 0, .int .i64 n, .int .i64 n, .int .i64 n]) rfl rfl (by kernel_rfl) (fun _ _ _ h => h) (.call (f := 31) (args := #[.int .i64 n]) (by rfl) (fun W => by go_simp) (fun W hg => cube_any n W)) ?_
    simp only [Act.put, List.setIfInBounds_toArray, List.set_cons_zero, List.set_cons_succ]
    refine wpK_ta (i := 31) (some 81) (v := .int .i64 n) rfl rfl (by kernel_rfl) (fun _ _ _ h => h) (Or.inl ⟨rfl, fun _ => rfl⟩) ?_
    simp only [Act.put, List.setIfInBounds_toArray, List.set_cons_zero, List.set_cons_succ]
    refine wpK_tk (i := 32) (some 82) (v := .agg #[.int .i64 0, .int .i64 0, .int .i64 0, .int .i64 n, .int .i64 n, .int .i64 n]) rfl rfl (by kernel_rfl) (fun _ _ _ h => h) (.call (f := 32) (args := #[.int .i64 n]) (by rfl) (fun W => by go_simp) (fun W hg => rcube_any n W)) ?_
    simp only [Act.put, List.setIfInBounds_toArray, List.set_cons_zero, List.set_cons_succ]
    refine wpK_ta (i := 33) (some 83) (v := .bool true) rfl rfl (by kernel_rfl) (fun _ _ _ h => h) (Or.inl ⟨by rfl, fun W => by (go_simp <;> first | omega | (repeat' split <;> first | rfl | (exfalso; omega)))⟩) ?_
    simp only [Act.put, List.setIfInBounds_toArray, List.set_cons_zero, List.set_cons_succ]
    refine wpK_ta (i := 34) (some 84) (v := .bool true) rfl rfl (by kernel_rfl) (fun _ _ _ h => h) (Or.inl ⟨by rfl, fun W => by go_simp⟩) ?_
    simp only [Act.put, List.setIfInBounds_toArray, List.set_cons_zero, List.set_cons_succ]
    refine wpK_ta (i := 35) (some 85) (v := .bool true) rfl rfl (by kernel_rfl) (fun _ _ _ h => h) (Or.inl ⟨rfl, fun _ => rfl⟩) ?_
    simp only [Act.put, List.setIfInBounds_toArray, List.set_cons_zero, List.set_cons_succ]
    refine wpK_tk (i := 36) (some 86) (v := .agg #[.int .i64 a1, .int .i64 a2, .int .i64 a3, .int .i64 a4, .int .i64 a5, .int .i64 a6]) rfl rfl (by kernel_rfl) (fun _ _ _ h => h) (.load_mid (by rfl) 31 (.tmp 5) rfl (w.heap.size) 0 rfl [.int .i64 a1, .int .i64 a2, .int .i64 a3, .int .i64 a4, .int .i64 a5, .int .i64 a6] _ (fun W hg => (R36.out.below (Gr.un hg)).range) Tryd.underlying31 rfl (by kernel_rfl)) ?_
    simp only [Act.put, List.setIfInBounds_toArray, List.set_cons_zero, List.set_cons_succ]
    refine wpK_tk (i := 37) (some 87) (v := .agg #[.int .i64 x1, .int .i64 x2, .int .i64 x3]) rfl rfl (by kernel_rfl) (fun _ _ _ h => h) (.load_mid (by rfl) 23 (.tmp 7) rfl (w.heap.size + 1 + 1) 0 rfl [.int .i64 x1, .int .i64 x2, .int .i64 x3] _ (fun W hg => (R38.out.below (Gr.un hg)).range) Tryd.underlying23 rfl (by kernel_rfl)) ?_
    simp only [Act.put, List.setIfInBounds_toArray, List.set_cons_zero, List.set_cons_succ]
    refine wpK_tk (i := 38) (some 88) (v := .agg #[.int .i64 (a1 + x1), .int .i64 (a2 + x2), .int .i64 (a3 + x3), .int .i64 (a4 + x1), .int .i64 (a5 + x2), .int .i64 (a6 + x3)]) rfl rfl (by kernel_rfl) (fun _ _ _ h => h) (.call (f := 33) (args := #[.agg #[.int .i64 a1, .int .i64 a2, .int .i64 a3, .int .i64 a4, .int .i64 a5, .int .i64 a6], .agg #[.int .i64 x1, .int .i64 x2, .int .i64 x3]]) (by rfl) (fun W => by go_simp) (fun W hg => shift_any a1 a2 a3 a4 a5 a6 x1 x2 x3 W (by omega))) ?_
    simp only [Act.put, List.setIfInBounds_toArray, List.set_cons_zero, List.set_cons_succ]
    refine wpK_tk (i := 39) (some 89) (v := .agg #[.int .i64 a1, .int .i64 a2, .int .i64 a3, .int .i64 a4, .int .i64 a5, .int .i64 a6]) rfl rfl (by kernel_rfl) (fun _ _ _ h => h) (.load_mid (by rfl) 31 (.tmp 5) rfl (w.heap.size) 0 rfl [.int .i64 a1, .int .i64 a2, .int .i64 a3, .int .i64 a4, .int .i64 a5, .int .i64 a6] _ (fun W hg => (R36.out.below (Gr.un hg)).range) Tryd.underlying31 rfl (by kernel_rfl)) ?_
    simp only [Act.put, List.setIfInBounds_toArray, List.set_cons_zero, List.set_cons_succ]
    refine wpK_tk (i := 40) (some 90) (v := .agg #[.int .i64 x1, .int .i64 x2, .int .i64 x3]) rfl rfl (by kernel_rfl) (fun _ _ _ h => h) (.load_mid (by rfl) 23 (.tmp 7) rfl (w.heap.size + 1 + 1) 0 rfl [.int .i64 x1, .int .i64 x2, .int .i64 x3] _ (fun W hg => (R38.out.below (Gr.un hg)).range) Tryd.underlying23 rfl (by kernel_rfl)) ?_
    simp only [Act.put, List.setIfInBounds_toArray, List.set_cons_zero, List.set_cons_succ]
    refine wpK_tk (i := 41) (some 91) (v := .agg #[.int .i64 (a1 + x1), .int .i64 (a2 + x2), .int .i64 (a3 + x3), .int .i64 (a4 + x1), .int .i64 (a5 + x2), .int .i64 (a6 + x3)]) rfl rfl (by kernel_rfl) (fun _ _ _ h => h) (.call (f := 34) (args := #[.agg #[.int .i64 a1, .int .i64 a2, .int .i64 a3, .int .i64 a4, .int .i64 a5, .int .i64 a6], .agg #[.int .i64 x1, .int .i64 x2, .int .i64 x3]]) (by rfl) (fun W => by go_simp) (fun W hg => rshift_any a1 a2 a3 a4 a5 a6 x1 x2 x3 W (by omega))) ?_
    simp only [Act.put, List.setIfInBounds_toArray, List.set_cons_zero, List.set_cons_succ]
    refine wpK_ta (i := 42) (some 92) (v := .bool true) rfl rfl (by kernel_rfl) (fun _ _ _ h => h) (Or.inl ⟨by rfl, fun W => by (go_simp <;> first | omega | (repeat' split <;> first | rfl | (exfalso; omega)))⟩) ?_
    simp only [Act.put, List.setIfInBounds_toArray, List.set_cons_zero, List.set_cons_succ]
    refine wpK_ta (i := 43) (some 93) (v := .bool true) rfl rfl (by kernel_rfl) (fun _ _ _ h => h) (Or.inl ⟨by rfl, fun W => by go_simp⟩) ?_
    simp only [Act.put, List.setIfInBounds_toArray, List.set_cons_zero, List.set_cons_succ]
    refine wpK_ta (i := 44) (some 15) (v := .bool true) rfl rfl (by kernel_rfl) (fun _ _ _ h => h) (Or.inl ⟨rfl, fun _ => rfl⟩) ?_
    simp only [Act.put, List.setIfInBounds_toArray, List.set_cons_zero, List.set_cons_succ]
    refine wpK_done (by kernel_rfl) (fun V41 hv42 => ?_) _
    have GC43 := Lib.hid (Gr.un hv42)
    clear hv42
    go_upto_region 6 with fail
    refine wpK_region (by kernel_rfl) ?_
    refine wpK_tk (i := 0) (some 94) (v := .agg #[.int .i64 a1, .int .i64 a2, .int .i64 a3, .int .i64 a4, .int .i64 a5, .int .i64 a6]) rfl rfl (by kernel_rfl) (fun _ _ _ h => h) (.load_mid (by rfl) 31 (.tmp 5) rfl (w.heap.size) 0 rfl [.int .i64 a1, .int .i64 a2, .int .i64 a3, .int .i64 a4, .int .i64 a5, .int .i64 a6] _ (fun W hg => (R36.out.below (GC43.out.trans (Gr.un hg))).range) Tryd.underlying31 rfl (by kernel_rfl)) ?_
    simp only [Act.put, List.setIfInBounds_toArray, List.set_cons_zero, List.set_cons_succ]
    refine wpK_tk (i := 1) (some 95) (v := .agg #[.int .i64 b1, .int .i64 b2, .int .i64 b3, .int .i64 b4, .int .i64 b5, .int .i64 b6]) rfl rfl (by kernel_rfl) (fun _ _ _ h => h) (.load_mid (by rfl) 31 (.tmp 6) rfl (w.heap.size + 1) 0 rfl [.int .i64 b1, .int .i64 b2, .int .i64 b3, .int .i64 b4, .int .i64 b5, .int .i64 b6] _ (fun W hg => (R37.out.below (GC43.out.trans (Gr.un hg))).range) Tryd.underlying31 rfl (by kernel_rfl)) ?_
    simp only [Act.put, List.setIfInBounds_toArray, List.set_cons_zero, List.set_cons_succ]
    refine wpK_tk (i := 2) (some 96) (v := .agg #[.int .i64 (iv (Pt.meet a1 a2 a3 a4 a5 a6 b1 b2 b3 b4 b5 b6) (max a1 b1)), .int .i64 (iv (Pt.meet a1 a2 a3 a4 a5 a6 b1 b2 b3 b4 b5 b6) (max a2 b2)), .int .i64 (iv (Pt.meet a1 a2 a3 a4 a5 a6 b1 b2 b3 b4 b5 b6) (max a3 b3)), .int .i64 (iv (Pt.meet a1 a2 a3 a4 a5 a6 b1 b2 b3 b4 b5 b6) (min a4 b4)), .int .i64 (iv (Pt.meet a1 a2 a3 a4 a5 a6 b1 b2 b3 b4 b5 b6) (min a5 b5)), .int .i64 (iv (Pt.meet a1 a2 a3 a4 a5 a6 b1 b2 b3 b4 b5 b6) (min a6 b6))]) rfl rfl (by kernel_rfl) (fun _ _ _ h => h) (.call (f := 35) (args := #[.agg #[.int .i64 a1, .int .i64 a2, .int .i64 a3, .int .i64 a4, .int .i64 a5, .int .i64 a6], .agg #[.int .i64 b1, .int .i64 b2, .int .i64 b3, .int .i64 b4, .int .i64 b5, .int .i64 b6]]) (by rfl) (fun W => by go_simp) (fun W hg => inter_s a1 a2 a3 a4 a5 a6 b1 b2 b3 b4 b5 b6 W (by omega))) ?_
    simp only [Act.put, List.setIfInBounds_toArray, List.set_cons_zero, List.set_cons_succ]
    refine wpK_tk (i := 3) (some 97) (v := .agg #[.int .i64 a1, .int .i64 a2, .int .i64 a3, .int .i64 a4, .int .i64 a5, .int .i64 a6]) rfl rfl (by kernel_rfl) (fun _ _ _ h => h) (.load_mid (by rfl) 31 (.tmp 5) rfl (w.heap.size) 0 rfl [.int .i64 a1, .int .i64 a2, .int .i64 a3, .int .i64 a4, .int .i64 a5, .int .i64 a6] _ (fun W hg => (R36.out.below (GC43.out.trans (Gr.un hg))).range) Tryd.underlying31 rfl (by kernel_rfl)) ?_
    simp only [Act.put, List.setIfInBounds_toArray, List.set_cons_zero, List.set_cons_succ]
    refine wpK_tk (i := 4) (some 98) (v := .agg #[.int .i64 b1, .int .i64 b2, .int .i64 b3, .int .i64 b4, .int .i64 b5, .int .i64 b6]) rfl rfl (by kernel_rfl) (fun _ _ _ h => h) (.load_mid (by rfl) 31 (.tmp 6) rfl (w.heap.size + 1) 0 rfl [.int .i64 b1, .int .i64 b2, .int .i64 b3, .int .i64 b4, .int .i64 b5, .int .i64 b6] _ (fun W hg => (R37.out.below (GC43.out.trans (Gr.un hg))).range) Tryd.underlying31 rfl (by kernel_rfl)) ?_
    simp only [Act.put, List.setIfInBounds_toArray, List.set_cons_zero, List.set_cons_succ]
    refine wpK_tk (i := 5) (some 99) (v := .agg #[.int .i64 (iv (Pt.meet a1 a2 a3 a4 a5 a6 b1 b2 b3 b4 b5 b6) (max a1 b1)), .int .i64 (iv (Pt.meet a1 a2 a3 a4 a5 a6 b1 b2 b3 b4 b5 b6) (max a2 b2)), .int .i64 (iv (Pt.meet a1 a2 a3 a4 a5 a6 b1 b2 b3 b4 b5 b6) (max a3 b3)), .int .i64 (iv (Pt.meet a1 a2 a3 a4 a5 a6 b1 b2 b3 b4 b5 b6) (min a4 b4)), .int .i64 (iv (Pt.meet a1 a2 a3 a4 a5 a6 b1 b2 b3 b4 b5 b6) (min a5 b5)), .int .i64 (iv (Pt.meet a1 a2 a3 a4 a5 a6 b1 b2 b3 b4 b5 b6) (min a6 b6))]) rfl rfl (by kernel_rfl) (fun _ _ _ h => h) (.call (f := 36) (args := #[.agg #[.int .i64 a1, .int .i64 a2, .int .i64 a3, .int .i64 a4, .int .i64 a5, .int .i64 a6], .agg #[.int .i64 b1, .int .i64 b2, .int .i64 b3, .int .i64 b4, .int .i64 b5, .int .i64 b6]]) (by rfl) (fun W => by go_simp) (fun W hg => rinter_s a1 a2 a3 a4 a5 a6 b1 b2 b3 b4 b5 b6 W (by omega))) ?_
    simp only [Act.put, List.setIfInBounds_toArray, List.set_cons_zero, List.set_cons_succ]
    refine wpK_ta (i := 6) (some 100) (v := .bool true) rfl rfl (by kernel_rfl) (fun _ _ _ h => h) (Or.inl ⟨by rfl, fun W => by (go_simp <;> first | omega | (repeat' split <;> first | rfl | (exfalso; omega)))⟩) ?_
    simp only [Act.put, List.setIfInBounds_toArray, List.set_cons_zero, List.set_cons_succ]
    refine wpK_ta (i := 7) (some 101) (v := .bool true) rfl rfl (by kernel_rfl) (fun _ _ _ h => h) (Or.inl ⟨rfl, fun _ => rfl⟩) ?_
    simp only [Act.put, List.setIfInBounds_toArray, List.set_cons_zero, List.set_cons_succ]
    refine wpK_tk (i := 8) (some 102) (v := .agg #[.int .i64 a1, .int .i64 a2, .int .i64 a3, .int .i64 a4, .int .i64 a5, .int .i64 a6]) rfl rfl (by kernel_rfl) (fun _ _ _ h => h) (.load_mid (by rfl) 31 (.tmp 5) rfl (w.heap.size) 0 rfl [.int .i64 a1, .int .i64 a2, .int .i64 a3, .int .i64 a4, .int .i64 a5, .int .i64 a6] _ (fun W hg => (R36.out.below (GC43.out.trans (Gr.un hg))).range) Tryd.underlying31 rfl (by kernel_rfl)) ?_
    simp only [Act.put, List.setIfInBounds_toArray, List.set_cons_zero, List.set_cons_succ]
    refine wpK_tk (i := 9) (some 103) (v := .agg #[.int .i64 b1, .int .i64 b2, .int .i64 b3, .int .i64 b4, .int .i64 b5, .int .i64 b6]) rfl rfl (by kernel_rfl) (fun _ _ _ h => h) (.load_mid (by rfl) 31 (.tmp 6) rfl (w.heap.size + 1) 0 rfl [.int .i64 b1, .int .i64 b2, .int .i64 b3, .int .i64 b4, .int .i64 b5, .int .i64 b6] _ (fun W hg => (R37.out.below (GC43.out.trans (Gr.un hg))).range) Tryd.underlying31 rfl (by kernel_rfl)) ?_
    simp only [Act.put, List.setIfInBounds_toArray, List.set_cons_zero, List.set_cons_succ]
    refine wpK_tk (i := 10) (some 104) (v := .agg #[.int .i64 (hl (Pt.emp a1 a2 a3 a4 a5 a6) (Pt.emp b1 b2 b3 b4 b5 b6) a1 b1 (min a1 b1)), .int .i64 (hl (Pt.emp a1 a2 a3 a4 a5 a6) (Pt.emp b1 b2 b3 b4 b5 b6) a2 b2 (min a2 b2)), .int .i64 (hl (Pt.emp a1 a2 a3 a4 a5 a6) (Pt.emp b1 b2 b3 b4 b5 b6) a3 b3 (min a3 b3)), .int .i64 (hl (Pt.emp a1 a2 a3 a4 a5 a6) (Pt.emp b1 b2 b3 b4 b5 b6) a4 b4 (max a4 b4)), .int .i64 (hl (Pt.emp a1 a2 a3 a4 a5 a6) (Pt.emp b1 b2 b3 b4 b5 b6) a5 b5 (max a5 b5)), .int .i64 (hl (Pt.emp a1 a2 a3 a4 a5 a6) (Pt.emp b1 b2 b3 b4 b5 b6) a6 b6 (max a6 b6))]) rfl rfl (by kernel_rfl) (fun _ _ _ h => h) (.call (f := 37) (args := #[.agg #[.int .i64 a1, .int .i64 a2, .int .i64 a3, .int .i64 a4, .int .i64 a5, .int .i64 a6], .agg #[.int .i64 b1, .int .i64 b2, .int .i64 b3, .int .i64 b4, .int .i64 b5, .int .i64 b6]]) (by rfl) (fun W => by go_simp) (fun W hg => hull_s a1 a2 a3 a4 a5 a6 b1 b2 b3 b4 b5 b6 W (by omega))) ?_
    simp only [Act.put, List.setIfInBounds_toArray, List.set_cons_zero, List.set_cons_succ]
    refine wpK_tk (i := 11) (some 105) (v := .agg #[.int .i64 a1, .int .i64 a2, .int .i64 a3, .int .i64 a4, .int .i64 a5, .int .i64 a6]) rfl rfl (by kernel_rfl) (fun _ _ _ h => h) (.load_mid (by rfl) 31 (.tmp 5) rfl (w.heap.size) 0 rfl [.int .i64 a1, .int .i64 a2, .int .i64 a3, .int .i64 a4, .int .i64 a5, .int .i64 a6] _ (fun W hg => (R36.out.below (GC43.out.trans (Gr.un hg))).range) Tryd.underlying31 rfl (by kernel_rfl)) ?_
    simp only [Act.put, List.setIfInBounds_toArray, List.set_cons_zero, List.set_cons_succ]
    refine wpK_tk (i := 12) (some 106) (v := .agg #[.int .i64 b1, .int .i64 b2, .int .i64 b3, .int .i64 b4, .int .i64 b5, .int .i64 b6]) rfl rfl (by kernel_rfl) (fun _ _ _ h => h) (.load_mid (by rfl) 31 (.tmp 6) rfl (w.heap.size + 1) 0 rfl [.int .i64 b1, .int .i64 b2, .int .i64 b3, .int .i64 b4, .int .i64 b5, .int .i64 b6] _ (fun W hg => (R37.out.below (GC43.out.trans (Gr.un hg))).range) Tryd.underlying31 rfl (by kernel_rfl)) ?_
    simp only [Act.put, List.setIfInBounds_toArray, List.set_cons_zero, List.set_cons_succ]
    refine wpK_tk (i := 13) (some 107) (v := .agg #[.int .i64 (hl (Pt.emp a1 a2 a3 a4 a5 a6) (Pt.emp b1 b2 b3 b4 b5 b6) a1 b1 (min a1 b1)), .int .i64 (hl (Pt.emp a1 a2 a3 a4 a5 a6) (Pt.emp b1 b2 b3 b4 b5 b6) a2 b2 (min a2 b2)), .int .i64 (hl (Pt.emp a1 a2 a3 a4 a5 a6) (Pt.emp b1 b2 b3 b4 b5 b6) a3 b3 (min a3 b3)), .int .i64 (hl (Pt.emp a1 a2 a3 a4 a5 a6) (Pt.emp b1 b2 b3 b4 b5 b6) a4 b4 (max a4 b4)), .int .i64 (hl (Pt.emp a1 a2 a3 a4 a5 a6) (Pt.emp b1 b2 b3 b4 b5 b6) a5 b5 (max a5 b5)), .int .i64 (hl (Pt.emp a1 a2 a3 a4 a5 a6) (Pt.emp b1 b2 b3 b4 b5 b6) a6 b6 (max a6 b6))]) rfl rfl (by kernel_rfl) (fun _ _ _ h => h) (.call (f := 38) (args := #[.agg #[.int .i64 a1, .int .i64 a2, .int .i64 a3, .int .i64 a4, .int .i64 a5, .int .i64 a6], .agg #[.int .i64 b1, .int .i64 b2, .int .i64 b3, .int .i64 b4, .int .i64 b5, .int .i64 b6]]) (by rfl) (fun W => by go_simp) (fun W hg => rhull_s a1 a2 a3 a4 a5 a6 b1 b2 b3 b4 b5 b6 W (by omega))) ?_
    simp only [Act.put, List.setIfInBounds_toArray, List.set_cons_zero, List.set_cons_succ]
    refine wpK_ta (i := 14) (some 108) (v := .bool true) rfl rfl (by kernel_rfl) (fun _ _ _ h => h) (Or.inl ⟨by rfl, fun W => by (go_simp <;> first | omega | (repeat' split <;> first | rfl | (exfalso; omega)))⟩) ?_
    simp only [Act.put, List.setIfInBounds_toArray, List.set_cons_zero, List.set_cons_succ]
    refine wpK_ta (i := 15) (some 109) (v := .bool true) rfl rfl (by kernel_rfl) (fun _ _ _ h => h) (Or.inl ⟨by rfl, fun W => by go_simp⟩) ?_
    simp only [Act.put, List.setIfInBounds_toArray, List.set_cons_zero, List.set_cons_succ]
    refine wpK_ta (i := 16) (some 110) (v := .bool true) rfl rfl (by kernel_rfl) (fun _ _ _ h => h) (Or.inl ⟨rfl, fun _ => rfl⟩) ?_
    simp only [Act.put, List.setIfInBounds_toArray, List.set_cons_zero, List.set_cons_succ]
    refine wpK_tk (i := 17) (some 111) (v := .agg #[.int .i64 a1, .int .i64 a2, .int .i64 a3, .int .i64 a4, .int .i64 a5, .int .i64 a6]) rfl rfl (by kernel_rfl) (fun _ _ _ h => h) (.load_mid (by rfl) 31 (.tmp 5) rfl (w.heap.size) 0 rfl [.int .i64 a1, .int .i64 a2, .int .i64 a3, .int .i64 a4, .int .i64 a5, .int .i64 a6] _ (fun W hg => (R36.out.below (GC43.out.trans (Gr.un hg))).range) Tryd.underlying31 rfl (by kernel_rfl)) ?_
    simp only [Act.put, List.setIfInBounds_toArray, List.set_cons_zero, List.set_cons_succ]
    refine wpK_tk (i := 18) (some 112) (v := .agg #[.int .i64 b1, .int .i64 b2, .int .i64 b3, .int .i64 b4, .int .i64 b5, .int .i64 b6]) rfl rfl (by kernel_rfl) (fun _ _ _ h => h) (.load_mid (by rfl) 31 (.tmp 6) rfl (w.heap.size + 1) 0 rfl [.int .i64 b1, .int .i64 b2, .int .i64 b3, .int .i64 b4, .int .i64 b5, .int .i64 b6] _ (fun W hg => (R37.out.below (GC43.out.trans (Gr.un hg))).range) Tryd.underlying31 rfl (by kernel_rfl)) ?_
    simp only [Act.put, List.setIfInBounds_toArray, List.set_cons_zero, List.set_cons_succ]
    refine wpK_tk (i := 19) (some 113) (v := .bool (conB a1 a2 a3 a4 a5 a6 b1 b2 b3 b4 b5 b6)) rfl rfl (by kernel_rfl) (fun _ _ _ h => h) (.call (f := 39) (args := #[.agg #[.int .i64 a1, .int .i64 a2, .int .i64 a3, .int .i64 a4, .int .i64 a5, .int .i64 a6], .agg #[.int .i64 b1, .int .i64 b2, .int .i64 b3, .int .i64 b4, .int .i64 b5, .int .i64 b6]]) (by rfl) (fun W => by go_simp) (fun W hg => contains_s a1 a2 a3 a4 a5 a6 b1 b2 b3 b4 b5 b6 W (by omega))) ?_
    simp only [Act.put, List.setIfInBounds_toArray, List.set_cons_zero, List.set_cons_succ]
    refine wpK_tk (i := 20) (some 114) (v := .agg #[.int .i64 a1, .int .i64 a2, .int .i64 a3, .int .i64 a4, .int .i64 a5, .int .i64 a6]) rfl rfl (by kernel_rfl) (fun _ _ _ h => h) (.load_mid (by rfl) 31 (.tmp 5) rfl (w.heap.size) 0 rfl [.int .i64 a1, .int .i64 a2, .int .i64 a3, .int .i64 a4, .int .i64 a5, .int .i64 a6] _ (fun W hg => (R36.out.below (GC43.out.trans (Gr.un hg))).range) Tryd.underlying31 rfl (by kernel_rfl)) ?_
    simp only [Act.put, List.setIfInBounds_toArray, List.set_cons_zero, List.set_cons_succ]
    refine wpK_tk (i := 21) (some 115) (v := .agg #[.int .i64 b1, .int .i64 b2, .int .i64 b3, .int .i64 b4, .int .i64 b5, .int .i64 b6]) rfl rfl (by kernel_rfl) (fun _ _ _ h => h) (.load_mid (by rfl) 31 (.tmp 6) rfl (w.heap.size + 1) 0 rfl [.int .i64 b1, .int .i64 b2, .int .i64 b3, .int .i64 b4, .int .i64 b5, .int .i64 b6] _ (fun W hg => (R37.out.below (GC43.out.trans (Gr.un hg))).range) Tryd.underlying31 rfl (by kernel_rfl)) ?_
    simp only [Act.put, List.setIfInBounds_toArray, List.set_cons_zero, List.set_cons_succ]
    refine wpK_tk (i := 22) (some 116) (v := .bool (conB a1 a2 a3 a4 a5 a6 b1 b2 b3 b4 b5 b6)) rfl rfl (by kernel_rfl) (fun _ _ _ h => h) (.call (f := 40) (args := #[.agg #[.int .i64 a1, .int .i64 a2, .int .i64 a3, .int .i64 a4, .int .i64 a5, .int .i64 a6], .agg #[.int .i64 b1, .int .i64 b2, .int .i64 b3, .int .i64 b4, .int .i64 b5, .int .i64 b6]]) (by rfl) (fun W => by go_simp) (fun W hg => rcontains_s a1 a2 a3 a4 a5 a6 b1 b2 b3 b4 b5 b6 W (by omega))) ?_
    simp only [Act.put, List.setIfInBounds_toArray, List.set_cons_zero, List.set_cons_succ]
    refine wpK_ta (i := 23) (some 117) (v := .bool true) rfl rfl (by kernel_rfl) (fun _ _ _ h => h) (Or.inl ⟨by rfl, fun W => by go_simp⟩) ?_
    simp only [Act.put, List.setIfInBounds_toArray, List.set_cons_zero, List.set_cons_succ]
    refine wpK_ta (i := 24) (some 118) (v := .bool true) rfl rfl (by kernel_rfl) (fun _ _ _ h => h) (Or.inl ⟨by rfl, fun W => by go_simp⟩) ?_
    simp only [Act.put, List.setIfInBounds_toArray, List.set_cons_zero, List.set_cons_succ]
    refine wpK_ta (i := 25) (some 119) (v := .bool true) rfl rfl (by kernel_rfl) (fun _ _ _ h => h) (Or.inl ⟨rfl, fun _ => rfl⟩) ?_
    simp only [Act.put, List.setIfInBounds_toArray, List.set_cons_zero, List.set_cons_succ]
    refine wpK_tk (i := 26) (some 120) (v := .agg #[.int .i64 x1, .int .i64 x2, .int .i64 x3]) rfl rfl (by kernel_rfl) (fun _ _ _ h => h) (.load_mid (by rfl) 23 (.tmp 7) rfl (w.heap.size + 1 + 1) 0 rfl [.int .i64 x1, .int .i64 x2, .int .i64 x3] _ (fun W hg => (R38.out.below (GC43.out.trans (Gr.un hg))).range) Tryd.underlying23 rfl (by kernel_rfl)) ?_
    simp only [Act.put, List.setIfInBounds_toArray, List.set_cons_zero, List.set_cons_succ]
    refine wpK_tk (i := 27) (some 121) (v := .agg #[.int .i64 a1, .int .i64 a2, .int .i64 a3, .int .i64 a4, .int .i64 a5, .int .i64 a6]) rfl rfl (by kernel_rfl) (fun _ _ _ h => h) (.load_mid (by rfl) 31 (.tmp 5) rfl (w.heap.size) 0 rfl [.int .i64 a1, .int .i64 a2, .int .i64 a3, .int .i64 a4, .int .i64 a5, .int .i64 a6] _ (fun W hg => (R36.out.below (GC43.out.trans (Gr.un hg))).range) Tryd.underlying31 rfl (by kernel_rfl)) ?_
    simp only [Act.put, List.setIfInBounds_toArray, List.set_cons_zero, List.set_cons_succ]
    refine wpK_tk (i := 28) (some 122) (v := .int .i64 (nv (Pt.emp a1 a2 a3 a4 a5 a6) (Pt.near x1 x2 x3 a1 a2 a3 a4 a5 a6))) rfl rfl (by kernel_rfl) (fun _ _ _ h => h) (.call (f := 41) (args := #[.agg #[.int .i64 x1, .int .i64 x2, .int .i64 x3], .agg #[.int .i64 a1, .int .i64 a2, .int .i64 a3, .int .i64 a4, .int .i64 a5, .int .i64 a6]]) (by rfl) (fun W => by go_simp) (fun W hg => near_s x1 x2 x3 a1 a2 a3 a4 a5 a6 W (by omega))) ?_
    simp only [Act.put, List.setIfInBounds_toArray, List.set_cons_zero, List.set_cons_succ]
    refine wpK_tk (i := 29) (some 123) (v := .agg #[.int .i64 x1, .int .i64 x2, .int .i64 x3]) rfl rfl (by kernel_rfl) (fun _ _ _ h => h) (.load_mid (by rfl) 23 (.tmp 7) rfl (w.heap.size + 1 + 1) 0 rfl [.int .i64 x1, .int .i64 x2, .int .i64 x3] _ (fun W hg => (R38.out.below (GC43.out.trans (Gr.un hg))).range) Tryd.underlying23 rfl (by kernel_rfl)) ?_
    simp only [Act.put, List.setIfInBounds_toArray, List.set_cons_zero, List.set_cons_succ]
    refine wpK_tk (i := 30) (some 124) (v := .agg #[.int .i64 a1, .int .i64 a2, .int .i64 a3, .int .i64 a4, .int .i64 a5, .int .i64 a6]) rfl rfl (by kernel_rfl) (fun _ _ _ h => h) (.load_mid (by rfl) 31 (.tmp 5) rfl (w.heap.size) 0 rfl [.int .i64 a1, .int .i64 a2, .int .i64 a3, .int .i64 a4, .int .i64 a5, .int .i64 a6] _ (fun W hg => (R36.out.below (GC43.out.trans (Gr.un hg))).range) Tryd.underlying31 rfl (by kernel_rfl)) ?_
    simp only [Act.put, List.setIfInBounds_toArray, List.set_cons_zero, List.set_cons_succ]
    refine wpK_tk (i := 31) (some 125) (v := .int .i64 (nv (Pt.emp a1 a2 a3 a4 a5 a6) (Pt.near x1 x2 x3 a1 a2 a3 a4 a5 a6))) rfl rfl (by kernel_rfl) (fun _ _ _ h => h) (.call (f := 42) (args := #[.agg #[.int .i64 x1, .int .i64 x2, .int .i64 x3], .agg #[.int .i64 a1, .int .i64 a2, .int .i64 a3, .int .i64 a4, .int .i64 a5, .int .i64 a6]]) (by rfl) (fun W => by go_simp) (fun W hg => rnear_s x1 x2 x3 a1 a2 a3 a4 a5 a6 W (by omega))) ?_
    simp only [Act.put, List.setIfInBounds_toArray, List.set_cons_zero, List.set_cons_succ]
    refine wpK_ta (i := 32) (some 126) (v := .bool true) rfl rfl (by kernel_rfl) (fun _ _ _ h => h) (Or.inl ⟨by rfl, fun W => by go_simp⟩) ?_
    simp only [Act.put, List.setIfInBounds_toArray, List.set_cons_zero, List.set_cons_succ]
    refine wpK_ta (i := 33) (some 127) (v := .bool true) rfl rfl (by kernel_rfl) (fun _ _ _ h => h) (Or.inl ⟨by rfl, fun W => by go_simp⟩) ?_
    simp only [Act.put, List.setIfInBounds_toArray, List.set_cons_zero, List.set_cons_succ]
    refine wpK_ta (i := 34) (some 128) (v := .bool true) rfl rfl (by kernel_rfl) (fun _ _ _ h => h) (Or.inl ⟨rfl, fun _ => rfl⟩) ?_
    simp only [Act.put, List.setIfInBounds_toArray, List.set_cons_zero, List.set_cons_succ]
    refine wpK_tk (i := 35) (some 129) (v := .agg #[.int .i64 a1, .int .i64 a2, .int .i64 a3, .int .i64 a4, .int .i64 a5, .int .i64 a6]) rfl rfl (by kernel_rfl) (fun _ _ _ h => h) (.load_mid (by rfl) 31 (.tmp 5) rfl (w.heap.size) 0 rfl [.int .i64 a1, .int .i64 a2, .int .i64 a3, .int .i64 a4, .int .i64 a5, .int .i64 a6] _ (fun W hg => (R36.out.below (GC43.out.trans (Gr.un hg))).range) Tryd.underlying31 rfl (by kernel_rfl)) ?_
    simp only [Act.put, List.setIfInBounds_toArray, List.set_cons_zero, List.set_cons_succ]
    refine wpK_tk (i := 36) (some 130) (v := .agg #[.int .i64 x1, .int .i64 x2, .int .i64 x3]) rfl rfl (by kernel_rfl) (fun _ _ _ h => h) (.load_mid (by rfl) 23 (.tmp 7) rfl (w.heap.size + 1 + 1) 0 rfl [.int .i64 x1, .int .i64 x2, .int .i64 x3] _ (fun W hg => (R38.out.below (GC43.out.trans (Gr.un hg))).range) Tryd.underlying23 rfl (by kernel_rfl)) ?_
    simp only [Act.put, List.setIfInBounds_toArray, List.set_cons_zero, List.set_cons_succ]
    refine wpK_tk (i := 37) (some 131) (v := .int .i64 (xv (Pt.inB x1 x2 x3 a1 a2 a3 a4 a5 a6) (Pt.idx x1 x2 x3 a1 a2 a3 a4 a5))) rfl rfl (by kernel_rfl) (fun _ _ _ h => h) (.call (f := 43) (args := #[.agg #[.int .i64 a1, .int .i64 a2, .int .i64 a3, .int .i64 a4, .int .i64 a5, .int .i64 a6], .agg #[.int .i64 x1, .int .i64 x2, .int .i64 x3]]) (by rfl) (fun W => by go_simp) (fun W hg => index_s a1 a2 a3 a4 a5 a6 x1 x2 x3 W (by omega))) ?_
    simp only [Act.put, List.setIfInBounds_toArray, List.set_cons_zero, List.set_cons_succ]
    refine wpK_tk (i := 38) (some 132) (v := .agg #[.int .i64 a1, .int .i64 a2, .int .i64 a3, .int .i64 a4, .int .i64 a5, .int .i64 a6]) rfl rfl (by kernel_rfl) (fun _ _ _ h => h) (.load_mid (by rfl) 31 (.tmp 5) rfl (w.heap.size) 0 rfl [.int .i64 a1, .int .i64 a2, .int .i64 a3, .int .i64 a4, .int .i64 a5, .int .i64 a6] _ (fun W hg => (R36.out.below (GC43.out.trans (Gr.un hg))).range) Tryd.underlying31 rfl (by kernel_rfl)) ?_
    simp only [Act.put, List.setIfInBounds_toArray, List.set_cons_zero, List.set_cons_succ]
    refine wpK_tk (i := 39) (some 133) (v := .agg #[.int .i64 x1, .int .i64 x2, .int .i64 x3]) rfl rfl (by kernel_rfl) (fun _ _ _ h => h) (.load_mid (by rfl) 23 (.tmp 7) rfl (w.heap.size + 1 + 1) 0 rfl [.int .i64 x1, .int .i64 x2, .int .i64 x3] _ (fun W hg => (R38.out.below (GC43.out.trans (Gr.un hg))).range) Tryd.underlying23 rfl (by kernel_rfl)) ?_
    simp only [Act.put, List.setIfInBounds_toArray, List.set_cons_zero, List.set_cons_succ]
    refine wpK_tk (i := 40) (some 134) (v := .int .i64 (xv (Pt.inB x1 x2 x3 a1 a2 a3 a4 a5 a6) (Pt.idx x1 x2 x3 a1 a2 a3 a4 a5))) rfl rfl (by kernel_rfl) (fun _ _ _ h => h) (.call (f := 44) (args := #[.agg #[.int .i64 a1, .int .i64 a2, .int .i64 a3, .int .i64 a4, .int .i64 a5, .int .i64 a6], .agg #[.int .i64 x1, .int .i64 x2, .int .i64 x3]]) (by rfl) (fun W => by go_simp) (fun W hg => rindex_s a1 a2 a3 a4 a5 a6 x1 x2 x3 W (by omega))) ?_
    simp only [Act.put, List.setIfInBounds_toArray, List.set_cons_zero, List.set_cons_succ]
    refine wpK_ta (i := 41) (some 135) (v := .bool true) rfl rfl (by kernel_rfl) (fun _ _ _ h => h) (Or.inl ⟨by rfl, fun W => by go_simp⟩) ?_
    simp only [Act.put, List.setIfInBounds_toArray, List.set_cons_zero, List.set_cons_succ]
    refine wpK_ta (i := 42) (some 136) (v := .bool true) rfl rfl (by kernel_rfl) (fun _ _ _ h => h) (Or.inl ⟨by rfl, fun W => by go_simp⟩) ?_
    simp only [Act.put, List.setIfInBounds_toArray, List.set_cons_zero, List.set_cons_succ]
    refine wpK_ta (i := 43) (some 16) (v := .bool true) rfl rfl (by kernel_rfl) (fun _ _ _ h => h) (Or.inl ⟨rfl, fun _ => rfl⟩) ?_
    simp only [Act.put, List.setIfInBounds_toArray, List.set_cons_zero, List.set_cons_succ]
    refine wpK_done (by kernel_rfl) (fun V44 hv45 => ?_) _
    have GC46 := Lib.hid (GC43.out.trans (Gr.un hv45))
    clear hv45
    go_upto_region 7 with fail
    refine wpG_region ?_
    refine wpG_tk (some 137) (v := .bool true) rfl (.call (f := 12) (args := #[]) (by rfl) (fun W => by go_simp) (fun W hg => sanity_any W (HT.out.below (GC46.out.trans hg)))) ?_
    simp only [Act.put, List.setIfInBounds_toArray, List.set_cons_zero, List.set_cons_succ]
    refine wpG_tk (some 138) (v := .bool true) rfl (.val (by rfl) (fun _ _ => rfl)) ?_
    simp only [Act.put, List.setIfInBounds_toArray, List.set_cons_zero, List.set_cons_succ]
    refine wpG_tk (some 139) (v := .bool true) rfl (.val (by rfl) (fun _ _ => rfl)) ?_
    simp only [Act.put, List.setIfInBounds_toArray, List.set_cons_zero, List.set_cons_succ]
    refine wpG_tk (some 140) (v := .bool true) rfl (.val (by rfl) (fun W hg => by go_simp)) ?_
    simp only [Act.put, List.setIfInBounds_toArray, List.set_cons_zero, List.set_cons_succ]
    refine wpG_tk (some 141) (v := .bool true) rfl (.val (by rfl) (fun _ _ => rfl)) ?_
    simp only [Act.put, List.setIfInBounds_toArray, List.set_cons_zero, List.set_cons_succ]
    refine wpG_tk (some 142) (v := .bool true) rfl (.val (by rfl) (fun _ _ => rfl)) ?_
    simp only [Act.put, List.setIfInBounds_toArray, List.set_cons_zero, List.set_cons_succ]
    refine wpG_tk (some 143) (v := .bool true) rfl (.val (by rfl) (fun W hg => by go_simp)) ?_
    simp only [Act.put, List.setIfInBounds_toArray, List.set_cons_zero, List.set_cons_succ]
    refine wpG_tk (some 144) (v := .bool true) rfl (.val (by rfl) (fun _ _ => rfl)) ?_
    simp only [Act.put, List.setIfInBounds_toArray, List.set_cons_zero, List.set_cons_succ]
    refine wpG_tk (some 145) (v := .agg #[.int .i64 (qv (okAt a1 a2 a3 a4 a5 a6 i) (a1 + i % (a4 - a1))), .int .i64 (qv (okAt a1 a2 a3 a4 a5 a6 i) (a2 + i / (a4 - a1) % (a5 - a2))), .int .i64 (qv (okAt a1 a2 a3 a4 a5 a6 i) (a3 + i / (a4 - a1) / (a5 - a2)))]) rfl (.load_mid (by rfl) 23 (.tmp 11) rfl (W9.heap.size) 0 rfl [.int .i64 (qv (okAt a1 a2 a3 a4 a5 a6 i) (a1 + i % (a4 - a1))), .int .i64 (qv (okAt a1 a2 a3 a4 a5 a6 i) (a2 + i / (a4 - a1) % (a5 - a2))), .int .i64 (qv (okAt a1 a2 a3 a4 a5 a6 i) (a3 + i / (a4 - a1) / (a5 - a2)))] _ (fun W hg => (R39.out.below (GC46.out.trans hg)).range) Tryd.underlying23 rfl (by kernel_rfl)) ?_
    simp only [Act.put, List.setIfInBounds_toArray, List.set_cons_zero, List.set_cons_succ]
    refine wpG_tk (some 146) (v := .agg #[.int .i64 (qv (okAt a1 a2 a3 a4 a5 a6 i) (a1 + i % (a4 - a1))), .int .i64 (qv (okAt a1 a2 a3 a4 a5 a6 i) (a2 + i / (a4 - a1) % (a5 - a2))), .int .i64 (qv (okAt a1 a2 a3 a4 a5 a6 i) (a3 + i / (a4 - a1) / (a5 - a2)))]) rfl (.load_mid (by rfl) 23 (.tmp 13) rfl (W24.heap.size) 0 rfl [.int .i64 (qv (okAt a1 a2 a3 a4 a5 a6 i) (a1 + i % (a4 - a1))), .int .i64 (qv (okAt a1 a2 a3 a4 a5 a6 i) (a2 + i / (a4 - a1) % (a5 - a2))), .int .i64 (qv (okAt a1 a2 a3 a4 a5 a6 i) (a3 + i / (a4 - a1) / (a5 - a2)))] _ (fun W hg => (R40.out.below (GC46.out.trans hg)).range) Tryd.underlying23 rfl (by kernel_rfl)) ?_
    simp only [Act.put, List.setIfInBounds_toArray, List.set_cons_zero, List.set_cons_succ]
    refine wpG_tk (some 147) (v := .bool true) rfl (.val (by rfl) (fun W hg => by (go_simp <;> first | omega | (repeat' split <;> first | rfl | (exfalso; omega))))) ?_
    simp only [Act.put, List.setIfInBounds_toArray, List.set_cons_zero, List.set_cons_succ]
    refine wpG_tk (some 148) (v := .bool true) rfl (.val (by rfl) (fun W hg => by go_simp)) ?_
    simp only [Act.put, List.setIfInBounds_toArray, List.set_cons_zero, List.set_cons_succ]
    refine wpG_tk (some 149) (v := .bool true) rfl (.val (by rfl) (fun _ _ => rfl)) ?_
    simp only [Act.put, List.setIfInBounds_toArray, List.set_cons_zero, List.set_cons_succ]
    refine wpG_tk (some 150) (v := .bool (okAt a1 a2 a3 a4 a5 a6 i)) rfl (.val (by rfl) (fun _ _ => rfl)) ?_
    simp only [Act.put, List.setIfInBounds_toArray, List.set_cons_zero, List.set_cons_succ]
    refine wpG_tk (some 151) (v := .bool (okAt a1 a2 a3 a4 a5 a6 i)) rfl (.val (by rfl) (fun _ _ => rfl)) ?_
    simp only [Act.put, List.setIfInBounds_toArray, List.set_cons_zero, List.set_cons_succ]
    refine wpG_tk (some 152) (v := .bool true) rfl (.val (by rfl) (fun W hg => by go_simp)) ?_
    simp only [Act.put, List.setIfInBounds_toArray, List.set_cons_zero, List.set_cons_succ]
    refine wpG_tk (some 153) (v := .bool true) rfl (.val (by rfl) (fun W hg => by go_simp)) ?_
    simp only [Act.put, List.setIfInBounds_toArray, List.set_cons_zero, List.set_cons_succ]
    refine wpG_tk (some 10) (v := .bool true) rfl (.val (by rfl) (fun _ _ => rfl)) ?_
    simp only [Act.put, List.setIfInBounds_toArray, List.set_cons_zero, List.set_cons_succ]
    refine wpG_done (fun V47 hv48 => ?_)
    have GC49 := Lib.hid (GC46.out.trans hv48)
    clear hv48
    go_wp2_with fail
    go_ret
    exact ⟨rfl, Gr.to G30.out GC49.out⟩

end Go.Proofs.YthadlgjobjnhcaaDoor
