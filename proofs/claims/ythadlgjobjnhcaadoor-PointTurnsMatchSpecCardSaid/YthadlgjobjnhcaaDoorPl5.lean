/-
  voxellaw04.PointTurnsMatchSpec, its walk.
-/
import Derived.Test.YthadlgjobjnhcaaDoorPsn
import Derived.Test.YthadlgjobjnhcaaDoorPty2
import Derived.Test.YthadlgjobjnhcaaDoorPsz
import Derived.Handy
namespace Go.Proofs.YthadlgjobjnhcaaDoor
open Go.RowKit
set_option linter.unusedVariables false
set_option maxRecDepth 1000000 in
set_option maxHeartbeats 16000000 in
theorem law5 (s t x1 x2 x3 a1 a2 a3 a4 a5 a6 : Int) (nm : ByteArray) (w : World) (hT : Tab w) (i1 : In64 (x1, x2, x3)) (i2 : In64 (a1, a2, a3)) (i3 : In64 (a4, a5, a6)) :
    Calls Tryd.prog 5 #[.int .i64 s, .int .i64 t, .agg #[.int .i64 x1, .int .i64 x2, .int .i64 x3], .agg #[.int .i64 a1, .int .i64 a2, .int .i64 a3, .int .i64 a4, .int .i64 a5, .int .i64 a6], .string nm] w fun e w' => e = .returned (.bool true) ∧ Below w.heap.size w w' := by
  have hc : [(x1, x2, x3), (a1, a2, a3), (a4, a5, a6)].all inR = false ∨ ([(x1, x2, x3), (a1, a2, a3), (a4, a5, a6)].all inR = true ∧ (nm.size : Int) > 100) ∨ ([(x1, x2, x3), (a1, a2, a3), (a4, a5, a6)].all inR = true ∧ ¬ (nm.size : Int) > 100) := by
    cases h : [(x1, x2, x3), (a1, a2, a3), (a4, a5, a6)].all inR with
    | false => exact .inl rfl
    | true => right; by_cases h1 : (nm.size : Int) > 100 <;> simp [h1]
  rcases hc with hs | ⟨hs, h1⟩ | ⟨hs, h1⟩
  · have HS := Lib.hid hs
    clear hs
    obtain ⟨u, hu, r0, r1, g0⟩ := rows2 w [.int .i64 x1, .int .i64 x2, .int .i64 x3] 23 [.int .i64 a1, .int .i64 a2, .int .i64 a3, .int .i64 a4, .int .i64 a5, .int .i64 a6] 31
    have R0 := Lib.hid r0
    have R1 := Lib.hid r1
    have G0 := Lib.hid g0
    have HU := Lib.hid hu
    have HT := Lib.hid (hT.below g0)
    clear hT
    clear hu g0 r0 r1
    go_enter Tryd.func5, Tryd.ntmps5
    go_upto_region 1 with fail
    rw [← HU.out]
    refine wpG_region ?_
    refine wpG_tk (some 16) (v := .agg #[.int .i64 x1, .int .i64 x2, .int .i64 x3]) rfl (.load_mid (by rfl) 23 (.tmp 7) rfl (w.heap.size) 0 rfl [.int .i64 x1, .int .i64 x2, .int .i64 x3] _ (fun W hg => (R0.out.below hg).range) Tryd.underlying23 rfl (by kernel_rfl)) ?_
    simp only [Act.put, List.setIfInBounds_toArray, List.set_cons_zero, List.set_cons_succ]
    refine wpG_tk (some 17) (v := .pointer (some ⟨w.heap.size + 1, 0, none⟩)) rfl (.val (by rfl) (fun W hg => by go_simp)) ?_
    simp only [Act.put, List.setIfInBounds_toArray, List.set_cons_zero, List.set_cons_succ]
    refine wpG_tk (some 18) (v := .agg #[.int .i64 a1, .int .i64 a2, .int .i64 a3]) rfl (.load_mid (by rfl) 23 (.tmp 17) rfl (w.heap.size + 1) 0 rfl [.int .i64 a1, .int .i64 a2, .int .i64 a3] _ (fun W hg => (R1.out.below hg).lo) Tryd.underlying23 rfl (by kernel_rfl)) ?_
    simp only [Act.put, List.setIfInBounds_toArray, List.set_cons_zero, List.set_cons_succ]
    refine wpG_tk (some 19) (v := .pointer (some ⟨w.heap.size + 1, 3, none⟩)) rfl (.val (by rfl) (fun W hg => by go_simp)) ?_
    simp only [Act.put, List.setIfInBounds_toArray, List.set_cons_zero, List.set_cons_succ]
    refine wpG_tk (some 20) (v := .agg #[.int .i64 a4, .int .i64 a5, .int .i64 a6]) rfl (.load_mid (by rfl) 23 (.tmp 19) rfl (w.heap.size + 1) 3 rfl [.int .i64 a4, .int .i64 a5, .int .i64 a6] _ (fun W hg => (R1.out.below hg).hi) Tryd.underlying23 rfl (by kernel_rfl)) ?_
    simp only [Act.put, List.setIfInBounds_toArray, List.set_cons_zero, List.set_cons_succ]
    refine wpG_val (some 21) rfl (by rfl) (fun W1 hg2 => ⟨.slice (some ⟨W1.heap.size, 0, none⟩) 3 3, W1.alloc (.cells #[.int .i64 x1, .int .i64 x2, .int .i64 x3, .int .i64 a1, .int .i64 a2, .int .i64 a3, .int .i64 a4, .int .i64 a5, .int .i64 a6] 23), by (go_simp <;> rfl), ?_⟩)
    simp only [Act.put, List.setIfInBounds_toArray, List.set_cons_zero, List.set_cons_succ]
    obtain ⟨U3, hu, rn, gn⟩ : ∃ z, z = W1.alloc (.cells #[.int .i64 x1, .int .i64 x2, .int .i64 x3, .int .i64 a1, .int .i64 a2, .int .i64 a3, .int .i64 a4, .int .i64 a5, .int .i64 a6] 23) ∧ Row W1.heap.size [.int .i64 x1, .int .i64 x2, .int .i64 x3, .int .i64 a1, .int .i64 a2, .int .i64 a3, .int .i64 a4, .int .i64 a5, .int .i64 a6] z ∧ Gr W1 z := ⟨_, rfl, Row.newl W1 [.int .i64 x1, .int .i64 x2, .int .i64 x3, .int .i64 a1, .int .i64 a2, .int .i64 a3, .int .i64 a4, .int .i64 a5, .int .i64 a6] 23, Gr.al _ _⟩
    rw [← hu]
    have RN4 := Lib.hid rn
    have GB5 := Lib.hid (Gr.trans hg2 gn)
    clear hu rn gn hg2
    refine wpG_tk (some 22) (v := .bool false) rfl (.call (f := 11) (args := #[.slice (some ⟨W1.heap.size, 0, none⟩) 3 3]) (by rfl) (fun W => by go_simp) (fun W hg => small_is [(x1, x2, x3), (a1, a2, a3), (a4, a5, a6)] W1.heap.size 3 false W rfl (by decide) (RN4.out.below hg) (List.forall_mem_cons.2 ⟨i1, (List.forall_mem_cons.2 ⟨i2, (List.forall_mem_cons.2 ⟨i3, (fun _ h => absurd h List.not_mem_nil)⟩)⟩)⟩) HS.out)) ?_
    simp only [Act.put, List.setIfInBounds_toArray, List.set_cons_zero, List.set_cons_succ]
    refine wpG_tk (some 23) (v := .bool true) rfl (.val (by rfl) (fun W hg => by go_simp)) ?_
    simp only [Act.put, List.setIfInBounds_toArray, List.set_cons_zero, List.set_cons_succ]
    refine wpG_tk (some 24) (v := .bool true) rfl (.val (by rfl) (fun _ _ => rfl)) ?_
    simp only [Act.put, List.setIfInBounds_toArray, List.set_cons_zero, List.set_cons_succ]
    refine wpG_tk (some 25) (v := undef) rfl (.no (by rfl)) ?_
    simp only [Act.put, List.setIfInBounds_toArray, List.set_cons_zero, List.set_cons_succ]
    refine wpG_tk (some 26) (v := undef) rfl (.no (by rfl)) ?_
    simp only [Act.put, List.setIfInBounds_toArray, List.set_cons_zero, List.set_cons_succ]
    refine wpG_tk (some 27) (v := undef) rfl (.no (by rfl)) ?_
    simp only [Act.put, List.setIfInBounds_toArray, List.set_cons_zero, List.set_cons_succ]
    refine wpG_tk (some 28) (v := .bool true) rfl (.val (by rfl) (fun W hg => by go_simp)) ?_
    simp only [Act.put, List.setIfInBounds_toArray, List.set_cons_zero, List.set_cons_succ]
    refine wpG_done (fun V6 hv7 => ?_)
    have GC8 := Lib.hid (GB5.out.trans hv7)
    clear hv7
    go_upto_region 2 with fail
    refine wpG_region ?_
    refine wpG_tk (some 29) (v := .bool true) rfl (.call (f := 12) (args := #[]) (by rfl) (fun W => by go_simp) (fun W hg => sanity_any W (HT.out.below (GC8.out.trans hg)))) ?_
    simp only [Act.put, List.setIfInBounds_toArray, List.set_cons_zero, List.set_cons_succ]
    refine wpG_tk (some 10) (v := .bool true) rfl (.val (by rfl) (fun _ _ => rfl)) ?_
    simp only [Act.put, List.setIfInBounds_toArray, List.set_cons_zero, List.set_cons_succ]
    refine wpG_done (fun V9 hv10 => ?_)
    have GC11 := Lib.hid (GC8.out.trans hv10)
    clear hv10
    go_wp2_with fail
    go_ret
    exact ⟨rfl, Gr.to G0.out GC11.out⟩
  · have HS := Lib.hid hs
    clear hs
    obtain ⟨u, hu, r0, r1, g0⟩ := rows2 w [.int .i64 x1, .int .i64 x2, .int .i64 x3] 23 [.int .i64 a1, .int .i64 a2, .int .i64 a3, .int .i64 a4, .int .i64 a5, .int .i64 a6] 31
    have R0 := Lib.hid r0
    have R1 := Lib.hid r1
    have G0 := Lib.hid g0
    have HU := Lib.hid hu
    have HT := Lib.hid (hT.below g0)
    clear hT
    clear hu g0 r0 r1
    go_enter Tryd.func5, Tryd.ntmps5
    go_upto_region 1 with fail
    rw [← HU.out]
    refine wpG_region ?_
    refine wpG_tk (some 16) (v := .agg #[.int .i64 x1, .int .i64 x2, .int .i64 x3]) rfl (.load_mid (by rfl) 23 (.tmp 7) rfl (w.heap.size) 0 rfl [.int .i64 x1, .int .i64 x2, .int .i64 x3] _ (fun W hg => (R0.out.below hg).range) Tryd.underlying23 rfl (by kernel_rfl)) ?_
    simp only [Act.put, List.setIfInBounds_toArray, List.set_cons_zero, List.set_cons_succ]
    refine wpG_tk (some 17) (v := .pointer (some ⟨w.heap.size + 1, 0, none⟩)) rfl (.val (by rfl) (fun W hg => by go_simp)) ?_
    simp only [Act.put, List.setIfInBounds_toArray, List.set_cons_zero, List.set_cons_succ]
    refine wpG_tk (some 18) (v := .agg #[.int .i64 a1, .int .i64 a2, .int .i64 a3]) rfl (.load_mid (by rfl) 23 (.tmp 17) rfl (w.heap.size + 1) 0 rfl [.int .i64 a1, .int .i64 a2, .int .i64 a3] _ (fun W hg => (R1.out.below hg).lo) Tryd.underlying23 rfl (by kernel_rfl)) ?_
    simp only [Act.put, List.setIfInBounds_toArray, List.set_cons_zero, List.set_cons_succ]
    refine wpG_tk (some 19) (v := .pointer (some ⟨w.heap.size + 1, 3, none⟩)) rfl (.val (by rfl) (fun W hg => by go_simp)) ?_
    simp only [Act.put, List.setIfInBounds_toArray, List.set_cons_zero, List.set_cons_succ]
    refine wpG_tk (some 20) (v := .agg #[.int .i64 a4, .int .i64 a5, .int .i64 a6]) rfl (.load_mid (by rfl) 23 (.tmp 19) rfl (w.heap.size + 1) 3 rfl [.int .i64 a4, .int .i64 a5, .int .i64 a6] _ (fun W hg => (R1.out.below hg).hi) Tryd.underlying23 rfl (by kernel_rfl)) ?_
    simp only [Act.put, List.setIfInBounds_toArray, List.set_cons_zero, List.set_cons_succ]
    refine wpG_val (some 21) rfl (by rfl) (fun W1 hg2 => ⟨.slice (some ⟨W1.heap.size, 0, none⟩) 3 3, W1.alloc (.cells #[.int .i64 x1, .int .i64 x2, .int .i64 x3, .int .i64 a1, .int .i64 a2, .int .i64 a3, .int .i64 a4, .int .i64 a5, .int .i64 a6] 23), by (go_simp <;> rfl), ?_⟩)
    simp only [Act.put, List.setIfInBounds_toArray, List.set_cons_zero, List.set_cons_succ]
    obtain ⟨U3, hu, rn, gn⟩ : ∃ z, z = W1.alloc (.cells #[.int .i64 x1, .int .i64 x2, .int .i64 x3, .int .i64 a1, .int .i64 a2, .int .i64 a3, .int .i64 a4, .int .i64 a5, .int .i64 a6] 23) ∧ Row W1.heap.size [.int .i64 x1, .int .i64 x2, .int .i64 x3, .int .i64 a1, .int .i64 a2, .int .i64 a3, .int .i64 a4, .int .i64 a5, .int .i64 a6] z ∧ Gr W1 z := ⟨_, rfl, Row.newl W1 [.int .i64 x1, .int .i64 x2, .int .i64 x3, .int .i64 a1, .int .i64 a2, .int .i64 a3, .int .i64 a4, .int .i64 a5, .int .i64 a6] 23, Gr.al _ _⟩
    rw [← hu]
    have RN4 := Lib.hid rn
    have GB5 := Lib.hid (Gr.trans hg2 gn)
    clear hu rn gn hg2
    refine wpG_tk (some 22) (v := .bool true) rfl (.call (f := 11) (args := #[.slice (some ⟨W1.heap.size, 0, none⟩) 3 3]) (by rfl) (fun W => by go_simp) (fun W hg => small_is [(x1, x2, x3), (a1, a2, a3), (a4, a5, a6)] W1.heap.size 3 true W rfl (by decide) (RN4.out.below hg) (List.forall_mem_cons.2 ⟨i1, (List.forall_mem_cons.2 ⟨i2, (List.forall_mem_cons.2 ⟨i3, (fun _ h => absurd h List.not_mem_nil)⟩)⟩)⟩) HS.out)) ?_
    simp only [Act.put, List.setIfInBounds_toArray, List.set_cons_zero, List.set_cons_succ]
    refine wpG_tk (some 23) (v := .bool false) rfl (.val (by rfl) (fun W hg => by go_simp)) ?_
    simp only [Act.put, List.setIfInBounds_toArray, List.set_cons_zero, List.set_cons_succ]
    refine wpG_tk (some 24) (v := .bool false) rfl (.val (by rfl) (fun _ _ => rfl)) ?_
    simp only [Act.put, List.setIfInBounds_toArray, List.set_cons_zero, List.set_cons_succ]
    refine wpG_tk (some 25) (v := .string nm) rfl (.val (by rfl) (fun _ _ => rfl)) ?_
    simp only [Act.put, List.setIfInBounds_toArray, List.set_cons_zero, List.set_cons_succ]
    refine wpG_tk (some 26) (v := .int .i64 (nm.size : Int)) rfl (.val (by rfl) (fun W hg => by go_simp)) ?_
    simp only [Act.put, List.setIfInBounds_toArray, List.set_cons_zero, List.set_cons_succ]
    refine wpG_tk (some 27) (v := .bool true) rfl (.val (by rfl) (fun W hg => by have hq : ((nm.size : Int) > 100) := (by omega); first | (go_simp; done) | (go_simp <;> omega))) ?_
    simp only [Act.put, List.setIfInBounds_toArray, List.set_cons_zero, List.set_cons_succ]
    refine wpG_tk (some 28) (v := .bool true) rfl (.val (by rfl) (fun W hg => by go_simp)) ?_
    simp only [Act.put, List.setIfInBounds_toArray, List.set_cons_zero, List.set_cons_succ]
    refine wpG_done (fun V6 hv7 => ?_)
    have GC8 := Lib.hid (GB5.out.trans hv7)
    clear hv7
    go_upto_region 2 with fail
    refine wpG_region ?_
    refine wpG_tk (some 29) (v := .bool true) rfl (.call (f := 12) (args := #[]) (by rfl) (fun W => by go_simp) (fun W hg => sanity_any W (HT.out.below (GC8.out.trans hg)))) ?_
    simp only [Act.put, List.setIfInBounds_toArray, List.set_cons_zero, List.set_cons_succ]
    refine wpG_tk (some 10) (v := .bool true) rfl (.val (by rfl) (fun _ _ => rfl)) ?_
    simp only [Act.put, List.setIfInBounds_toArray, List.set_cons_zero, List.set_cons_succ]
    refine wpG_done (fun V9 hv10 => ?_)
    have GC11 := Lib.hid (GC8.out.trans hv10)
    clear hv10
    go_wp2_with fail
    go_ret
    exact ⟨rfl, Gr.to G0.out GC11.out⟩
  · have hb := hs
    simp only [List.all_cons, List.all_nil, Bool.and_true, Bool.and_eq_true, inR_true] at hb
    have HS := Lib.hid hs
    clear hs
    obtain ⟨u, hu, r0, r1, g0⟩ := rows2 w [.int .i64 x1, .int .i64 x2, .int .i64 x3] 23 [.int .i64 a1, .int .i64 a2, .int .i64 a3, .int .i64 a4, .int .i64 a5, .int .i64 a6] 31
    have R0 := Lib.hid r0
    have R1 := Lib.hid r1
    have G0 := Lib.hid g0
    have HU := Lib.hid hu
    have HT := Lib.hid (hT.below g0)
    clear hT
    clear hu g0 r0 r1
    go_enter Tryd.func5, Tryd.ntmps5
    go_upto_region 1 with fail
    rw [← HU.out]
    refine wpG_region ?_
    refine wpG_tk (some 16) (v := .agg #[.int .i64 x1, .int .i64 x2, .int .i64 x3]) rfl (.load_mid (by rfl) 23 (.tmp 7) rfl (w.heap.size) 0 rfl [.int .i64 x1, .int .i64 x2, .int .i64 x3] _ (fun W hg => (R0.out.below hg).range) Tryd.underlying23 rfl (by kernel_rfl)) ?_
    simp only [Act.put, List.setIfInBounds_toArray, List.set_cons_zero, List.set_cons_succ]
    refine wpG_tk (some 17) (v := .pointer (some ⟨w.heap.size + 1, 0, none⟩)) rfl (.val (by rfl) (fun W hg => by go_simp)) ?_
    simp only [Act.put, List.setIfInBounds_toArray, List.set_cons_zero, List.set_cons_succ]
    refine wpG_tk (some 18) (v := .agg #[.int .i64 a1, .int .i64 a2, .int .i64 a3]) rfl (.load_mid (by rfl) 23 (.tmp 17) rfl (w.heap.size + 1) 0 rfl [.int .i64 a1, .int .i64 a2, .int .i64 a3] _ (fun W hg => (R1.out.below hg).lo) Tryd.underlying23 rfl (by kernel_rfl)) ?_
    simp only [Act.put, List.setIfInBounds_toArray, List.set_cons_zero, List.set_cons_succ]
    refine wpG_tk (some 19) (v := .pointer (some ⟨w.heap.size + 1, 3, none⟩)) rfl (.val (by rfl) (fun W hg => by go_simp)) ?_
    simp only [Act.put, List.setIfInBounds_toArray, List.set_cons_zero, List.set_cons_succ]
    refine wpG_tk (some 20) (v := .agg #[.int .i64 a4, .int .i64 a5, .int .i64 a6]) rfl (.load_mid (by rfl) 23 (.tmp 19) rfl (w.heap.size + 1) 3 rfl [.int .i64 a4, .int .i64 a5, .int .i64 a6] _ (fun W hg => (R1.out.below hg).hi) Tryd.underlying23 rfl (by kernel_rfl)) ?_
    simp only [Act.put, List.setIfInBounds_toArray, List.set_cons_zero, List.set_cons_succ]
    refine wpG_val (some 21) rfl (by rfl) (fun W1 hg2 => ⟨.slice (some ⟨W1.heap.size, 0, none⟩) 3 3, W1.alloc (.cells #[.int .i64 x1, .int .i64 x2, .int .i64 x3, .int .i64 a1, .int .i64 a2, .int .i64 a3, .int .i64 a4, .int .i64 a5, .int .i64 a6] 23), by (go_simp <;> rfl), ?_⟩)
    simp only [Act.put, List.setIfInBounds_toArray, List.set_cons_zero, List.set_cons_succ]
    obtain ⟨U3, hu, rn, gn⟩ : ∃ z, z = W1.alloc (.cells #[.int .i64 x1, .int .i64 x2, .int .i64 x3, .int .i64 a1, .int .i64 a2, .int .i64 a3, .int .i64 a4, .int .i64 a5, .int .i64 a6] 23) ∧ Row W1.heap.size [.int .i64 x1, .int .i64 x2, .int .i64 x3, .int .i64 a1, .int .i64 a2, .int .i64 a3, .int .i64 a4, .int .i64 a5, .int .i64 a6] z ∧ Gr W1 z := ⟨_, rfl, Row.newl W1 [.int .i64 x1, .int .i64 x2, .int .i64 x3, .int .i64 a1, .int .i64 a2, .int .i64 a3, .int .i64 a4, .int .i64 a5, .int .i64 a6] 23, Gr.al _ _⟩
    rw [← hu]
    have RN4 := Lib.hid rn
    have GB5 := Lib.hid (Gr.trans hg2 gn)
    clear hu rn gn hg2
    refine wpG_tk (some 22) (v := .bool true) rfl (.call (f := 11) (args := #[.slice (some ⟨W1.heap.size, 0, none⟩) 3 3]) (by rfl) (fun W => by go_simp) (fun W hg => small_is [(x1, x2, x3), (a1, a2, a3), (a4, a5, a6)] W1.heap.size 3 true W rfl (by decide) (RN4.out.below hg) (List.forall_mem_cons.2 ⟨i1, (List.forall_mem_cons.2 ⟨i2, (List.forall_mem_cons.2 ⟨i3, (fun _ h => absurd h List.not_mem_nil)⟩)⟩)⟩) HS.out)) ?_
    simp only [Act.put, List.setIfInBounds_toArray, List.set_cons_zero, List.set_cons_succ]
    refine wpG_tk (some 23) (v := .bool false) rfl (.val (by rfl) (fun W hg => by go_simp)) ?_
    simp only [Act.put, List.setIfInBounds_toArray, List.set_cons_zero, List.set_cons_succ]
    refine wpG_tk (some 24) (v := .bool false) rfl (.val (by rfl) (fun _ _ => rfl)) ?_
    simp only [Act.put, List.setIfInBounds_toArray, List.set_cons_zero, List.set_cons_succ]
    refine wpG_tk (some 25) (v := .string nm) rfl (.val (by rfl) (fun _ _ => rfl)) ?_
    simp only [Act.put, List.setIfInBounds_toArray, List.set_cons_zero, List.set_cons_succ]
    refine wpG_tk (some 26) (v := .int .i64 (nm.size : Int)) rfl (.val (by rfl) (fun W hg => by go_simp)) ?_
    simp only [Act.put, List.setIfInBounds_toArray, List.set_cons_zero, List.set_cons_succ]
    refine wpG_tk (some 27) (v := .bool false) rfl (.val (by rfl) (fun W hg => by have hq : ¬ ((nm.size : Int) > 100) := (by omega); first | (go_simp; done) | (go_simp <;> omega))) ?_
    simp only [Act.put, List.setIfInBounds_toArray, List.set_cons_zero, List.set_cons_succ]
    refine wpG_tk (some 28) (v := .bool false) rfl (.val (by rfl) (fun W hg => by go_simp)) ?_
    simp only [Act.put, List.setIfInBounds_toArray, List.set_cons_zero, List.set_cons_succ]
    refine wpG_done (fun V6 hv7 => ?_)
    have GC8 := Lib.hid (GB5.out.trans hv7)
    clear hv7
    go_upto_region 3 with fail
    refine wpG_region ?_
    refine wpG_tk (some 31) (v := .string nm) rfl (.val (by rfl) (fun _ _ => rfl)) ?_
    simp only [Act.put, List.setIfInBounds_toArray, List.set_cons_zero, List.set_cons_succ]
    refine wpG_tk (some 32) (v := .tuple #[.int .i64 (max (fst (isName nm)) 0), .bool (decide (0 ≤ fst (isName nm)))]) rfl (.call (f := 45) (args := #[.string nm]) (by rfl) (fun W => by go_simp) (fun W hg => find_any nm W (HT.out.below (GC8.out.trans hg)) )) ?_
    simp only [Act.put, List.setIfInBounds_toArray, List.set_cons_zero, List.set_cons_succ]
    refine wpG_tk (some 30) (v := .tuple #[.int .i64 (max (fst (isName nm)) 0), .bool (decide (0 ≤ fst (isName nm)))]) rfl (.val (by rfl) (fun _ _ => rfl)) ?_
    simp only [Act.put, List.setIfInBounds_toArray, List.set_cons_zero, List.set_cons_succ]
    refine wpG_tk (some 33) (v := .int .i64 (max (fst (isName nm)) 0)) rfl (.val (by rfl) (fun W hg => by go_simp)) ?_
    simp only [Act.put, List.setIfInBounds_toArray, List.set_cons_zero, List.set_cons_succ]
    refine wpG_tk (some 34) (v := .bool (decide (0 ≤ fst (isName nm)))) rfl (.val (by rfl) (fun W hg => by go_simp)) ?_
    simp only [Act.put, List.setIfInBounds_toArray, List.set_cons_zero, List.set_cons_succ]
    refine wpG_tk (some 11) (v := .int .i64 (max (fst (isName nm)) 0)) rfl (.val (by rfl) (fun _ _ => rfl)) ?_
    simp only [Act.put, List.setIfInBounds_toArray, List.set_cons_zero, List.set_cons_succ]
    refine wpG_tk (some 12) (v := .bool (decide (0 ≤ fst (isName nm)))) rfl (.val (by rfl) (fun _ _ => rfl)) ?_
    simp only [Act.put, List.setIfInBounds_toArray, List.set_cons_zero, List.set_cons_succ]
    refine wpG_done (fun V9 hv10 => ?_)
    have GC11 := Lib.hid (GC8.out.trans hv10)
    clear hv10
    go_upto_region 4 with fail
    refine wpG_region ?_
    refine wpG_tk (some 36) (v := .string nm) rfl (.val (by rfl) (fun _ _ => rfl)) ?_
    simp only [Act.put, List.setIfInBounds_toArray, List.set_cons_zero, List.set_cons_succ]
    refine wpG_tk (some 37) (v := .tuple #[.int .i64 (max (fst (isName nm)) 0), .bool (decide (0 ≤ fst (isName nm)))]) rfl (.call (f := 46) (args := #[.string nm]) (by rfl) (fun W => by go_simp) (fun W hg => rfind_any nm W )) ?_
    simp only [Act.put, List.setIfInBounds_toArray, List.set_cons_zero, List.set_cons_succ]
    refine wpG_tk (some 35) (v := .tuple #[.int .i64 (max (fst (isName nm)) 0), .bool (decide (0 ≤ fst (isName nm)))]) rfl (.val (by rfl) (fun _ _ => rfl)) ?_
    simp only [Act.put, List.setIfInBounds_toArray, List.set_cons_zero, List.set_cons_succ]
    refine wpG_tk (some 38) (v := .int .i64 (max (fst (isName nm)) 0)) rfl (.val (by rfl) (fun W hg => by go_simp)) ?_
    simp only [Act.put, List.setIfInBounds_toArray, List.set_cons_zero, List.set_cons_succ]
    refine wpG_tk (some 39) (v := .bool (decide (0 ≤ fst (isName nm)))) rfl (.val (by rfl) (fun W hg => by go_simp)) ?_
    simp only [Act.put, List.setIfInBounds_toArray, List.set_cons_zero, List.set_cons_succ]
    refine wpG_tk (some 13) (v := .int .i64 (max (fst (isName nm)) 0)) rfl (.val (by rfl) (fun _ _ => rfl)) ?_
    simp only [Act.put, List.setIfInBounds_toArray, List.set_cons_zero, List.set_cons_succ]
    refine wpG_tk (some 14) (v := .bool (decide (0 ≤ fst (isName nm)))) rfl (.val (by rfl) (fun _ _ => rfl)) ?_
    simp only [Act.put, List.setIfInBounds_toArray, List.set_cons_zero, List.set_cons_succ]
    refine wpG_done (fun V12 hv13 => ?_)
    have GC14 := Lib.hid (GC11.out.trans hv13)
    clear hv13
    go_upto_region 5 with fail
    refine wpK_region (by kernel_rfl) ?_
    refine wpK_ta (i := 0) (some 40) (v := .int .i64 s) rfl rfl (by kernel_rfl) (fun _ _ _ h => h) (Or.inl ⟨rfl, fun _ => rfl⟩) ?_
    simp only [Act.put, List.setIfInBounds_toArray, List.set_cons_zero, List.set_cons_succ]
    refine wpK_tk (i := 1) (some 41) (v := .agg #[.int .i64 x1, .int .i64 x2, .int .i64 x3]) rfl rfl (by kernel_rfl) (fun _ _ _ h => h) (.load_mid (by rfl) 23 (.tmp 7) rfl (w.heap.size) 0 rfl [.int .i64 x1, .int .i64 x2, .int .i64 x3] _ (fun W hg => (R0.out.below (GC14.out.trans (Gr.un hg))).range) Tryd.underlying23 rfl (by kernel_rfl)) ?_
    simp only [Act.put, List.setIfInBounds_toArray, List.set_cons_zero, List.set_cons_succ]
    refine wpK_tk (i := 2) (some 42) (v := .agg #[.int .i64 (tnB (isS s) 0 s.toNat 0 x1 x2 x3), .int .i64 (tnB (isS s) 0 s.toNat 1 x1 x2 x3), .int .i64 (tnB (isS s) 0 s.toNat 2 x1 x2 x3)]) rfl rfl (by kernel_rfl) (fun _ _ _ h => h) (.call (f := 47) (args := #[.int .i64 s, .agg #[.int .i64 x1, .int .i64 x2, .int .i64 x3]]) (by rfl) (fun W => by go_simp) (fun W hg => turn_s s x1 x2 x3 W (HT.out.below (GC14.out.trans (Gr.un hg))) (by omega))) ?_
    simp only [Act.put, List.setIfInBounds_toArray, List.set_cons_zero, List.set_cons_succ]
    refine wpK_ta (i := 3) (some 43) (v := .int .i64 s) rfl rfl (by kernel_rfl) (fun _ _ _ h => h) (Or.inl ⟨rfl, fun _ => rfl⟩) ?_
    simp only [Act.put, List.setIfInBounds_toArray, List.set_cons_zero, List.set_cons_succ]
    refine wpK_tk (i := 4) (some 44) (v := .agg #[.int .i64 x1, .int .i64 x2, .int .i64 x3]) rfl rfl (by kernel_rfl) (fun _ _ _ h => h) (.load_mid (by rfl) 23 (.tmp 7) rfl (w.heap.size) 0 rfl [.int .i64 x1, .int .i64 x2, .int .i64 x3] _ (fun W hg => (R0.out.below (GC14.out.trans (Gr.un hg))).range) Tryd.underlying23 rfl (by kernel_rfl)) ?_
    simp only [Act.put, List.setIfInBounds_toArray, List.set_cons_zero, List.set_cons_succ]
    refine wpK_tk (i := 5) (some 45) (v := .agg #[.int .i64 (tnB (isS s) 0 s.toNat 0 x1 x2 x3), .int .i64 (tnB (isS s) 0 s.toNat 1 x1 x2 x3), .int .i64 (tnB (isS s) 0 s.toNat 2 x1 x2 x3)]) rfl rfl (by kernel_rfl) (fun _ _ _ h => h) (.call (f := 48) (args := #[.int .i64 s, .agg #[.int .i64 x1, .int .i64 x2, .int .i64 x3]]) (by rfl) (fun W => by go_simp) (fun W hg => rturn_s s x1 x2 x3 W (by omega))) ?_
    simp only [Act.put, List.setIfInBounds_toArray, List.set_cons_zero, List.set_cons_succ]
    refine wpK_ta (i := 6) (some 46) (v := .bool true) rfl rfl (by kernel_rfl) (fun _ _ _ h => h) (Or.inl ⟨by rfl, fun W => by (go_simp <;> first | omega | (repeat' split <;> first | rfl | (exfalso; omega)))⟩) ?_
    simp only [Act.put, List.setIfInBounds_toArray, List.set_cons_zero, List.set_cons_succ]
    refine wpK_ta (i := 7) (some 47) (v := .bool true) rfl rfl (by kernel_rfl) (fun _ _ _ h => h) (Or.inl ⟨rfl, fun _ => rfl⟩) ?_
    simp only [Act.put, List.setIfInBounds_toArray, List.set_cons_zero, List.set_cons_succ]
    refine wpK_ta (i := 8) (some 48) (v := .int .i64 s) rfl rfl (by kernel_rfl) (fun _ _ _ h => h) (Or.inl ⟨rfl, fun _ => rfl⟩) ?_
    simp only [Act.put, List.setIfInBounds_toArray, List.set_cons_zero, List.set_cons_succ]
    refine wpK_tk (i := 9) (some 49) (v := .agg #[.int .i64 x1, .int .i64 x2, .int .i64 x3]) rfl rfl (by kernel_rfl) (fun _ _ _ h => h) (.load_mid (by rfl) 23 (.tmp 7) rfl (w.heap.size) 0 rfl [.int .i64 x1, .int .i64 x2, .int .i64 x3] _ (fun W hg => (R0.out.below (GC14.out.trans (Gr.un hg))).range) Tryd.underlying23 rfl (by kernel_rfl)) ?_
    simp only [Act.put, List.setIfInBounds_toArray, List.set_cons_zero, List.set_cons_succ]
    refine wpK_tk (i := 10) (some 50) (v := .agg #[.int .i64 (tnB (isS s) 1 s.toNat 0 x1 x2 x3), .int .i64 (tnB (isS s) 1 s.toNat 1 x1 x2 x3), .int .i64 (tnB (isS s) 1 s.toNat 2 x1 x2 x3)]) rfl rfl (by kernel_rfl) (fun _ _ _ h => h) (.call (f := 49) (args := #[.int .i64 s, .agg #[.int .i64 x1, .int .i64 x2, .int .i64 x3]]) (by rfl) (fun W => by go_simp) (fun W hg => turncell_s s x1 x2 x3 W (HT.out.below (GC14.out.trans (Gr.un hg))) (by omega))) ?_
    simp only [Act.put, List.setIfInBounds_toArray, List.set_cons_zero, List.set_cons_succ]
    refine wpK_ta (i := 11) (some 51) (v := .int .i64 s) rfl rfl (by kernel_rfl) (fun _ _ _ h => h) (Or.inl ⟨rfl, fun _ => rfl⟩) ?_
    simp only [Act.put, List.setIfInBounds_toArray, List.set_cons_zero, List.set_cons_succ]
    refine wpK_tk (i := 12) (some 52) (v := .agg #[.int .i64 x1, .int .i64 x2, .int .i64 x3]) rfl rfl (by kernel_rfl) (fun _ _ _ h => h) (.load_mid (by rfl) 23 (.tmp 7) rfl (w.heap.size) 0 rfl [.int .i64 x1, .int .i64 x2, .int .i64 x3] _ (fun W hg => (R0.out.below (GC14.out.trans (Gr.un hg))).range) Tryd.underlying23 rfl (by kernel_rfl)) ?_
    simp only [Act.put, List.setIfInBounds_toArray, List.set_cons_zero, List.set_cons_succ]
    refine wpK_tk (i := 13) (some 53) (v := .agg #[.int .i64 (tnB (isS s) 1 s.toNat 0 x1 x2 x3), .int .i64 (tnB (isS s) 1 s.toNat 1 x1 x2 x3), .int .i64 (tnB (isS s) 1 s.toNat 2 x1 x2 x3)]) rfl rfl (by kernel_rfl) (fun _ _ _ h => h) (.call (f := 50) (args := #[.int .i64 s, .agg #[.int .i64 x1, .int .i64 x2, .int .i64 x3]]) (by rfl) (fun W => by go_simp) (fun W hg => rturncell_s s x1 x2 x3 W (by omega))) ?_
    simp only [Act.put, List.setIfInBounds_toArray, List.set_cons_zero, List.set_cons_succ]
    refine wpK_ta (i := 14) (some 54) (v := .bool true) rfl rfl (by kernel_rfl) (fun _ _ _ h => h) (Or.inl ⟨by rfl, fun W => by (go_simp <;> first | omega | (repeat' split <;> first | rfl | (exfalso; omega)))⟩) ?_
    simp only [Act.put, List.setIfInBounds_toArray, List.set_cons_zero, List.set_cons_succ]
    refine wpK_ta (i := 15) (some 55) (v := .bool true) rfl rfl (by kernel_rfl) (fun _ _ _ h => h) (Or.inl ⟨by rfl, fun W => by go_simp⟩) ?_
    simp only [Act.put, List.setIfInBounds_toArray, List.set_cons_zero, List.set_cons_succ]
    refine wpK_ta (i := 16) (some 56) (v := .bool true) rfl rfl (by kernel_rfl) (fun _ _ _ h => h) (Or.inl ⟨rfl, fun _ => rfl⟩) ?_
    simp only [Act.put, List.setIfInBounds_toArray, List.set_cons_zero, List.set_cons_succ]
    refine wpK_ta (i := 17) (some 57) (v := .int .i64 s) rfl rfl (by kernel_rfl) (fun _ _ _ h => h) (Or.inl ⟨rfl, fun _ => rfl⟩) ?_
    simp only [Act.put, List.setIfInBounds_toArray, List.set_cons_zero, List.set_cons_succ]
    refine wpK_tk (i := 18) (some 58) (v := .agg #[.int .i64 a1, .int .i64 a2, .int .i64 a3, .int .i64 a4, .int .i64 a5, .int .i64 a6]) rfl rfl (by kernel_rfl) (fun _ _ _ h => h) (.load_mid (by rfl) 31 (.tmp 8) rfl (w.heap.size + 1) 0 rfl [.int .i64 a1, .int .i64 a2, .int .i64 a3, .int .i64 a4, .int .i64 a5, .int .i64 a6] _ (fun W hg => (R1.out.below (GC14.out.trans (Gr.un hg))).range) Tryd.underlying31 rfl (by kernel_rfl)) ?_
    simp only [Act.put, List.setIfInBounds_toArray, List.set_cons_zero, List.set_cons_succ]
    refine wpK_tk (i := 19) (some 59) (v := .agg #[.int .i64 (tbB (isS s) (Pt.emp a1 a2 a3 a4 a5 a6) a1 (min (Pt.tc 0 s.toNat 0 a1 a2 a3) (Pt.tc 0 s.toNat 0 a4 a5 a6))), .int .i64 (tbB (isS s) (Pt.emp a1 a2 a3 a4 a5 a6) a2 (min (Pt.tc 0 s.toNat 1 a1 a2 a3) (Pt.tc 0 s.toNat 1 a4 a5 a6))), .int .i64 (tbB (isS s) (Pt.emp a1 a2 a3 a4 a5 a6) a3 (min (Pt.tc 0 s.toNat 2 a1 a2 a3) (Pt.tc 0 s.toNat 2 a4 a5 a6))), .int .i64 (tbB (isS s) (Pt.emp a1 a2 a3 a4 a5 a6) a4 (max (Pt.tc 0 s.toNat 0 a1 a2 a3) (Pt.tc 0 s.toNat 0 a4 a5 a6))), .int .i64 (tbB (isS s) (Pt.emp a1 a2 a3 a4 a5 a6) a5 (max (Pt.tc 0 s.toNat 1 a1 a2 a3) (Pt.tc 0 s.toNat 1 a4 a5 a6))), .int .i64 (tbB (isS s) (Pt.emp a1 a2 a3 a4 a5 a6) a6 (max (Pt.tc 0 s.toNat 2 a1 a2 a3) (Pt.tc 0 s.toNat 2 a4 a5 a6)))]) rfl rfl (by kernel_rfl) (fun _ _ _ h => h) (.call (f := 51) (args := #[.int .i64 s, .agg #[.int .i64 a1, .int .i64 a2, .int .i64 a3, .int .i64 a4, .int .i64 a5, .int .i64 a6]]) (by rfl) (fun W => by go_simp) (fun W hg => turnbox_s s a1 a2 a3 a4 a5 a6 W (HT.out.below (GC14.out.trans (Gr.un hg))) (by omega))) ?_
    simp only [Act.put, List.setIfInBounds_toArray, List.set_cons_zero, List.set_cons_succ]
    refine wpK_ta (i := 20) (some 60) (v := .int .i64 s) rfl rfl (by kernel_rfl) (fun _ _ _ h => h) (Or.inl ⟨rfl, fun _ => rfl⟩) ?_
    simp only [Act.put, List.setIfInBounds_toArray, List.set_cons_zero, List.set_cons_succ]
    refine wpK_tk (i := 21) (some 61) (v := .agg #[.int .i64 a1, .int .i64 a2, .int .i64 a3, .int .i64 a4, .int .i64 a5, .int .i64 a6]) rfl rfl (by kernel_rfl) (fun _ _ _ h => h) (.load_mid (by rfl) 31 (.tmp 8) rfl (w.heap.size + 1) 0 rfl [.int .i64 a1, .int .i64 a2, .int .i64 a3, .int .i64 a4, .int .i64 a5, .int .i64 a6] _ (fun W hg => (R1.out.below (GC14.out.trans (Gr.un hg))).range) Tryd.underlying31 rfl (by kernel_rfl)) ?_
    simp only [Act.put, List.setIfInBounds_toArray, List.set_cons_zero, List.set_cons_succ]
    refine wpK_tk (i := 22) (some 62) (v := .agg #[.int .i64 (tbB (isS s) (Pt.emp a1 a2 a3 a4 a5 a6) a1 (min (Pt.tc 0 s.toNat 0 a1 a2 a3) (Pt.tc 0 s.toNat 0 a4 a5 a6))), .int .i64 (tbB (isS s) (Pt.emp a1 a2 a3 a4 a5 a6) a2 (min (Pt.tc 0 s.toNat 1 a1 a2 a3) (Pt.tc 0 s.toNat 1 a4 a5 a6))), .int .i64 (tbB (isS s) (Pt.emp a1 a2 a3 a4 a5 a6) a3 (min (Pt.tc 0 s.toNat 2 a1 a2 a3) (Pt.tc 0 s.toNat 2 a4 a5 a6))), .int .i64 (tbB (isS s) (Pt.emp a1 a2 a3 a4 a5 a6) a4 (max (Pt.tc 0 s.toNat 0 a1 a2 a3) (Pt.tc 0 s.toNat 0 a4 a5 a6))), .int .i64 (tbB (isS s) (Pt.emp a1 a2 a3 a4 a5 a6) a5 (max (Pt.tc 0 s.toNat 1 a1 a2 a3) (Pt.tc 0 s.toNat 1 a4 a5 a6))), .int .i64 (tbB (isS s) (Pt.emp a1 a2 a3 a4 a5 a6) a6 (max (Pt.tc 0 s.toNat 2 a1 a2 a3) (Pt.tc 0 s.toNat 2 a4 a5 a6)))]) rfl rfl (by kernel_rfl) (fun _ _ _ h => h) (.call (f := 52) (args := #[.int .i64 s, .agg #[.int .i64 a1, .int .i64 a2, .int .i64 a3, .int .i64 a4, .int .i64 a5, .int .i64 a6]]) (by rfl) (fun W => by go_simp) (fun W hg => rturnbox_s s a1 a2 a3 a4 a5 a6 W (by omega))) ?_
    simp only [Act.put, List.setIfInBounds_toArray, List.set_cons_zero, List.set_cons_succ]
    refine wpK_ta (i := 23) (some 63) (v := .bool true) rfl rfl (by kernel_rfl) (fun _ _ _ h => h) (Or.inl ⟨by rfl, fun W => by (go_simp <;> first | omega | (repeat' split <;> first | rfl | (exfalso; omega)))⟩) ?_
    simp only [Act.put, List.setIfInBounds_toArray, List.set_cons_zero, List.set_cons_succ]
    refine wpK_ta (i := 24) (some 64) (v := .bool true) rfl rfl (by kernel_rfl) (fun _ _ _ h => h) (Or.inl ⟨by rfl, fun W => by go_simp⟩) ?_
    simp only [Act.put, List.setIfInBounds_toArray, List.set_cons_zero, List.set_cons_succ]
    refine wpK_ta (i := 25) (some 65) (v := .bool true) rfl rfl (by kernel_rfl) (fun _ _ _ h => h) (Or.inl ⟨rfl, fun _ => rfl⟩) ?_
    simp only [Act.put, List.setIfInBounds_toArray, List.set_cons_zero, List.set_cons_succ]
    refine wpK_ta (i := 26) (some 66) (v := .int .i64 s) rfl rfl (by kernel_rfl) (fun _ _ _ h => h) (Or.inl ⟨rfl, fun _ => rfl⟩) ?_
    simp only [Act.put, List.setIfInBounds_toArray, List.set_cons_zero, List.set_cons_succ]
    refine wpK_ta (i := 27) (some 67) (v := .int .i64 t) rfl rfl (by kernel_rfl) (fun _ _ _ h => h) (Or.inl ⟨rfl, fun _ => rfl⟩) ?_
    simp only [Act.put, List.setIfInBounds_toArray, List.set_cons_zero, List.set_cons_succ]
    refine wpK_tk (i := 28) (some 68) (v := .int .i64 (cmB (isS s) (isS t) s.toNat t.toNat)) rfl rfl (by kernel_rfl) (fun _ _ _ h => h) (.call (f := 53) (args := #[.int .i64 s, .int .i64 t]) (by rfl) (fun W => by go_simp) (fun W hg => compose_s s t W (HT.out.below (GC14.out.trans (Gr.un hg))) )) ?_
    simp only [Act.put, List.setIfInBounds_toArray, List.set_cons_zero, List.set_cons_succ]
    refine wpK_ta (i := 29) (some 69) (v := .int .i64 s) rfl rfl (by kernel_rfl) (fun _ _ _ h => h) (Or.inl ⟨rfl, fun _ => rfl⟩) ?_
    simp only [Act.put, List.setIfInBounds_toArray, List.set_cons_zero, List.set_cons_succ]
    refine wpK_ta (i := 30) (some 70) (v := .int .i64 t) rfl rfl (by kernel_rfl) (fun _ _ _ h => h) (Or.inl ⟨rfl, fun _ => rfl⟩) ?_
    simp only [Act.put, List.setIfInBounds_toArray, List.set_cons_zero, List.set_cons_succ]
    refine wpK_tk (i := 31) (some 71) (v := .int .i64 (cmB (isS s) (isS t) s.toNat t.toNat)) rfl rfl (by kernel_rfl) (fun _ _ _ h => h) (.call (f := 54) (args := #[.int .i64 s, .int .i64 t]) (by rfl) (fun W => by go_simp) (fun W hg => rcompose_s s t W )) ?_
    simp only [Act.put, List.setIfInBounds_toArray, List.set_cons_zero, List.set_cons_succ]
    refine wpK_ta (i := 32) (some 72) (v := .bool true) rfl rfl (by kernel_rfl) (fun _ _ _ h => h) (Or.inl ⟨by rfl, fun W => by go_simp⟩) ?_
    simp only [Act.put, List.setIfInBounds_toArray, List.set_cons_zero, List.set_cons_succ]
    refine wpK_ta (i := 33) (some 73) (v := .bool true) rfl rfl (by kernel_rfl) (fun _ _ _ h => h) (Or.inl ⟨by rfl, fun W => by go_simp⟩) ?_
    simp only [Act.put, List.setIfInBounds_toArray, List.set_cons_zero, List.set_cons_succ]
    refine wpK_ta (i := 34) (some 74) (v := .bool true) rfl rfl (by kernel_rfl) (fun _ _ _ h => h) (Or.inl ⟨rfl, fun _ => rfl⟩) ?_
    simp only [Act.put, List.setIfInBounds_toArray, List.set_cons_zero, List.set_cons_succ]
    refine wpK_ta (i := 35) (some 75) (v := .int .i64 s) rfl rfl (by kernel_rfl) (fun _ _ _ h => h) (Or.inl ⟨rfl, fun _ => rfl⟩) ?_
    simp only [Act.put, List.setIfInBounds_toArray, List.set_cons_zero, List.set_cons_succ]
    refine wpK_tk (i := 36) (some 76) (v := .int .i64 (ivB (isS s) s.toNat)) rfl rfl (by kernel_rfl) (fun _ _ _ h => h) (.call (f := 55) (args := #[.int .i64 s]) (by rfl) (fun W => by go_simp) (fun W hg => invert_s s W (HT.out.below (GC14.out.trans (Gr.un hg))) )) ?_
    simp only [Act.put, List.setIfInBounds_toArray, List.set_cons_zero, List.set_cons_succ]
    refine wpK_ta (i := 37) (some 77) (v := .int .i64 s) rfl rfl (by kernel_rfl) (fun _ _ _ h => h) (Or.inl ⟨rfl, fun _ => rfl⟩) ?_
    simp only [Act.put, List.setIfInBounds_toArray, List.set_cons_zero, List.set_cons_succ]
    refine wpK_tk (i := 38) (some 78) (v := .int .i64 (ivB (isS s) s.toNat)) rfl rfl (by kernel_rfl) (fun _ _ _ h => h) (.call (f := 56) (args := #[.int .i64 s]) (by rfl) (fun W => by go_simp) (fun W hg => rinvert_s s W )) ?_
    simp only [Act.put, List.setIfInBounds_toArray, List.set_cons_zero, List.set_cons_succ]
    refine wpK_ta (i := 39) (some 79) (v := .bool true) rfl rfl (by kernel_rfl) (fun _ _ _ h => h) (Or.inl ⟨by rfl, fun W => by go_simp⟩) ?_
    simp only [Act.put, List.setIfInBounds_toArray, List.set_cons_zero, List.set_cons_succ]
    refine wpK_ta (i := 40) (some 80) (v := .bool true) rfl rfl (by kernel_rfl) (fun _ _ _ h => h) (Or.inl ⟨by rfl, fun W => by go_simp⟩) ?_
    simp only [Act.put, List.setIfInBounds_toArray, List.set_cons_zero, List.set_cons_succ]
    refine wpK_ta (i := 41) (some 15) (v := .bool true) rfl rfl (by kernel_rfl) (fun _ _ _ h => h) (Or.inl ⟨rfl, fun _ => rfl⟩) ?_
    simp only [Act.put, List.setIfInBounds_toArray, List.set_cons_zero, List.set_cons_succ]
    refine wpK_done (by kernel_rfl) (fun V15 hv16 => ?_) _
    have GC17 := Lib.hid (GC14.out.trans (Gr.un hv16))
    clear hv16
    go_upto_region 6 with fail
    refine wpG_region ?_
    refine wpG_tk (some 81) (v := .bool true) rfl (.call (f := 12) (args := #[]) (by rfl) (fun W => by go_simp) (fun W hg => sanity_any W (HT.out.below (GC17.out.trans hg)))) ?_
    simp only [Act.put, List.setIfInBounds_toArray, List.set_cons_zero, List.set_cons_succ]
    refine wpG_tk (some 82) (v := .bool true) rfl (.val (by rfl) (fun _ _ => rfl)) ?_
    simp only [Act.put, List.setIfInBounds_toArray, List.set_cons_zero, List.set_cons_succ]
    refine wpG_tk (some 83) (v := .bool true) rfl (.val (by rfl) (fun _ _ => rfl)) ?_
    simp only [Act.put, List.setIfInBounds_toArray, List.set_cons_zero, List.set_cons_succ]
    refine wpG_tk (some 84) (v := .bool true) rfl (.val (by rfl) (fun W hg => by go_simp)) ?_
    simp only [Act.put, List.setIfInBounds_toArray, List.set_cons_zero, List.set_cons_succ]
    refine wpG_tk (some 85) (v := .bool true) rfl (.val (by rfl) (fun _ _ => rfl)) ?_
    simp only [Act.put, List.setIfInBounds_toArray, List.set_cons_zero, List.set_cons_succ]
    refine wpG_tk (some 86) (v := .int .i64 s) rfl (.val (by rfl) (fun _ _ => rfl)) ?_
    simp only [Act.put, List.setIfInBounds_toArray, List.set_cons_zero, List.set_cons_succ]
    refine wpG_tk (some 87) (v := .bool (mrB (isS s) s.toNat)) rfl (.call (f := 57) (args := #[.int .i64 s]) (by rfl) (fun W => by go_simp) (fun W hg => mirror_s s W (HT.out.below (GC17.out.trans hg)) )) ?_
    simp only [Act.put, List.setIfInBounds_toArray, List.set_cons_zero, List.set_cons_succ]
    refine wpG_tk (some 88) (v := .int .i64 s) rfl (.val (by rfl) (fun _ _ => rfl)) ?_
    simp only [Act.put, List.setIfInBounds_toArray, List.set_cons_zero, List.set_cons_succ]
    refine wpG_tk (some 89) (v := .bool (mrB (isS s) s.toNat)) rfl (.call (f := 58) (args := #[.int .i64 s]) (by rfl) (fun W => by go_simp) (fun W hg => rmirror_s s W )) ?_
    simp only [Act.put, List.setIfInBounds_toArray, List.set_cons_zero, List.set_cons_succ]
    refine wpG_tk (some 90) (v := .bool true) rfl (.val (by rfl) (fun W hg => by go_simp)) ?_
    simp only [Act.put, List.setIfInBounds_toArray, List.set_cons_zero, List.set_cons_succ]
    refine wpG_tk (some 91) (v := .bool true) rfl (.val (by rfl) (fun W hg => by go_simp)) ?_
    simp only [Act.put, List.setIfInBounds_toArray, List.set_cons_zero, List.set_cons_succ]
    refine wpG_tk (some 92) (v := .bool true) rfl (.val (by rfl) (fun _ _ => rfl)) ?_
    simp only [Act.put, List.setIfInBounds_toArray, List.set_cons_zero, List.set_cons_succ]
    refine wpG_tk (some 93) (v := .int .i64 s) rfl (.val (by rfl) (fun _ _ => rfl)) ?_
    simp only [Act.put, List.setIfInBounds_toArray, List.set_cons_zero, List.set_cons_succ]
    refine wpG_tk (some 94) (v := .string (nmB (isS s) s.toNat)) rfl (.call (f := 59) (args := #[.int .i64 s]) (by rfl) (fun W => by go_simp) (fun W hg => name_s s W (HT.out.below (GC17.out.trans hg)) )) ?_
    simp only [Act.put, List.setIfInBounds_toArray, List.set_cons_zero, List.set_cons_succ]
    refine wpG_tk (some 95) (v := .int .i64 s) rfl (.val (by rfl) (fun _ _ => rfl)) ?_
    simp only [Act.put, List.setIfInBounds_toArray, List.set_cons_zero, List.set_cons_succ]
    refine wpG_tk (some 96) (v := .string (nmB (isS s) s.toNat)) rfl (.call (f := 60) (args := #[.int .i64 s]) (by rfl) (fun W => by go_simp) (fun W hg => rname_s s W )) ?_
    simp only [Act.put, List.setIfInBounds_toArray, List.set_cons_zero, List.set_cons_succ]
    refine wpG_tk (some 97) (v := .bool true) rfl (.val (by rfl) (fun W hg => by go_simp)) ?_
    simp only [Act.put, List.setIfInBounds_toArray, List.set_cons_zero, List.set_cons_succ]
    refine wpG_tk (some 98) (v := .bool true) rfl (.val (by rfl) (fun W hg => by go_simp)) ?_
    simp only [Act.put, List.setIfInBounds_toArray, List.set_cons_zero, List.set_cons_succ]
    refine wpG_tk (some 99) (v := .bool true) rfl (.val (by rfl) (fun _ _ => rfl)) ?_
    simp only [Act.put, List.setIfInBounds_toArray, List.set_cons_zero, List.set_cons_succ]
    refine wpG_tk (some 100) (v := .int .i64 (max (fst (isName nm)) 0)) rfl (.val (by rfl) (fun _ _ => rfl)) ?_
    simp only [Act.put, List.setIfInBounds_toArray, List.set_cons_zero, List.set_cons_succ]
    refine wpG_tk (some 101) (v := .int .i64 (max (fst (isName nm)) 0)) rfl (.val (by rfl) (fun _ _ => rfl)) ?_
    simp only [Act.put, List.setIfInBounds_toArray, List.set_cons_zero, List.set_cons_succ]
    refine wpG_tk (some 102) (v := .bool true) rfl (.val (by rfl) (fun W hg => by go_simp)) ?_
    simp only [Act.put, List.setIfInBounds_toArray, List.set_cons_zero, List.set_cons_succ]
    refine wpG_tk (some 103) (v := .bool true) rfl (.val (by rfl) (fun W hg => by go_simp)) ?_
    simp only [Act.put, List.setIfInBounds_toArray, List.set_cons_zero, List.set_cons_succ]
    refine wpG_tk (some 104) (v := .bool true) rfl (.val (by rfl) (fun _ _ => rfl)) ?_
    simp only [Act.put, List.setIfInBounds_toArray, List.set_cons_zero, List.set_cons_succ]
    refine wpG_tk (some 105) (v := .bool (decide (0 ≤ fst (isName nm)))) rfl (.val (by rfl) (fun _ _ => rfl)) ?_
    simp only [Act.put, List.setIfInBounds_toArray, List.set_cons_zero, List.set_cons_succ]
    refine wpG_tk (some 106) (v := .bool (decide (0 ≤ fst (isName nm)))) rfl (.val (by rfl) (fun _ _ => rfl)) ?_
    simp only [Act.put, List.setIfInBounds_toArray, List.set_cons_zero, List.set_cons_succ]
    refine wpG_tk (some 107) (v := .bool true) rfl (.val (by rfl) (fun W hg => by go_simp)) ?_
    simp only [Act.put, List.setIfInBounds_toArray, List.set_cons_zero, List.set_cons_succ]
    refine wpG_tk (some 108) (v := .bool true) rfl (.val (by rfl) (fun W hg => by go_simp)) ?_
    simp only [Act.put, List.setIfInBounds_toArray, List.set_cons_zero, List.set_cons_succ]
    refine wpG_tk (some 10) (v := .bool true) rfl (.val (by rfl) (fun _ _ => rfl)) ?_
    simp only [Act.put, List.setIfInBounds_toArray, List.set_cons_zero, List.set_cons_succ]
    refine wpG_done (fun V18 hv19 => ?_)
    have GC20 := Lib.hid (GC17.out.trans hv19)
    clear hv19
    go_wp2_with fail
    go_ret
    exact ⟨rfl, Gr.to G0.out GC20.out⟩

end Go.Proofs.YthadlgjobjnhcaaDoor
