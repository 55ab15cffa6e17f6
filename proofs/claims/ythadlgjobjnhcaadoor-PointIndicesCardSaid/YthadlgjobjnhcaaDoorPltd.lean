/-
  voxellaw04.PointIndices, its walk (3).
-/
import Derived.Test.YthadlgjobjnhcaaDoorPsn
import Derived.Test.YthadlgjobjnhcaaDoorPty2
import Derived.Test.YthadlgjobjnhcaaDoorPth
import Derived.Handy
namespace Go.Proofs.YthadlgjobjnhcaaDoor
open Go.RowKit
set_option linter.unusedVariables false
set_option maxRecDepth 1000000 in
set_option maxHeartbeats 8000000 in
theorem law10_tok101 (a1 a2 a3 a4 a5 a6 x1 x2 x3 i : Int) (w : World) (hT : Tab w) (i1 : In64 (a1, a2, a3)) (i2 : In64 (a4, a5, a6)) (i3 : In64 (x1, x2, x3)) (hi : -9223372036854775808 ≤ i ∧ i ≤ 9223372036854775807) (hs : [(a1, a2, a3), (a4, a5, a6), (x1, x2, x3)].all inR = true) (hx : Pt.inB x1 x2 x3 a1 a2 a3 a4 a5 a6 = true) (he : Pt.emp a1 a2 a3 a4 a5 a6 = false) (h0 : 0 ≤ i) (h1 : i < Pt.vol a1 a2 a3 a4 a5 a6) (q1 q2 q3 n1 n2 n3 : Int) (e1 : a1 + i % (a4 - a1) = q1) (e2 : a2 + i / (a4 - a1) % (a5 - a2) = q2) (e3 : a3 + i / (a4 - a1) / (a5 - a2) = q3) (f1 : a1 + (i + 1) % (a4 - a1) = n1) (f2 : a2 + (i + 1) / (a4 - a1) % (a5 - a2) = n2) (f3 : a3 + (i + 1) / (a4 - a1) / (a5 - a2) = n3) (hm : i + 1 < Pt.vol a1 a2 a3 a4 a5 a6) (hq : (a1 ≤ q1 ∧ q1 < a4) ∧ (a2 ≤ q2 ∧ q2 < a5) ∧ (a3 ≤ q3 ∧ q3 < a6)) (g : q1 + 1 = a4 ∧ q2 + 1 < a5 ∧ n1 = a1 ∧ n2 = q2 + 1 ∧ n3 = q3) :
    Calls Tryd.prog 10 #[.agg #[.int .i64 a1, .int .i64 a2, .int .i64 a3, .int .i64 a4, .int .i64 a5, .int .i64 a6], .agg #[.int .i64 x1, .int .i64 x2, .int .i64 x3], .int .i64 i] w fun e w' => e = .returned (.bool true) ∧ Below w.heap.size w w' := by
  have bb := hs
  simp only [List.all_cons, List.all_nil, Bool.and_true, Bool.and_eq_true, inR_true] at bb
  have vb := vol_bd a1 a2 a3 a4 a5 a6 (by omega)
  obtain ⟨k1, k2, k3, k4⟩ := Pt.idx_bd hx
  have HK := Lib.hid (Pt.at_idx hx)
  clear k1 k4
  have HE := Lib.hid he
  have hat := Pt.idx_at he ⟨h0, h1⟩
  rw [e1, e2, e3] at hat
  have HBQ := Lib.hid hat.1
  have HB := Lib.hid hat.2
  have HQ1 := Lib.hid e1
  have HQ2 := Lib.hid e2
  have HQ3 := Lib.hid e3
  have HN1 := Lib.hid f1
  have HN2 := Lib.hid f2
  have HN3 := Lib.hid f3
  clear hat e1 e2 e3 he f1 f2 f3
  have HS := Lib.hid hs
  have HI := Lib.hid hx
  clear hs hx
  have HT0 := Lib.hid hT
  obtain ⟨u, hu, r0, r1, g0⟩ := rows2 w [.int .i64 a1, .int .i64 a2, .int .i64 a3, .int .i64 a4, .int .i64 a5, .int .i64 a6] 31 [.int .i64 x1, .int .i64 x2, .int .i64 x3] 23
  have R0 := Lib.hid r0
  have R1 := Lib.hid r1
  have G0 := Lib.hid g0
  have HU := Lib.hid hu
  have HT := Lib.hid (hT.below g0)
  clear hT
  clear hu g0 r0 r1
  go_enter Tryd.func10, Tryd.ntmps10
  go_upto_region 1 with fail
  rw [← HU.out]
  refine wpG_region ?_
  refine wpG_tk (some 15) (v := .pointer (some ⟨w.heap.size, 0, none⟩)) rfl (.val (by rfl) (fun W hg => by go_simp)) ?_
  simp only [Act.put, List.setIfInBounds_toArray, List.set_cons_zero, List.set_cons_succ]
  refine wpG_tk (some 16) (v := .agg #[.int .i64 a1, .int .i64 a2, .int .i64 a3]) rfl (.load_mid (by rfl) 23 (.tmp 15) rfl (w.heap.size) 0 rfl [.int .i64 a1, .int .i64 a2, .int .i64 a3] _ (fun W hg => (R0.out.below hg).lo) Tryd.underlying23 rfl (by kernel_rfl)) ?_
  simp only [Act.put, List.setIfInBounds_toArray, List.set_cons_zero, List.set_cons_succ]
  refine wpG_tk (some 17) (v := .pointer (some ⟨w.heap.size, 3, none⟩)) rfl (.val (by rfl) (fun W hg => by go_simp)) ?_
  simp only [Act.put, List.setIfInBounds_toArray, List.set_cons_zero, List.set_cons_succ]
  refine wpG_tk (some 18) (v := .agg #[.int .i64 a4, .int .i64 a5, .int .i64 a6]) rfl (.load_mid (by rfl) 23 (.tmp 17) rfl (w.heap.size) 3 rfl [.int .i64 a4, .int .i64 a5, .int .i64 a6] _ (fun W hg => (R0.out.below hg).hi) Tryd.underlying23 rfl (by kernel_rfl)) ?_
  simp only [Act.put, List.setIfInBounds_toArray, List.set_cons_zero, List.set_cons_succ]
  refine wpG_tk (some 19) (v := .agg #[.int .i64 x1, .int .i64 x2, .int .i64 x3]) rfl (.load_mid (by rfl) 23 (.tmp 4) rfl (w.heap.size + 1) 0 rfl [.int .i64 x1, .int .i64 x2, .int .i64 x3] _ (fun W hg => (R1.out.below hg).range) Tryd.underlying23 rfl (by kernel_rfl)) ?_
  simp only [Act.put, List.setIfInBounds_toArray, List.set_cons_zero, List.set_cons_succ]
  refine wpG_val (some 20) rfl (by rfl) (fun W1 hg2 => ⟨.slice (some ⟨W1.heap.size, 0, none⟩) 3 3, W1.alloc (.cells #[.int .i64 a1, .int .i64 a2, .int .i64 a3, .int .i64 a4, .int .i64 a5, .int .i64 a6, .int .i64 x1, .int .i64 x2, .int .i64 x3] 23), by (go_simp <;> rfl), ?_⟩)
  simp only [Act.put, List.setIfInBounds_toArray, List.set_cons_zero, List.set_cons_succ]
  obtain ⟨U3, hu, rn, gn⟩ : ∃ z, z = W1.alloc (.cells #[.int .i64 a1, .int .i64 a2, .int .i64 a3, .int .i64 a4, .int .i64 a5, .int .i64 a6, .int .i64 x1, .int .i64 x2, .int .i64 x3] 23) ∧ Row W1.heap.size [.int .i64 a1, .int .i64 a2, .int .i64 a3, .int .i64 a4, .int .i64 a5, .int .i64 a6, .int .i64 x1, .int .i64 x2, .int .i64 x3] z ∧ Gr W1 z := ⟨_, rfl, Row.newl W1 [.int .i64 a1, .int .i64 a2, .int .i64 a3, .int .i64 a4, .int .i64 a5, .int .i64 a6, .int .i64 x1, .int .i64 x2, .int .i64 x3] 23, Gr.al _ _⟩
  rw [← hu]
  have RN4 := Lib.hid rn
  have GB5 := Lib.hid (Gr.trans hg2 gn)
  clear hu rn gn hg2
  refine wpG_tk (some 21) (v := .bool true) rfl (.call (f := 11) (args := #[.slice (some ⟨W1.heap.size, 0, none⟩) 3 3]) (by rfl) (fun W => by go_simp) (fun W hg => small_is [(a1, a2, a3), (a4, a5, a6), (x1, x2, x3)] W1.heap.size 3 true W rfl (by decide) (RN4.out.below hg) (List.forall_mem_cons.2 ⟨i1, (List.forall_mem_cons.2 ⟨i2, (List.forall_mem_cons.2 ⟨i3, (fun _ h => absurd h List.not_mem_nil)⟩)⟩)⟩) HS.out)) ?_
  simp only [Act.put, List.setIfInBounds_toArray, List.set_cons_zero, List.set_cons_succ]
  refine wpG_tk (some 22) (v := .bool false) rfl (.val (by rfl) (fun W hg => by go_simp)) ?_
  simp only [Act.put, List.setIfInBounds_toArray, List.set_cons_zero, List.set_cons_succ]
  refine wpG_done (fun V6 hv7 => ?_)
  have GC8 := Lib.hid (GB5.out.trans hv7)
  clear hv7
  go_upto_region 3 with fail
  refine wpG_region ?_
  refine wpG_tk (some 24) (v := .agg #[.int .i64 a1, .int .i64 a2, .int .i64 a3, .int .i64 a4, .int .i64 a5, .int .i64 a6]) rfl (.load_mid (by rfl) 31 (.tmp 3) rfl (w.heap.size) 0 rfl [.int .i64 a1, .int .i64 a2, .int .i64 a3, .int .i64 a4, .int .i64 a5, .int .i64 a6] _ (fun W hg => (R0.out.below (GC8.out.trans hg)).range) Tryd.underlying31 rfl (by kernel_rfl)) ?_
  simp only [Act.put, List.setIfInBounds_toArray, List.set_cons_zero, List.set_cons_succ]
  refine wpG_tk (some 25) (v := .agg #[.int .i64 x1, .int .i64 x2, .int .i64 x3]) rfl (.load_mid (by rfl) 23 (.tmp 4) rfl (w.heap.size + 1) 0 rfl [.int .i64 x1, .int .i64 x2, .int .i64 x3] _ (fun W hg => (R1.out.below (GC8.out.trans hg)).range) Tryd.underlying23 rfl (by kernel_rfl)) ?_
  simp only [Act.put, List.setIfInBounds_toArray, List.set_cons_zero, List.set_cons_succ]
  refine wpG_tk (some 26) (v := .int .i64 (Pt.idx x1 x2 x3 a1 a2 a3 a4 a5)) rfl (.call (f := 43) (args := #[.agg #[.int .i64 a1, .int .i64 a2, .int .i64 a3, .int .i64 a4, .int .i64 a5, .int .i64 a6], .agg #[.int .i64 x1, .int .i64 x2, .int .i64 x3]]) (by rfl) (fun W => by go_simp) (fun W hg => index_t a1 a2 a3 a4 a5 a6 x1 x2 x3 W (by omega) HI.out)) ?_
  simp only [Act.put, List.setIfInBounds_toArray, List.set_cons_zero, List.set_cons_succ]
  refine wpG_tk (some 7) (v := .int .i64 (Pt.idx x1 x2 x3 a1 a2 a3 a4 a5)) rfl (.val (by rfl) (fun _ _ => rfl)) ?_
  simp only [Act.put, List.setIfInBounds_toArray, List.set_cons_zero, List.set_cons_succ]
  refine wpG_done (fun V9 hv10 => ?_)
  have GC11 := Lib.hid (GC8.out.trans hv10)
  clear hv10
  go_upto_region 4 with fail
  refine wpG_region ?_
  refine wpG_tk (some 27) (v := .int .i64 (Pt.idx x1 x2 x3 a1 a2 a3 a4 a5)) rfl (.val (by rfl) (fun _ _ => rfl)) ?_
  simp only [Act.put, List.setIfInBounds_toArray, List.set_cons_zero, List.set_cons_succ]
  refine wpG_tk (some 28) (v := .bool true) rfl (.val (by rfl) (fun W hg => by have hq : (Pt.idx x1 x2 x3 a1 a2 a3 a4 a5 ≥ 0) := (by omega); first | (go_simp; done) | (go_simp <;> omega))) ?_
  simp only [Act.put, List.setIfInBounds_toArray, List.set_cons_zero, List.set_cons_succ]
  refine wpG_tk (some 29) (v := .agg #[.int .i64 x1, .int .i64 x2, .int .i64 x3]) rfl (.load_mid (by rfl) 23 (.tmp 4) rfl (w.heap.size + 1) 0 rfl [.int .i64 x1, .int .i64 x2, .int .i64 x3] _ (fun W hg => (R1.out.below (GC11.out.trans hg)).range) Tryd.underlying23 rfl (by kernel_rfl)) ?_
  simp only [Act.put, List.setIfInBounds_toArray, List.set_cons_zero, List.set_cons_succ]
  refine wpG_tk (some 30) (v := .agg #[.int .i64 a1, .int .i64 a2, .int .i64 a3, .int .i64 a4, .int .i64 a5, .int .i64 a6]) rfl (.load_mid (by rfl) 31 (.tmp 3) rfl (w.heap.size) 0 rfl [.int .i64 a1, .int .i64 a2, .int .i64 a3, .int .i64 a4, .int .i64 a5, .int .i64 a6] _ (fun W hg => (R0.out.below (GC11.out.trans hg)).range) Tryd.underlying31 rfl (by kernel_rfl)) ?_
  simp only [Act.put, List.setIfInBounds_toArray, List.set_cons_zero, List.set_cons_succ]
  refine wpG_tk (some 31) (v := .bool true) rfl (.call (f := 25) (args := #[.agg #[.int .i64 x1, .int .i64 x2, .int .i64 x3], .agg #[.int .i64 a1, .int .i64 a2, .int .i64 a3, .int .i64 a4, .int .i64 a5, .int .i64 a6]]) (by rfl) (fun W => by go_simp) (fun W hg => in_any x1 x2 x3 a1 a2 a3 a4 a5 a6 true W HI.out)) ?_
  simp only [Act.put, List.setIfInBounds_toArray, List.set_cons_zero, List.set_cons_succ]
  refine wpG_tk (some 32) (v := .bool false) rfl (.val (by rfl) (fun W hg => by go_simp)) ?_
  simp only [Act.put, List.setIfInBounds_toArray, List.set_cons_zero, List.set_cons_succ]
  refine wpG_tk (some 33) (v := .bool false) rfl (.val (by rfl) (fun _ _ => rfl)) ?_
  simp only [Act.put, List.setIfInBounds_toArray, List.set_cons_zero, List.set_cons_succ]
  refine wpG_tk (some 34) (v := .int .i64 (Pt.idx x1 x2 x3 a1 a2 a3 a4 a5)) rfl (.val (by rfl) (fun _ _ => rfl)) ?_
  simp only [Act.put, List.setIfInBounds_toArray, List.set_cons_zero, List.set_cons_succ]
  refine wpG_tk (some 35) (v := .agg #[.int .i64 a1, .int .i64 a2, .int .i64 a3, .int .i64 a4, .int .i64 a5, .int .i64 a6]) rfl (.load_mid (by rfl) 31 (.tmp 3) rfl (w.heap.size) 0 rfl [.int .i64 a1, .int .i64 a2, .int .i64 a3, .int .i64 a4, .int .i64 a5, .int .i64 a6] _ (fun W hg => (R0.out.below (GC11.out.trans hg)).range) Tryd.underlying31 rfl (by kernel_rfl)) ?_
  simp only [Act.put, List.setIfInBounds_toArray, List.set_cons_zero, List.set_cons_succ]
  refine wpG_tk (some 36) (v := .int .i64 (Pt.vol a1 a2 a3 a4 a5 a6)) rfl (.call (f := 29) (args := #[.agg #[.int .i64 a1, .int .i64 a2, .int .i64 a3, .int .i64 a4, .int .i64 a5, .int .i64 a6]]) (by rfl) (fun W => by go_simp) (fun W hg => volume_any a1 a2 a3 a4 a5 a6 W (by omega))) ?_
  simp only [Act.put, List.setIfInBounds_toArray, List.set_cons_zero, List.set_cons_succ]
  refine wpG_tk (some 37) (v := .bool false) rfl (.val (by rfl) (fun W hg => by have hq : ¬ (Pt.idx x1 x2 x3 a1 a2 a3 a4 a5 ≥ Pt.vol a1 a2 a3 a4 a5 a6) := (by omega); first | (go_simp; done) | (go_simp <;> omega))) ?_
  simp only [Act.put, List.setIfInBounds_toArray, List.set_cons_zero, List.set_cons_succ]
  refine wpG_tk (some 38) (v := .bool false) rfl (.val (by rfl) (fun _ _ => rfl)) ?_
  simp only [Act.put, List.setIfInBounds_toArray, List.set_cons_zero, List.set_cons_succ]
  refine wpG_tk (some 39) (v := undef) rfl (.no (by rfl)) ?_
  simp only [Act.put, List.setIfInBounds_toArray, List.set_cons_zero, List.set_cons_succ]
  refine wpG_tk (some 40) (v := undef) rfl (.no (by rfl)) ?_
  simp only [Act.put, List.setIfInBounds_toArray, List.set_cons_zero, List.set_cons_succ]
  refine wpG_tk (some 41) (v := .bool false) rfl (.val (by rfl) (fun W hg => by go_simp)) ?_
  simp only [Act.put, List.setIfInBounds_toArray, List.set_cons_zero, List.set_cons_succ]
  refine wpG_tk (some 42) (v := .bool false) rfl (.val (by rfl) (fun W hg => by go_simp)) ?_
  simp only [Act.put, List.setIfInBounds_toArray, List.set_cons_zero, List.set_cons_succ]
  refine wpG_done (fun V12 hv13 => ?_)
  have GC14 := Lib.hid (GC11.out.trans hv13)
  clear hv13
  go_upto_region 6 with fail
  refine wpG_region ?_
  refine wpG_tk (some 44) (v := .agg #[.int .i64 a1, .int .i64 a2, .int .i64 a3, .int .i64 a4, .int .i64 a5, .int .i64 a6]) rfl (.load_mid (by rfl) 31 (.tmp 3) rfl (w.heap.size) 0 rfl [.int .i64 a1, .int .i64 a2, .int .i64 a3, .int .i64 a4, .int .i64 a5, .int .i64 a6] _ (fun W hg => (R0.out.below (GC14.out.trans hg)).range) Tryd.underlying31 rfl (by kernel_rfl)) ?_
  simp only [Act.put, List.setIfInBounds_toArray, List.set_cons_zero, List.set_cons_succ]
  refine wpG_tk (some 45) (v := .int .i64 (Pt.idx x1 x2 x3 a1 a2 a3 a4 a5)) rfl (.val (by rfl) (fun _ _ => rfl)) ?_
  simp only [Act.put, List.setIfInBounds_toArray, List.set_cons_zero, List.set_cons_succ]
  refine wpG_tk (some 46) (v := .tuple #[.agg #[.int .i64 (a1 + (x1 - a1)), .int .i64 (a2 + (x2 - a2)), .int .i64 (a3 + (x3 - a3))], .bool true]) rfl (.call (f := 21) (args := #[.agg #[.int .i64 a1, .int .i64 a2, .int .i64 a3, .int .i64 a4, .int .i64 a5, .int .i64 a6], .int .i64 (Pt.idx x1 x2 x3 a1 a2 a3 a4 a5)]) (by rfl) (fun W => by go_simp) (fun W hg => (by have c := at_ok a1 a2 a3 a4 a5 a6 (Pt.idx x1 x2 x3 a1 a2 a3 a4 a5) W (by omega) (by omega) (by omega) HE.out; rw [HK.out.1, HK.out.2.1, HK.out.2.2] at c; exact c))) ?_
  simp only [Act.put, List.setIfInBounds_toArray, List.set_cons_zero, List.set_cons_succ]
  refine wpG_tk (some 43) (v := .tuple #[.agg #[.int .i64 (a1 + (x1 - a1)), .int .i64 (a2 + (x2 - a2)), .int .i64 (a3 + (x3 - a3))], .bool true]) rfl (.val (by rfl) (fun _ _ => rfl)) ?_
  simp only [Act.put, List.setIfInBounds_toArray, List.set_cons_zero, List.set_cons_succ]
  refine wpG_tk (some 47) (v := .agg #[.int .i64 (a1 + (x1 - a1)), .int .i64 (a2 + (x2 - a2)), .int .i64 (a3 + (x3 - a3))]) rfl (.val (by rfl) (fun W hg => by go_simp)) ?_
  simp only [Act.put, List.setIfInBounds_toArray, List.set_cons_zero, List.set_cons_succ]
  refine wpG_tk (some 48) (v := .bool true) rfl (.val (by rfl) (fun W hg => by go_simp)) ?_
  simp only [Act.put, List.setIfInBounds_toArray, List.set_cons_zero, List.set_cons_succ]
  refine wpG_val (some 8) rfl (by rfl) (fun W15 hg16 => ⟨.pointer (some ⟨W15.heap.size, 0, none⟩), W15.alloc (.cells #[.int .i64 0, .int .i64 0, .int .i64 0] 23), by (go_simp <;> rfl), ?_⟩)
  simp only [Act.put, List.setIfInBounds_toArray, List.set_cons_zero, List.set_cons_succ]
  refine wpG_store (none) rfl (by rfl) (fun W17 hg18 => ⟨_, run_store_mid 23 (.tmp 8) (.tmp 47) rfl (W15.heap.size) 0 #[.int .i64 (a1 + (x1 - a1)), .int .i64 (a2 + (x2 - a2)), .int .i64 (a3 + (x3 - a3))] rfl rfl (Row.room hg18 3 rfl) (by kernel_rfl) (by kernel_rfl), ?_⟩)
  simp only [Act.put]
  refine wpG_tk (some 9) (v := .bool true) rfl (.val (by rfl) (fun _ _ => rfl)) ?_
  simp only [Act.put, List.setIfInBounds_toArray, List.set_cons_zero, List.set_cons_succ]
  refine wpG_done (fun V19 hv20 => ?_)
  have l22 : w.heap.size < W15.heap.size := (R0.out.below (GC14.out.trans hg16)).lt
  have l23 : w.heap.size + 1 < W15.heap.size := (R1.out.below (GC14.out.trans hg16)).lt
  have l24 : w.heap.size ≤ W15.heap.size := (Gr.to G0.out (GC14.out.trans hg16)).size
  have R25 := Lib.hid ((R0.out.below (GC14.out.trans hg16)).past hg18 hv20)
  have R26 := Lib.hid ((R1.out.below (GC14.out.trans hg16)).past hg18 hv20)
  have R27 := Lib.hid (Row.made (zs := [.int .i64 0, .int .i64 0, .int .i64 0]) (ds := [.int .i64 (a1 + (x1 - a1)), .int .i64 (a2 + (x2 - a2)), .int .i64 (a3 + (x3 - a3))]) rfl hg18 hv20)
  have G21 := Lib.hid (Gr.to (Gr.to G0.out (GC14.out.trans hg16)) (Gr.past hg18 hv20))
  have HT := Lib.hid (HT.out.below ((GC14.out.trans hg16).trans (Gr.past hg18 hv20)))
  clear hg18 hv20 
  go_upto_region 7 with fail
  refine wpG_region ?_
  refine wpG_tk (some 49) (v := .int .i64 (Pt.idx x1 x2 x3 a1 a2 a3 a4 a5)) rfl (.val (by rfl) (fun _ _ => rfl)) ?_
  simp only [Act.put, List.setIfInBounds_toArray, List.set_cons_zero, List.set_cons_succ]
  refine wpG_tk (some 50) (v := .bool true) rfl (.val (by rfl) (fun W hg => by have hq : (Pt.idx x1 x2 x3 a1 a2 a3 a4 a5 ≥ 0) := (by omega); first | (go_simp; done) | (go_simp <;> omega))) ?_
  simp only [Act.put, List.setIfInBounds_toArray, List.set_cons_zero, List.set_cons_succ]
  refine wpG_tk (some 51) (v := .bool true) rfl (.val (by rfl) (fun _ _ => rfl)) ?_
  simp only [Act.put, List.setIfInBounds_toArray, List.set_cons_zero, List.set_cons_succ]
  refine wpG_tk (some 52) (v := .agg #[.int .i64 (a1 + (x1 - a1)), .int .i64 (a2 + (x2 - a2)), .int .i64 (a3 + (x3 - a3))]) rfl (.load_mid (by rfl) 23 (.tmp 8) rfl (W15.heap.size) 0 rfl [.int .i64 (a1 + (x1 - a1)), .int .i64 (a2 + (x2 - a2)), .int .i64 (a3 + (x3 - a3))] _ (fun W hg => (R27.out.below hg).range) Tryd.underlying23 rfl (by kernel_rfl)) ?_
  simp only [Act.put, List.setIfInBounds_toArray, List.set_cons_zero, List.set_cons_succ]
  refine wpG_tk (some 53) (v := .agg #[.int .i64 x1, .int .i64 x2, .int .i64 x3]) rfl (.load_mid (by rfl) 23 (.tmp 4) rfl (w.heap.size + 1) 0 rfl [.int .i64 x1, .int .i64 x2, .int .i64 x3] _ (fun W hg => (R26.out.below hg).range) Tryd.underlying23 rfl (by kernel_rfl)) ?_
  simp only [Act.put, List.setIfInBounds_toArray, List.set_cons_zero, List.set_cons_succ]
  refine wpG_tk (some 54) (v := .bool false) rfl (.val (by rfl) (fun W hg => by (go_simp <;> first | omega | ((repeat' split) <;> first | rfl | (exfalso; omega))))) ?_
  simp only [Act.put, List.setIfInBounds_toArray, List.set_cons_zero, List.set_cons_succ]
  refine wpG_tk (some 55) (v := .bool false) rfl (.val (by rfl) (fun _ _ => rfl)) ?_
  simp only [Act.put, List.setIfInBounds_toArray, List.set_cons_zero, List.set_cons_succ]
  refine wpG_tk (some 56) (v := .bool true) rfl (.val (by rfl) (fun _ _ => rfl)) ?_
  simp only [Act.put, List.setIfInBounds_toArray, List.set_cons_zero, List.set_cons_succ]
  refine wpG_tk (some 57) (v := .bool false) rfl (.val (by rfl) (fun W hg => by go_simp)) ?_
  simp only [Act.put, List.setIfInBounds_toArray, List.set_cons_zero, List.set_cons_succ]
  refine wpG_tk (some 58) (v := .bool false) rfl (.val (by rfl) (fun W hg => by go_simp)) ?_
  simp only [Act.put, List.setIfInBounds_toArray, List.set_cons_zero, List.set_cons_succ]
  refine wpG_tk (some 59) (v := .bool false) rfl (.val (by rfl) (fun W hg => by go_simp)) ?_
  simp only [Act.put, List.setIfInBounds_toArray, List.set_cons_zero, List.set_cons_succ]
  refine wpG_done (fun V28 hv29 => ?_)
  have GC30 := Lib.hid hv29
  clear hv29
  go_upto_region 9 with fail
  refine wpG_region ?_
  refine wpG_tk (some 61) (v := .agg #[.int .i64 a1, .int .i64 a2, .int .i64 a3, .int .i64 a4, .int .i64 a5, .int .i64 a6]) rfl (.load_mid (by rfl) 31 (.tmp 3) rfl (w.heap.size) 0 rfl [.int .i64 a1, .int .i64 a2, .int .i64 a3, .int .i64 a4, .int .i64 a5, .int .i64 a6] _ (fun W hg => (R25.out.below (GC30.out.trans hg)).range) Tryd.underlying31 rfl (by kernel_rfl)) ?_
  simp only [Act.put, List.setIfInBounds_toArray, List.set_cons_zero, List.set_cons_succ]
  refine wpG_tk (some 62) (v := .int .i64 i) rfl (.val (by rfl) (fun _ _ => rfl)) ?_
  simp only [Act.put, List.setIfInBounds_toArray, List.set_cons_zero, List.set_cons_succ]
  refine wpG_tk (some 63) (v := .tuple #[.agg #[.int .i64 q1, .int .i64 q2, .int .i64 q3], .bool true]) rfl (.call (f := 21) (args := #[.agg #[.int .i64 a1, .int .i64 a2, .int .i64 a3, .int .i64 a4, .int .i64 a5, .int .i64 a6], .int .i64 i]) (by rfl) (fun W => by go_simp) (fun W hg => (by have c := at_ok a1 a2 a3 a4 a5 a6 i W (by omega) (by omega) (by omega) HE.out; rw [HQ1.out, HQ2.out, HQ3.out] at c; exact c))) ?_
  simp only [Act.put, List.setIfInBounds_toArray, List.set_cons_zero, List.set_cons_succ]
  refine wpG_tk (some 60) (v := .tuple #[.agg #[.int .i64 q1, .int .i64 q2, .int .i64 q3], .bool true]) rfl (.val (by rfl) (fun _ _ => rfl)) ?_
  simp only [Act.put, List.setIfInBounds_toArray, List.set_cons_zero, List.set_cons_succ]
  refine wpG_tk (some 64) (v := .agg #[.int .i64 q1, .int .i64 q2, .int .i64 q3]) rfl (.val (by rfl) (fun W hg => by go_simp)) ?_
  simp only [Act.put, List.setIfInBounds_toArray, List.set_cons_zero, List.set_cons_succ]
  refine wpG_tk (some 65) (v := .bool true) rfl (.val (by rfl) (fun W hg => by go_simp)) ?_
  simp only [Act.put, List.setIfInBounds_toArray, List.set_cons_zero, List.set_cons_succ]
  refine wpG_val (some 10) rfl (by rfl) (fun W31 hg32 => ⟨.pointer (some ⟨W31.heap.size, 0, none⟩), W31.alloc (.cells #[.int .i64 0, .int .i64 0, .int .i64 0] 23), by (go_simp <;> rfl), ?_⟩)
  simp only [Act.put, List.setIfInBounds_toArray, List.set_cons_zero, List.set_cons_succ]
  refine wpG_store (none) rfl (by rfl) (fun W33 hg34 => ⟨_, run_store_mid 23 (.tmp 10) (.tmp 64) rfl (W31.heap.size) 0 #[.int .i64 q1, .int .i64 q2, .int .i64 q3] rfl rfl (Row.room hg34 3 rfl) (by kernel_rfl) (by kernel_rfl), ?_⟩)
  simp only [Act.put]
  refine wpG_tk (some 11) (v := .bool true) rfl (.val (by rfl) (fun _ _ => rfl)) ?_
  simp only [Act.put, List.setIfInBounds_toArray, List.set_cons_zero, List.set_cons_succ]
  refine wpG_done (fun V35 hv36 => ?_)
  have l38 : w.heap.size < W31.heap.size := (R25.out.below (GC30.out.trans hg32)).lt
  have l39 : w.heap.size + 1 < W31.heap.size := (R26.out.below (GC30.out.trans hg32)).lt
  have l40 : W15.heap.size < W31.heap.size := (R27.out.below (GC30.out.trans hg32)).lt
  have l41 : w.heap.size ≤ W31.heap.size := (Gr.to G21.out (GC30.out.trans hg32)).size
  have R42 := Lib.hid ((R25.out.below (GC30.out.trans hg32)).past hg34 hv36)
  have R43 := Lib.hid ((R26.out.below (GC30.out.trans hg32)).past hg34 hv36)
  have R44 := Lib.hid ((R27.out.below (GC30.out.trans hg32)).past hg34 hv36)
  have R45 := Lib.hid (Row.made (zs := [.int .i64 0, .int .i64 0, .int .i64 0]) (ds := [.int .i64 q1, .int .i64 q2, .int .i64 q3]) rfl hg34 hv36)
  have G37 := Lib.hid (Gr.to (Gr.to G21.out (GC30.out.trans hg32)) (Gr.past hg34 hv36))
  have HT := Lib.hid (HT.out.below ((GC30.out.trans hg32).trans (Gr.past hg34 hv36)))
  clear hg34 hv36 
  go_upto_region 10 with fail
  refine wpG_region ?_
  refine wpG_tk (some 66) (v := .bool true) rfl (.val (by rfl) (fun _ _ => rfl)) ?_
  simp only [Act.put, List.setIfInBounds_toArray, List.set_cons_zero, List.set_cons_succ]
  refine wpG_tk (some 67) (v := .int .i64 i) rfl (.val (by rfl) (fun _ _ => rfl)) ?_
  simp only [Act.put, List.setIfInBounds_toArray, List.set_cons_zero, List.set_cons_succ]
  refine wpG_tk (some 68) (v := .bool true) rfl (.val (by rfl) (fun W hg => by have hq : (i ≥ 0) := (by omega); first | (go_simp; done) | (go_simp <;> omega))) ?_
  simp only [Act.put, List.setIfInBounds_toArray, List.set_cons_zero, List.set_cons_succ]
  refine wpG_tk (some 69) (v := .bool true) rfl (.val (by rfl) (fun _ _ => rfl)) ?_
  simp only [Act.put, List.setIfInBounds_toArray, List.set_cons_zero, List.set_cons_succ]
  refine wpG_tk (some 70) (v := .int .i64 i) rfl (.val (by rfl) (fun _ _ => rfl)) ?_
  simp only [Act.put, List.setIfInBounds_toArray, List.set_cons_zero, List.set_cons_succ]
  refine wpG_tk (some 71) (v := .agg #[.int .i64 a1, .int .i64 a2, .int .i64 a3, .int .i64 a4, .int .i64 a5, .int .i64 a6]) rfl (.load_mid (by rfl) 31 (.tmp 3) rfl (w.heap.size) 0 rfl [.int .i64 a1, .int .i64 a2, .int .i64 a3, .int .i64 a4, .int .i64 a5, .int .i64 a6] _ (fun W hg => (R42.out.below hg).range) Tryd.underlying31 rfl (by kernel_rfl)) ?_
  simp only [Act.put, List.setIfInBounds_toArray, List.set_cons_zero, List.set_cons_succ]
  refine wpG_tk (some 72) (v := .int .i64 (Pt.vol a1 a2 a3 a4 a5 a6)) rfl (.call (f := 29) (args := #[.agg #[.int .i64 a1, .int .i64 a2, .int .i64 a3, .int .i64 a4, .int .i64 a5, .int .i64 a6]]) (by rfl) (fun W => by go_simp) (fun W hg => volume_any a1 a2 a3 a4 a5 a6 W (by omega))) ?_
  simp only [Act.put, List.setIfInBounds_toArray, List.set_cons_zero, List.set_cons_succ]
  refine wpG_tk (some 73) (v := .bool true) rfl (.val (by rfl) (fun W hg => by have hq : (i < Pt.vol a1 a2 a3 a4 a5 a6) := (by omega); first | (go_simp; done) | (go_simp <;> omega))) ?_
  simp only [Act.put, List.setIfInBounds_toArray, List.set_cons_zero, List.set_cons_succ]
  refine wpG_tk (some 74) (v := .bool true) rfl (.val (by rfl) (fun W hg => by go_simp)) ?_
  simp only [Act.put, List.setIfInBounds_toArray, List.set_cons_zero, List.set_cons_succ]
  refine wpG_tk (some 75) (v := .bool false) rfl (.val (by rfl) (fun W hg => by go_simp)) ?_
  simp only [Act.put, List.setIfInBounds_toArray, List.set_cons_zero, List.set_cons_succ]
  refine wpG_done (fun V46 hv47 => ?_)
  have GC48 := Lib.hid hv47
  clear hv47
  go_upto_region 12 with fail
  refine wpG_region ?_
  refine wpG_tk (some 76) (v := .bool true) rfl (.val (by rfl) (fun _ _ => rfl)) ?_
  simp only [Act.put, List.setIfInBounds_toArray, List.set_cons_zero, List.set_cons_succ]
  refine wpG_tk (some 77) (v := .bool false) rfl (.val (by rfl) (fun W hg => by go_simp)) ?_
  simp only [Act.put, List.setIfInBounds_toArray, List.set_cons_zero, List.set_cons_succ]
  refine wpG_done (fun V49 hv50 => ?_)
  have GC51 := Lib.hid (GC48.out.trans hv50)
  clear hv50
  go_upto_region 14 with fail
  refine wpG_region ?_
  refine wpG_tk (some 85) (v := .agg #[.int .i64 a1, .int .i64 a2, .int .i64 a3, .int .i64 a4, .int .i64 a5, .int .i64 a6]) rfl (.load_mid (by rfl) 31 (.tmp 3) rfl (w.heap.size) 0 rfl [.int .i64 a1, .int .i64 a2, .int .i64 a3, .int .i64 a4, .int .i64 a5, .int .i64 a6] _ (fun W hg => (R42.out.below (GC51.out.trans hg)).range) Tryd.underlying31 rfl (by kernel_rfl)) ?_
  simp only [Act.put, List.setIfInBounds_toArray, List.set_cons_zero, List.set_cons_succ]
  refine wpG_tk (some 86) (v := .int .i64 i) rfl (.val (by rfl) (fun _ _ => rfl)) ?_
  simp only [Act.put, List.setIfInBounds_toArray, List.set_cons_zero, List.set_cons_succ]
  refine wpG_tk (some 87) (v := .int .i64 (i + 1)) rfl (.val (by rfl) (fun W hg => by (first | (go_simp; done) | (go_simp; rw [IntWalk.i64_in _ (by omega)])))) ?_
  simp only [Act.put, List.setIfInBounds_toArray, List.set_cons_zero, List.set_cons_succ]
  refine wpG_tk (some 88) (v := .tuple #[.agg #[.int .i64 n1, .int .i64 n2, .int .i64 n3], .bool true]) rfl (.call (f := 21) (args := #[.agg #[.int .i64 a1, .int .i64 a2, .int .i64 a3, .int .i64 a4, .int .i64 a5, .int .i64 a6], .int .i64 (i + 1)]) (by rfl) (fun W => by go_simp) (fun W hg => (by have c := at_ok a1 a2 a3 a4 a5 a6 (i + 1) W (by omega) (by omega) (by omega) HE.out; rw [HN1.out, HN2.out, HN3.out] at c; exact c))) ?_
  simp only [Act.put, List.setIfInBounds_toArray, List.set_cons_zero, List.set_cons_succ]
  refine wpG_tk (some 84) (v := .tuple #[.agg #[.int .i64 n1, .int .i64 n2, .int .i64 n3], .bool true]) rfl (.val (by rfl) (fun _ _ => rfl)) ?_
  simp only [Act.put, List.setIfInBounds_toArray, List.set_cons_zero, List.set_cons_succ]
  refine wpG_tk (some 89) (v := .agg #[.int .i64 n1, .int .i64 n2, .int .i64 n3]) rfl (.val (by rfl) (fun W hg => by go_simp)) ?_
  simp only [Act.put, List.setIfInBounds_toArray, List.set_cons_zero, List.set_cons_succ]
  refine wpG_tk (some 90) (v := .bool true) rfl (.val (by rfl) (fun W hg => by go_simp)) ?_
  simp only [Act.put, List.setIfInBounds_toArray, List.set_cons_zero, List.set_cons_succ]
  refine wpG_val (some 12) rfl (by rfl) (fun W52 hg53 => ⟨.pointer (some ⟨W52.heap.size, 0, none⟩), W52.alloc (.cells #[.int .i64 0, .int .i64 0, .int .i64 0] 23), by (go_simp <;> rfl), ?_⟩)
  simp only [Act.put, List.setIfInBounds_toArray, List.set_cons_zero, List.set_cons_succ]
  refine wpG_store (none) rfl (by rfl) (fun W54 hg55 => ⟨_, run_store_mid 23 (.tmp 12) (.tmp 89) rfl (W52.heap.size) 0 #[.int .i64 n1, .int .i64 n2, .int .i64 n3] rfl rfl (Row.room hg55 3 rfl) (by kernel_rfl) (by kernel_rfl), ?_⟩)
  simp only [Act.put]
  refine wpG_tk (some 13) (v := .bool true) rfl (.val (by rfl) (fun _ _ => rfl)) ?_
  simp only [Act.put, List.setIfInBounds_toArray, List.set_cons_zero, List.set_cons_succ]
  refine wpG_done (fun V56 hv57 => ?_)
  have l59 : w.heap.size < W52.heap.size := (R42.out.below (GC51.out.trans hg53)).lt
  have l60 : w.heap.size + 1 < W52.heap.size := (R43.out.below (GC51.out.trans hg53)).lt
  have l61 : W15.heap.size < W52.heap.size := (R44.out.below (GC51.out.trans hg53)).lt
  have l62 : W31.heap.size < W52.heap.size := (R45.out.below (GC51.out.trans hg53)).lt
  have l63 : w.heap.size ≤ W52.heap.size := (Gr.to G37.out (GC51.out.trans hg53)).size
  have R64 := Lib.hid ((R42.out.below (GC51.out.trans hg53)).past hg55 hv57)
  have R65 := Lib.hid ((R43.out.below (GC51.out.trans hg53)).past hg55 hv57)
  have R66 := Lib.hid ((R44.out.below (GC51.out.trans hg53)).past hg55 hv57)
  have R67 := Lib.hid ((R45.out.below (GC51.out.trans hg53)).past hg55 hv57)
  have R68 := Lib.hid (Row.made (zs := [.int .i64 0, .int .i64 0, .int .i64 0]) (ds := [.int .i64 n1, .int .i64 n2, .int .i64 n3]) rfl hg55 hv57)
  have G58 := Lib.hid (Gr.to (Gr.to G37.out (GC51.out.trans hg53)) (Gr.past hg55 hv57))
  have HT := Lib.hid (HT.out.below ((GC51.out.trans hg53).trans (Gr.past hg55 hv57)))
  clear hg55 hv57 
  go_upto_region 15 with fail
  refine wpG_region ?_
  refine wpG_tk (some 91) (v := .pointer (some ⟨W31.heap.size, 0, none⟩)) rfl (.val (by rfl) (fun W hg => by go_simp)) ?_
  simp only [Act.put, List.setIfInBounds_toArray, List.set_cons_zero, List.set_cons_succ]
  refine wpG_tk (some 92) (v := .int .i64 q1) rfl (.val (by rfl) (fun W hg => by have c := (R67.out.below hg 0 _ rfl).1; go_simp)) ?_
  simp only [Act.put, List.setIfInBounds_toArray, List.set_cons_zero, List.set_cons_succ]
  refine wpG_tk (some 93) (v := .int .i64 (q1 + 1)) rfl (.val (by rfl) (fun W hg => by (first | (go_simp; done) | (go_simp; rw [IntWalk.i64_in _ (by omega)])))) ?_
  simp only [Act.put, List.setIfInBounds_toArray, List.set_cons_zero, List.set_cons_succ]
  refine wpG_tk (some 94) (v := .pointer (some ⟨W31.heap.size, 1, none⟩)) rfl (.val (by rfl) (fun W hg => by go_simp)) ?_
  simp only [Act.put, List.setIfInBounds_toArray, List.set_cons_zero, List.set_cons_succ]
  refine wpG_tk (some 95) (v := .int .i64 q2) rfl (.val (by rfl) (fun W hg => by have c := (R67.out.below hg 1 _ rfl).1; go_simp)) ?_
  simp only [Act.put, List.setIfInBounds_toArray, List.set_cons_zero, List.set_cons_succ]
  refine wpG_tk (some 96) (v := .pointer (some ⟨W31.heap.size, 2, none⟩)) rfl (.val (by rfl) (fun W hg => by go_simp)) ?_
  simp only [Act.put, List.setIfInBounds_toArray, List.set_cons_zero, List.set_cons_succ]
  refine wpG_tk (some 97) (v := .int .i64 q3) rfl (.val (by rfl) (fun W hg => by have c := (R67.out.below hg 2 _ rfl).1; go_simp)) ?_
  simp only [Act.put, List.setIfInBounds_toArray, List.set_cons_zero, List.set_cons_succ]
  refine wpG_tk (some 98) (v := .agg #[.int .i64 (q1 + 1), .int .i64 q2, .int .i64 q3]) rfl (.call (f := 63) (args := #[.int .i64 (q1 + 1), .int .i64 q2, .int .i64 q3]) (by rfl) (fun W => by go_simp) (fun W hg => lawat_any (q1 + 1) q2 q3 W)) ?_
  simp only [Act.put, List.setIfInBounds_toArray, List.set_cons_zero, List.set_cons_succ]
  refine wpG_val (some 14) rfl (by rfl) (fun W69 hg70 => ⟨.pointer (some ⟨W69.heap.size, 0, none⟩), W69.alloc (.cells #[.int .i64 0, .int .i64 0, .int .i64 0] 23), by (go_simp <;> rfl), ?_⟩)
  simp only [Act.put, List.setIfInBounds_toArray, List.set_cons_zero, List.set_cons_succ]
  refine wpG_store (none) rfl (by rfl) (fun W71 hg72 => ⟨_, run_store_mid 23 (.tmp 14) (.tmp 98) rfl (W69.heap.size) 0 #[.int .i64 (q1 + 1), .int .i64 q2, .int .i64 q3] rfl rfl (Row.room hg72 3 rfl) (by kernel_rfl) (by kernel_rfl), ?_⟩)
  simp only [Act.put]
  refine wpG_done (fun V73 hv74 => ?_)
  have l76 : w.heap.size < W69.heap.size := (R64.out.below hg70).lt
  have l77 : w.heap.size + 1 < W69.heap.size := (R65.out.below hg70).lt
  have l78 : W15.heap.size < W69.heap.size := (R66.out.below hg70).lt
  have l79 : W31.heap.size < W69.heap.size := (R67.out.below hg70).lt
  have l80 : W52.heap.size < W69.heap.size := (R68.out.below hg70).lt
  have l81 : w.heap.size ≤ W69.heap.size := (Gr.to G58.out hg70).size
  have R82 := Lib.hid ((R64.out.below hg70).past hg72 hv74)
  have R83 := Lib.hid ((R65.out.below hg70).past hg72 hv74)
  have R84 := Lib.hid ((R66.out.below hg70).past hg72 hv74)
  have R85 := Lib.hid ((R67.out.below hg70).past hg72 hv74)
  have R86 := Lib.hid ((R68.out.below hg70).past hg72 hv74)
  have R87 := Lib.hid (Row.made (zs := [.int .i64 0, .int .i64 0, .int .i64 0]) (ds := [.int .i64 (q1 + 1), .int .i64 q2, .int .i64 q3]) rfl hg72 hv74)
  have G75 := Lib.hid (Gr.to (Gr.to G58.out hg70) (Gr.past hg72 hv74))
  have HT := Lib.hid (HT.out.below (hg70.trans (Gr.past hg72 hv74)))
  clear hg72 hv74 
  go_upto_region 16 with fail
  refine wpG_region ?_
  refine wpG_tk (some 99) (v := .pointer (some ⟨W69.heap.size, 0, none⟩)) rfl (.val (by rfl) (fun W hg => by go_simp)) ?_
  simp only [Act.put, List.setIfInBounds_toArray, List.set_cons_zero, List.set_cons_succ]
  refine wpG_tk (some 100) (v := .int .i64 (q1 + 1)) rfl (.val (by rfl) (fun W hg => by have c := (R87.out.below hg 0 _ rfl).1; go_simp)) ?_
  simp only [Act.put, List.setIfInBounds_toArray, List.set_cons_zero, List.set_cons_succ]
  refine wpG_tk (some 101) (v := .pointer (some ⟨w.heap.size, 3, none⟩)) rfl (.val (by rfl) (fun W hg => by go_simp)) ?_
  simp only [Act.put, List.setIfInBounds_toArray, List.set_cons_zero, List.set_cons_succ]
  refine wpG_tk (some 102) (v := .pointer (some ⟨w.heap.size, 3, none⟩)) rfl (.val (by rfl) (fun W hg => by go_simp)) ?_
  simp only [Act.put, List.setIfInBounds_toArray, List.set_cons_zero, List.set_cons_succ]
  refine wpG_tk (some 103) (v := .int .i64 a4) rfl (.val (by rfl) (fun W hg => by have c := (R82.out.below hg 3 _ rfl).1; go_simp)) ?_
  simp only [Act.put, List.setIfInBounds_toArray, List.set_cons_zero, List.set_cons_succ]
  refine wpG_tk (some 104) (v := .bool true) rfl (.val (by rfl) (fun W hg => by have hq : (q1 + 1 = a4) := (by omega); first | (go_simp; done) | (go_simp <;> omega))) ?_
  simp only [Act.put, List.setIfInBounds_toArray, List.set_cons_zero, List.set_cons_succ]
  refine wpG_done (fun V88 hv89 => ?_)
  have GC90 := Lib.hid hv89
  clear hv89
  go_upto_region 17 with fail
  refine wpG_region ?_
  refine wpG_tk (some 105) (v := .pointer (some ⟨w.heap.size, 0, none⟩)) rfl (.val (by rfl) (fun W hg => by go_simp)) ?_
  simp only [Act.put, List.setIfInBounds_toArray, List.set_cons_zero, List.set_cons_succ]
  refine wpG_tk (some 106) (v := .pointer (some ⟨w.heap.size, 0, none⟩)) rfl (.val (by rfl) (fun W hg => by go_simp)) ?_
  simp only [Act.put, List.setIfInBounds_toArray, List.set_cons_zero, List.set_cons_succ]
  refine wpG_tk (some 107) (v := .int .i64 a1) rfl (.val (by rfl) (fun W hg => by have c := (R82.out.below (GC90.out.trans hg) 0 _ rfl).1; go_simp)) ?_
  simp only [Act.put, List.setIfInBounds_toArray, List.set_cons_zero, List.set_cons_succ]
  refine wpG_tk (some 108) (v := .pointer (some ⟨W31.heap.size, 1, none⟩)) rfl (.val (by rfl) (fun W hg => by go_simp)) ?_
  simp only [Act.put, List.setIfInBounds_toArray, List.set_cons_zero, List.set_cons_succ]
  refine wpG_tk (some 109) (v := .int .i64 q2) rfl (.val (by rfl) (fun W hg => by have c := (R85.out.below (GC90.out.trans hg) 1 _ rfl).1; go_simp)) ?_
  simp only [Act.put, List.setIfInBounds_toArray, List.set_cons_zero, List.set_cons_succ]
  refine wpG_tk (some 110) (v := .int .i64 (q2 + 1)) rfl (.val (by rfl) (fun W hg => by (first | (go_simp; done) | (go_simp; rw [IntWalk.i64_in _ (by omega)])))) ?_
  simp only [Act.put, List.setIfInBounds_toArray, List.set_cons_zero, List.set_cons_succ]
  refine wpG_tk (some 111) (v := .pointer (some ⟨W31.heap.size, 2, none⟩)) rfl (.val (by rfl) (fun W hg => by go_simp)) ?_
  simp only [Act.put, List.setIfInBounds_toArray, List.set_cons_zero, List.set_cons_succ]
  refine wpG_tk (some 112) (v := .int .i64 q3) rfl (.val (by rfl) (fun W hg => by have c := (R85.out.below (GC90.out.trans hg) 2 _ rfl).1; go_simp)) ?_
  simp only [Act.put, List.setIfInBounds_toArray, List.set_cons_zero, List.set_cons_succ]
  refine wpG_tk (some 113) (v := .agg #[.int .i64 a1, .int .i64 (q2 + 1), .int .i64 q3]) rfl (.call (f := 63) (args := #[.int .i64 a1, .int .i64 (q2 + 1), .int .i64 q3]) (by rfl) (fun W => by go_simp) (fun W hg => lawat_any a1 (q2 + 1) q3 W)) ?_
  simp only [Act.put, List.setIfInBounds_toArray, List.set_cons_zero, List.set_cons_succ]
  refine wpG_store (none) rfl (by rfl) (fun W91 hg92 => ⟨_, run_store_mid 23 (.tmp 14) (.tmp 113) rfl (W69.heap.size) 0 #[.int .i64 a1, .int .i64 (q2 + 1), .int .i64 q3] rfl rfl (((R87.out.below (GC90.out.trans hg92)).there 0 3 (by simp))) (by kernel_rfl) (by kernel_rfl), ?_⟩)
  simp only [Act.put]
  refine wpG_done (fun V93 hv94 => ?_)
  have R96 := Lib.hid (Row.put (ds := [.int .i64 a1, .int .i64 (q2 + 1), .int .i64 q3]) R87.out (GC90.out.trans hg92) rfl hv94)
  have G95 := Lib.hid (Gr.put G75.out (GC90.out.trans hg92) (by omega) hv94)
  have R97 := Lib.hid (((R82.out.below (GC90.out.trans hg92)).far (b := W69.heap.size) (by omega) 0 [.int .i64 a1, .int .i64 (q2 + 1), .int .i64 q3]).below hv94)
  have R98 := Lib.hid (((R83.out.below (GC90.out.trans hg92)).far (b := W69.heap.size) (by omega) 0 [.int .i64 a1, .int .i64 (q2 + 1), .int .i64 q3]).below hv94)
  have R99 := Lib.hid (((R84.out.below (GC90.out.trans hg92)).far (b := W69.heap.size) (by omega) 0 [.int .i64 a1, .int .i64 (q2 + 1), .int .i64 q3]).below hv94)
  have R100 := Lib.hid (((R85.out.below (GC90.out.trans hg92)).far (b := W69.heap.size) (by omega) 0 [.int .i64 a1, .int .i64 (q2 + 1), .int .i64 q3]).below hv94)
  have R101 := Lib.hid (((R86.out.below (GC90.out.trans hg92)).far (b := W69.heap.size) (by omega) 0 [.int .i64 a1, .int .i64 (q2 + 1), .int .i64 q3]).below hv94)
  have HT := Lib.hid (HT0.out.below G95.out)
  go_upto_region 18 with fail
  refine wpG_region ?_
  refine wpG_tk (some 114) (v := .pointer (some ⟨W69.heap.size, 1, none⟩)) rfl (.val (by rfl) (fun W hg => by go_simp)) ?_
  simp only [Act.put, List.setIfInBounds_toArray, List.set_cons_zero, List.set_cons_succ]
  refine wpG_tk (some 115) (v := .int .i64 (q2 + 1)) rfl (.val (by rfl) (fun W hg => by have c := (R96.out.below hg 1 _ rfl).1; go_simp)) ?_
  simp only [Act.put, List.setIfInBounds_toArray, List.set_cons_zero, List.set_cons_succ]
  refine wpG_tk (some 116) (v := .pointer (some ⟨w.heap.size, 3, none⟩)) rfl (.val (by rfl) (fun W hg => by go_simp)) ?_
  simp only [Act.put, List.setIfInBounds_toArray, List.set_cons_zero, List.set_cons_succ]
  refine wpG_tk (some 117) (v := .pointer (some ⟨w.heap.size, 4, none⟩)) rfl (.val (by rfl) (fun W hg => by go_simp)) ?_
  simp only [Act.put, List.setIfInBounds_toArray, List.set_cons_zero, List.set_cons_succ]
  refine wpG_tk (some 118) (v := .int .i64 a5) rfl (.val (by rfl) (fun W hg => by have c := (R97.out.below hg 4 _ rfl).1; go_simp)) ?_
  simp only [Act.put, List.setIfInBounds_toArray, List.set_cons_zero, List.set_cons_succ]
  refine wpG_tk (some 119) (v := .bool false) rfl (.val (by rfl) (fun W hg => by have hq : ¬ (q2 + 1 = a5) := (by omega); first | (go_simp; done) | (go_simp <;> omega))) ?_
  simp only [Act.put, List.setIfInBounds_toArray, List.set_cons_zero, List.set_cons_succ]
  refine wpG_done (fun V102 hv103 => ?_)
  have GC104 := Lib.hid hv103
  clear hv103
  go_upto_region 20 with fail
  refine wpG_region ?_
  refine wpG_tk (some 130) (v := .bool true) rfl (.call (f := 12) (args := #[]) (by rfl) (fun W => by go_simp) (fun W hg => sanity_any W (HT.out.below (GC104.out.trans hg)))) ?_
  simp only [Act.put, List.setIfInBounds_toArray, List.set_cons_zero, List.set_cons_succ]
  refine wpG_tk (some 131) (v := .bool true) rfl (.val (by rfl) (fun _ _ => rfl)) ?_
  simp only [Act.put, List.setIfInBounds_toArray, List.set_cons_zero, List.set_cons_succ]
  refine wpG_tk (some 132) (v := .agg #[.int .i64 a1, .int .i64 a2, .int .i64 a3, .int .i64 a4, .int .i64 a5, .int .i64 a6]) rfl (.load_mid (by rfl) 31 (.tmp 3) rfl (w.heap.size) 0 rfl [.int .i64 a1, .int .i64 a2, .int .i64 a3, .int .i64 a4, .int .i64 a5, .int .i64 a6] _ (fun W hg => (R97.out.below (GC104.out.trans hg)).range) Tryd.underlying31 rfl (by kernel_rfl)) ?_
  simp only [Act.put, List.setIfInBounds_toArray, List.set_cons_zero, List.set_cons_succ]
  refine wpG_tk (some 133) (v := .agg #[.int .i64 q1, .int .i64 q2, .int .i64 q3]) rfl (.load_mid (by rfl) 23 (.tmp 10) rfl (W31.heap.size) 0 rfl [.int .i64 q1, .int .i64 q2, .int .i64 q3] _ (fun W hg => (R100.out.below (GC104.out.trans hg)).range) Tryd.underlying23 rfl (by kernel_rfl)) ?_
  simp only [Act.put, List.setIfInBounds_toArray, List.set_cons_zero, List.set_cons_succ]
  refine wpG_tk (some 134) (v := .int .i64 i) rfl (.call (f := 43) (args := #[.agg #[.int .i64 a1, .int .i64 a2, .int .i64 a3, .int .i64 a4, .int .i64 a5, .int .i64 a6], .agg #[.int .i64 q1, .int .i64 q2, .int .i64 q3]]) (by rfl) (fun W => by go_simp) (fun W hg => (by have c := index_t a1 a2 a3 a4 a5 a6 q1 q2 q3 W (by omega) HBQ.out; rw [HB.out] at c; exact c))) ?_
  simp only [Act.put, List.setIfInBounds_toArray, List.set_cons_zero, List.set_cons_succ]
  refine wpG_tk (some 135) (v := .int .i64 i) rfl (.val (by rfl) (fun _ _ => rfl)) ?_
  simp only [Act.put, List.setIfInBounds_toArray, List.set_cons_zero, List.set_cons_succ]
  refine wpG_tk (some 136) (v := .bool true) rfl (.val (by rfl) (fun W hg => by go_simp)) ?_
  simp only [Act.put, List.setIfInBounds_toArray, List.set_cons_zero, List.set_cons_succ]
  refine wpG_tk (some 137) (v := .bool true) rfl (.val (by rfl) (fun W hg => by go_simp)) ?_
  simp only [Act.put, List.setIfInBounds_toArray, List.set_cons_zero, List.set_cons_succ]
  refine wpG_tk (some 138) (v := .bool true) rfl (.val (by rfl) (fun _ _ => rfl)) ?_
  simp only [Act.put, List.setIfInBounds_toArray, List.set_cons_zero, List.set_cons_succ]
  refine wpG_tk (some 139) (v := .bool true) rfl (.val (by rfl) (fun _ _ => rfl)) ?_
  simp only [Act.put, List.setIfInBounds_toArray, List.set_cons_zero, List.set_cons_succ]
  refine wpG_tk (some 140) (v := .bool false) rfl (.val (by rfl) (fun W hg => by go_simp)) ?_
  simp only [Act.put, List.setIfInBounds_toArray, List.set_cons_zero, List.set_cons_succ]
  refine wpG_tk (some 141) (v := .bool false) rfl (.val (by rfl) (fun _ _ => rfl)) ?_
  simp only [Act.put, List.setIfInBounds_toArray, List.set_cons_zero, List.set_cons_succ]
  refine wpG_tk (some 142) (v := .agg #[.int .i64 n1, .int .i64 n2, .int .i64 n3]) rfl (.load_mid (by rfl) 23 (.tmp 12) rfl (W52.heap.size) 0 rfl [.int .i64 n1, .int .i64 n2, .int .i64 n3] _ (fun W hg => (R101.out.below (GC104.out.trans hg)).range) Tryd.underlying23 rfl (by kernel_rfl)) ?_
  simp only [Act.put, List.setIfInBounds_toArray, List.set_cons_zero, List.set_cons_succ]
  refine wpG_tk (some 143) (v := .agg #[.int .i64 a1, .int .i64 (q2 + 1), .int .i64 q3]) rfl (.load_mid (by rfl) 23 (.tmp 14) rfl (W69.heap.size) 0 rfl [.int .i64 a1, .int .i64 (q2 + 1), .int .i64 q3] _ (fun W hg => (R96.out.below (GC104.out.trans hg)).range) Tryd.underlying23 rfl (by kernel_rfl)) ?_
  simp only [Act.put, List.setIfInBounds_toArray, List.set_cons_zero, List.set_cons_succ]
  refine wpG_tk (some 144) (v := .bool true) rfl (.val (by rfl) (fun W hg => by (go_simp <;> first | omega | ((repeat' split) <;> first | rfl | (exfalso; omega))))) ?_
  simp only [Act.put, List.setIfInBounds_toArray, List.set_cons_zero, List.set_cons_succ]
  refine wpG_tk (some 145) (v := .bool true) rfl (.val (by rfl) (fun W hg => by go_simp)) ?_
  simp only [Act.put, List.setIfInBounds_toArray, List.set_cons_zero, List.set_cons_succ]
  refine wpG_tk (some 146) (v := .bool true) rfl (.val (by rfl) (fun W hg => by go_simp)) ?_
  simp only [Act.put, List.setIfInBounds_toArray, List.set_cons_zero, List.set_cons_succ]
  refine wpG_tk (some 147) (v := .bool true) rfl (.val (by rfl) (fun _ _ => rfl)) ?_
  simp only [Act.put, List.setIfInBounds_toArray, List.set_cons_zero, List.set_cons_succ]
  refine wpG_tk (some 148) (v := .bool true) rfl (.val (by rfl) (fun _ _ => rfl)) ?_
  simp only [Act.put, List.setIfInBounds_toArray, List.set_cons_zero, List.set_cons_succ]
  refine wpG_tk (some 149) (v := .pointer (some ⟨W69.heap.size, 2, none⟩)) rfl (.val (by rfl) (fun W hg => by go_simp)) ?_
  simp only [Act.put, List.setIfInBounds_toArray, List.set_cons_zero, List.set_cons_succ]
  refine wpG_tk (some 150) (v := .int .i64 q3) rfl (.val (by rfl) (fun W hg => by have c := (R96.out.below (GC104.out.trans hg) 2 _ rfl).1; go_simp)) ?_
  simp only [Act.put, List.setIfInBounds_toArray, List.set_cons_zero, List.set_cons_succ]
  refine wpG_tk (some 151) (v := .pointer (some ⟨w.heap.size, 3, none⟩)) rfl (.val (by rfl) (fun W hg => by go_simp)) ?_
  simp only [Act.put, List.setIfInBounds_toArray, List.set_cons_zero, List.set_cons_succ]
  refine wpG_tk (some 152) (v := .pointer (some ⟨w.heap.size, 5, none⟩)) rfl (.val (by rfl) (fun W hg => by go_simp)) ?_
  simp only [Act.put, List.setIfInBounds_toArray, List.set_cons_zero, List.set_cons_succ]
  refine wpG_tk (some 153) (v := .int .i64 a6) rfl (.val (by rfl) (fun W hg => by have c := (R97.out.below (GC104.out.trans hg) 5 _ rfl).1; go_simp)) ?_
  simp only [Act.put, List.setIfInBounds_toArray, List.set_cons_zero, List.set_cons_succ]
  refine wpG_tk (some 154) (v := .bool true) rfl (.val (by rfl) (fun W hg => by have hq : (q3 < a6) := (by omega); first | (go_simp; done) | (go_simp <;> omega))) ?_
  simp only [Act.put, List.setIfInBounds_toArray, List.set_cons_zero, List.set_cons_succ]
  refine wpG_tk (some 155) (v := .bool true) rfl (.val (by rfl) (fun W hg => by go_simp)) ?_
  simp only [Act.put, List.setIfInBounds_toArray, List.set_cons_zero, List.set_cons_succ]
  refine wpG_tk (some 156) (v := .bool true) rfl (.val (by rfl) (fun W hg => by go_simp)) ?_
  simp only [Act.put, List.setIfInBounds_toArray, List.set_cons_zero, List.set_cons_succ]
  refine wpG_tk (some 6) (v := .bool true) rfl (.val (by rfl) (fun _ _ => rfl)) ?_
  simp only [Act.put, List.setIfInBounds_toArray, List.set_cons_zero, List.set_cons_succ]
  refine wpG_done (fun V105 hv106 => ?_)
  have GC107 := Lib.hid (GC104.out.trans hv106)
  clear hv106
  go_wp2_with fail
  go_ret
  exact ⟨rfl, Gr.to G95.out GC107.out⟩
set_option maxRecDepth 1000000 in
set_option maxHeartbeats 8000000 in
theorem law10_fbig (a1 a2 a3 a4 a5 a6 x1 x2 x3 i : Int) (w : World) (hT : Tab w) (i1 : In64 (a1, a2, a3)) (i2 : In64 (a4, a5, a6)) (i3 : In64 (x1, x2, x3)) (hi : -9223372036854775808 ≤ i ∧ i ≤ 9223372036854775807) (hs : [(a1, a2, a3), (a4, a5, a6), (x1, x2, x3)].all inR = true) (hx : Pt.inB x1 x2 x3 a1 a2 a3 a4 a5 a6 = false) (h0 : 0 ≤ i) (h1 : Pt.vol a1 a2 a3 a4 a5 a6 ≤ i) :
    Calls Tryd.prog 10 #[.agg #[.int .i64 a1, .int .i64 a2, .int .i64 a3, .int .i64 a4, .int .i64 a5, .int .i64 a6], .agg #[.int .i64 x1, .int .i64 x2, .int .i64 x3], .int .i64 i] w fun e w' => e = .returned (.bool true) ∧ Below w.heap.size w w' := by
  have bb := hs
  simp only [List.all_cons, List.all_nil, Bool.and_true, Bool.and_eq_true, inR_true] at bb
  have vb := vol_bd a1 a2 a3 a4 a5 a6 (by omega)
  have HS := Lib.hid hs
  have HI := Lib.hid hx
  clear hs hx
  have HT0 := Lib.hid hT
  obtain ⟨u, hu, r0, r1, g0⟩ := rows2 w [.int .i64 a1, .int .i64 a2, .int .i64 a3, .int .i64 a4, .int .i64 a5, .int .i64 a6] 31 [.int .i64 x1, .int .i64 x2, .int .i64 x3] 23
  have R0 := Lib.hid r0
  have R1 := Lib.hid r1
  have G0 := Lib.hid g0
  have HU := Lib.hid hu
  have HT := Lib.hid (hT.below g0)
  clear hT
  clear hu g0 r0 r1
  go_enter Tryd.func10, Tryd.ntmps10
  go_upto_region 1 with fail
  rw [← HU.out]
  refine wpG_region ?_
  refine wpG_tk (some 15) (v := .pointer (some ⟨w.heap.size, 0, none⟩)) rfl (.val (by rfl) (fun W hg => by go_simp)) ?_
  simp only [Act.put, List.setIfInBounds_toArray, List.set_cons_zero, List.set_cons_succ]
  refine wpG_tk (some 16) (v := .agg #[.int .i64 a1, .int .i64 a2, .int .i64 a3]) rfl (.load_mid (by rfl) 23 (.tmp 15) rfl (w.heap.size) 0 rfl [.int .i64 a1, .int .i64 a2, .int .i64 a3] _ (fun W hg => (R0.out.below hg).lo) Tryd.underlying23 rfl (by kernel_rfl)) ?_
  simp only [Act.put, List.setIfInBounds_toArray, List.set_cons_zero, List.set_cons_succ]
  refine wpG_tk (some 17) (v := .pointer (some ⟨w.heap.size, 3, none⟩)) rfl (.val (by rfl) (fun W hg => by go_simp)) ?_
  simp only [Act.put, List.setIfInBounds_toArray, List.set_cons_zero, List.set_cons_succ]
  refine wpG_tk (some 18) (v := .agg #[.int .i64 a4, .int .i64 a5, .int .i64 a6]) rfl (.load_mid (by rfl) 23 (.tmp 17) rfl (w.heap.size) 3 rfl [.int .i64 a4, .int .i64 a5, .int .i64 a6] _ (fun W hg => (R0.out.below hg).hi) Tryd.underlying23 rfl (by kernel_rfl)) ?_
  simp only [Act.put, List.setIfInBounds_toArray, List.set_cons_zero, List.set_cons_succ]
  refine wpG_tk (some 19) (v := .agg #[.int .i64 x1, .int .i64 x2, .int .i64 x3]) rfl (.load_mid (by rfl) 23 (.tmp 4) rfl (w.heap.size + 1) 0 rfl [.int .i64 x1, .int .i64 x2, .int .i64 x3] _ (fun W hg => (R1.out.below hg).range) Tryd.underlying23 rfl (by kernel_rfl)) ?_
  simp only [Act.put, List.setIfInBounds_toArray, List.set_cons_zero, List.set_cons_succ]
  refine wpG_val (some 20) rfl (by rfl) (fun W1 hg2 => ⟨.slice (some ⟨W1.heap.size, 0, none⟩) 3 3, W1.alloc (.cells #[.int .i64 a1, .int .i64 a2, .int .i64 a3, .int .i64 a4, .int .i64 a5, .int .i64 a6, .int .i64 x1, .int .i64 x2, .int .i64 x3] 23), by (go_simp <;> rfl), ?_⟩)
  simp only [Act.put, List.setIfInBounds_toArray, List.set_cons_zero, List.set_cons_succ]
  obtain ⟨U3, hu, rn, gn⟩ : ∃ z, z = W1.alloc (.cells #[.int .i64 a1, .int .i64 a2, .int .i64 a3, .int .i64 a4, .int .i64 a5, .int .i64 a6, .int .i64 x1, .int .i64 x2, .int .i64 x3] 23) ∧ Row W1.heap.size [.int .i64 a1, .int .i64 a2, .int .i64 a3, .int .i64 a4, .int .i64 a5, .int .i64 a6, .int .i64 x1, .int .i64 x2, .int .i64 x3] z ∧ Gr W1 z := ⟨_, rfl, Row.newl W1 [.int .i64 a1, .int .i64 a2, .int .i64 a3, .int .i64 a4, .int .i64 a5, .int .i64 a6, .int .i64 x1, .int .i64 x2, .int .i64 x3] 23, Gr.al _ _⟩
  rw [← hu]
  have RN4 := Lib.hid rn
  have GB5 := Lib.hid (Gr.trans hg2 gn)
  clear hu rn gn hg2
  refine wpG_tk (some 21) (v := .bool true) rfl (.call (f := 11) (args := #[.slice (some ⟨W1.heap.size, 0, none⟩) 3 3]) (by rfl) (fun W => by go_simp) (fun W hg => small_is [(a1, a2, a3), (a4, a5, a6), (x1, x2, x3)] W1.heap.size 3 true W rfl (by decide) (RN4.out.below hg) (List.forall_mem_cons.2 ⟨i1, (List.forall_mem_cons.2 ⟨i2, (List.forall_mem_cons.2 ⟨i3, (fun _ h => absurd h List.not_mem_nil)⟩)⟩)⟩) HS.out)) ?_
  simp only [Act.put, List.setIfInBounds_toArray, List.set_cons_zero, List.set_cons_succ]
  refine wpG_tk (some 22) (v := .bool false) rfl (.val (by rfl) (fun W hg => by go_simp)) ?_
  simp only [Act.put, List.setIfInBounds_toArray, List.set_cons_zero, List.set_cons_succ]
  refine wpG_done (fun V6 hv7 => ?_)
  have GC8 := Lib.hid (GB5.out.trans hv7)
  clear hv7
  go_upto_region 3 with fail
  refine wpG_region ?_
  refine wpG_tk (some 24) (v := .agg #[.int .i64 a1, .int .i64 a2, .int .i64 a3, .int .i64 a4, .int .i64 a5, .int .i64 a6]) rfl (.load_mid (by rfl) 31 (.tmp 3) rfl (w.heap.size) 0 rfl [.int .i64 a1, .int .i64 a2, .int .i64 a3, .int .i64 a4, .int .i64 a5, .int .i64 a6] _ (fun W hg => (R0.out.below (GC8.out.trans hg)).range) Tryd.underlying31 rfl (by kernel_rfl)) ?_
  simp only [Act.put, List.setIfInBounds_toArray, List.set_cons_zero, List.set_cons_succ]
  refine wpG_tk (some 25) (v := .agg #[.int .i64 x1, .int .i64 x2, .int .i64 x3]) rfl (.load_mid (by rfl) 23 (.tmp 4) rfl (w.heap.size + 1) 0 rfl [.int .i64 x1, .int .i64 x2, .int .i64 x3] _ (fun W hg => (R1.out.below (GC8.out.trans hg)).range) Tryd.underlying23 rfl (by kernel_rfl)) ?_
  simp only [Act.put, List.setIfInBounds_toArray, List.set_cons_zero, List.set_cons_succ]
  refine wpG_tk (some 26) (v := .int .i64 (-1)) rfl (.call (f := 43) (args := #[.agg #[.int .i64 a1, .int .i64 a2, .int .i64 a3, .int .i64 a4, .int .i64 a5, .int .i64 a6], .agg #[.int .i64 x1, .int .i64 x2, .int .i64 x3]]) (by rfl) (fun W => by go_simp) (fun W hg => index_f a1 a2 a3 a4 a5 a6 x1 x2 x3 W HI.out)) ?_
  simp only [Act.put, List.setIfInBounds_toArray, List.set_cons_zero, List.set_cons_succ]
  refine wpG_tk (some 7) (v := .int .i64 (-1)) rfl (.val (by rfl) (fun _ _ => rfl)) ?_
  simp only [Act.put, List.setIfInBounds_toArray, List.set_cons_zero, List.set_cons_succ]
  refine wpG_done (fun V9 hv10 => ?_)
  have GC11 := Lib.hid (GC8.out.trans hv10)
  clear hv10
  go_upto_region 4 with fail
  refine wpG_region ?_
  refine wpG_tk (some 27) (v := .int .i64 (-1)) rfl (.val (by rfl) (fun _ _ => rfl)) ?_
  simp only [Act.put, List.setIfInBounds_toArray, List.set_cons_zero, List.set_cons_succ]
  refine wpG_tk (some 28) (v := .bool false) rfl (.val (by rfl) (fun W hg => by have hq : ¬ ((-1) ≥ 0) := (by omega); first | (go_simp; done) | (go_simp <;> omega))) ?_
  simp only [Act.put, List.setIfInBounds_toArray, List.set_cons_zero, List.set_cons_succ]
  refine wpG_tk (some 29) (v := .agg #[.int .i64 x1, .int .i64 x2, .int .i64 x3]) rfl (.load_mid (by rfl) 23 (.tmp 4) rfl (w.heap.size + 1) 0 rfl [.int .i64 x1, .int .i64 x2, .int .i64 x3] _ (fun W hg => (R1.out.below (GC11.out.trans hg)).range) Tryd.underlying23 rfl (by kernel_rfl)) ?_
  simp only [Act.put, List.setIfInBounds_toArray, List.set_cons_zero, List.set_cons_succ]
  refine wpG_tk (some 30) (v := .agg #[.int .i64 a1, .int .i64 a2, .int .i64 a3, .int .i64 a4, .int .i64 a5, .int .i64 a6]) rfl (.load_mid (by rfl) 31 (.tmp 3) rfl (w.heap.size) 0 rfl [.int .i64 a1, .int .i64 a2, .int .i64 a3, .int .i64 a4, .int .i64 a5, .int .i64 a6] _ (fun W hg => (R0.out.below (GC11.out.trans hg)).range) Tryd.underlying31 rfl (by kernel_rfl)) ?_
  simp only [Act.put, List.setIfInBounds_toArray, List.set_cons_zero, List.set_cons_succ]
  refine wpG_tk (some 31) (v := .bool false) rfl (.call (f := 25) (args := #[.agg #[.int .i64 x1, .int .i64 x2, .int .i64 x3], .agg #[.int .i64 a1, .int .i64 a2, .int .i64 a3, .int .i64 a4, .int .i64 a5, .int .i64 a6]]) (by rfl) (fun W => by go_simp) (fun W hg => in_any x1 x2 x3 a1 a2 a3 a4 a5 a6 false W HI.out)) ?_
  simp only [Act.put, List.setIfInBounds_toArray, List.set_cons_zero, List.set_cons_succ]
  refine wpG_tk (some 32) (v := .bool false) rfl (.val (by rfl) (fun W hg => by go_simp)) ?_
  simp only [Act.put, List.setIfInBounds_toArray, List.set_cons_zero, List.set_cons_succ]
  refine wpG_tk (some 33) (v := .bool false) rfl (.val (by rfl) (fun _ _ => rfl)) ?_
  simp only [Act.put, List.setIfInBounds_toArray, List.set_cons_zero, List.set_cons_succ]
  refine wpG_tk (some 34) (v := .int .i64 (-1)) rfl (.val (by rfl) (fun _ _ => rfl)) ?_
  simp only [Act.put, List.setIfInBounds_toArray, List.set_cons_zero, List.set_cons_succ]
  refine wpG_tk (some 35) (v := .agg #[.int .i64 a1, .int .i64 a2, .int .i64 a3, .int .i64 a4, .int .i64 a5, .int .i64 a6]) rfl (.load_mid (by rfl) 31 (.tmp 3) rfl (w.heap.size) 0 rfl [.int .i64 a1, .int .i64 a2, .int .i64 a3, .int .i64 a4, .int .i64 a5, .int .i64 a6] _ (fun W hg => (R0.out.below (GC11.out.trans hg)).range) Tryd.underlying31 rfl (by kernel_rfl)) ?_
  simp only [Act.put, List.setIfInBounds_toArray, List.set_cons_zero, List.set_cons_succ]
  refine wpG_tk (some 36) (v := .int .i64 (Pt.vol a1 a2 a3 a4 a5 a6)) rfl (.call (f := 29) (args := #[.agg #[.int .i64 a1, .int .i64 a2, .int .i64 a3, .int .i64 a4, .int .i64 a5, .int .i64 a6]]) (by rfl) (fun W => by go_simp) (fun W hg => volume_any a1 a2 a3 a4 a5 a6 W (by omega))) ?_
  simp only [Act.put, List.setIfInBounds_toArray, List.set_cons_zero, List.set_cons_succ]
  refine wpG_tk (some 37) (v := .bool false) rfl (.val (by rfl) (fun W hg => by have hq : ¬ ((-1) ≥ Pt.vol a1 a2 a3 a4 a5 a6) := (by omega); first | (go_simp; done) | (go_simp <;> omega))) ?_
  simp only [Act.put, List.setIfInBounds_toArray, List.set_cons_zero, List.set_cons_succ]
  refine wpG_tk (some 38) (v := .bool false) rfl (.val (by rfl) (fun _ _ => rfl)) ?_
  simp only [Act.put, List.setIfInBounds_toArray, List.set_cons_zero, List.set_cons_succ]
  refine wpG_tk (some 39) (v := undef) rfl (.no (by rfl)) ?_
  simp only [Act.put, List.setIfInBounds_toArray, List.set_cons_zero, List.set_cons_succ]
  refine wpG_tk (some 40) (v := undef) rfl (.no (by rfl)) ?_
  simp only [Act.put, List.setIfInBounds_toArray, List.set_cons_zero, List.set_cons_succ]
  refine wpG_tk (some 41) (v := .bool false) rfl (.val (by rfl) (fun W hg => by go_simp)) ?_
  simp only [Act.put, List.setIfInBounds_toArray, List.set_cons_zero, List.set_cons_succ]
  refine wpG_tk (some 42) (v := .bool false) rfl (.val (by rfl) (fun W hg => by go_simp)) ?_
  simp only [Act.put, List.setIfInBounds_toArray, List.set_cons_zero, List.set_cons_succ]
  refine wpG_done (fun V12 hv13 => ?_)
  have GC14 := Lib.hid (GC11.out.trans hv13)
  clear hv13
  go_upto_region 6 with fail
  refine wpG_region ?_
  refine wpG_tk (some 44) (v := .agg #[.int .i64 a1, .int .i64 a2, .int .i64 a3, .int .i64 a4, .int .i64 a5, .int .i64 a6]) rfl (.load_mid (by rfl) 31 (.tmp 3) rfl (w.heap.size) 0 rfl [.int .i64 a1, .int .i64 a2, .int .i64 a3, .int .i64 a4, .int .i64 a5, .int .i64 a6] _ (fun W hg => (R0.out.below (GC14.out.trans hg)).range) Tryd.underlying31 rfl (by kernel_rfl)) ?_
  simp only [Act.put, List.setIfInBounds_toArray, List.set_cons_zero, List.set_cons_succ]
  refine wpG_tk (some 45) (v := .int .i64 (-1)) rfl (.val (by rfl) (fun _ _ => rfl)) ?_
  simp only [Act.put, List.setIfInBounds_toArray, List.set_cons_zero, List.set_cons_succ]
  refine wpG_tk (some 46) (v := .tuple #[.agg #[.int .i64 0, .int .i64 0, .int .i64 0], .bool false]) rfl (.call (f := 21) (args := #[.agg #[.int .i64 a1, .int .i64 a2, .int .i64 a3, .int .i64 a4, .int .i64 a5, .int .i64 a6], .int .i64 (-1)]) (by rfl) (fun W => by go_simp) (fun W hg => at_neg a1 a2 a3 a4 a5 a6 (-1) W (by decide))) ?_
  simp only [Act.put, List.setIfInBounds_toArray, List.set_cons_zero, List.set_cons_succ]
  refine wpG_tk (some 43) (v := .tuple #[.agg #[.int .i64 0, .int .i64 0, .int .i64 0], .bool false]) rfl (.val (by rfl) (fun _ _ => rfl)) ?_
  simp only [Act.put, List.setIfInBounds_toArray, List.set_cons_zero, List.set_cons_succ]
  refine wpG_tk (some 47) (v := .agg #[.int .i64 0, .int .i64 0, .int .i64 0]) rfl (.val (by rfl) (fun W hg => by go_simp)) ?_
  simp only [Act.put, List.setIfInBounds_toArray, List.set_cons_zero, List.set_cons_succ]
  refine wpG_tk (some 48) (v := .bool false) rfl (.val (by rfl) (fun W hg => by go_simp)) ?_
  simp only [Act.put, List.setIfInBounds_toArray, List.set_cons_zero, List.set_cons_succ]
  refine wpG_val (some 8) rfl (by rfl) (fun W15 hg16 => ⟨.pointer (some ⟨W15.heap.size, 0, none⟩), W15.alloc (.cells #[.int .i64 0, .int .i64 0, .int .i64 0] 23), by (go_simp <;> rfl), ?_⟩)
  simp only [Act.put, List.setIfInBounds_toArray, List.set_cons_zero, List.set_cons_succ]
  refine wpG_store (none) rfl (by rfl) (fun W17 hg18 => ⟨_, run_store_mid 23 (.tmp 8) (.tmp 47) rfl (W15.heap.size) 0 #[.int .i64 0, .int .i64 0, .int .i64 0] rfl rfl (Row.room hg18 3 rfl) (by kernel_rfl) (by kernel_rfl), ?_⟩)
  simp only [Act.put]
  refine wpG_tk (some 9) (v := .bool false) rfl (.val (by rfl) (fun _ _ => rfl)) ?_
  simp only [Act.put, List.setIfInBounds_toArray, List.set_cons_zero, List.set_cons_succ]
  refine wpG_done (fun V19 hv20 => ?_)
  have l22 : w.heap.size < W15.heap.size := (R0.out.below (GC14.out.trans hg16)).lt
  have l23 : w.heap.size + 1 < W15.heap.size := (R1.out.below (GC14.out.trans hg16)).lt
  have l24 : w.heap.size ≤ W15.heap.size := (Gr.to G0.out (GC14.out.trans hg16)).size
  have R25 := Lib.hid ((R0.out.below (GC14.out.trans hg16)).past hg18 hv20)
  have R26 := Lib.hid ((R1.out.below (GC14.out.trans hg16)).past hg18 hv20)
  have R27 := Lib.hid (Row.made (zs := [.int .i64 0, .int .i64 0, .int .i64 0]) (ds := [.int .i64 0, .int .i64 0, .int .i64 0]) rfl hg18 hv20)
  have G21 := Lib.hid (Gr.to (Gr.to G0.out (GC14.out.trans hg16)) (Gr.past hg18 hv20))
  have HT := Lib.hid (HT.out.below ((GC14.out.trans hg16).trans (Gr.past hg18 hv20)))
  clear hg18 hv20 
  go_upto_region 7 with fail
  refine wpG_region ?_
  refine wpG_tk (some 49) (v := .int .i64 (-1)) rfl (.val (by rfl) (fun _ _ => rfl)) ?_
  simp only [Act.put, List.setIfInBounds_toArray, List.set_cons_zero, List.set_cons_succ]
  refine wpG_tk (some 50) (v := .bool false) rfl (.val (by rfl) (fun W hg => by have hq : ¬ ((-1) ≥ 0) := (by omega); first | (go_simp; done) | (go_simp <;> omega))) ?_
  simp only [Act.put, List.setIfInBounds_toArray, List.set_cons_zero, List.set_cons_succ]
  refine wpG_tk (some 51) (v := .bool false) rfl (.val (by rfl) (fun _ _ => rfl)) ?_
  simp only [Act.put, List.setIfInBounds_toArray, List.set_cons_zero, List.set_cons_succ]
  refine wpG_tk (some 52) (v := undef) rfl (.no (by rfl)) ?_
  simp only [Act.put, List.setIfInBounds_toArray, List.set_cons_zero, List.set_cons_succ]
  refine wpG_tk (some 53) (v := undef) rfl (.no (by rfl)) ?_
  simp only [Act.put, List.setIfInBounds_toArray, List.set_cons_zero, List.set_cons_succ]
  refine wpG_tk (some 54) (v := undef) rfl (.no (by rfl)) ?_
  simp only [Act.put, List.setIfInBounds_toArray, List.set_cons_zero, List.set_cons_succ]
  refine wpG_tk (some 55) (v := undef) rfl (.no (by rfl)) ?_
  simp only [Act.put, List.setIfInBounds_toArray, List.set_cons_zero, List.set_cons_succ]
  refine wpG_tk (some 56) (v := undef) rfl (.no (by rfl)) ?_
  simp only [Act.put, List.setIfInBounds_toArray, List.set_cons_zero, List.set_cons_succ]
  refine wpG_tk (some 57) (v := undef) rfl (.no (by rfl)) ?_
  simp only [Act.put, List.setIfInBounds_toArray, List.set_cons_zero, List.set_cons_succ]
  refine wpG_tk (some 58) (v := undef) rfl (.no (by rfl)) ?_
  simp only [Act.put, List.setIfInBounds_toArray, List.set_cons_zero, List.set_cons_succ]
  refine wpG_tk (some 59) (v := .bool false) rfl (.val (by rfl) (fun W hg => by go_simp)) ?_
  simp only [Act.put, List.setIfInBounds_toArray, List.set_cons_zero, List.set_cons_succ]
  refine wpG_done (fun V28 hv29 => ?_)
  have GC30 := Lib.hid hv29
  clear hv29
  go_upto_region 9 with fail
  refine wpG_region ?_
  refine wpG_tk (some 61) (v := .agg #[.int .i64 a1, .int .i64 a2, .int .i64 a3, .int .i64 a4, .int .i64 a5, .int .i64 a6]) rfl (.load_mid (by rfl) 31 (.tmp 3) rfl (w.heap.size) 0 rfl [.int .i64 a1, .int .i64 a2, .int .i64 a3, .int .i64 a4, .int .i64 a5, .int .i64 a6] _ (fun W hg => (R25.out.below (GC30.out.trans hg)).range) Tryd.underlying31 rfl (by kernel_rfl)) ?_
  simp only [Act.put, List.setIfInBounds_toArray, List.set_cons_zero, List.set_cons_succ]
  refine wpG_tk (some 62) (v := .int .i64 i) rfl (.val (by rfl) (fun _ _ => rfl)) ?_
  simp only [Act.put, List.setIfInBounds_toArray, List.set_cons_zero, List.set_cons_succ]
  refine wpG_tk (some 63) (v := .tuple #[.agg #[.int .i64 0, .int .i64 0, .int .i64 0], .bool false]) rfl (.call (f := 21) (args := #[.agg #[.int .i64 a1, .int .i64 a2, .int .i64 a3, .int .i64 a4, .int .i64 a5, .int .i64 a6], .int .i64 i]) (by rfl) (fun W => by go_simp) (fun W hg => at_big a1 a2 a3 a4 a5 a6 i W (by omega) (by omega) (by omega))) ?_
  simp only [Act.put, List.setIfInBounds_toArray, List.set_cons_zero, List.set_cons_succ]
  refine wpG_tk (some 60) (v := .tuple #[.agg #[.int .i64 0, .int .i64 0, .int .i64 0], .bool false]) rfl (.val (by rfl) (fun _ _ => rfl)) ?_
  simp only [Act.put, List.setIfInBounds_toArray, List.set_cons_zero, List.set_cons_succ]
  refine wpG_tk (some 64) (v := .agg #[.int .i64 0, .int .i64 0, .int .i64 0]) rfl (.val (by rfl) (fun W hg => by go_simp)) ?_
  simp only [Act.put, List.setIfInBounds_toArray, List.set_cons_zero, List.set_cons_succ]
  refine wpG_tk (some 65) (v := .bool false) rfl (.val (by rfl) (fun W hg => by go_simp)) ?_
  simp only [Act.put, List.setIfInBounds_toArray, List.set_cons_zero, List.set_cons_succ]
  refine wpG_val (some 10) rfl (by rfl) (fun W31 hg32 => ⟨.pointer (some ⟨W31.heap.size, 0, none⟩), W31.alloc (.cells #[.int .i64 0, .int .i64 0, .int .i64 0] 23), by (go_simp <;> rfl), ?_⟩)
  simp only [Act.put, List.setIfInBounds_toArray, List.set_cons_zero, List.set_cons_succ]
  refine wpG_store (none) rfl (by rfl) (fun W33 hg34 => ⟨_, run_store_mid 23 (.tmp 10) (.tmp 64) rfl (W31.heap.size) 0 #[.int .i64 0, .int .i64 0, .int .i64 0] rfl rfl (Row.room hg34 3 rfl) (by kernel_rfl) (by kernel_rfl), ?_⟩)
  simp only [Act.put]
  refine wpG_tk (some 11) (v := .bool false) rfl (.val (by rfl) (fun _ _ => rfl)) ?_
  simp only [Act.put, List.setIfInBounds_toArray, List.set_cons_zero, List.set_cons_succ]
  refine wpG_done (fun V35 hv36 => ?_)
  have l38 : w.heap.size < W31.heap.size := (R25.out.below (GC30.out.trans hg32)).lt
  have l39 : w.heap.size + 1 < W31.heap.size := (R26.out.below (GC30.out.trans hg32)).lt
  have l40 : W15.heap.size < W31.heap.size := (R27.out.below (GC30.out.trans hg32)).lt
  have l41 : w.heap.size ≤ W31.heap.size := (Gr.to G21.out (GC30.out.trans hg32)).size
  have R42 := Lib.hid ((R25.out.below (GC30.out.trans hg32)).past hg34 hv36)
  have R43 := Lib.hid ((R26.out.below (GC30.out.trans hg32)).past hg34 hv36)
  have R44 := Lib.hid ((R27.out.below (GC30.out.trans hg32)).past hg34 hv36)
  have R45 := Lib.hid (Row.made (zs := [.int .i64 0, .int .i64 0, .int .i64 0]) (ds := [.int .i64 0, .int .i64 0, .int .i64 0]) rfl hg34 hv36)
  have G37 := Lib.hid (Gr.to (Gr.to G21.out (GC30.out.trans hg32)) (Gr.past hg34 hv36))
  have HT := Lib.hid (HT.out.below ((GC30.out.trans hg32).trans (Gr.past hg34 hv36)))
  clear hg34 hv36 
  go_upto_region 10 with fail
  refine wpG_region ?_
  refine wpG_tk (some 66) (v := .bool false) rfl (.val (by rfl) (fun _ _ => rfl)) ?_
  simp only [Act.put, List.setIfInBounds_toArray, List.set_cons_zero, List.set_cons_succ]
  refine wpG_tk (some 67) (v := .int .i64 i) rfl (.val (by rfl) (fun _ _ => rfl)) ?_
  simp only [Act.put, List.setIfInBounds_toArray, List.set_cons_zero, List.set_cons_succ]
  refine wpG_tk (some 68) (v := .bool true) rfl (.val (by rfl) (fun W hg => by have hq : (i ≥ 0) := (by omega); first | (go_simp; done) | (go_simp <;> omega))) ?_
  simp only [Act.put, List.setIfInBounds_toArray, List.set_cons_zero, List.set_cons_succ]
  refine wpG_tk (some 69) (v := .bool true) rfl (.val (by rfl) (fun _ _ => rfl)) ?_
  simp only [Act.put, List.setIfInBounds_toArray, List.set_cons_zero, List.set_cons_succ]
  refine wpG_tk (some 70) (v := .int .i64 i) rfl (.val (by rfl) (fun _ _ => rfl)) ?_
  simp only [Act.put, List.setIfInBounds_toArray, List.set_cons_zero, List.set_cons_succ]
  refine wpG_tk (some 71) (v := .agg #[.int .i64 a1, .int .i64 a2, .int .i64 a3, .int .i64 a4, .int .i64 a5, .int .i64 a6]) rfl (.load_mid (by rfl) 31 (.tmp 3) rfl (w.heap.size) 0 rfl [.int .i64 a1, .int .i64 a2, .int .i64 a3, .int .i64 a4, .int .i64 a5, .int .i64 a6] _ (fun W hg => (R42.out.below hg).range) Tryd.underlying31 rfl (by kernel_rfl)) ?_
  simp only [Act.put, List.setIfInBounds_toArray, List.set_cons_zero, List.set_cons_succ]
  refine wpG_tk (some 72) (v := .int .i64 (Pt.vol a1 a2 a3 a4 a5 a6)) rfl (.call (f := 29) (args := #[.agg #[.int .i64 a1, .int .i64 a2, .int .i64 a3, .int .i64 a4, .int .i64 a5, .int .i64 a6]]) (by rfl) (fun W => by go_simp) (fun W hg => volume_any a1 a2 a3 a4 a5 a6 W (by omega))) ?_
  simp only [Act.put, List.setIfInBounds_toArray, List.set_cons_zero, List.set_cons_succ]
  refine wpG_tk (some 73) (v := .bool false) rfl (.val (by rfl) (fun W hg => by have hq : ¬ (i < Pt.vol a1 a2 a3 a4 a5 a6) := (by omega); first | (go_simp; done) | (go_simp <;> omega))) ?_
  simp only [Act.put, List.setIfInBounds_toArray, List.set_cons_zero, List.set_cons_succ]
  refine wpG_tk (some 74) (v := .bool false) rfl (.val (by rfl) (fun W hg => by go_simp)) ?_
  simp only [Act.put, List.setIfInBounds_toArray, List.set_cons_zero, List.set_cons_succ]
  refine wpG_tk (some 75) (v := .bool false) rfl (.val (by rfl) (fun W hg => by go_simp)) ?_
  simp only [Act.put, List.setIfInBounds_toArray, List.set_cons_zero, List.set_cons_succ]
  refine wpG_done (fun V46 hv47 => ?_)
  have GC48 := Lib.hid hv47
  clear hv47
  go_upto_region 12 with fail
  refine wpG_region ?_
  refine wpG_tk (some 76) (v := .bool false) rfl (.val (by rfl) (fun _ _ => rfl)) ?_
  simp only [Act.put, List.setIfInBounds_toArray, List.set_cons_zero, List.set_cons_succ]
  refine wpG_tk (some 77) (v := .bool true) rfl (.val (by rfl) (fun W hg => by go_simp)) ?_
  simp only [Act.put, List.setIfInBounds_toArray, List.set_cons_zero, List.set_cons_succ]
  refine wpG_done (fun V49 hv50 => ?_)
  have GC51 := Lib.hid (GC48.out.trans hv50)
  clear hv50
  go_upto_region 13 with fail
  refine wpG_region ?_
  refine wpG_tk (some 78) (v := .bool true) rfl (.call (f := 12) (args := #[]) (by rfl) (fun W => by go_simp) (fun W hg => sanity_any W (HT.out.below (GC51.out.trans hg)))) ?_
  simp only [Act.put, List.setIfInBounds_toArray, List.set_cons_zero, List.set_cons_succ]
  refine wpG_tk (some 79) (v := .bool true) rfl (.val (by rfl) (fun _ _ => rfl)) ?_
  simp only [Act.put, List.setIfInBounds_toArray, List.set_cons_zero, List.set_cons_succ]
  refine wpG_tk (some 80) (v := .agg #[.int .i64 0, .int .i64 0, .int .i64 0]) rfl (.load_mid (by rfl) 23 (.tmp 10) rfl (W31.heap.size) 0 rfl [.int .i64 0, .int .i64 0, .int .i64 0] _ (fun W hg => (R45.out.below (GC51.out.trans hg)).range) Tryd.underlying23 rfl (by kernel_rfl)) ?_
  simp only [Act.put, List.setIfInBounds_toArray, List.set_cons_zero, List.set_cons_succ]
  refine wpG_tk (some 81) (v := .agg #[.int .i64 0, .int .i64 0, .int .i64 0]) rfl (.val (by rfl) (fun W hg => by go_simp)) ?_
  simp only [Act.put, List.setIfInBounds_toArray, List.set_cons_zero, List.set_cons_succ]
  refine wpG_tk (some 82) (v := .bool true) rfl (.val (by rfl) (fun W hg => by (go_simp <;> first | omega | ((repeat' split) <;> first | rfl | (exfalso; omega))))) ?_
  simp only [Act.put, List.setIfInBounds_toArray, List.set_cons_zero, List.set_cons_succ]
  refine wpG_tk (some 83) (v := .bool true) rfl (.val (by rfl) (fun W hg => by go_simp)) ?_
  simp only [Act.put, List.setIfInBounds_toArray, List.set_cons_zero, List.set_cons_succ]
  refine wpG_tk (some 6) (v := .bool true) rfl (.val (by rfl) (fun _ _ => rfl)) ?_
  simp only [Act.put, List.setIfInBounds_toArray, List.set_cons_zero, List.set_cons_succ]
  refine wpG_done (fun V52 hv53 => ?_)
  have GC54 := Lib.hid (GC51.out.trans hv53)
  clear hv53
  go_wp2_with fail
  go_ret
  exact ⟨rfl, Gr.to G37.out GC54.out⟩
set_option maxRecDepth 1000000 in
set_option maxHeartbeats 8000000 in
theorem law10_fok110 (a1 a2 a3 a4 a5 a6 x1 x2 x3 i : Int) (w : World) (hT : Tab w) (i1 : In64 (a1, a2, a3)) (i2 : In64 (a4, a5, a6)) (i3 : In64 (x1, x2, x3)) (hi : -9223372036854775808 ≤ i ∧ i ≤ 9223372036854775807) (hs : [(a1, a2, a3), (a4, a5, a6), (x1, x2, x3)].all inR = true) (hx : Pt.inB x1 x2 x3 a1 a2 a3 a4 a5 a6 = false) (he : Pt.emp a1 a2 a3 a4 a5 a6 = false) (h0 : 0 ≤ i) (h1 : i < Pt.vol a1 a2 a3 a4 a5 a6) (q1 q2 q3 n1 n2 n3 : Int) (e1 : a1 + i % (a4 - a1) = q1) (e2 : a2 + i / (a4 - a1) % (a5 - a2) = q2) (e3 : a3 + i / (a4 - a1) / (a5 - a2) = q3) (hm : Pt.vol a1 a2 a3 a4 a5 a6 ≤ i + 1) (hq : (a1 ≤ q1 ∧ q1 < a4) ∧ (a2 ≤ q2 ∧ q2 < a5) ∧ (a3 ≤ q3 ∧ q3 < a6)) (g : q1 + 1 = a4 ∧ q2 + 1 = a5 ∧ q3 + 1 = a6) :
    Calls Tryd.prog 10 #[.agg #[.int .i64 a1, .int .i64 a2, .int .i64 a3, .int .i64 a4, .int .i64 a5, .int .i64 a6], .agg #[.int .i64 x1, .int .i64 x2, .int .i64 x3], .int .i64 i] w fun e w' => e = .returned (.bool true) ∧ Below w.heap.size w w' := by
  have bb := hs
  simp only [List.all_cons, List.all_nil, Bool.and_true, Bool.and_eq_true, inR_true] at bb
  have vb := vol_bd a1 a2 a3 a4 a5 a6 (by omega)
  have HE := Lib.hid he
  have hat := Pt.idx_at he ⟨h0, h1⟩
  rw [e1, e2, e3] at hat
  have HBQ := Lib.hid hat.1
  have HB := Lib.hid hat.2
  have HQ1 := Lib.hid e1
  have HQ2 := Lib.hid e2
  have HQ3 := Lib.hid e3
  clear hat e1 e2 e3 he
  have HS := Lib.hid hs
  have HI := Lib.hid hx
  clear hs hx
  have HT0 := Lib.hid hT
  obtain ⟨u, hu, r0, r1, g0⟩ := rows2 w [.int .i64 a1, .int .i64 a2, .int .i64 a3, .int .i64 a4, .int .i64 a5, .int .i64 a6] 31 [.int .i64 x1, .int .i64 x2, .int .i64 x3] 23
  have R0 := Lib.hid r0
  have R1 := Lib.hid r1
  have G0 := Lib.hid g0
  have HU := Lib.hid hu
  have HT := Lib.hid (hT.below g0)
  clear hT
  clear hu g0 r0 r1
  go_enter Tryd.func10, Tryd.ntmps10
  go_upto_region 1 with fail
  rw [← HU.out]
  refine wpG_region ?_
  refine wpG_tk (some 15) (v := .pointer (some ⟨w.heap.size, 0, none⟩)) rfl (.val (by rfl) (fun W hg => by go_simp)) ?_
  simp only [Act.put, List.setIfInBounds_toArray, List.set_cons_zero, List.set_cons_succ]
  refine wpG_tk (some 16) (v := .agg #[.int .i64 a1, .int .i64 a2, .int .i64 a3]) rfl (.load_mid (by rfl) 23 (.tmp 15) rfl (w.heap.size) 0 rfl [.int .i64 a1, .int .i64 a2, .int .i64 a3] _ (fun W hg => (R0.out.below hg).lo) Tryd.underlying23 rfl (by kernel_rfl)) ?_
  simp only [Act.put, List.setIfInBounds_toArray, List.set_cons_zero, List.set_cons_succ]
  refine wpG_tk (some 17) (v := .pointer (some ⟨w.heap.size, 3, none⟩)) rfl (.val (by rfl) (fun W hg => by go_simp)) ?_
  simp only [Act.put, List.setIfInBounds_toArray, List.set_cons_zero, List.set_cons_succ]
  refine wpG_tk (some 18) (v := .agg #[.int .i64 a4, .int .i64 a5, .int .i64 a6]) rfl (.load_mid (by rfl) 23 (.tmp 17) rfl (w.heap.size) 3 rfl [.int .i64 a4, .int .i64 a5, .int .i64 a6] _ (fun W hg => (R0.out.below hg).hi) Tryd.underlying23 rfl (by kernel_rfl)) ?_
  simp only [Act.put, List.setIfInBounds_toArray, List.set_cons_zero, List.set_cons_succ]
  refine wpG_tk (some 19) (v := .agg #[.int .i64 x1, .int .i64 x2, .int .i64 x3]) rfl (.load_mid (by rfl) 23 (.tmp 4) rfl (w.heap.size + 1) 0 rfl [.int .i64 x1, .int .i64 x2, .int .i64 x3] _ (fun W hg => (R1.out.below hg).range) Tryd.underlying23 rfl (by kernel_rfl)) ?_
  simp only [Act.put, List.setIfInBounds_toArray, List.set_cons_zero, List.set_cons_succ]
  refine wpG_val (some 20) rfl (by rfl) (fun W1 hg2 => ⟨.slice (some ⟨W1.heap.size, 0, none⟩) 3 3, W1.alloc (.cells #[.int .i64 a1, .int .i64 a2, .int .i64 a3, .int .i64 a4, .int .i64 a5, .int .i64 a6, .int .i64 x1, .int .i64 x2, .int .i64 x3] 23), by (go_simp <;> rfl), ?_⟩)
  simp only [Act.put, List.setIfInBounds_toArray, List.set_cons_zero, List.set_cons_succ]
  obtain ⟨U3, hu, rn, gn⟩ : ∃ z, z = W1.alloc (.cells #[.int .i64 a1, .int .i64 a2, .int .i64 a3, .int .i64 a4, .int .i64 a5, .int .i64 a6, .int .i64 x1, .int .i64 x2, .int .i64 x3] 23) ∧ Row W1.heap.size [.int .i64 a1, .int .i64 a2, .int .i64 a3, .int .i64 a4, .int .i64 a5, .int .i64 a6, .int .i64 x1, .int .i64 x2, .int .i64 x3] z ∧ Gr W1 z := ⟨_, rfl, Row.newl W1 [.int .i64 a1, .int .i64 a2, .int .i64 a3, .int .i64 a4, .int .i64 a5, .int .i64 a6, .int .i64 x1, .int .i64 x2, .int .i64 x3] 23, Gr.al _ _⟩
  rw [← hu]
  have RN4 := Lib.hid rn
  have GB5 := Lib.hid (Gr.trans hg2 gn)
  clear hu rn gn hg2
  refine wpG_tk (some 21) (v := .bool true) rfl (.call (f := 11) (args := #[.slice (some ⟨W1.heap.size, 0, none⟩) 3 3]) (by rfl) (fun W => by go_simp) (fun W hg => small_is [(a1, a2, a3), (a4, a5, a6), (x1, x2, x3)] W1.heap.size 3 true W rfl (by decide) (RN4.out.below hg) (List.forall_mem_cons.2 ⟨i1, (List.forall_mem_cons.2 ⟨i2, (List.forall_mem_cons.2 ⟨i3, (fun _ h => absurd h List.not_mem_nil)⟩)⟩)⟩) HS.out)) ?_
  simp only [Act.put, List.setIfInBounds_toArray, List.set_cons_zero, List.set_cons_succ]
  refine wpG_tk (some 22) (v := .bool false) rfl (.val (by rfl) (fun W hg => by go_simp)) ?_
  simp only [Act.put, List.setIfInBounds_toArray, List.set_cons_zero, List.set_cons_succ]
  refine wpG_done (fun V6 hv7 => ?_)
  have GC8 := Lib.hid (GB5.out.trans hv7)
  clear hv7
  go_upto_region 3 with fail
  refine wpG_region ?_
  refine wpG_tk (some 24) (v := .agg #[.int .i64 a1, .int .i64 a2, .int .i64 a3, .int .i64 a4, .int .i64 a5, .int .i64 a6]) rfl (.load_mid (by rfl) 31 (.tmp 3) rfl (w.heap.size) 0 rfl [.int .i64 a1, .int .i64 a2, .int .i64 a3, .int .i64 a4, .int .i64 a5, .int .i64 a6] _ (fun W hg => (R0.out.below (GC8.out.trans hg)).range) Tryd.underlying31 rfl (by kernel_rfl)) ?_
  simp only [Act.put, List.setIfInBounds_toArray, List.set_cons_zero, List.set_cons_succ]
  refine wpG_tk (some 25) (v := .agg #[.int .i64 x1, .int .i64 x2, .int .i64 x3]) rfl (.load_mid (by rfl) 23 (.tmp 4) rfl (w.heap.size + 1) 0 rfl [.int .i64 x1, .int .i64 x2, .int .i64 x3] _ (fun W hg => (R1.out.below (GC8.out.trans hg)).range) Tryd.underlying23 rfl (by kernel_rfl)) ?_
  simp only [Act.put, List.setIfInBounds_toArray, List.set_cons_zero, List.set_cons_succ]
  refine wpG_tk (some 26) (v := .int .i64 (-1)) rfl (.call (f := 43) (args := #[.agg #[.int .i64 a1, .int .i64 a2, .int .i64 a3, .int .i64 a4, .int .i64 a5, .int .i64 a6], .agg #[.int .i64 x1, .int .i64 x2, .int .i64 x3]]) (by rfl) (fun W => by go_simp) (fun W hg => index_f a1 a2 a3 a4 a5 a6 x1 x2 x3 W HI.out)) ?_
  simp only [Act.put, List.setIfInBounds_toArray, List.set_cons_zero, List.set_cons_succ]
  refine wpG_tk (some 7) (v := .int .i64 (-1)) rfl (.val (by rfl) (fun _ _ => rfl)) ?_
  simp only [Act.put, List.setIfInBounds_toArray, List.set_cons_zero, List.set_cons_succ]
  refine wpG_done (fun V9 hv10 => ?_)
  have GC11 := Lib.hid (GC8.out.trans hv10)
  clear hv10
  go_upto_region 4 with fail
  refine wpG_region ?_
  refine wpG_tk (some 27) (v := .int .i64 (-1)) rfl (.val (by rfl) (fun _ _ => rfl)) ?_
  simp only [Act.put, List.setIfInBounds_toArray, List.set_cons_zero, List.set_cons_succ]
  refine wpG_tk (some 28) (v := .bool false) rfl (.val (by rfl) (fun W hg => by have hq : ¬ ((-1) ≥ 0) := (by omega); first | (go_simp; done) | (go_simp <;> omega))) ?_
  simp only [Act.put, List.setIfInBounds_toArray, List.set_cons_zero, List.set_cons_succ]
  refine wpG_tk (some 29) (v := .agg #[.int .i64 x1, .int .i64 x2, .int .i64 x3]) rfl (.load_mid (by rfl) 23 (.tmp 4) rfl (w.heap.size + 1) 0 rfl [.int .i64 x1, .int .i64 x2, .int .i64 x3] _ (fun W hg => (R1.out.below (GC11.out.trans hg)).range) Tryd.underlying23 rfl (by kernel_rfl)) ?_
  simp only [Act.put, List.setIfInBounds_toArray, List.set_cons_zero, List.set_cons_succ]
  refine wpG_tk (some 30) (v := .agg #[.int .i64 a1, .int .i64 a2, .int .i64 a3, .int .i64 a4, .int .i64 a5, .int .i64 a6]) rfl (.load_mid (by rfl) 31 (.tmp 3) rfl (w.heap.size) 0 rfl [.int .i64 a1, .int .i64 a2, .int .i64 a3, .int .i64 a4, .int .i64 a5, .int .i64 a6] _ (fun W hg => (R0.out.below (GC11.out.trans hg)).range) Tryd.underlying31 rfl (by kernel_rfl)) ?_
  simp only [Act.put, List.setIfInBounds_toArray, List.set_cons_zero, List.set_cons_succ]
  refine wpG_tk (some 31) (v := .bool false) rfl (.call (f := 25) (args := #[.agg #[.int .i64 x1, .int .i64 x2, .int .i64 x3], .agg #[.int .i64 a1, .int .i64 a2, .int .i64 a3, .int .i64 a4, .int .i64 a5, .int .i64 a6]]) (by rfl) (fun W => by go_simp) (fun W hg => in_any x1 x2 x3 a1 a2 a3 a4 a5 a6 false W HI.out)) ?_
  simp only [Act.put, List.setIfInBounds_toArray, List.set_cons_zero, List.set_cons_succ]
  refine wpG_tk (some 32) (v := .bool false) rfl (.val (by rfl) (fun W hg => by go_simp)) ?_
  simp only [Act.put, List.setIfInBounds_toArray, List.set_cons_zero, List.set_cons_succ]
  refine wpG_tk (some 33) (v := .bool false) rfl (.val (by rfl) (fun _ _ => rfl)) ?_
  simp only [Act.put, List.setIfInBounds_toArray, List.set_cons_zero, List.set_cons_succ]
  refine wpG_tk (some 34) (v := .int .i64 (-1)) rfl (.val (by rfl) (fun _ _ => rfl)) ?_
  simp only [Act.put, List.setIfInBounds_toArray, List.set_cons_zero, List.set_cons_succ]
  refine wpG_tk (some 35) (v := .agg #[.int .i64 a1, .int .i64 a2, .int .i64 a3, .int .i64 a4, .int .i64 a5, .int .i64 a6]) rfl (.load_mid (by rfl) 31 (.tmp 3) rfl (w.heap.size) 0 rfl [.int .i64 a1, .int .i64 a2, .int .i64 a3, .int .i64 a4, .int .i64 a5, .int .i64 a6] _ (fun W hg => (R0.out.below (GC11.out.trans hg)).range) Tryd.underlying31 rfl (by kernel_rfl)) ?_
  simp only [Act.put, List.setIfInBounds_toArray, List.set_cons_zero, List.set_cons_succ]
  refine wpG_tk (some 36) (v := .int .i64 (Pt.vol a1 a2 a3 a4 a5 a6)) rfl (.call (f := 29) (args := #[.agg #[.int .i64 a1, .int .i64 a2, .int .i64 a3, .int .i64 a4, .int .i64 a5, .int .i64 a6]]) (by rfl) (fun W => by go_simp) (fun W hg => volume_any a1 a2 a3 a4 a5 a6 W (by omega))) ?_
  simp only [Act.put, List.setIfInBounds_toArray, List.set_cons_zero, List.set_cons_succ]
  refine wpG_tk (some 37) (v := .bool false) rfl (.val (by rfl) (fun W hg => by have hq : ¬ ((-1) ≥ Pt.vol a1 a2 a3 a4 a5 a6) := (by omega); first | (go_simp; done) | (go_simp <;> omega))) ?_
  simp only [Act.put, List.setIfInBounds_toArray, List.set_cons_zero, List.set_cons_succ]
  refine wpG_tk (some 38) (v := .bool false) rfl (.val (by rfl) (fun _ _ => rfl)) ?_
  simp only [Act.put, List.setIfInBounds_toArray, List.set_cons_zero, List.set_cons_succ]
  refine wpG_tk (some 39) (v := undef) rfl (.no (by rfl)) ?_
  simp only [Act.put, List.setIfInBounds_toArray, List.set_cons_zero, List.set_cons_succ]
  refine wpG_tk (some 40) (v := undef) rfl (.no (by rfl)) ?_
  simp only [Act.put, List.setIfInBounds_toArray, List.set_cons_zero, List.set_cons_succ]
  refine wpG_tk (some 41) (v := .bool false) rfl (.val (by rfl) (fun W hg => by go_simp)) ?_
  simp only [Act.put, List.setIfInBounds_toArray, List.set_cons_zero, List.set_cons_succ]
  refine wpG_tk (some 42) (v := .bool false) rfl (.val (by rfl) (fun W hg => by go_simp)) ?_
  simp only [Act.put, List.setIfInBounds_toArray, List.set_cons_zero, List.set_cons_succ]
  refine wpG_done (fun V12 hv13 => ?_)
  have GC14 := Lib.hid (GC11.out.trans hv13)
  clear hv13
  go_upto_region 6 with fail
  refine wpG_region ?_
  refine wpG_tk (some 44) (v := .agg #[.int .i64 a1, .int .i64 a2, .int .i64 a3, .int .i64 a4, .int .i64 a5, .int .i64 a6]) rfl (.load_mid (by rfl) 31 (.tmp 3) rfl (w.heap.size) 0 rfl [.int .i64 a1, .int .i64 a2, .int .i64 a3, .int .i64 a4, .int .i64 a5, .int .i64 a6] _ (fun W hg => (R0.out.below (GC14.out.trans hg)).range) Tryd.underlying31 rfl (by kernel_rfl)) ?_
  simp only [Act.put, List.setIfInBounds_toArray, List.set_cons_zero, List.set_cons_succ]
  refine wpG_tk (some 45) (v := .int .i64 (-1)) rfl (.val (by rfl) (fun _ _ => rfl)) ?_
  simp only [Act.put, List.setIfInBounds_toArray, List.set_cons_zero, List.set_cons_succ]
  refine wpG_tk (some 46) (v := .tuple #[.agg #[.int .i64 0, .int .i64 0, .int .i64 0], .bool false]) rfl (.call (f := 21) (args := #[.agg #[.int .i64 a1, .int .i64 a2, .int .i64 a3, .int .i64 a4, .int .i64 a5, .int .i64 a6], .int .i64 (-1)]) (by rfl) (fun W => by go_simp) (fun W hg => at_neg a1 a2 a3 a4 a5 a6 (-1) W (by decide))) ?_
  simp only [Act.put, List.setIfInBounds_toArray, List.set_cons_zero, List.set_cons_succ]
  refine wpG_tk (some 43) (v := .tuple #[.agg #[.int .i64 0, .int .i64 0, .int .i64 0], .bool false]) rfl (.val (by rfl) (fun _ _ => rfl)) ?_
  simp only [Act.put, List.setIfInBounds_toArray, List.set_cons_zero, List.set_cons_succ]
  refine wpG_tk (some 47) (v := .agg #[.int .i64 0, .int .i64 0, .int .i64 0]) rfl (.val (by rfl) (fun W hg => by go_simp)) ?_
  simp only [Act.put, List.setIfInBounds_toArray, List.set_cons_zero, List.set_cons_succ]
  refine wpG_tk (some 48) (v := .bool false) rfl (.val (by rfl) (fun W hg => by go_simp)) ?_
  simp only [Act.put, List.setIfInBounds_toArray, List.set_cons_zero, List.set_cons_succ]
  refine wpG_val (some 8) rfl (by rfl) (fun W15 hg16 => ⟨.pointer (some ⟨W15.heap.size, 0, none⟩), W15.alloc (.cells #[.int .i64 0, .int .i64 0, .int .i64 0] 23), by (go_simp <;> rfl), ?_⟩)
  simp only [Act.put, List.setIfInBounds_toArray, List.set_cons_zero, List.set_cons_succ]
  refine wpG_store (none) rfl (by rfl) (fun W17 hg18 => ⟨_, run_store_mid 23 (.tmp 8) (.tmp 47) rfl (W15.heap.size) 0 #[.int .i64 0, .int .i64 0, .int .i64 0] rfl rfl (Row.room hg18 3 rfl) (by kernel_rfl) (by kernel_rfl), ?_⟩)
  simp only [Act.put]
  refine wpG_tk (some 9) (v := .bool false) rfl (.val (by rfl) (fun _ _ => rfl)) ?_
  simp only [Act.put, List.setIfInBounds_toArray, List.set_cons_zero, List.set_cons_succ]
  refine wpG_done (fun V19 hv20 => ?_)
  have l22 : w.heap.size < W15.heap.size := (R0.out.below (GC14.out.trans hg16)).lt
  have l23 : w.heap.size + 1 < W15.heap.size := (R1.out.below (GC14.out.trans hg16)).lt
  have l24 : w.heap.size ≤ W15.heap.size := (Gr.to G0.out (GC14.out.trans hg16)).size
  have R25 := Lib.hid ((R0.out.below (GC14.out.trans hg16)).past hg18 hv20)
  have R26 := Lib.hid ((R1.out.below (GC14.out.trans hg16)).past hg18 hv20)
  have R27 := Lib.hid (Row.made (zs := [.int .i64 0, .int .i64 0, .int .i64 0]) (ds := [.int .i64 0, .int .i64 0, .int .i64 0]) rfl hg18 hv20)
  have G21 := Lib.hid (Gr.to (Gr.to G0.out (GC14.out.trans hg16)) (Gr.past hg18 hv20))
  have HT := Lib.hid (HT.out.below ((GC14.out.trans hg16).trans (Gr.past hg18 hv20)))
  clear hg18 hv20 
  go_upto_region 7 with fail
  refine wpG_region ?_
  refine wpG_tk (some 49) (v := .int .i64 (-1)) rfl (.val (by rfl) (fun _ _ => rfl)) ?_
  simp only [Act.put, List.setIfInBounds_toArray, List.set_cons_zero, List.set_cons_succ]
  refine wpG_tk (some 50) (v := .bool false) rfl (.val (by rfl) (fun W hg => by have hq : ¬ ((-1) ≥ 0) := (by omega); first | (go_simp; done) | (go_simp <;> omega))) ?_
  simp only [Act.put, List.setIfInBounds_toArray, List.set_cons_zero, List.set_cons_succ]
  refine wpG_tk (some 51) (v := .bool false) rfl (.val (by rfl) (fun _ _ => rfl)) ?_
  simp only [Act.put, List.setIfInBounds_toArray, List.set_cons_zero, List.set_cons_succ]
  refine wpG_tk (some 52) (v := undef) rfl (.no (by rfl)) ?_
  simp only [Act.put, List.setIfInBounds_toArray, List.set_cons_zero, List.set_cons_succ]
  refine wpG_tk (some 53) (v := undef) rfl (.no (by rfl)) ?_
  simp only [Act.put, List.setIfInBounds_toArray, List.set_cons_zero, List.set_cons_succ]
  refine wpG_tk (some 54) (v := undef) rfl (.no (by rfl)) ?_
  simp only [Act.put, List.setIfInBounds_toArray, List.set_cons_zero, List.set_cons_succ]
  refine wpG_tk (some 55) (v := undef) rfl (.no (by rfl)) ?_
  simp only [Act.put, List.setIfInBounds_toArray, List.set_cons_zero, List.set_cons_succ]
  refine wpG_tk (some 56) (v := undef) rfl (.no (by rfl)) ?_
  simp only [Act.put, List.setIfInBounds_toArray, List.set_cons_zero, List.set_cons_succ]
  refine wpG_tk (some 57) (v := undef) rfl (.no (by rfl)) ?_
  simp only [Act.put, List.setIfInBounds_toArray, List.set_cons_zero, List.set_cons_succ]
  refine wpG_tk (some 58) (v := undef) rfl (.no (by rfl)) ?_
  simp only [Act.put, List.setIfInBounds_toArray, List.set_cons_zero, List.set_cons_succ]
  refine wpG_tk (some 59) (v := .bool false) rfl (.val (by rfl) (fun W hg => by go_simp)) ?_
  simp only [Act.put, List.setIfInBounds_toArray, List.set_cons_zero, List.set_cons_succ]
  refine wpG_done (fun V28 hv29 => ?_)
  have GC30 := Lib.hid hv29
  clear hv29
  go_upto_region 9 with fail
  refine wpG_region ?_
  refine wpG_tk (some 61) (v := .agg #[.int .i64 a1, .int .i64 a2, .int .i64 a3, .int .i64 a4, .int .i64 a5, .int .i64 a6]) rfl (.load_mid (by rfl) 31 (.tmp 3) rfl (w.heap.size) 0 rfl [.int .i64 a1, .int .i64 a2, .int .i64 a3, .int .i64 a4, .int .i64 a5, .int .i64 a6] _ (fun W hg => (R25.out.below (GC30.out.trans hg)).range) Tryd.underlying31 rfl (by kernel_rfl)) ?_
  simp only [Act.put, List.setIfInBounds_toArray, List.set_cons_zero, List.set_cons_succ]
  refine wpG_tk (some 62) (v := .int .i64 i) rfl (.val (by rfl) (fun _ _ => rfl)) ?_
  simp only [Act.put, List.setIfInBounds_toArray, List.set_cons_zero, List.set_cons_succ]
  refine wpG_tk (some 63) (v := .tuple #[.agg #[.int .i64 q1, .int .i64 q2, .int .i64 q3], .bool true]) rfl (.call (f := 21) (args := #[.agg #[.int .i64 a1, .int .i64 a2, .int .i64 a3, .int .i64 a4, .int .i64 a5, .int .i64 a6], .int .i64 i]) (by rfl) (fun W => by go_simp) (fun W hg => (by have c := at_ok a1 a2 a3 a4 a5 a6 i W (by omega) (by omega) (by omega) HE.out; rw [HQ1.out, HQ2.out, HQ3.out] at c; exact c))) ?_
  simp only [Act.put, List.setIfInBounds_toArray, List.set_cons_zero, List.set_cons_succ]
  refine wpG_tk (some 60) (v := .tuple #[.agg #[.int .i64 q1, .int .i64 q2, .int .i64 q3], .bool true]) rfl (.val (by rfl) (fun _ _ => rfl)) ?_
  simp only [Act.put, List.setIfInBounds_toArray, List.set_cons_zero, List.set_cons_succ]
  refine wpG_tk (some 64) (v := .agg #[.int .i64 q1, .int .i64 q2, .int .i64 q3]) rfl (.val (by rfl) (fun W hg => by go_simp)) ?_
  simp only [Act.put, List.setIfInBounds_toArray, List.set_cons_zero, List.set_cons_succ]
  refine wpG_tk (some 65) (v := .bool true) rfl (.val (by rfl) (fun W hg => by go_simp)) ?_
  simp only [Act.put, List.setIfInBounds_toArray, List.set_cons_zero, List.set_cons_succ]
  refine wpG_val (some 10) rfl (by rfl) (fun W31 hg32 => ⟨.pointer (some ⟨W31.heap.size, 0, none⟩), W31.alloc (.cells #[.int .i64 0, .int .i64 0, .int .i64 0] 23), by (go_simp <;> rfl), ?_⟩)
  simp only [Act.put, List.setIfInBounds_toArray, List.set_cons_zero, List.set_cons_succ]
  refine wpG_store (none) rfl (by rfl) (fun W33 hg34 => ⟨_, run_store_mid 23 (.tmp 10) (.tmp 64) rfl (W31.heap.size) 0 #[.int .i64 q1, .int .i64 q2, .int .i64 q3] rfl rfl (Row.room hg34 3 rfl) (by kernel_rfl) (by kernel_rfl), ?_⟩)
  simp only [Act.put]
  refine wpG_tk (some 11) (v := .bool true) rfl (.val (by rfl) (fun _ _ => rfl)) ?_
  simp only [Act.put, List.setIfInBounds_toArray, List.set_cons_zero, List.set_cons_succ]
  refine wpG_done (fun V35 hv36 => ?_)
  have l38 : w.heap.size < W31.heap.size := (R25.out.below (GC30.out.trans hg32)).lt
  have l39 : w.heap.size + 1 < W31.heap.size := (R26.out.below (GC30.out.trans hg32)).lt
  have l40 : W15.heap.size < W31.heap.size := (R27.out.below (GC30.out.trans hg32)).lt
  have l41 : w.heap.size ≤ W31.heap.size := (Gr.to G21.out (GC30.out.trans hg32)).size
  have R42 := Lib.hid ((R25.out.below (GC30.out.trans hg32)).past hg34 hv36)
  have R43 := Lib.hid ((R26.out.below (GC30.out.trans hg32)).past hg34 hv36)
  have R44 := Lib.hid ((R27.out.below (GC30.out.trans hg32)).past hg34 hv36)
  have R45 := Lib.hid (Row.made (zs := [.int .i64 0, .int .i64 0, .int .i64 0]) (ds := [.int .i64 q1, .int .i64 q2, .int .i64 q3]) rfl hg34 hv36)
  have G37 := Lib.hid (Gr.to (Gr.to G21.out (GC30.out.trans hg32)) (Gr.past hg34 hv36))
  have HT := Lib.hid (HT.out.below ((GC30.out.trans hg32).trans (Gr.past hg34 hv36)))
  clear hg34 hv36 
  go_upto_region 10 with fail
  refine wpG_region ?_
  refine wpG_tk (some 66) (v := .bool true) rfl (.val (by rfl) (fun _ _ => rfl)) ?_
  simp only [Act.put, List.setIfInBounds_toArray, List.set_cons_zero, List.set_cons_succ]
  refine wpG_tk (some 67) (v := .int .i64 i) rfl (.val (by rfl) (fun _ _ => rfl)) ?_
  simp only [Act.put, List.setIfInBounds_toArray, List.set_cons_zero, List.set_cons_succ]
  refine wpG_tk (some 68) (v := .bool true) rfl (.val (by rfl) (fun W hg => by have hq : (i ≥ 0) := (by omega); first | (go_simp; done) | (go_simp <;> omega))) ?_
  simp only [Act.put, List.setIfInBounds_toArray, List.set_cons_zero, List.set_cons_succ]
  refine wpG_tk (some 69) (v := .bool true) rfl (.val (by rfl) (fun _ _ => rfl)) ?_
  simp only [Act.put, List.setIfInBounds_toArray, List.set_cons_zero, List.set_cons_succ]
  refine wpG_tk (some 70) (v := .int .i64 i) rfl (.val (by rfl) (fun _ _ => rfl)) ?_
  simp only [Act.put, List.setIfInBounds_toArray, List.set_cons_zero, List.set_cons_succ]
  refine wpG_tk (some 71) (v := .agg #[.int .i64 a1, .int .i64 a2, .int .i64 a3, .int .i64 a4, .int .i64 a5, .int .i64 a6]) rfl (.load_mid (by rfl) 31 (.tmp 3) rfl (w.heap.size) 0 rfl [.int .i64 a1, .int .i64 a2, .int .i64 a3, .int .i64 a4, .int .i64 a5, .int .i64 a6] _ (fun W hg => (R42.out.below hg).range) Tryd.underlying31 rfl (by kernel_rfl)) ?_
  simp only [Act.put, List.setIfInBounds_toArray, List.set_cons_zero, List.set_cons_succ]
  refine wpG_tk (some 72) (v := .int .i64 (Pt.vol a1 a2 a3 a4 a5 a6)) rfl (.call (f := 29) (args := #[.agg #[.int .i64 a1, .int .i64 a2, .int .i64 a3, .int .i64 a4, .int .i64 a5, .int .i64 a6]]) (by rfl) (fun W => by go_simp) (fun W hg => volume_any a1 a2 a3 a4 a5 a6 W (by omega))) ?_
  simp only [Act.put, List.setIfInBounds_toArray, List.set_cons_zero, List.set_cons_succ]
  refine wpG_tk (some 73) (v := .bool true) rfl (.val (by rfl) (fun W hg => by have hq : (i < Pt.vol a1 a2 a3 a4 a5 a6) := (by omega); first | (go_simp; done) | (go_simp <;> omega))) ?_
  simp only [Act.put, List.setIfInBounds_toArray, List.set_cons_zero, List.set_cons_succ]
  refine wpG_tk (some 74) (v := .bool true) rfl (.val (by rfl) (fun W hg => by go_simp)) ?_
  simp only [Act.put, List.setIfInBounds_toArray, List.set_cons_zero, List.set_cons_succ]
  refine wpG_tk (some 75) (v := .bool false) rfl (.val (by rfl) (fun W hg => by go_simp)) ?_
  simp only [Act.put, List.setIfInBounds_toArray, List.set_cons_zero, List.set_cons_succ]
  refine wpG_done (fun V46 hv47 => ?_)
  have GC48 := Lib.hid hv47
  clear hv47
  go_upto_region 12 with fail
  refine wpG_region ?_
  refine wpG_tk (some 76) (v := .bool true) rfl (.val (by rfl) (fun _ _ => rfl)) ?_
  simp only [Act.put, List.setIfInBounds_toArray, List.set_cons_zero, List.set_cons_succ]
  refine wpG_tk (some 77) (v := .bool false) rfl (.val (by rfl) (fun W hg => by go_simp)) ?_
  simp only [Act.put, List.setIfInBounds_toArray, List.set_cons_zero, List.set_cons_succ]
  refine wpG_done (fun V49 hv50 => ?_)
  have GC51 := Lib.hid (GC48.out.trans hv50)
  clear hv50
  go_upto_region 14 with fail
  refine wpG_region ?_
  refine wpG_tk (some 85) (v := .agg #[.int .i64 a1, .int .i64 a2, .int .i64 a3, .int .i64 a4, .int .i64 a5, .int .i64 a6]) rfl (.load_mid (by rfl) 31 (.tmp 3) rfl (w.heap.size) 0 rfl [.int .i64 a1, .int .i64 a2, .int .i64 a3, .int .i64 a4, .int .i64 a5, .int .i64 a6] _ (fun W hg => (R42.out.below (GC51.out.trans hg)).range) Tryd.underlying31 rfl (by kernel_rfl)) ?_
  simp only [Act.put, List.setIfInBounds_toArray, List.set_cons_zero, List.set_cons_succ]
  refine wpG_tk (some 86) (v := .int .i64 i) rfl (.val (by rfl) (fun _ _ => rfl)) ?_
  simp only [Act.put, List.setIfInBounds_toArray, List.set_cons_zero, List.set_cons_succ]
  refine wpG_tk (some 87) (v := .int .i64 (i + 1)) rfl (.val (by rfl) (fun W hg => by (first | (go_simp; done) | (go_simp; rw [IntWalk.i64_in _ (by omega)])))) ?_
  simp only [Act.put, List.setIfInBounds_toArray, List.set_cons_zero, List.set_cons_succ]
  refine wpG_tk (some 88) (v := .tuple #[.agg #[.int .i64 0, .int .i64 0, .int .i64 0], .bool false]) rfl (.call (f := 21) (args := #[.agg #[.int .i64 a1, .int .i64 a2, .int .i64 a3, .int .i64 a4, .int .i64 a5, .int .i64 a6], .int .i64 (i + 1)]) (by rfl) (fun W => by go_simp) (fun W hg => at_big a1 a2 a3 a4 a5 a6 (i + 1) W (by omega) (by omega) (by omega))) ?_
  simp only [Act.put, List.setIfInBounds_toArray, List.set_cons_zero, List.set_cons_succ]
  refine wpG_tk (some 84) (v := .tuple #[.agg #[.int .i64 0, .int .i64 0, .int .i64 0], .bool false]) rfl (.val (by rfl) (fun _ _ => rfl)) ?_
  simp only [Act.put, List.setIfInBounds_toArray, List.set_cons_zero, List.set_cons_succ]
  refine wpG_tk (some 89) (v := .agg #[.int .i64 0, .int .i64 0, .int .i64 0]) rfl (.val (by rfl) (fun W hg => by go_simp)) ?_
  simp only [Act.put, List.setIfInBounds_toArray, List.set_cons_zero, List.set_cons_succ]
  refine wpG_tk (some 90) (v := .bool false) rfl (.val (by rfl) (fun W hg => by go_simp)) ?_
  simp only [Act.put, List.setIfInBounds_toArray, List.set_cons_zero, List.set_cons_succ]
  refine wpG_val (some 12) rfl (by rfl) (fun W52 hg53 => ⟨.pointer (some ⟨W52.heap.size, 0, none⟩), W52.alloc (.cells #[.int .i64 0, .int .i64 0, .int .i64 0] 23), by (go_simp <;> rfl), ?_⟩)
  simp only [Act.put, List.setIfInBounds_toArray, List.set_cons_zero, List.set_cons_succ]
  refine wpG_store (none) rfl (by rfl) (fun W54 hg55 => ⟨_, run_store_mid 23 (.tmp 12) (.tmp 89) rfl (W52.heap.size) 0 #[.int .i64 0, .int .i64 0, .int .i64 0] rfl rfl (Row.room hg55 3 rfl) (by kernel_rfl) (by kernel_rfl), ?_⟩)
  simp only [Act.put]
  refine wpG_tk (some 13) (v := .bool false) rfl (.val (by rfl) (fun _ _ => rfl)) ?_
  simp only [Act.put, List.setIfInBounds_toArray, List.set_cons_zero, List.set_cons_succ]
  refine wpG_done (fun V56 hv57 => ?_)
  have l59 : w.heap.size < W52.heap.size := (R42.out.below (GC51.out.trans hg53)).lt
  have l60 : w.heap.size + 1 < W52.heap.size := (R43.out.below (GC51.out.trans hg53)).lt
  have l61 : W15.heap.size < W52.heap.size := (R44.out.below (GC51.out.trans hg53)).lt
  have l62 : W31.heap.size < W52.heap.size := (R45.out.below (GC51.out.trans hg53)).lt
  have l63 : w.heap.size ≤ W52.heap.size := (Gr.to G37.out (GC51.out.trans hg53)).size
  have R64 := Lib.hid ((R42.out.below (GC51.out.trans hg53)).past hg55 hv57)
  have R65 := Lib.hid ((R43.out.below (GC51.out.trans hg53)).past hg55 hv57)
  have R66 := Lib.hid ((R44.out.below (GC51.out.trans hg53)).past hg55 hv57)
  have R67 := Lib.hid ((R45.out.below (GC51.out.trans hg53)).past hg55 hv57)
  have R68 := Lib.hid (Row.made (zs := [.int .i64 0, .int .i64 0, .int .i64 0]) (ds := [.int .i64 0, .int .i64 0, .int .i64 0]) rfl hg55 hv57)
  have G58 := Lib.hid (Gr.to (Gr.to G37.out (GC51.out.trans hg53)) (Gr.past hg55 hv57))
  have HT := Lib.hid (HT.out.below ((GC51.out.trans hg53).trans (Gr.past hg55 hv57)))
  clear hg55 hv57 
  go_upto_region 15 with fail
  refine wpG_region ?_
  refine wpG_tk (some 91) (v := .pointer (some ⟨W31.heap.size, 0, none⟩)) rfl (.val (by rfl) (fun W hg => by go_simp)) ?_
  simp only [Act.put, List.setIfInBounds_toArray, List.set_cons_zero, List.set_cons_succ]
  refine wpG_tk (some 92) (v := .int .i64 q1) rfl (.val (by rfl) (fun W hg => by have c := (R67.out.below hg 0 _ rfl).1; go_simp)) ?_
  simp only [Act.put, List.setIfInBounds_toArray, List.set_cons_zero, List.set_cons_succ]
  refine wpG_tk (some 93) (v := .int .i64 (q1 + 1)) rfl (.val (by rfl) (fun W hg => by (first | (go_simp; done) | (go_simp; rw [IntWalk.i64_in _ (by omega)])))) ?_
  simp only [Act.put, List.setIfInBounds_toArray, List.set_cons_zero, List.set_cons_succ]
  refine wpG_tk (some 94) (v := .pointer (some ⟨W31.heap.size, 1, none⟩)) rfl (.val (by rfl) (fun W hg => by go_simp)) ?_
  simp only [Act.put, List.setIfInBounds_toArray, List.set_cons_zero, List.set_cons_succ]
  refine wpG_tk (some 95) (v := .int .i64 q2) rfl (.val (by rfl) (fun W hg => by have c := (R67.out.below hg 1 _ rfl).1; go_simp)) ?_
  simp only [Act.put, List.setIfInBounds_toArray, List.set_cons_zero, List.set_cons_succ]
  refine wpG_tk (some 96) (v := .pointer (some ⟨W31.heap.size, 2, none⟩)) rfl (.val (by rfl) (fun W hg => by go_simp)) ?_
  simp only [Act.put, List.setIfInBounds_toArray, List.set_cons_zero, List.set_cons_succ]
  refine wpG_tk (some 97) (v := .int .i64 q3) rfl (.val (by rfl) (fun W hg => by have c := (R67.out.below hg 2 _ rfl).1; go_simp)) ?_
  simp only [Act.put, List.setIfInBounds_toArray, List.set_cons_zero, List.set_cons_succ]
  refine wpG_tk (some 98) (v := .agg #[.int .i64 (q1 + 1), .int .i64 q2, .int .i64 q3]) rfl (.call (f := 63) (args := #[.int .i64 (q1 + 1), .int .i64 q2, .int .i64 q3]) (by rfl) (fun W => by go_simp) (fun W hg => lawat_any (q1 + 1) q2 q3 W)) ?_
  simp only [Act.put, List.setIfInBounds_toArray, List.set_cons_zero, List.set_cons_succ]
  refine wpG_val (some 14) rfl (by rfl) (fun W69 hg70 => ⟨.pointer (some ⟨W69.heap.size, 0, none⟩), W69.alloc (.cells #[.int .i64 0, .int .i64 0, .int .i64 0] 23), by (go_simp <;> rfl), ?_⟩)
  simp only [Act.put, List.setIfInBounds_toArray, List.set_cons_zero, List.set_cons_succ]
  refine wpG_store (none) rfl (by rfl) (fun W71 hg72 => ⟨_, run_store_mid 23 (.tmp 14) (.tmp 98) rfl (W69.heap.size) 0 #[.int .i64 (q1 + 1), .int .i64 q2, .int .i64 q3] rfl rfl (Row.room hg72 3 rfl) (by kernel_rfl) (by kernel_rfl), ?_⟩)
  simp only [Act.put]
  refine wpG_done (fun V73 hv74 => ?_)
  have l76 : w.heap.size < W69.heap.size := (R64.out.below hg70).lt
  have l77 : w.heap.size + 1 < W69.heap.size := (R65.out.below hg70).lt
  have l78 : W15.heap.size < W69.heap.size := (R66.out.below hg70).lt
  have l79 : W31.heap.size < W69.heap.size := (R67.out.below hg70).lt
  have l80 : W52.heap.size < W69.heap.size := (R68.out.below hg70).lt
  have l81 : w.heap.size ≤ W69.heap.size := (Gr.to G58.out hg70).size
  have R82 := Lib.hid ((R64.out.below hg70).past hg72 hv74)
  have R83 := Lib.hid ((R65.out.below hg70).past hg72 hv74)
  have R84 := Lib.hid ((R66.out.below hg70).past hg72 hv74)
  have R85 := Lib.hid ((R67.out.below hg70).past hg72 hv74)
  have R86 := Lib.hid ((R68.out.below hg70).past hg72 hv74)
  have R87 := Lib.hid (Row.made (zs := [.int .i64 0, .int .i64 0, .int .i64 0]) (ds := [.int .i64 (q1 + 1), .int .i64 q2, .int .i64 q3]) rfl hg72 hv74)
  have G75 := Lib.hid (Gr.to (Gr.to G58.out hg70) (Gr.past hg72 hv74))
  have HT := Lib.hid (HT.out.below (hg70.trans (Gr.past hg72 hv74)))
  clear hg72 hv74 
  go_upto_region 16 with fail
  refine wpG_region ?_
  refine wpG_tk (some 99) (v := .pointer (some ⟨W69.heap.size, 0, none⟩)) rfl (.val (by rfl) (fun W hg => by go_simp)) ?_
  simp only [Act.put, List.setIfInBounds_toArray, List.set_cons_zero, List.set_cons_succ]
  refine wpG_tk (some 100) (v := .int .i64 (q1 + 1)) rfl (.val (by rfl) (fun W hg => by have c := (R87.out.below hg 0 _ rfl).1; go_simp)) ?_
  simp only [Act.put, List.setIfInBounds_toArray, List.set_cons_zero, List.set_cons_succ]
  refine wpG_tk (some 101) (v := .pointer (some ⟨w.heap.size, 3, none⟩)) rfl (.val (by rfl) (fun W hg => by go_simp)) ?_
  simp only [Act.put, List.setIfInBounds_toArray, List.set_cons_zero, List.set_cons_succ]
  refine wpG_tk (some 102) (v := .pointer (some ⟨w.heap.size, 3, none⟩)) rfl (.val (by rfl) (fun W hg => by go_simp)) ?_
  simp only [Act.put, List.setIfInBounds_toArray, List.set_cons_zero, List.set_cons_succ]
  refine wpG_tk (some 103) (v := .int .i64 a4) rfl (.val (by rfl) (fun W hg => by have c := (R82.out.below hg 3 _ rfl).1; go_simp)) ?_
  simp only [Act.put, List.setIfInBounds_toArray, List.set_cons_zero, List.set_cons_succ]
  refine wpG_tk (some 104) (v := .bool true) rfl (.val (by rfl) (fun W hg => by have hq : (q1 + 1 = a4) := (by omega); first | (go_simp; done) | (go_simp <;> omega))) ?_
  simp only [Act.put, List.setIfInBounds_toArray, List.set_cons_zero, List.set_cons_succ]
  refine wpG_done (fun V88 hv89 => ?_)
  have GC90 := Lib.hid hv89
  clear hv89
  go_upto_region 17 with fail
  refine wpG_region ?_
  refine wpG_tk (some 105) (v := .pointer (some ⟨w.heap.size, 0, none⟩)) rfl (.val (by rfl) (fun W hg => by go_simp)) ?_
  simp only [Act.put, List.setIfInBounds_toArray, List.set_cons_zero, List.set_cons_succ]
  refine wpG_tk (some 106) (v := .pointer (some ⟨w.heap.size, 0, none⟩)) rfl (.val (by rfl) (fun W hg => by go_simp)) ?_
  simp only [Act.put, List.setIfInBounds_toArray, List.set_cons_zero, List.set_cons_succ]
  refine wpG_tk (some 107) (v := .int .i64 a1) rfl (.val (by rfl) (fun W hg => by have c := (R82.out.below (GC90.out.trans hg) 0 _ rfl).1; go_simp)) ?_
  simp only [Act.put, List.setIfInBounds_toArray, List.set_cons_zero, List.set_cons_succ]
  refine wpG_tk (some 108) (v := .pointer (some ⟨W31.heap.size, 1, none⟩)) rfl (.val (by rfl) (fun W hg => by go_simp)) ?_
  simp only [Act.put, List.setIfInBounds_toArray, List.set_cons_zero, List.set_cons_succ]
  refine wpG_tk (some 109) (v := .int .i64 q2) rfl (.val (by rfl) (fun W hg => by have c := (R85.out.below (GC90.out.trans hg) 1 _ rfl).1; go_simp)) ?_
  simp only [Act.put, List.setIfInBounds_toArray, List.set_cons_zero, List.set_cons_succ]
  refine wpG_tk (some 110) (v := .int .i64 (q2 + 1)) rfl (.val (by rfl) (fun W hg => by (first | (go_simp; done) | (go_simp; rw [IntWalk.i64_in _ (by omega)])))) ?_
  simp only [Act.put, List.setIfInBounds_toArray, List.set_cons_zero, List.set_cons_succ]
  refine wpG_tk (some 111) (v := .pointer (some ⟨W31.heap.size, 2, none⟩)) rfl (.val (by rfl) (fun W hg => by go_simp)) ?_
  simp only [Act.put, List.setIfInBounds_toArray, List.set_cons_zero, List.set_cons_succ]
  refine wpG_tk (some 112) (v := .int .i64 q3) rfl (.val (by rfl) (fun W hg => by have c := (R85.out.below (GC90.out.trans hg) 2 _ rfl).1; go_simp)) ?_
  simp only [Act.put, List.setIfInBounds_toArray, List.set_cons_zero, List.set_cons_succ]
  refine wpG_tk (some 113) (v := .agg #[.int .i64 a1, .int .i64 (q2 + 1), .int .i64 q3]) rfl (.call (f := 63) (args := #[.int .i64 a1, .int .i64 (q2 + 1), .int .i64 q3]) (by rfl) (fun W => by go_simp) (fun W hg => lawat_any a1 (q2 + 1) q3 W)) ?_
  simp only [Act.put, List.setIfInBounds_toArray, List.set_cons_zero, List.set_cons_succ]
  refine wpG_store (none) rfl (by rfl) (fun W91 hg92 => ⟨_, run_store_mid 23 (.tmp 14) (.tmp 113) rfl (W69.heap.size) 0 #[.int .i64 a1, .int .i64 (q2 + 1), .int .i64 q3] rfl rfl (((R87.out.below (GC90.out.trans hg92)).there 0 3 (by simp))) (by kernel_rfl) (by kernel_rfl), ?_⟩)
  simp only [Act.put]
  refine wpG_done (fun V93 hv94 => ?_)
  have R96 := Lib.hid (Row.put (ds := [.int .i64 a1, .int .i64 (q2 + 1), .int .i64 q3]) R87.out (GC90.out.trans hg92) rfl hv94)
  have G95 := Lib.hid (Gr.put G75.out (GC90.out.trans hg92) (by omega) hv94)
  have R97 := Lib.hid (((R82.out.below (GC90.out.trans hg92)).far (b := W69.heap.size) (by omega) 0 [.int .i64 a1, .int .i64 (q2 + 1), .int .i64 q3]).below hv94)
  have R98 := Lib.hid (((R83.out.below (GC90.out.trans hg92)).far (b := W69.heap.size) (by omega) 0 [.int .i64 a1, .int .i64 (q2 + 1), .int .i64 q3]).below hv94)
  have R99 := Lib.hid (((R84.out.below (GC90.out.trans hg92)).far (b := W69.heap.size) (by omega) 0 [.int .i64 a1, .int .i64 (q2 + 1), .int .i64 q3]).below hv94)
  have R100 := Lib.hid (((R85.out.below (GC90.out.trans hg92)).far (b := W69.heap.size) (by omega) 0 [.int .i64 a1, .int .i64 (q2 + 1), .int .i64 q3]).below hv94)
  have R101 := Lib.hid (((R86.out.below (GC90.out.trans hg92)).far (b := W69.heap.size) (by omega) 0 [.int .i64 a1, .int .i64 (q2 + 1), .int .i64 q3]).below hv94)
  have HT := Lib.hid (HT0.out.below G95.out)
  go_upto_region 18 with fail
  refine wpG_region ?_
  refine wpG_tk (some 114) (v := .pointer (some ⟨W69.heap.size, 1, none⟩)) rfl (.val (by rfl) (fun W hg => by go_simp)) ?_
  simp only [Act.put, List.setIfInBounds_toArray, List.set_cons_zero, List.set_cons_succ]
  refine wpG_tk (some 115) (v := .int .i64 (q2 + 1)) rfl (.val (by rfl) (fun W hg => by have c := (R96.out.below hg 1 _ rfl).1; go_simp)) ?_
  simp only [Act.put, List.setIfInBounds_toArray, List.set_cons_zero, List.set_cons_succ]
  refine wpG_tk (some 116) (v := .pointer (some ⟨w.heap.size, 3, none⟩)) rfl (.val (by rfl) (fun W hg => by go_simp)) ?_
  simp only [Act.put, List.setIfInBounds_toArray, List.set_cons_zero, List.set_cons_succ]
  refine wpG_tk (some 117) (v := .pointer (some ⟨w.heap.size, 4, none⟩)) rfl (.val (by rfl) (fun W hg => by go_simp)) ?_
  simp only [Act.put, List.setIfInBounds_toArray, List.set_cons_zero, List.set_cons_succ]
  refine wpG_tk (some 118) (v := .int .i64 a5) rfl (.val (by rfl) (fun W hg => by have c := (R97.out.below hg 4 _ rfl).1; go_simp)) ?_
  simp only [Act.put, List.setIfInBounds_toArray, List.set_cons_zero, List.set_cons_succ]
  refine wpG_tk (some 119) (v := .bool true) rfl (.val (by rfl) (fun W hg => by have hq : (q2 + 1 = a5) := (by omega); first | (go_simp; done) | (go_simp <;> omega))) ?_
  simp only [Act.put, List.setIfInBounds_toArray, List.set_cons_zero, List.set_cons_succ]
  refine wpG_done (fun V102 hv103 => ?_)
  have GC104 := Lib.hid hv103
  clear hv103
  go_upto_region 19 with fail
  refine wpG_region ?_
  refine wpG_tk (some 120) (v := .pointer (some ⟨w.heap.size, 0, none⟩)) rfl (.val (by rfl) (fun W hg => by go_simp)) ?_
  simp only [Act.put, List.setIfInBounds_toArray, List.set_cons_zero, List.set_cons_succ]
  refine wpG_tk (some 121) (v := .pointer (some ⟨w.heap.size, 0, none⟩)) rfl (.val (by rfl) (fun W hg => by go_simp)) ?_
  simp only [Act.put, List.setIfInBounds_toArray, List.set_cons_zero, List.set_cons_succ]
  refine wpG_tk (some 122) (v := .int .i64 a1) rfl (.val (by rfl) (fun W hg => by have c := (R97.out.below (GC104.out.trans hg) 0 _ rfl).1; go_simp)) ?_
  simp only [Act.put, List.setIfInBounds_toArray, List.set_cons_zero, List.set_cons_succ]
  refine wpG_tk (some 123) (v := .pointer (some ⟨w.heap.size, 0, none⟩)) rfl (.val (by rfl) (fun W hg => by go_simp)) ?_
  simp only [Act.put, List.setIfInBounds_toArray, List.set_cons_zero, List.set_cons_succ]
  refine wpG_tk (some 124) (v := .pointer (some ⟨w.heap.size, 1, none⟩)) rfl (.val (by rfl) (fun W hg => by go_simp)) ?_
  simp only [Act.put, List.setIfInBounds_toArray, List.set_cons_zero, List.set_cons_succ]
  refine wpG_tk (some 125) (v := .int .i64 a2) rfl (.val (by rfl) (fun W hg => by have c := (R97.out.below (GC104.out.trans hg) 1 _ rfl).1; go_simp)) ?_
  simp only [Act.put, List.setIfInBounds_toArray, List.set_cons_zero, List.set_cons_succ]
  refine wpG_tk (some 126) (v := .pointer (some ⟨W31.heap.size, 2, none⟩)) rfl (.val (by rfl) (fun W hg => by go_simp)) ?_
  simp only [Act.put, List.setIfInBounds_toArray, List.set_cons_zero, List.set_cons_succ]
  refine wpG_tk (some 127) (v := .int .i64 q3) rfl (.val (by rfl) (fun W hg => by have c := (R100.out.below (GC104.out.trans hg) 2 _ rfl).1; go_simp)) ?_
  simp only [Act.put, List.setIfInBounds_toArray, List.set_cons_zero, List.set_cons_succ]
  refine wpG_tk (some 128) (v := .int .i64 (q3 + 1)) rfl (.val (by rfl) (fun W hg => by (first | (go_simp; done) | (go_simp; rw [IntWalk.i64_in _ (by omega)])))) ?_
  simp only [Act.put, List.setIfInBounds_toArray, List.set_cons_zero, List.set_cons_succ]
  refine wpG_tk (some 129) (v := .agg #[.int .i64 a1, .int .i64 a2, .int .i64 (q3 + 1)]) rfl (.call (f := 63) (args := #[.int .i64 a1, .int .i64 a2, .int .i64 (q3 + 1)]) (by rfl) (fun W => by go_simp) (fun W hg => lawat_any a1 a2 (q3 + 1) W)) ?_
  simp only [Act.put, List.setIfInBounds_toArray, List.set_cons_zero, List.set_cons_succ]
  refine wpG_store (none) rfl (by rfl) (fun W105 hg106 => ⟨_, run_store_mid 23 (.tmp 14) (.tmp 129) rfl (W69.heap.size) 0 #[.int .i64 a1, .int .i64 a2, .int .i64 (q3 + 1)] rfl rfl (((R96.out.below (GC104.out.trans hg106)).there 0 3 (by simp))) (by kernel_rfl) (by kernel_rfl), ?_⟩)
  simp only [Act.put]
  refine wpG_done (fun V107 hv108 => ?_)
  have R110 := Lib.hid (Row.put (ds := [.int .i64 a1, .int .i64 a2, .int .i64 (q3 + 1)]) R96.out (GC104.out.trans hg106) rfl hv108)
  have G109 := Lib.hid (Gr.put G95.out (GC104.out.trans hg106) (by omega) hv108)
  have R111 := Lib.hid (((R97.out.below (GC104.out.trans hg106)).far (b := W69.heap.size) (by omega) 0 [.int .i64 a1, .int .i64 a2, .int .i64 (q3 + 1)]).below hv108)
  have R112 := Lib.hid (((R98.out.below (GC104.out.trans hg106)).far (b := W69.heap.size) (by omega) 0 [.int .i64 a1, .int .i64 a2, .int .i64 (q3 + 1)]).below hv108)
  have R113 := Lib.hid (((R99.out.below (GC104.out.trans hg106)).far (b := W69.heap.size) (by omega) 0 [.int .i64 a1, .int .i64 a2, .int .i64 (q3 + 1)]).below hv108)
  have R114 := Lib.hid (((R100.out.below (GC104.out.trans hg106)).far (b := W69.heap.size) (by omega) 0 [.int .i64 a1, .int .i64 a2, .int .i64 (q3 + 1)]).below hv108)
  have R115 := Lib.hid (((R101.out.below (GC104.out.trans hg106)).far (b := W69.heap.size) (by omega) 0 [.int .i64 a1, .int .i64 a2, .int .i64 (q3 + 1)]).below hv108)
  have HT := Lib.hid (HT0.out.below G109.out)
  go_upto_region 20 with fail
  refine wpG_region ?_
  refine wpG_tk (some 130) (v := .bool true) rfl (.call (f := 12) (args := #[]) (by rfl) (fun W => by go_simp) (fun W hg => sanity_any W (HT.out.below hg))) ?_
  simp only [Act.put, List.setIfInBounds_toArray, List.set_cons_zero, List.set_cons_succ]
  refine wpG_tk (some 131) (v := .bool true) rfl (.val (by rfl) (fun _ _ => rfl)) ?_
  simp only [Act.put, List.setIfInBounds_toArray, List.set_cons_zero, List.set_cons_succ]
  refine wpG_tk (some 132) (v := .agg #[.int .i64 a1, .int .i64 a2, .int .i64 a3, .int .i64 a4, .int .i64 a5, .int .i64 a6]) rfl (.load_mid (by rfl) 31 (.tmp 3) rfl (w.heap.size) 0 rfl [.int .i64 a1, .int .i64 a2, .int .i64 a3, .int .i64 a4, .int .i64 a5, .int .i64 a6] _ (fun W hg => (R111.out.below hg).range) Tryd.underlying31 rfl (by kernel_rfl)) ?_
  simp only [Act.put, List.setIfInBounds_toArray, List.set_cons_zero, List.set_cons_succ]
  refine wpG_tk (some 133) (v := .agg #[.int .i64 q1, .int .i64 q2, .int .i64 q3]) rfl (.load_mid (by rfl) 23 (.tmp 10) rfl (W31.heap.size) 0 rfl [.int .i64 q1, .int .i64 q2, .int .i64 q3] _ (fun W hg => (R114.out.below hg).range) Tryd.underlying23 rfl (by kernel_rfl)) ?_
  simp only [Act.put, List.setIfInBounds_toArray, List.set_cons_zero, List.set_cons_succ]
  refine wpG_tk (some 134) (v := .int .i64 i) rfl (.call (f := 43) (args := #[.agg #[.int .i64 a1, .int .i64 a2, .int .i64 a3, .int .i64 a4, .int .i64 a5, .int .i64 a6], .agg #[.int .i64 q1, .int .i64 q2, .int .i64 q3]]) (by rfl) (fun W => by go_simp) (fun W hg => (by have c := index_t a1 a2 a3 a4 a5 a6 q1 q2 q3 W (by omega) HBQ.out; rw [HB.out] at c; exact c))) ?_
  simp only [Act.put, List.setIfInBounds_toArray, List.set_cons_zero, List.set_cons_succ]
  refine wpG_tk (some 135) (v := .int .i64 i) rfl (.val (by rfl) (fun _ _ => rfl)) ?_
  simp only [Act.put, List.setIfInBounds_toArray, List.set_cons_zero, List.set_cons_succ]
  refine wpG_tk (some 136) (v := .bool true) rfl (.val (by rfl) (fun W hg => by go_simp)) ?_
  simp only [Act.put, List.setIfInBounds_toArray, List.set_cons_zero, List.set_cons_succ]
  refine wpG_tk (some 137) (v := .bool true) rfl (.val (by rfl) (fun W hg => by go_simp)) ?_
  simp only [Act.put, List.setIfInBounds_toArray, List.set_cons_zero, List.set_cons_succ]
  refine wpG_tk (some 138) (v := .bool true) rfl (.val (by rfl) (fun _ _ => rfl)) ?_
  simp only [Act.put, List.setIfInBounds_toArray, List.set_cons_zero, List.set_cons_succ]
  refine wpG_tk (some 139) (v := .bool false) rfl (.val (by rfl) (fun _ _ => rfl)) ?_
  simp only [Act.put, List.setIfInBounds_toArray, List.set_cons_zero, List.set_cons_succ]
  refine wpG_tk (some 140) (v := .bool true) rfl (.val (by rfl) (fun W hg => by go_simp)) ?_
  simp only [Act.put, List.setIfInBounds_toArray, List.set_cons_zero, List.set_cons_succ]
  refine wpG_tk (some 141) (v := .bool true) rfl (.val (by rfl) (fun _ _ => rfl)) ?_
  simp only [Act.put, List.setIfInBounds_toArray, List.set_cons_zero, List.set_cons_succ]
  refine wpG_tk (some 142) (v := undef) rfl (.no (by rfl)) ?_
  simp only [Act.put, List.setIfInBounds_toArray, List.set_cons_zero, List.set_cons_succ]
  refine wpG_tk (some 143) (v := undef) rfl (.no (by rfl)) ?_
  simp only [Act.put, List.setIfInBounds_toArray, List.set_cons_zero, List.set_cons_succ]
  refine wpG_tk (some 144) (v := undef) rfl (.no (by rfl)) ?_
  simp only [Act.put, List.setIfInBounds_toArray, List.set_cons_zero, List.set_cons_succ]
  refine wpG_tk (some 145) (v := .bool true) rfl (.val (by rfl) (fun W hg => by go_simp)) ?_
  simp only [Act.put, List.setIfInBounds_toArray, List.set_cons_zero, List.set_cons_succ]
  refine wpG_tk (some 146) (v := .bool true) rfl (.val (by rfl) (fun W hg => by go_simp)) ?_
  simp only [Act.put, List.setIfInBounds_toArray, List.set_cons_zero, List.set_cons_succ]
  refine wpG_tk (some 147) (v := .bool true) rfl (.val (by rfl) (fun _ _ => rfl)) ?_
  simp only [Act.put, List.setIfInBounds_toArray, List.set_cons_zero, List.set_cons_succ]
  refine wpG_tk (some 148) (v := .bool false) rfl (.val (by rfl) (fun _ _ => rfl)) ?_
  simp only [Act.put, List.setIfInBounds_toArray, List.set_cons_zero, List.set_cons_succ]
  refine wpG_tk (some 149) (v := .pointer (some ⟨W69.heap.size, 2, none⟩)) rfl (.val (by rfl) (fun W hg => by go_simp)) ?_
  simp only [Act.put, List.setIfInBounds_toArray, List.set_cons_zero, List.set_cons_succ]
  refine wpG_tk (some 150) (v := .int .i64 (q3 + 1)) rfl (.val (by rfl) (fun W hg => by have c := (R110.out.below hg 2 _ rfl).1; go_simp)) ?_
  simp only [Act.put, List.setIfInBounds_toArray, List.set_cons_zero, List.set_cons_succ]
  refine wpG_tk (some 151) (v := .pointer (some ⟨w.heap.size, 3, none⟩)) rfl (.val (by rfl) (fun W hg => by go_simp)) ?_
  simp only [Act.put, List.setIfInBounds_toArray, List.set_cons_zero, List.set_cons_succ]
  refine wpG_tk (some 152) (v := .pointer (some ⟨w.heap.size, 5, none⟩)) rfl (.val (by rfl) (fun W hg => by go_simp)) ?_
  simp only [Act.put, List.setIfInBounds_toArray, List.set_cons_zero, List.set_cons_succ]
  refine wpG_tk (some 153) (v := .int .i64 a6) rfl (.val (by rfl) (fun W hg => by have c := (R111.out.below hg 5 _ rfl).1; go_simp)) ?_
  simp only [Act.put, List.setIfInBounds_toArray, List.set_cons_zero, List.set_cons_succ]
  refine wpG_tk (some 154) (v := .bool false) rfl (.val (by rfl) (fun W hg => by have hq : ¬ (q3 + 1 < a6) := (by omega); first | (go_simp; done) | (go_simp <;> omega))) ?_
  simp only [Act.put, List.setIfInBounds_toArray, List.set_cons_zero, List.set_cons_succ]
  refine wpG_tk (some 155) (v := .bool true) rfl (.val (by rfl) (fun W hg => by go_simp)) ?_
  simp only [Act.put, List.setIfInBounds_toArray, List.set_cons_zero, List.set_cons_succ]
  refine wpG_tk (some 156) (v := .bool true) rfl (.val (by rfl) (fun W hg => by go_simp)) ?_
  simp only [Act.put, List.setIfInBounds_toArray, List.set_cons_zero, List.set_cons_succ]
  refine wpG_tk (some 6) (v := .bool true) rfl (.val (by rfl) (fun _ _ => rfl)) ?_
  simp only [Act.put, List.setIfInBounds_toArray, List.set_cons_zero, List.set_cons_succ]
  refine wpG_done (fun V116 hv117 => ?_)
  have GC118 := Lib.hid hv117
  clear hv117
  go_wp2_with fail
  go_ret
  exact ⟨rfl, Gr.to G109.out GC118.out⟩

end Go.Proofs.YthadlgjobjnhcaaDoor
