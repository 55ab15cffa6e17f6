/-
  Contracts: cubes and boxes.
-/
import Derived.Test.YtmjjkloeipoefaaMob1
import Derived.Handy
namespace Go.Proofs.Ytmjjkloeipoefaa
open Go.RowKit
set_option linter.unusedVariables false
theorem wrap_pw (l : Nat) (h : l ≤ 62) : IntKind.i64.wrap ((2 : Int) ^ l) = Mo.pw l := by unfold Mo.pw; exact wrap_pow l h
set_option maxRecDepth 1000000 in
set_option maxHeartbeats 4000000 in
theorem whole_any (w : World) :
    Calls Try.prog 44 #[] w fun e w' => e = .returned (.agg #[.int .i64 0, .int .i64 0, .int .i64 0, .int .i64 14]) ∧ Below w.heap.size w w' := by
  obtain ⟨u, hu, r0, g0⟩ := rows1 w [.int .i64 0, .int .i64 0, .int .i64 0, .int .i64 0] 27
  have R0 := Lib.hid r0
  have G0 := Lib.hid g0
  have HU := Lib.hid hu
  clear hu g0 r0
  go_enter Try.func44, Try.ntmps44
  go_upto_region 1 with fail
  rw [← HU.out]
  refine wpG_region ?_
  refine wpG_tk (some 1) (v := .agg #[.int .i64 0, .int .i64 0, .int .i64 0, .int .i64 14]) rfl (.val (by rfl) (fun W hg => by go_simp)) ?_
  simp only [Act.put, List.setIfInBounds_toArray, List.set_cons_zero, List.set_cons_succ]
  refine wpG_store (none) rfl (by rfl) (fun W1 hg2 => ⟨_, run_store_mid 27 (.tmp 0) (.tmp 1) rfl (w.heap.size) 0 #[.int .i64 0, .int .i64 0, .int .i64 0, .int .i64 14] rfl rfl (((R0.out.below hg2).there 0 4 (by simp))) (by kernel_rfl) (by kernel_rfl), ?_⟩)
  simp only [Act.put]
  refine wpG_done (fun V3 hv4 => ?_)
  have R6 := Lib.hid (Row.put (ds := [.int .i64 0, .int .i64 0, .int .i64 0, .int .i64 14]) R0.out hg2 rfl hv4)
  have G5 := Lib.hid (Gr.put G0.out hg2 (by omega) hv4)
  go_wp2_with fail
  refine bodyPost_ret (results_cell_mid rfl _ _ _ (w.heap.size) 0 [.int .i64 0, .int .i64 0, .int .i64 0, .int .i64 14] _ rfl R6.out.range Try.underlying27 rfl (by kernel_rfl)) rfl ?_
  exact ⟨rfl, G5.out⟩
set_option maxRecDepth 1000000 in
set_option maxHeartbeats 4000000 in
theorem run_any (x y z : Int) (l : Nat) (w : World) (hl : l ≤ 14) :
    Calls Try.prog 46 #[.agg #[.int .i64 x, .int .i64 y, .int .i64 z, .int .i64 (l : Int)]] w fun e w' => e = .returned (.agg #[.int .i64 (Mo.enc x y z), .int .i64 (Mo.enc x y z + Mo.pw (3 * l) - 1)]) ∧ Below w.heap.size w w' := by
  obtain ⟨u, hu, r0, r1, g0⟩ := rows2 w [.int .i64 x, .int .i64 y, .int .i64 z, .int .i64 (l : Int)] 27 [.int .i64 0, .int .i64 0] 54
  have R0 := Lib.hid r0
  have R1 := Lib.hid r1
  have G0 := Lib.hid g0
  have HU := Lib.hid hu
  clear hu g0 r0 r1
  go_enter Try.func46, Try.ntmps46
  go_upto_region 1 with fail
  rw [← HU.out]
  refine wpG_region ?_
  refine wpG_tk (some 4) (v := .pointer (some ⟨w.heap.size, 0, none⟩)) rfl (.val (by rfl) (fun W hg => by go_simp)) ?_
  simp only [Act.put, List.setIfInBounds_toArray, List.set_cons_zero, List.set_cons_succ]
  refine wpG_tk (some 5) (v := .agg #[.int .i64 x, .int .i64 y, .int .i64 z]) rfl (.load_mid (by rfl) 23 (.tmp 4) rfl (w.heap.size) 0 rfl [.int .i64 x, .int .i64 y, .int .i64 z] _ (fun W hg => ((R0.out.below hg).part 0 3 rfl)) Try.underlying23 rfl (by kernel_rfl)) ?_
  simp only [Act.put, List.setIfInBounds_toArray, List.set_cons_zero, List.set_cons_succ]
  refine wpG_tk (some 6) (v := .int .i64 (Mo.enc x y z)) rfl (.call (f := 13) (args := #[.agg #[.int .i64 x, .int .i64 y, .int .i64 z]]) (by rfl) (fun W => by go_simp) (fun W hg => encode_any x y z W)) ?_
  simp only [Act.put, List.setIfInBounds_toArray, List.set_cons_zero, List.set_cons_succ]
  refine wpG_tk (some 3) (v := .int .i64 (Mo.enc x y z)) rfl (.val (by rfl) (fun _ _ => rfl)) ?_
  simp only [Act.put, List.setIfInBounds_toArray, List.set_cons_zero, List.set_cons_succ]
  refine wpG_done (fun V1 hv2 => ?_)
  have GC3 := Lib.hid hv2
  clear hv2
  go_upto_region 2 with fail
  have he := Mo.enc_bd x y z
  have hq2 := Mo.pw42 hl
  have hq1 := Mo.pw_pos (3 * l)
  refine wpG_region ?_
  refine wpG_tk (some 7) (v := .int .i64 (Mo.enc x y z)) rfl (.val (by rfl) (fun _ _ => rfl)) ?_
  simp only [Act.put, List.setIfInBounds_toArray, List.set_cons_zero, List.set_cons_succ]
  refine wpG_tk (some 8) (v := .int .i64 (Mo.enc x y z)) rfl (.val (by rfl) (fun _ _ => rfl)) ?_
  simp only [Act.put, List.setIfInBounds_toArray, List.set_cons_zero, List.set_cons_succ]
  refine wpG_tk (some 9) (v := .pointer (some ⟨w.heap.size, 3, none⟩)) rfl (.val (by rfl) (fun W hg => by go_simp)) ?_
  simp only [Act.put, List.setIfInBounds_toArray, List.set_cons_zero, List.set_cons_succ]
  refine wpG_tk (some 10) (v := .int .i64 (l : Int)) rfl (.val (by rfl) (fun W hg => by have c := (R0.out.below (GC3.out.trans hg) 3 _ rfl).1; go_simp)) ?_
  simp only [Act.put, List.setIfInBounds_toArray, List.set_cons_zero, List.set_cons_succ]
  refine wpG_tk (some 11) (v := .int .i64 (3 * (l : Int))) rfl (.val (by rfl) (fun W hg => by (first | (go_simp; done) | (go_simp; rw [IntWalk.i64_in _ (by omega)])))) ?_
  simp only [Act.put, List.setIfInBounds_toArray, List.set_cons_zero, List.set_cons_succ]
  refine wpG_tk (some 12) (v := .int .i64 (Mo.pw (3 * l))) rfl (.val (by rfl) (fun W hg => by go_simp; exact wrap_pw (3 * l) (by omega))) ?_
  simp only [Act.put, List.setIfInBounds_toArray, List.set_cons_zero, List.set_cons_succ]
  refine wpG_tk (some 13) (v := .int .i64 ((Mo.enc x y z) + (Mo.pw (3 * l)))) rfl (.val (by rfl) (fun W hg => by (first | (go_simp; done) | (go_simp; rw [IntWalk.i64_in _ (by omega)])))) ?_
  simp only [Act.put, List.setIfInBounds_toArray, List.set_cons_zero, List.set_cons_succ]
  refine wpG_tk (some 14) (v := .int .i64 (((Mo.enc x y z) + (Mo.pw (3 * l))) - 1)) rfl (.val (by rfl) (fun W hg => by (first | (go_simp; done) | (go_simp; rw [IntWalk.i64_in _ (by omega)])))) ?_
  simp only [Act.put, List.setIfInBounds_toArray, List.set_cons_zero, List.set_cons_succ]
  refine wpG_tk (some 15) (v := .agg #[.int .i64 (Mo.enc x y z), .int .i64 (((Mo.enc x y z) + (Mo.pw (3 * l))) - 1)]) rfl (.val (by rfl) (fun W hg => by go_simp)) ?_
  simp only [Act.put, List.setIfInBounds_toArray, List.set_cons_zero, List.set_cons_succ]
  refine wpG_store (none) rfl (by rfl) (fun W4 hg5 => ⟨_, run_store_mid 54 (.tmp 2) (.tmp 15) rfl (w.heap.size + 1) 0 #[.int .i64 (Mo.enc x y z), .int .i64 (((Mo.enc x y z) + (Mo.pw (3 * l))) - 1)] rfl rfl (((R1.out.below (GC3.out.trans hg5)).there 0 2 (by simp))) (by kernel_rfl) (by kernel_rfl), ?_⟩)
  simp only [Act.put]
  refine wpG_done (fun V6 hv7 => ?_)
  have R9 := Lib.hid (Row.put (ds := [.int .i64 (Mo.enc x y z), .int .i64 (((Mo.enc x y z) + (Mo.pw (3 * l))) - 1)]) R1.out (GC3.out.trans hg5) rfl hv7)
  have G8 := Lib.hid (Gr.put G0.out (GC3.out.trans hg5) (by omega) hv7)
  have R10 := Lib.hid (((R0.out.below (GC3.out.trans hg5)).far (b := w.heap.size + 1) (by omega) 0 [.int .i64 (Mo.enc x y z), .int .i64 (((Mo.enc x y z) + (Mo.pw (3 * l))) - 1)]).below hv7)
  go_wp2_with fail
  refine bodyPost_ret (results_cell_mid rfl _ _ _ (w.heap.size + 1) 0 [.int .i64 (Mo.enc x y z), .int .i64 (((Mo.enc x y z) + (Mo.pw (3 * l))) - 1)] _ rfl R9.out.range Try.underlying54 rfl (by kernel_rfl)) rfl ?_
  exact ⟨rfl, G8.out⟩
set_option maxRecDepth 1000000 in
set_option maxHeartbeats 4000000 in
theorem child_any (x y z : Int) (l o : Nat) (w : World) (h : (-1 ≤ x ∧ x ≤ 32768) ∧ (-1 ≤ y ∧ y ≤ 32768) ∧ (-1 ≤ z ∧ z ≤ 32768)) (hl : l ≤ 13) (ho : o ≤ 7) :
    Calls Try.prog 43 #[.agg #[.int .i64 x, .int .i64 y, .int .i64 z, .int .i64 ((l : Int) + 1)], .int .i64 (o : Int)] w fun e w' => e = .returned (.agg #[.int .i64 (x + Mo.cx 0 o l), .int .i64 (y + Mo.cx 1 o l), .int .i64 (z + Mo.cx 2 o l), .int .i64 (l : Int)]) ∧ Below w.heap.size w w' := by
  obtain ⟨u, hu, r0, r1, g0⟩ := rows2 w [.int .i64 x, .int .i64 y, .int .i64 z, .int .i64 ((l : Int) + 1)] 27 [.int .i64 0, .int .i64 0, .int .i64 0, .int .i64 0] 27
  have R0 := Lib.hid r0
  have R1 := Lib.hid r1
  have G0 := Lib.hid g0
  have HU := Lib.hid hu
  clear hu g0 r0 r1
  go_enter Try.func43, Try.ntmps43
  go_upto_region 1 with fail
  rw [← HU.out]
  refine wpG_region ?_
  refine wpG_tk (some 8) (v := .pointer (some ⟨w.heap.size, 3, none⟩)) rfl (.val (by rfl) (fun W hg => by go_simp)) ?_
  simp only [Act.put, List.setIfInBounds_toArray, List.set_cons_zero, List.set_cons_succ]
  refine wpG_tk (some 9) (v := .int .i64 ((l : Int) + 1)) rfl (.val (by rfl) (fun W hg => by have c := (R0.out.below hg 3 _ rfl).1; go_simp)) ?_
  simp only [Act.put, List.setIfInBounds_toArray, List.set_cons_zero, List.set_cons_succ]
  refine wpG_tk (some 10) (v := .int .i64 (l : Int)) rfl (.val (by rfl) (fun W hg => by go_simp; exact wrap_nat l (by omega))) ?_
  simp only [Act.put, List.setIfInBounds_toArray, List.set_cons_zero, List.set_cons_succ]
  refine wpG_tk (some 5) (v := .int .i64 (l : Int)) rfl (.val (by rfl) (fun _ _ => rfl)) ?_
  simp only [Act.put, List.setIfInBounds_toArray, List.set_cons_zero, List.set_cons_succ]
  refine wpG_done (fun V1 hv2 => ?_)
  have GC3 := Lib.hid hv2
  clear hv2
  go_upto_region 2 with fail
  refine wpG_region ?_
  refine wpG_tk (some 11) (v := .pointer (some ⟨w.heap.size, 0, none⟩)) rfl (.val (by rfl) (fun W hg => by go_simp)) ?_
  simp only [Act.put, List.setIfInBounds_toArray, List.set_cons_zero, List.set_cons_succ]
  refine wpG_tk (some 12) (v := .agg #[.int .i64 x, .int .i64 y, .int .i64 z]) rfl (.load_mid (by rfl) 23 (.tmp 11) rfl (w.heap.size) 0 rfl [.int .i64 x, .int .i64 y, .int .i64 z] _ (fun W hg => ((R0.out.below (GC3.out.trans hg)).part 0 3 rfl)) Try.underlying23 rfl (by kernel_rfl)) ?_
  simp only [Act.put, List.setIfInBounds_toArray, List.set_cons_zero, List.set_cons_succ]
  refine wpG_tk (some 13) (v := .agg #[.int .i64 x, .int .i64 y, .int .i64 z]) rfl (.call (f := 39) (args := #[.agg #[.int .i64 x, .int .i64 y, .int .i64 z]]) (by rfl) (fun W => by go_simp) (fun W hg => coords_any x y z W)) ?_
  simp only [Act.put, List.setIfInBounds_toArray, List.set_cons_zero, List.set_cons_succ]
  refine wpG_val (some 6) rfl (by rfl) (fun W4 hg5 => ⟨.pointer (some ⟨W4.heap.size, 0, none⟩), W4.alloc (.cells #[.int .i64 0, .int .i64 0, .int .i64 0] 57), by (go_simp <;> rfl), ?_⟩)
  simp only [Act.put, List.setIfInBounds_toArray, List.set_cons_zero, List.set_cons_succ]
  refine wpG_store (none) rfl (by rfl) (fun W6 hg7 => ⟨_, run_store_mid 57 (.tmp 6) (.tmp 13) rfl (W4.heap.size) 0 #[.int .i64 x, .int .i64 y, .int .i64 z] rfl rfl (Row.room hg7 3 rfl) (by kernel_rfl) (by kernel_rfl), ?_⟩)
  simp only [Act.put]
  refine wpG_done (fun V8 hv9 => ?_)
  have l11 : w.heap.size < W4.heap.size := (R0.out.below (GC3.out.trans hg5)).lt
  have l12 : w.heap.size + 1 < W4.heap.size := (R1.out.below (GC3.out.trans hg5)).lt
  have l13 : w.heap.size ≤ W4.heap.size := (Gr.to G0.out (GC3.out.trans hg5)).size
  have R14 := Lib.hid ((R0.out.below (GC3.out.trans hg5)).past hg7 hv9)
  have R15 := Lib.hid ((R1.out.below (GC3.out.trans hg5)).past hg7 hv9)
  have R16 := Lib.hid (Row.made (zs := [.int .i64 0, .int .i64 0, .int .i64 0]) (ds := [.int .i64 x, .int .i64 y, .int .i64 z]) rfl hg7 hv9)
  have G10 := Lib.hid (Gr.to (Gr.to G0.out (GC3.out.trans hg5)) (Gr.past hg7 hv9))
  clear hg7 hv9 
  obtain ⟨q, hq⟩ : ∃ q, q = W4.heap.size := ⟨_, rfl⟩
  have hql : w.heap.size + 1 < q := by omega
  have RQ := R16.out
  rw [← hq] at RQ
  have RX := Lib.hid RQ
  rw [← hq]
  have HQ := Lib.hid hq
  clear hq RQ
  obtain ⟨k0, hk0⟩ : ∃ k, k = o / 2 ^ 0 % 2 := ⟨_, rfl⟩
  have hb0 : k0 < 2 := by rw [hk0]; exact Nat.mod_lt _ (by decide)
  obtain ⟨v0, hv0⟩ : ∃ v, v = Mo.cx 0 o l := ⟨_, rfl⟩
  have hc0 : 0 ≤ v0 ∧ v0 ≤ 8192 := by rw [hv0]; exact Mo.cx_bd 0 o hl
  have he0 : (k0 : Int) * (2 : Int) ^ l = v0 := by rw [hv0, hk0]; unfold Mo.cx Mo.pw; simp
  have Hk0 := Lib.hid hk0
  clear hk0
  have Hv0 := Lib.hid hv0
  clear hv0
  have He0 := Lib.hid he0
  clear he0
  obtain ⟨k1, hk1⟩ : ∃ k, k = o / 2 ^ 1 % 2 := ⟨_, rfl⟩
  have hb1 : k1 < 2 := by rw [hk1]; exact Nat.mod_lt _ (by decide)
  obtain ⟨v1, hv1⟩ : ∃ v, v = Mo.cx 1 o l := ⟨_, rfl⟩
  have hc1 : 0 ≤ v1 ∧ v1 ≤ 8192 := by rw [hv1]; exact Mo.cx_bd 1 o hl
  have he1 : (k1 : Int) * (2 : Int) ^ l = v1 := by rw [hv1, hk1]; unfold Mo.cx Mo.pw; simp
  have Hk1 := Lib.hid hk1
  clear hk1
  have Hv1 := Lib.hid hv1
  clear hv1
  have He1 := Lib.hid he1
  clear he1
  obtain ⟨k2, hk2⟩ : ∃ k, k = o / 2 ^ 2 % 2 := ⟨_, rfl⟩
  have hb2 : k2 < 2 := by rw [hk2]; exact Nat.mod_lt _ (by decide)
  obtain ⟨v2, hv2⟩ : ∃ v, v = Mo.cx 2 o l := ⟨_, rfl⟩
  have hc2 : 0 ≤ v2 ∧ v2 ≤ 8192 := by rw [hv2]; exact Mo.cx_bd 2 o hl
  have he2 : (k2 : Int) * (2 : Int) ^ l = v2 := by rw [hv2, hk2]; unfold Mo.cx Mo.pw; simp
  have Hk2 := Lib.hid hk2
  clear hk2
  have Hv2 := Lib.hid hv2
  clear hv2
  have He2 := Lib.hid he2
  clear he2
  go_upto_region 3 with fail
  refine wpG_region ?_
  refine wpG_tk (some 14) (v := .int .i64 0) rfl (.val (by rfl) (fun _ _ => rfl)) ?_
  simp only [Act.put, List.setIfInBounds_toArray, List.set_cons_zero, List.set_cons_succ]
  refine wpG_done (fun V17 hv18 => ?_)
  have GC19 := Lib.hid hv18
  clear hv18
  go_wp2_with fail
  refine wp_loop_rounds 4 ?_
  rw [rounds_succ]
  go_upto_region 4 with fail
  refine wpG_region ?_
  refine wpG_tk (some 15) (v := .bool true) rfl (.val (by rfl) (fun W hg => by go_simp)) ?_
  simp only [Act.put, List.setIfInBounds_toArray, List.set_cons_zero, List.set_cons_succ]
  refine wpG_done (fun V20 hv21 => ?_)
  have GC22 := Lib.hid (GC19.out.trans hv21)
  clear hv21
  go_upto_region 5 with fail
  refine wpG_region ?_
  refine wpG_tk (some 16) (v := .int .i64 0) rfl (.val (by rfl) (fun _ _ => rfl)) ?_
  simp only [Act.put, List.setIfInBounds_toArray, List.set_cons_zero, List.set_cons_succ]
  refine wpG_tk (some 7) (v := .int .i64 0) rfl (.val (by rfl) (fun _ _ => rfl)) ?_
  simp only [Act.put, List.setIfInBounds_toArray, List.set_cons_zero, List.set_cons_succ]
  refine wpG_done (fun V23 hv24 => ?_)
  have GC25 := Lib.hid (GC22.out.trans hv24)
  clear hv24
  go_upto_region 6 with fail
  refine wpK_region (by kernel_rfl) ?_
  refine wpK_ta (i := 0) (some 17) (v := .int .i64 0) rfl rfl (by kernel_rfl) (fun _ _ _ h => h) (Or.inl ⟨rfl, fun _ => rfl⟩) ?_
  simp only [Act.put, List.setIfInBounds_toArray, List.set_cons_zero, List.set_cons_succ]
  refine wpK_ta (i := 1) (some 18) (v := .pointer (some ⟨q, 0, none⟩)) rfl rfl (by kernel_rfl) (fun _ _ _ h => h) (Or.inl ⟨by rfl, fun W => by go_simp⟩) ?_
  simp only [Act.put, List.setIfInBounds_toArray, List.set_cons_zero, List.set_cons_succ]
  refine wpK_tk (i := 2) (some 19) (v := .int .i64 x) rfl rfl (by kernel_rfl) (fun _ _ _ h => h) (.val (by rfl) (fun W hg => by have c := (RX.out.below (GC25.out.trans (Gr.un hg)) 0 _ rfl).1; go_simp)) ?_
  simp only [Act.put, List.setIfInBounds_toArray, List.set_cons_zero, List.set_cons_succ]
  refine wpK_ta (i := 3) (some 20) (v := .int .i64 (o : Int)) rfl rfl (by kernel_rfl) (fun _ _ _ h => h) (Or.inl ⟨rfl, fun _ => rfl⟩) ?_
  simp only [Act.put, List.setIfInBounds_toArray, List.set_cons_zero, List.set_cons_succ]
  refine wpK_ta (i := 4) (some 21) (v := .int .i64 0) rfl rfl (by kernel_rfl) (fun _ _ _ h => h) (Or.inl ⟨rfl, fun _ => rfl⟩) ?_
  simp only [Act.put, List.setIfInBounds_toArray, List.set_cons_zero, List.set_cons_succ]
  refine wpK_ta (i := 5) (some 22) (v := .int .i64 (o : Int)) rfl rfl (by kernel_rfl) (fun _ _ _ h => h) (Or.inl ⟨by rfl, fun W => by first | (go_simp; done) | (go_simp; omega)⟩) ?_
  simp only [Act.put, List.setIfInBounds_toArray, List.set_cons_zero, List.set_cons_succ]
  refine wpK_ta (i := 6) (some 23) (v := .int .i64 (k0 : Int)) rfl rfl (by kernel_rfl) (fun _ _ _ h => h) (Or.inl ⟨by rfl, fun W => by first | (go_simp; rw [Hk0.out]; done) | (go_simp; rw [Hk0.out]; first | exact shr1 o 0 (by omega) | (have e := shr1 o 0 (by omega); simp at e; simp; exact e))⟩) ?_
  simp only [Act.put, List.setIfInBounds_toArray, List.set_cons_zero, List.set_cons_succ]
  refine wpK_ta (i := 7) (some 24) (v := .int .i64 (l : Int)) rfl rfl (by kernel_rfl) (fun _ _ _ h => h) (Or.inl ⟨rfl, fun _ => rfl⟩) ?_
  simp only [Act.put, List.setIfInBounds_toArray, List.set_cons_zero, List.set_cons_succ]
  refine wpK_ta (i := 8) (some 25) (v := .int .i64 v0) rfl rfl (by kernel_rfl) (fun _ _ _ h => h) (Or.inl ⟨by rfl, fun W => by go_simp; rw [He0.out]; exact IntWalk.i64_in _ (by omega)⟩) ?_
  simp only [Act.put, List.setIfInBounds_toArray, List.set_cons_zero, List.set_cons_succ]
  refine wpK_ta (i := 9) (some 26) (v := .int .i64 (x + v0)) rfl rfl (by kernel_rfl) (fun _ _ _ h => h) (Or.inl ⟨by rfl, fun W => by (first | (go_simp; done) | (go_simp; rw [IntWalk.i64_in _ (by omega)]))⟩) ?_
  simp only [Act.put, List.setIfInBounds_toArray, List.set_cons_zero, List.set_cons_succ]
  refine wpK_ta (i := 10) (some 27) (v := .pointer (some ⟨q, 0, none⟩)) rfl rfl (by kernel_rfl) (fun _ _ _ h => h) (Or.inl ⟨by rfl, fun W => by go_simp⟩) ?_
  simp only [Act.put, List.setIfInBounds_toArray, List.set_cons_zero, List.set_cons_succ]
  refine wpK_store (i := 11) (none) rfl rfl (by kernel_rfl) (by rfl) (by rfl) (fun W26 hg27 => ⟨W26.setCell ⟨q, 0, none⟩ (.int .i64 (x + v0)), by have c := (RX.out.below (GC25.out.trans (Gr.un hg27))).cellx 0 _ rfl; have c2 := (RX.out.below (GC25.out.trans (Gr.un hg27))).softx 0 _ rfl; go_simp, ?_⟩)
  simp only [Act.put]
  refine wpK_done (by kernel_rfl) (fun V28 hv29 => ?_) _
  have R31 := Lib.hid (((R14.out.below (GC25.out.trans (Gr.un hg27))).far (b := q) (by omega) 0 [.int .i64 (x + v0)]).below hv29)
  have R32 := Lib.hid (((R15.out.below (GC25.out.trans (Gr.un hg27))).far (b := q) (by omega) 0 [.int .i64 (x + v0)]).below hv29)
  have R33 : Hid (Row q [.int .i64 (x + v0), .int .i64 y, .int .i64 z] V28) := Lib.hid (((RX.out.below (GC25.out.trans (Gr.un hg27))).set 0 (.int .i64 (x + v0)) (by simp)).below hv29)
  have G30 := Lib.hid (Gr.put1 G10.out (GC25.out.trans (Gr.un hg27)) (by omega) hv29)
  clear hg27 hv29
  go_upto_region 7 with fail
  refine wpG_region ?_
  refine wpG_tk (some 28) (v := .int .i64 1) rfl (.val (by rfl) (fun W hg => by go_simp <;> rfl)) ?_
  simp only [Act.put, List.setIfInBounds_toArray, List.set_cons_zero, List.set_cons_succ]
  refine wpG_tk (some 14) (v := .int .i64 1) rfl (.val (by rfl) (fun _ _ => rfl)) ?_
  simp only [Act.put, List.setIfInBounds_toArray, List.set_cons_zero, List.set_cons_succ]
  refine wpG_done (fun V34 hv35 => ?_)
  have GC36 := Lib.hid hv35
  clear hv35
  go_wp2_with fail
  rw [rounds_succ]
  go_upto_region 4 with fail
  refine wpG_region ?_
  refine wpG_tk (some 15) (v := .bool true) rfl (.val (by rfl) (fun W hg => by go_simp)) ?_
  simp only [Act.put, List.setIfInBounds_toArray, List.set_cons_zero, List.set_cons_succ]
  refine wpG_done (fun V37 hv38 => ?_)
  have GC39 := Lib.hid (GC36.out.trans hv38)
  clear hv38
  go_upto_region 5 with fail
  refine wpG_region ?_
  refine wpG_tk (some 16) (v := .int .i64 1) rfl (.val (by rfl) (fun _ _ => rfl)) ?_
  simp only [Act.put, List.setIfInBounds_toArray, List.set_cons_zero, List.set_cons_succ]
  refine wpG_tk (some 7) (v := .int .i64 1) rfl (.val (by rfl) (fun _ _ => rfl)) ?_
  simp only [Act.put, List.setIfInBounds_toArray, List.set_cons_zero, List.set_cons_succ]
  refine wpG_done (fun V40 hv41 => ?_)
  have GC42 := Lib.hid (GC39.out.trans hv41)
  clear hv41
  go_upto_region 6 with fail
  refine wpK_region (by kernel_rfl) ?_
  refine wpK_ta (i := 0) (some 17) (v := .int .i64 1) rfl rfl (by kernel_rfl) (fun _ _ _ h => h) (Or.inl ⟨rfl, fun _ => rfl⟩) ?_
  simp only [Act.put, List.setIfInBounds_toArray, List.set_cons_zero, List.set_cons_succ]
  refine wpK_ta (i := 1) (some 18) (v := .pointer (some ⟨q, 1, none⟩)) rfl rfl (by kernel_rfl) (fun _ _ _ h => h) (Or.inl ⟨by rfl, fun W => by go_simp⟩) ?_
  simp only [Act.put, List.setIfInBounds_toArray, List.set_cons_zero, List.set_cons_succ]
  refine wpK_tk (i := 2) (some 19) (v := .int .i64 y) rfl rfl (by kernel_rfl) (fun _ _ _ h => h) (.val (by rfl) (fun W hg => by have c := (R33.out.below (GC42.out.trans (Gr.un hg)) 1 _ rfl).1; go_simp)) ?_
  simp only [Act.put, List.setIfInBounds_toArray, List.set_cons_zero, List.set_cons_succ]
  refine wpK_ta (i := 3) (some 20) (v := .int .i64 (o : Int)) rfl rfl (by kernel_rfl) (fun _ _ _ h => h) (Or.inl ⟨rfl, fun _ => rfl⟩) ?_
  simp only [Act.put, List.setIfInBounds_toArray, List.set_cons_zero, List.set_cons_succ]
  refine wpK_ta (i := 4) (some 21) (v := .int .i64 1) rfl rfl (by kernel_rfl) (fun _ _ _ h => h) (Or.inl ⟨rfl, fun _ => rfl⟩) ?_
  simp only [Act.put, List.setIfInBounds_toArray, List.set_cons_zero, List.set_cons_succ]
  refine wpK_ta (i := 5) (some 22) (v := .int .i64 ((o : Int) / 2 ^ 1)) rfl rfl (by kernel_rfl) (fun _ _ _ h => h) (Or.inl ⟨by rfl, fun W => by first | (go_simp; done) | (go_simp; omega)⟩) ?_
  simp only [Act.put, List.setIfInBounds_toArray, List.set_cons_zero, List.set_cons_succ]
  refine wpK_ta (i := 6) (some 23) (v := .int .i64 (k1 : Int)) rfl rfl (by kernel_rfl) (fun _ _ _ h => h) (Or.inl ⟨by rfl, fun W => by first | (go_simp; rw [Hk1.out]; done) | (go_simp; rw [Hk1.out]; first | exact shr1 o 1 (by omega) | (have e := shr1 o 1 (by omega); simp at e; simp; exact e))⟩) ?_
  simp only [Act.put, List.setIfInBounds_toArray, List.set_cons_zero, List.set_cons_succ]
  refine wpK_ta (i := 7) (some 24) (v := .int .i64 (l : Int)) rfl rfl (by kernel_rfl) (fun _ _ _ h => h) (Or.inl ⟨rfl, fun _ => rfl⟩) ?_
  simp only [Act.put, List.setIfInBounds_toArray, List.set_cons_zero, List.set_cons_succ]
  refine wpK_ta (i := 8) (some 25) (v := .int .i64 v1) rfl rfl (by kernel_rfl) (fun _ _ _ h => h) (Or.inl ⟨by rfl, fun W => by go_simp; rw [He1.out]; exact IntWalk.i64_in _ (by omega)⟩) ?_
  simp only [Act.put, List.setIfInBounds_toArray, List.set_cons_zero, List.set_cons_succ]
  refine wpK_ta (i := 9) (some 26) (v := .int .i64 (y + v1)) rfl rfl (by kernel_rfl) (fun _ _ _ h => h) (Or.inl ⟨by rfl, fun W => by (first | (go_simp; done) | (go_simp; rw [IntWalk.i64_in _ (by omega)]))⟩) ?_
  simp only [Act.put, List.setIfInBounds_toArray, List.set_cons_zero, List.set_cons_succ]
  refine wpK_ta (i := 10) (some 27) (v := .pointer (some ⟨q, 1, none⟩)) rfl rfl (by kernel_rfl) (fun _ _ _ h => h) (Or.inl ⟨by rfl, fun W => by go_simp⟩) ?_
  simp only [Act.put, List.setIfInBounds_toArray, List.set_cons_zero, List.set_cons_succ]
  refine wpK_store (i := 11) (none) rfl rfl (by kernel_rfl) (by rfl) (by rfl) (fun W43 hg44 => ⟨W43.setCell ⟨q, 1, none⟩ (.int .i64 (y + v1)), by have c := (R33.out.below (GC42.out.trans (Gr.un hg44))).cellx 1 _ rfl; have c2 := (R33.out.below (GC42.out.trans (Gr.un hg44))).softx 1 _ rfl; go_simp, ?_⟩)
  simp only [Act.put]
  refine wpK_done (by kernel_rfl) (fun V45 hv46 => ?_) _
  have R48 := Lib.hid (((R31.out.below (GC42.out.trans (Gr.un hg44))).far (b := q) (by omega) 1 [.int .i64 (y + v1)]).below hv46)
  have R49 := Lib.hid (((R32.out.below (GC42.out.trans (Gr.un hg44))).far (b := q) (by omega) 1 [.int .i64 (y + v1)]).below hv46)
  have R50 : Hid (Row q [.int .i64 (x + v0), .int .i64 (y + v1), .int .i64 z] V45) := Lib.hid (((R33.out.below (GC42.out.trans (Gr.un hg44))).set 1 (.int .i64 (y + v1)) (by simp)).below hv46)
  have G47 := Lib.hid (Gr.put1 G30.out (GC42.out.trans (Gr.un hg44)) (by omega) hv46)
  clear hg44 hv46
  go_upto_region 7 with fail
  refine wpG_region ?_
  refine wpG_tk (some 28) (v := .int .i64 2) rfl (.val (by rfl) (fun W hg => by go_simp <;> rfl)) ?_
  simp only [Act.put, List.setIfInBounds_toArray, List.set_cons_zero, List.set_cons_succ]
  refine wpG_tk (some 14) (v := .int .i64 2) rfl (.val (by rfl) (fun _ _ => rfl)) ?_
  simp only [Act.put, List.setIfInBounds_toArray, List.set_cons_zero, List.set_cons_succ]
  refine wpG_done (fun V51 hv52 => ?_)
  have GC53 := Lib.hid hv52
  clear hv52
  go_wp2_with fail
  rw [rounds_succ]
  go_upto_region 4 with fail
  refine wpG_region ?_
  refine wpG_tk (some 15) (v := .bool true) rfl (.val (by rfl) (fun W hg => by go_simp)) ?_
  simp only [Act.put, List.setIfInBounds_toArray, List.set_cons_zero, List.set_cons_succ]
  refine wpG_done (fun V54 hv55 => ?_)
  have GC56 := Lib.hid (GC53.out.trans hv55)
  clear hv55
  go_upto_region 5 with fail
  refine wpG_region ?_
  refine wpG_tk (some 16) (v := .int .i64 2) rfl (.val (by rfl) (fun _ _ => rfl)) ?_
  simp only [Act.put, List.setIfInBounds_toArray, List.set_cons_zero, List.set_cons_succ]
  refine wpG_tk (some 7) (v := .int .i64 2) rfl (.val (by rfl) (fun _ _ => rfl)) ?_
  simp only [Act.put, List.setIfInBounds_toArray, List.set_cons_zero, List.set_cons_succ]
  refine wpG_done (fun V57 hv58 => ?_)
  have GC59 := Lib.hid (GC56.out.trans hv58)
  clear hv58
  go_upto_region 6 with fail
  refine wpK_region (by kernel_rfl) ?_
  refine wpK_ta (i := 0) (some 17) (v := .int .i64 2) rfl rfl (by kernel_rfl) (fun _ _ _ h => h) (Or.inl ⟨rfl, fun _ => rfl⟩) ?_
  simp only [Act.put, List.setIfInBounds_toArray, List.set_cons_zero, List.set_cons_succ]
  refine wpK_ta (i := 1) (some 18) (v := .pointer (some ⟨q, 2, none⟩)) rfl rfl (by kernel_rfl) (fun _ _ _ h => h) (Or.inl ⟨by rfl, fun W => by go_simp⟩) ?_
  simp only [Act.put, List.setIfInBounds_toArray, List.set_cons_zero, List.set_cons_succ]
  refine wpK_tk (i := 2) (some 19) (v := .int .i64 z) rfl rfl (by kernel_rfl) (fun _ _ _ h => h) (.val (by rfl) (fun W hg => by have c := (R50.out.below (GC59.out.trans (Gr.un hg)) 2 _ rfl).1; go_simp)) ?_
  simp only [Act.put, List.setIfInBounds_toArray, List.set_cons_zero, List.set_cons_succ]
  refine wpK_ta (i := 3) (some 20) (v := .int .i64 (o : Int)) rfl rfl (by kernel_rfl) (fun _ _ _ h => h) (Or.inl ⟨rfl, fun _ => rfl⟩) ?_
  simp only [Act.put, List.setIfInBounds_toArray, List.set_cons_zero, List.set_cons_succ]
  refine wpK_ta (i := 4) (some 21) (v := .int .i64 2) rfl rfl (by kernel_rfl) (fun _ _ _ h => h) (Or.inl ⟨rfl, fun _ => rfl⟩) ?_
  simp only [Act.put, List.setIfInBounds_toArray, List.set_cons_zero, List.set_cons_succ]
  refine wpK_ta (i := 5) (some 22) (v := .int .i64 ((o : Int) / 2 ^ 2)) rfl rfl (by kernel_rfl) (fun _ _ _ h => h) (Or.inl ⟨by rfl, fun W => by first | (go_simp; done) | (go_simp; omega)⟩) ?_
  simp only [Act.put, List.setIfInBounds_toArray, List.set_cons_zero, List.set_cons_succ]
  refine wpK_ta (i := 6) (some 23) (v := .int .i64 (k2 : Int)) rfl rfl (by kernel_rfl) (fun _ _ _ h => h) (Or.inl ⟨by rfl, fun W => by first | (go_simp; rw [Hk2.out]; done) | (go_simp; rw [Hk2.out]; first | exact shr1 o 2 (by omega) | (have e := shr1 o 2 (by omega); simp at e; simp; exact e))⟩) ?_
  simp only [Act.put, List.setIfInBounds_toArray, List.set_cons_zero, List.set_cons_succ]
  refine wpK_ta (i := 7) (some 24) (v := .int .i64 (l : Int)) rfl rfl (by kernel_rfl) (fun _ _ _ h => h) (Or.inl ⟨rfl, fun _ => rfl⟩) ?_
  simp only [Act.put, List.setIfInBounds_toArray, List.set_cons_zero, List.set_cons_succ]
  refine wpK_ta (i := 8) (some 25) (v := .int .i64 v2) rfl rfl (by kernel_rfl) (fun _ _ _ h => h) (Or.inl ⟨by rfl, fun W => by go_simp; rw [He2.out]; exact IntWalk.i64_in _ (by omega)⟩) ?_
  simp only [Act.put, List.setIfInBounds_toArray, List.set_cons_zero, List.set_cons_succ]
  refine wpK_ta (i := 9) (some 26) (v := .int .i64 (z + v2)) rfl rfl (by kernel_rfl) (fun _ _ _ h => h) (Or.inl ⟨by rfl, fun W => by (first | (go_simp; done) | (go_simp; rw [IntWalk.i64_in _ (by omega)]))⟩) ?_
  simp only [Act.put, List.setIfInBounds_toArray, List.set_cons_zero, List.set_cons_succ]
  refine wpK_ta (i := 10) (some 27) (v := .pointer (some ⟨q, 2, none⟩)) rfl rfl (by kernel_rfl) (fun _ _ _ h => h) (Or.inl ⟨by rfl, fun W => by go_simp⟩) ?_
  simp only [Act.put, List.setIfInBounds_toArray, List.set_cons_zero, List.set_cons_succ]
  refine wpK_store (i := 11) (none) rfl rfl (by kernel_rfl) (by rfl) (by rfl) (fun W60 hg61 => ⟨W60.setCell ⟨q, 2, none⟩ (.int .i64 (z + v2)), by have c := (R50.out.below (GC59.out.trans (Gr.un hg61))).cellx 2 _ rfl; have c2 := (R50.out.below (GC59.out.trans (Gr.un hg61))).softx 2 _ rfl; go_simp, ?_⟩)
  simp only [Act.put]
  refine wpK_done (by kernel_rfl) (fun V62 hv63 => ?_) _
  have R65 := Lib.hid (((R48.out.below (GC59.out.trans (Gr.un hg61))).far (b := q) (by omega) 2 [.int .i64 (z + v2)]).below hv63)
  have R66 := Lib.hid (((R49.out.below (GC59.out.trans (Gr.un hg61))).far (b := q) (by omega) 2 [.int .i64 (z + v2)]).below hv63)
  have R67 : Hid (Row q [.int .i64 (x + v0), .int .i64 (y + v1), .int .i64 (z + v2)] V62) := Lib.hid (((R50.out.below (GC59.out.trans (Gr.un hg61))).set 2 (.int .i64 (z + v2)) (by simp)).below hv63)
  have G64 := Lib.hid (Gr.put1 G47.out (GC59.out.trans (Gr.un hg61)) (by omega) hv63)
  clear hg61 hv63
  go_upto_region 7 with fail
  refine wpG_region ?_
  refine wpG_tk (some 28) (v := .int .i64 3) rfl (.val (by rfl) (fun W hg => by go_simp <;> rfl)) ?_
  simp only [Act.put, List.setIfInBounds_toArray, List.set_cons_zero, List.set_cons_succ]
  refine wpG_tk (some 14) (v := .int .i64 3) rfl (.val (by rfl) (fun _ _ => rfl)) ?_
  simp only [Act.put, List.setIfInBounds_toArray, List.set_cons_zero, List.set_cons_succ]
  refine wpG_done (fun V68 hv69 => ?_)
  have GC70 := Lib.hid hv69
  clear hv69
  go_wp2_with fail
  rw [rounds_succ]
  go_upto_region 4 with fail
  refine wpG_region ?_
  refine wpG_tk (some 15) (v := .bool false) rfl (.val (by rfl) (fun W hg => by go_simp)) ?_
  simp only [Act.put, List.setIfInBounds_toArray, List.set_cons_zero, List.set_cons_succ]
  refine wpG_done (fun V71 hv72 => ?_)
  have GC73 := Lib.hid (GC70.out.trans hv72)
  clear hv72
  go_upto_region 8 with fail
  refine wpG_region ?_
  refine wpG_tk (some 29) (v := .agg #[.int .i64 (x + v0), .int .i64 (y + v1), .int .i64 (z + v2)]) rfl (.load_mid (by rfl) 57 (.tmp 6) rfl (q) 0 rfl [.int .i64 (x + v0), .int .i64 (y + v1), .int .i64 (z + v2)] _ (fun W hg => (R67.out.below (GC73.out.trans hg)).range) Try.underlying57 rfl (by kernel_rfl)) ?_
  simp only [Act.put, List.setIfInBounds_toArray, List.set_cons_zero, List.set_cons_succ]
  refine wpG_tk (some 30) (v := .agg #[.int .i64 (x + v0), .int .i64 (y + v1), .int .i64 (z + v2)]) rfl (.call (f := 34) (args := #[.agg #[.int .i64 (x + v0), .int .i64 (y + v1), .int .i64 (z + v2)]]) (by rfl) (fun W => by go_simp) (fun W hg => point_any (x + v0) (y + v1) (z + v2) W)) ?_
  simp only [Act.put, List.setIfInBounds_toArray, List.set_cons_zero, List.set_cons_succ]
  refine wpG_tk (some 31) (v := .int .i64 (l : Int)) rfl (.val (by rfl) (fun _ _ => rfl)) ?_
  simp only [Act.put, List.setIfInBounds_toArray, List.set_cons_zero, List.set_cons_succ]
  refine wpG_tk (some 32) (v := .agg #[.int .i64 (x + v0), .int .i64 (y + v1), .int .i64 (z + v2), .int .i64 (l : Int)]) rfl (.val (by rfl) (fun W hg => by go_simp)) ?_
  simp only [Act.put, List.setIfInBounds_toArray, List.set_cons_zero, List.set_cons_succ]
  refine wpG_store (none) rfl (by rfl) (fun W74 hg75 => ⟨_, run_store_mid 27 (.tmp 4) (.tmp 32) rfl (w.heap.size + 1) 0 #[.int .i64 (x + v0), .int .i64 (y + v1), .int .i64 (z + v2), .int .i64 (l : Int)] rfl rfl (((R66.out.below (GC73.out.trans hg75)).there 0 4 (by simp))) (by kernel_rfl) (by kernel_rfl), ?_⟩)
  simp only [Act.put]
  refine wpG_done (fun V76 hv77 => ?_)
  have R79 := Lib.hid (Row.put (ds := [.int .i64 (x + v0), .int .i64 (y + v1), .int .i64 (z + v2), .int .i64 (l : Int)]) R66.out (GC73.out.trans hg75) rfl hv77)
  have G78 := Lib.hid (Gr.put G64.out (GC73.out.trans hg75) (by omega) hv77)
  have R80 := Lib.hid (((R65.out.below (GC73.out.trans hg75)).far (b := w.heap.size + 1) (by omega) 0 [.int .i64 (x + v0), .int .i64 (y + v1), .int .i64 (z + v2), .int .i64 (l : Int)]).below hv77)
  have R81 := Lib.hid (((R67.out.below (GC73.out.trans hg75)).far (b := w.heap.size + 1) (by omega) 0 [.int .i64 (x + v0), .int .i64 (y + v1), .int .i64 (z + v2), .int .i64 (l : Int)]).below hv77)
  go_wp2_with fail
  refine bodyPost_ret (results_cell_mid rfl _ _ _ (w.heap.size + 1) 0 [.int .i64 (x + v0), .int .i64 (y + v1), .int .i64 (z + v2), .int .i64 (l : Int)] _ rfl R79.out.range Try.underlying27 rfl (by kernel_rfl)) rfl ?_
  exact ⟨by rw [Hv0.out, Hv1.out, Hv2.out], G78.out⟩
set_option maxRecDepth 1000000 in
set_option maxHeartbeats 4000000 in
theorem overlap_any (b1 b2 b3 b4 b5 b6 x y z : Int) (l : Nat) (w : World) (h : (-1 ≤ x ∧ x ≤ 32768) ∧ (-1 ≤ y ∧ y ≤ 32768) ∧ (-1 ≤ z ∧ z ≤ 32768)) (hl : l ≤ 14) :
    Calls Try.prog 42 #[.agg #[.int .i64 x, .int .i64 y, .int .i64 z, .int .i64 (l : Int)], .agg #[.int .i64 b1, .int .i64 b2, .int .i64 b3, .int .i64 b4, .int .i64 b5, .int .i64 b6]] w fun e w' => e = .returned (.tuple #[.bool (Mo.meets b1 b2 b3 b4 b5 b6 x y z l), .bool (Mo.within b1 b2 b3 b4 b5 b6 x y z l)]) ∧ Below w.heap.size w w' := by
  have hp1 := Mo.pw_pos l
  have hp2 := Mo.pw14 hl
  obtain ⟨u, hu, r0, r1, g0⟩ := rows2 w [.int .i64 x, .int .i64 y, .int .i64 z, .int .i64 (l : Int)] 27 [.int .i64 b1, .int .i64 b2, .int .i64 b3, .int .i64 b4, .int .i64 b5, .int .i64 b6] 37
  have R0 := Lib.hid r0
  have R1 := Lib.hid r1
  have G0 := Lib.hid g0
  have HU := Lib.hid hu
  clear hu g0 r0 r1
  go_enter Try.func42, Try.ntmps42
  go_upto_region 1 with fail
  rw [← HU.out]
  refine wpK_region (by kernel_rfl) ?_
  refine wpK_ta (i := 0) (some 11) (v := .pointer (some ⟨w.heap.size + 1, 0, none⟩)) rfl rfl (by kernel_rfl) (fun _ _ _ h => h) (Or.inl ⟨by rfl, fun W => by go_simp⟩) ?_
  simp only [Act.put, List.setIfInBounds_toArray, List.set_cons_zero, List.set_cons_succ]
  refine wpK_tk (i := 1) (some 12) (v := .agg #[.int .i64 b1, .int .i64 b2, .int .i64 b3]) rfl rfl (by kernel_rfl) (fun _ _ _ h => h) (.load_mid (by rfl) 23 (.tmp 11) rfl (w.heap.size + 1) 0 rfl [.int .i64 b1, .int .i64 b2, .int .i64 b3] _ (fun W hg => ((R1.out.below (Gr.un hg)).part 0 3 rfl)) Try.underlying23 rfl (by kernel_rfl)) ?_
  simp only [Act.put, List.setIfInBounds_toArray, List.set_cons_zero, List.set_cons_succ]
  refine wpK_tk (i := 2) (some 13) (v := .agg #[.int .i64 b1, .int .i64 b2, .int .i64 b3]) rfl rfl (by kernel_rfl) (fun _ _ _ h => h) (.call (f := 39) (args := #[.agg #[.int .i64 b1, .int .i64 b2, .int .i64 b3]]) (by rfl) (fun W => by go_simp) (fun W hg => coords_any b1 b2 b3 W)) ?_
  simp only [Act.put, List.setIfInBounds_toArray, List.set_cons_zero, List.set_cons_succ]
  refine wpK_ta (i := 3) (some 14) (v := .pointer (some ⟨w.heap.size + 1, 3, none⟩)) rfl rfl (by kernel_rfl) (fun _ _ _ h => h) (Or.inl ⟨by rfl, fun W => by go_simp⟩) ?_
  simp only [Act.put, List.setIfInBounds_toArray, List.set_cons_zero, List.set_cons_succ]
  refine wpK_tk (i := 4) (some 15) (v := .agg #[.int .i64 b4, .int .i64 b5, .int .i64 b6]) rfl rfl (by kernel_rfl) (fun _ _ _ h => h) (.load_mid (by rfl) 23 (.tmp 14) rfl (w.heap.size + 1) 3 rfl [.int .i64 b4, .int .i64 b5, .int .i64 b6] _ (fun W hg => ((R1.out.below (Gr.un hg)).part 3 3 rfl)) Try.underlying23 rfl (by kernel_rfl)) ?_
  simp only [Act.put, List.setIfInBounds_toArray, List.set_cons_zero, List.set_cons_succ]
  refine wpK_tk (i := 5) (some 16) (v := .agg #[.int .i64 b4, .int .i64 b5, .int .i64 b6]) rfl rfl (by kernel_rfl) (fun _ _ _ h => h) (.call (f := 39) (args := #[.agg #[.int .i64 b4, .int .i64 b5, .int .i64 b6]]) (by rfl) (fun W => by go_simp) (fun W hg => coords_any b4 b5 b6 W)) ?_
  simp only [Act.put, List.setIfInBounds_toArray, List.set_cons_zero, List.set_cons_succ]
  refine wpK_two (i := 6) (j := 7) (k := 8) (l := 9) (d1 := 6) (d2 := 7) 57 [.int .i64 0, .int .i64 0, .int .i64 0] [.int .i64 b1, .int .i64 b2, .int .i64 b3] [.int .i64 b4, .int .i64 b5, .int .i64 b6] rfl rfl rfl rfl (by kernel_rfl) rfl rfl rfl rfl (by decide) rfl rfl rfl rfl (fun b W => by unfold ptr0; go_simp <;> rfl) (fun b W => by unfold ptr0; go_simp <;> rfl) rfl rfl (fun p q W ht => run_store_mid 57 (.tmp 6) (.tmp 13) rfl p 0 #[.int .i64 b1, .int .i64 b2, .int .i64 b3] rfl rfl ht (by kernel_rfl) (by kernel_rfl)) (fun p q W ht => run_store_mid 57 (.tmp 7) (.tmp 16) rfl q 0 #[.int .i64 b4, .int .i64 b5, .int .i64 b6] rfl rfl ht (by kernel_rfl) (by kernel_rfl)) (fun p1 q2 V3 _ _ hv4 rp5 rq6 => ?_)
  simp only [ptr0, Act.put, List.setIfInBounds_toArray, List.set_cons_zero, List.set_cons_succ]
  have R7 := Lib.hid (R0.out.below (Gr.un hv4))
  have R8 := Lib.hid (R1.out.below (Gr.un hv4))
  have R9 := Lib.hid rp5
  have R10 := Lib.hid rq6
  have G11 := Lib.hid (Gr.to G0.out (Gr.un hv4))
  clear hv4 rp5 rq6
  go_upto_region 2 with fail
  refine wpG_region ?_
  refine wpG_tk (some 4) (v := .bool true) rfl (.val (by rfl) (fun _ _ => rfl)) ?_
  simp only [Act.put, List.setIfInBounds_toArray, List.set_cons_zero, List.set_cons_succ]
  refine wpG_tk (some 5) (v := .bool true) rfl (.val (by rfl) (fun _ _ => rfl)) ?_
  simp only [Act.put, List.setIfInBounds_toArray, List.set_cons_zero, List.set_cons_succ]
  refine wpG_done (fun V12 hv13 => ?_)
  have GC14 := Lib.hid hv13
  clear hv13
  go_upto_region 3 with fail
  refine wpG_region ?_
  refine wpG_tk (some 17) (v := .pointer (some ⟨w.heap.size, 0, none⟩)) rfl (.val (by rfl) (fun W hg => by go_simp)) ?_
  simp only [Act.put, List.setIfInBounds_toArray, List.set_cons_zero, List.set_cons_succ]
  refine wpG_tk (some 18) (v := .agg #[.int .i64 x, .int .i64 y, .int .i64 z]) rfl (.load_mid (by rfl) 23 (.tmp 17) rfl (w.heap.size) 0 rfl [.int .i64 x, .int .i64 y, .int .i64 z] _ (fun W hg => ((R7.out.below (GC14.out.trans hg)).part 0 3 rfl)) Try.underlying23 rfl (by kernel_rfl)) ?_
  simp only [Act.put, List.setIfInBounds_toArray, List.set_cons_zero, List.set_cons_succ]
  refine wpG_tk (some 19) (v := .agg #[.int .i64 x, .int .i64 y, .int .i64 z]) rfl (.call (f := 39) (args := #[.agg #[.int .i64 x, .int .i64 y, .int .i64 z]]) (by rfl) (fun W => by go_simp) (fun W hg => coords_any x y z W)) ?_
  simp only [Act.put, List.setIfInBounds_toArray, List.set_cons_zero, List.set_cons_succ]
  refine wpG_tk (some 20) (v := .int .i64 0) rfl (.val (by rfl) (fun _ _ => rfl)) ?_
  simp only [Act.put, List.setIfInBounds_toArray, List.set_cons_zero, List.set_cons_succ]
  refine wpG_done (fun V15 hv16 => ?_)
  have GC17 := Lib.hid (GC14.out.trans hv16)
  clear hv16
  go_wp2_with fail
  refine wp_loop_rounds 4 ?_
  rw [rounds_succ]
  go_upto_region 4 with fail
  refine wpG_region ?_
  refine wpG_tk (some 21) (v := .bool true) rfl (.val (by rfl) (fun W hg => by go_simp)) ?_
  simp only [Act.put, List.setIfInBounds_toArray, List.set_cons_zero, List.set_cons_succ]
  refine wpG_done (fun V18 hv19 => ?_)
  have GC20 := Lib.hid (GC17.out.trans hv19)
  clear hv19
  go_upto_region 5 with fail
  refine wpG_region ?_
  refine wpG_tk (some 22) (v := .int .i64 0) rfl (.val (by rfl) (fun _ _ => rfl)) ?_
  simp only [Act.put, List.setIfInBounds_toArray, List.set_cons_zero, List.set_cons_succ]
  refine wpG_tk (some 23) (v := .int .i64 x) rfl (.val (by rfl) (fun W hg => by have e := idx3_0 W x y z; go_simp)) ?_
  simp only [Act.put, List.setIfInBounds_toArray, List.set_cons_zero, List.set_cons_succ]
  refine wpG_tk (some 8) (v := .int .i64 0) rfl (.val (by rfl) (fun _ _ => rfl)) ?_
  simp only [Act.put, List.setIfInBounds_toArray, List.set_cons_zero, List.set_cons_succ]
  refine wpG_tk (some 9) (v := .int .i64 x) rfl (.val (by rfl) (fun _ _ => rfl)) ?_
  simp only [Act.put, List.setIfInBounds_toArray, List.set_cons_zero, List.set_cons_succ]
  refine wpG_done (fun V21 hv22 => ?_)
  have GC23 := Lib.hid (GC20.out.trans hv22)
  clear hv22
  go_upto_region 6 with fail
  refine wpG_region ?_
  refine wpG_tk (some 24) (v := .int .i64 x) rfl (.val (by rfl) (fun _ _ => rfl)) ?_
  simp only [Act.put, List.setIfInBounds_toArray, List.set_cons_zero, List.set_cons_succ]
  refine wpG_tk (some 25) (v := .pointer (some ⟨w.heap.size, 3, none⟩)) rfl (.val (by rfl) (fun W hg => by go_simp)) ?_
  simp only [Act.put, List.setIfInBounds_toArray, List.set_cons_zero, List.set_cons_succ]
  refine wpG_tk (some 26) (v := .int .i64 (l : Int)) rfl (.val (by rfl) (fun W hg => by have c := (R7.out.below (GC23.out.trans hg) 3 _ rfl).1; go_simp)) ?_
  simp only [Act.put, List.setIfInBounds_toArray, List.set_cons_zero, List.set_cons_succ]
  refine wpG_tk (some 27) (v := .int .i64 (Mo.pw l)) rfl (.val (by rfl) (fun W hg => by go_simp; exact wrap_pw l (by omega))) ?_
  simp only [Act.put, List.setIfInBounds_toArray, List.set_cons_zero, List.set_cons_succ]
  refine wpG_tk (some 28) (v := .int .i64 (x + (Mo.pw l))) rfl (.val (by rfl) (fun W hg => by (first | (go_simp; done) | (go_simp; rw [IntWalk.i64_in _ (by omega)])))) ?_
  simp only [Act.put, List.setIfInBounds_toArray, List.set_cons_zero, List.set_cons_succ]
  refine wpG_tk (some 10) (v := .int .i64 (x + (Mo.pw l))) rfl (.val (by rfl) (fun _ _ => rfl)) ?_
  simp only [Act.put, List.setIfInBounds_toArray, List.set_cons_zero, List.set_cons_succ]
  refine wpG_done (fun V24 hv25 => ?_)
  have GC26 := Lib.hid (GC23.out.trans hv25)
  clear hv25
  go_upto_region 7 with fail
  refine wpK_region (by kernel_rfl) ?_
  refine wpK_ta (i := 0) (some 29) (v := .bool true) rfl rfl (by kernel_rfl) (fun _ _ _ h => h) (Or.inl ⟨rfl, fun _ => rfl⟩) ?_
  simp only [Act.put, List.setIfInBounds_toArray, List.set_cons_zero, List.set_cons_succ]
  refine wpK_ta (i := 1) (some 30) (v := .bool true) rfl rfl (by kernel_rfl) (fun _ _ _ h => h) (Or.inl ⟨rfl, fun _ => rfl⟩) ?_
  simp only [Act.put, List.setIfInBounds_toArray, List.set_cons_zero, List.set_cons_succ]
  refine wpK_ta (i := 2) (some 31) (v := .int .i64 x) rfl rfl (by kernel_rfl) (fun _ _ _ h => h) (Or.inl ⟨rfl, fun _ => rfl⟩) ?_
  simp only [Act.put, List.setIfInBounds_toArray, List.set_cons_zero, List.set_cons_succ]
  refine wpK_ta (i := 3) (some 32) (v := .int .i64 0) rfl rfl (by kernel_rfl) (fun _ _ _ h => h) (Or.inl ⟨rfl, fun _ => rfl⟩) ?_
  simp only [Act.put, List.setIfInBounds_toArray, List.set_cons_zero, List.set_cons_succ]
  refine wpK_ta (i := 4) (some 33) (v := .pointer (some ⟨p1, 0, none⟩)) rfl rfl (by kernel_rfl) (fun _ _ _ h => h) (Or.inl ⟨by rfl, fun W => by go_simp⟩) ?_
  simp only [Act.put, List.setIfInBounds_toArray, List.set_cons_zero, List.set_cons_succ]
  refine wpK_tk (i := 5) (some 34) (v := .int .i64 b1) rfl rfl (by kernel_rfl) (fun _ _ _ h => h) (.val (by rfl) (fun W hg => by have c := (R9.out.below (GC26.out.trans (Gr.un hg)) 0 _ rfl).1; go_simp)) ?_
  simp only [Act.put, List.setIfInBounds_toArray, List.set_cons_zero, List.set_cons_succ]
  refine wpK_ta (i := 6) (some 35) (v := .int .i64 (max x b1)) rfl rfl (by kernel_rfl) (fun _ _ _ h => h) (Or.inl ⟨by rfl, fun W => by (go_simp <;> (repeat' split) <;> omega)⟩) ?_
  simp only [Act.put, List.setIfInBounds_toArray, List.set_cons_zero, List.set_cons_succ]
  refine wpK_ta (i := 7) (some 36) (v := .int .i64 (x + (Mo.pw l))) rfl rfl (by kernel_rfl) (fun _ _ _ h => h) (Or.inl ⟨rfl, fun _ => rfl⟩) ?_
  simp only [Act.put, List.setIfInBounds_toArray, List.set_cons_zero, List.set_cons_succ]
  refine wpK_ta (i := 8) (some 37) (v := .int .i64 0) rfl rfl (by kernel_rfl) (fun _ _ _ h => h) (Or.inl ⟨rfl, fun _ => rfl⟩) ?_
  simp only [Act.put, List.setIfInBounds_toArray, List.set_cons_zero, List.set_cons_succ]
  refine wpK_ta (i := 9) (some 38) (v := .pointer (some ⟨q2, 0, none⟩)) rfl rfl (by kernel_rfl) (fun _ _ _ h => h) (Or.inl ⟨by rfl, fun W => by go_simp⟩) ?_
  simp only [Act.put, List.setIfInBounds_toArray, List.set_cons_zero, List.set_cons_succ]
  refine wpK_tk (i := 10) (some 39) (v := .int .i64 b4) rfl rfl (by kernel_rfl) (fun _ _ _ h => h) (.val (by rfl) (fun W hg => by have c := (R10.out.below (GC26.out.trans (Gr.un hg)) 0 _ rfl).1; go_simp)) ?_
  simp only [Act.put, List.setIfInBounds_toArray, List.set_cons_zero, List.set_cons_succ]
  refine wpK_ta (i := 11) (some 40) (v := .int .i64 (min (x + (Mo.pw l)) b4)) rfl rfl (by kernel_rfl) (fun _ _ _ h => h) (Or.inl ⟨by rfl, fun W => by (go_simp <;> (repeat' split) <;> omega)⟩) ?_
  simp only [Act.put, List.setIfInBounds_toArray, List.set_cons_zero, List.set_cons_succ]
  refine wpK_ta (i := 12) (some 41) (v := .bool (decide (max x b1 < min (x + (Mo.pw l)) b4))) rfl rfl (by kernel_rfl) (fun _ _ _ h => h) (Or.inl ⟨by rfl, fun W => by go_simp⟩) ?_
  simp only [Act.put, List.setIfInBounds_toArray, List.set_cons_zero, List.set_cons_succ]
  obtain ⟨c27, hc27⟩ : ∃ b, b = (decide (max x b1 < min (x + (Mo.pw l)) b4)) := ⟨_, rfl⟩
  rw [← hc27]
  have Hc27 := Lib.hid hc27
  clear hc27
  refine wpK_ta (i := 13) (some 42) (v := .bool c27) rfl rfl (by kernel_rfl) (fun _ _ _ h => h) (Or.inl ⟨by rfl, fun W => by go_simp⟩) ?_
  simp only [Act.put, List.setIfInBounds_toArray, List.set_cons_zero, List.set_cons_succ]
  refine wpK_ta (i := 14) (some 4) (v := .bool c27) rfl rfl (by kernel_rfl) (fun _ _ _ h => h) (Or.inl ⟨rfl, fun _ => rfl⟩) ?_
  simp only [Act.put, List.setIfInBounds_toArray, List.set_cons_zero, List.set_cons_succ]
  refine wpK_done (by kernel_rfl) (fun V28 hv29 => ?_) _
  have GC30 := Lib.hid (GC26.out.trans (Gr.un hv29))
  clear hv29
  go_upto_region 8 with fail
  refine wpG_region ?_
  refine wpG_tk (some 43) (v := .bool true) rfl (.val (by rfl) (fun _ _ => rfl)) ?_
  simp only [Act.put, List.setIfInBounds_toArray, List.set_cons_zero, List.set_cons_succ]
  refine wpG_tk (some 44) (v := .bool true) rfl (.val (by rfl) (fun _ _ => rfl)) ?_
  simp only [Act.put, List.setIfInBounds_toArray, List.set_cons_zero, List.set_cons_succ]
  refine wpG_tk (some 45) (v := .int .i64 0) rfl (.val (by rfl) (fun _ _ => rfl)) ?_
  simp only [Act.put, List.setIfInBounds_toArray, List.set_cons_zero, List.set_cons_succ]
  refine wpG_tk (some 46) (v := .pointer (some ⟨p1, 0, none⟩)) rfl (.val (by rfl) (fun W hg => by go_simp)) ?_
  simp only [Act.put, List.setIfInBounds_toArray, List.set_cons_zero, List.set_cons_succ]
  refine wpG_tk (some 47) (v := .int .i64 b1) rfl (.val (by rfl) (fun W hg => by have c := (R9.out.below (GC30.out.trans hg) 0 _ rfl).1; go_simp)) ?_
  simp only [Act.put, List.setIfInBounds_toArray, List.set_cons_zero, List.set_cons_succ]
  refine wpG_tk (some 48) (v := .int .i64 x) rfl (.val (by rfl) (fun _ _ => rfl)) ?_
  simp only [Act.put, List.setIfInBounds_toArray, List.set_cons_zero, List.set_cons_succ]
  refine wpG_tk (some 49) (v := .bool (decide (b1 ≤ x))) rfl (.val (by rfl) (fun W hg => by go_simp)) ?_
  simp only [Act.put, List.setIfInBounds_toArray, List.set_cons_zero, List.set_cons_succ]
  obtain ⟨c31, hc31⟩ : ∃ b, b = (decide (b1 ≤ x)) := ⟨_, rfl⟩
  rw [← hc31]
  have Hc31 := Lib.hid hc31
  clear hc31
  refine wpG_tk (some 50) (v := .bool c31) rfl (.val (by rfl) (fun W hg => by go_simp)) ?_
  simp only [Act.put, List.setIfInBounds_toArray, List.set_cons_zero, List.set_cons_succ]
  refine wpG_tk (some 51) (v := .bool c31) rfl (.val (by rfl) (fun _ _ => rfl)) ?_
  simp only [Act.put, List.setIfInBounds_toArray, List.set_cons_zero, List.set_cons_succ]
  refine wpG_tk (some 52) (v := (bif c31 then .int .i64 (x + (Mo.pw l)) else undef)) rfl (by cases c31 with | false => exact .no (by rfl) | true => exact (.val (by rfl) (fun _ _ => rfl))) ?_
  simp only [Act.put, List.setIfInBounds_toArray, List.set_cons_zero, List.set_cons_succ]
  refine wpG_tk (some 53) (v := (bif c31 then .int .i64 0 else undef)) rfl (by cases c31 with | false => exact .no (by rfl) | true => exact (.val (by rfl) (fun _ _ => rfl))) ?_
  simp only [Act.put, List.setIfInBounds_toArray, List.set_cons_zero, List.set_cons_succ]
  refine wpG_tk (some 54) (v := (bif c31 then .pointer (some ⟨q2, 0, none⟩) else undef)) rfl (by cases c31 with | false => exact .no (by rfl) | true => exact (.val (by rfl) (fun W hg => by go_simp))) ?_
  simp only [Act.put, List.setIfInBounds_toArray, List.set_cons_zero, List.set_cons_succ]
  refine wpG_tk (some 55) (v := (bif c31 then .int .i64 b4 else undef)) rfl (by cases c31 with | false => exact .no (by rfl) | true => exact (.val (by rfl) (fun W hg => by have c := (R10.out.below (GC30.out.trans hg) 0 _ rfl).1; go_simp))) ?_
  simp only [Act.put, List.setIfInBounds_toArray, List.set_cons_zero, List.set_cons_succ]
  refine wpG_tk (some 56) (v := (bif c31 then .bool (decide (x + (Mo.pw l) ≤ b4)) else undef)) rfl (by cases c31 with | false => exact .no (by rfl) | true => exact (.val (by rfl) (fun W hg => by go_simp))) ?_
  simp only [Act.put, List.setIfInBounds_toArray, List.set_cons_zero, List.set_cons_succ]
  refine wpG_tk (some 57) (v := .bool (c31 && (decide (x + (Mo.pw l) ≤ b4)))) rfl (.val (by rfl) (fun W hg => by cases c31 <;> go_simp)) ?_
  simp only [Act.put, List.setIfInBounds_toArray, List.set_cons_zero, List.set_cons_succ]
  obtain ⟨c32, hc32⟩ : ∃ b, b = (c31 && (decide (x + (Mo.pw l) ≤ b4))) := ⟨_, rfl⟩
  rw [← hc32]
  have Hc32 := Lib.hid hc32
  clear hc32
  refine wpG_tk (some 5) (v := .bool c32) rfl (.val (by rfl) (fun _ _ => rfl)) ?_
  simp only [Act.put, List.setIfInBounds_toArray, List.set_cons_zero, List.set_cons_succ]
  refine wpG_done (fun V33 hv34 => ?_)
  have GC35 := Lib.hid (GC30.out.trans hv34)
  clear hv34
  go_upto_region 9 with fail
  refine wpG_region ?_
  refine wpG_tk (some 58) (v := .int .i64 1) rfl (.val (by rfl) (fun W hg => by go_simp <;> rfl)) ?_
  simp only [Act.put, List.setIfInBounds_toArray, List.set_cons_zero, List.set_cons_succ]
  refine wpG_tk (some 20) (v := .int .i64 1) rfl (.val (by rfl) (fun _ _ => rfl)) ?_
  simp only [Act.put, List.setIfInBounds_toArray, List.set_cons_zero, List.set_cons_succ]
  refine wpG_done (fun V36 hv37 => ?_)
  have GC38 := Lib.hid (GC35.out.trans hv37)
  clear hv37
  go_wp2_with fail
  rw [rounds_succ]
  go_upto_region 4 with fail
  refine wpG_region ?_
  refine wpG_tk (some 21) (v := .bool true) rfl (.val (by rfl) (fun W hg => by go_simp)) ?_
  simp only [Act.put, List.setIfInBounds_toArray, List.set_cons_zero, List.set_cons_succ]
  refine wpG_done (fun V39 hv40 => ?_)
  have GC41 := Lib.hid (GC38.out.trans hv40)
  clear hv40
  go_upto_region 5 with fail
  refine wpG_region ?_
  refine wpG_tk (some 22) (v := .int .i64 1) rfl (.val (by rfl) (fun _ _ => rfl)) ?_
  simp only [Act.put, List.setIfInBounds_toArray, List.set_cons_zero, List.set_cons_succ]
  refine wpG_tk (some 23) (v := .int .i64 y) rfl (.val (by rfl) (fun W hg => by have e := idx3_1 W x y z; go_simp)) ?_
  simp only [Act.put, List.setIfInBounds_toArray, List.set_cons_zero, List.set_cons_succ]
  refine wpG_tk (some 8) (v := .int .i64 1) rfl (.val (by rfl) (fun _ _ => rfl)) ?_
  simp only [Act.put, List.setIfInBounds_toArray, List.set_cons_zero, List.set_cons_succ]
  refine wpG_tk (some 9) (v := .int .i64 y) rfl (.val (by rfl) (fun _ _ => rfl)) ?_
  simp only [Act.put, List.setIfInBounds_toArray, List.set_cons_zero, List.set_cons_succ]
  refine wpG_done (fun V42 hv43 => ?_)
  have GC44 := Lib.hid (GC41.out.trans hv43)
  clear hv43
  go_upto_region 6 with fail
  refine wpG_region ?_
  refine wpG_tk (some 24) (v := .int .i64 y) rfl (.val (by rfl) (fun _ _ => rfl)) ?_
  simp only [Act.put, List.setIfInBounds_toArray, List.set_cons_zero, List.set_cons_succ]
  refine wpG_tk (some 25) (v := .pointer (some ⟨w.heap.size, 3, none⟩)) rfl (.val (by rfl) (fun W hg => by go_simp)) ?_
  simp only [Act.put, List.setIfInBounds_toArray, List.set_cons_zero, List.set_cons_succ]
  refine wpG_tk (some 26) (v := .int .i64 (l : Int)) rfl (.val (by rfl) (fun W hg => by have c := (R7.out.below (GC44.out.trans hg) 3 _ rfl).1; go_simp)) ?_
  simp only [Act.put, List.setIfInBounds_toArray, List.set_cons_zero, List.set_cons_succ]
  refine wpG_tk (some 27) (v := .int .i64 (Mo.pw l)) rfl (.val (by rfl) (fun W hg => by go_simp; exact wrap_pw l (by omega))) ?_
  simp only [Act.put, List.setIfInBounds_toArray, List.set_cons_zero, List.set_cons_succ]
  refine wpG_tk (some 28) (v := .int .i64 (y + (Mo.pw l))) rfl (.val (by rfl) (fun W hg => by (first | (go_simp; done) | (go_simp; rw [IntWalk.i64_in _ (by omega)])))) ?_
  simp only [Act.put, List.setIfInBounds_toArray, List.set_cons_zero, List.set_cons_succ]
  refine wpG_tk (some 10) (v := .int .i64 (y + (Mo.pw l))) rfl (.val (by rfl) (fun _ _ => rfl)) ?_
  simp only [Act.put, List.setIfInBounds_toArray, List.set_cons_zero, List.set_cons_succ]
  refine wpG_done (fun V45 hv46 => ?_)
  have GC47 := Lib.hid (GC44.out.trans hv46)
  clear hv46
  go_upto_region 7 with fail
  refine wpK_region (by kernel_rfl) ?_
  refine wpK_ta (i := 0) (some 29) (v := .bool c27) rfl rfl (by kernel_rfl) (fun _ _ _ h => h) (Or.inl ⟨rfl, fun _ => rfl⟩) ?_
  simp only [Act.put, List.setIfInBounds_toArray, List.set_cons_zero, List.set_cons_succ]
  refine wpK_ta (i := 1) (some 30) (v := .bool c27) rfl rfl (by kernel_rfl) (fun _ _ _ h => h) (Or.inl ⟨rfl, fun _ => rfl⟩) ?_
  simp only [Act.put, List.setIfInBounds_toArray, List.set_cons_zero, List.set_cons_succ]
  refine wpK_ta (i := 2) (some 31) (v := (bif c27 then .int .i64 y else undef)) rfl rfl (by kernel_rfl) (fun _ _ _ h => h) (by cases c27 with | false => exact Or.inr ⟨by rfl, rfl⟩ | true => exact (Or.inl ⟨rfl, fun _ => rfl⟩)) ?_
  simp only [Act.put, List.setIfInBounds_toArray, List.set_cons_zero, List.set_cons_succ]
  refine wpK_ta (i := 3) (some 32) (v := (bif c27 then .int .i64 1 else undef)) rfl rfl (by kernel_rfl) (fun _ _ _ h => h) (by cases c27 with | false => exact Or.inr ⟨by rfl, rfl⟩ | true => exact (Or.inl ⟨rfl, fun _ => rfl⟩)) ?_
  simp only [Act.put, List.setIfInBounds_toArray, List.set_cons_zero, List.set_cons_succ]
  refine wpK_ta (i := 4) (some 33) (v := (bif c27 then .pointer (some ⟨p1, 1, none⟩) else undef)) rfl rfl (by kernel_rfl) (fun _ _ _ h => h) (by cases c27 with | false => exact Or.inr ⟨by rfl, rfl⟩ | true => exact (Or.inl ⟨by rfl, fun W => by go_simp⟩)) ?_
  simp only [Act.put, List.setIfInBounds_toArray, List.set_cons_zero, List.set_cons_succ]
  refine wpK_tk (i := 5) (some 34) (v := (bif c27 then .int .i64 b2 else undef)) rfl rfl (by kernel_rfl) (fun _ _ _ h => h) (by cases c27 with | false => exact .no (by rfl) | true => exact (.val (by rfl) (fun W hg => by have c := (R9.out.below (GC47.out.trans (Gr.un hg)) 1 _ rfl).1; go_simp))) ?_
  simp only [Act.put, List.setIfInBounds_toArray, List.set_cons_zero, List.set_cons_succ]
  refine wpK_ta (i := 6) (some 35) (v := (bif c27 then .int .i64 (max y b2) else undef)) rfl rfl (by kernel_rfl) (fun _ _ _ h => h) (by cases c27 with | false => exact Or.inr ⟨by rfl, rfl⟩ | true => exact (Or.inl ⟨by rfl, fun W => by (go_simp <;> (repeat' split) <;> omega)⟩)) ?_
  simp only [Act.put, List.setIfInBounds_toArray, List.set_cons_zero, List.set_cons_succ]
  refine wpK_ta (i := 7) (some 36) (v := (bif c27 then .int .i64 (y + (Mo.pw l)) else undef)) rfl rfl (by kernel_rfl) (fun _ _ _ h => h) (by cases c27 with | false => exact Or.inr ⟨by rfl, rfl⟩ | true => exact (Or.inl ⟨rfl, fun _ => rfl⟩)) ?_
  simp only [Act.put, List.setIfInBounds_toArray, List.set_cons_zero, List.set_cons_succ]
  refine wpK_ta (i := 8) (some 37) (v := (bif c27 then .int .i64 1 else undef)) rfl rfl (by kernel_rfl) (fun _ _ _ h => h) (by cases c27 with | false => exact Or.inr ⟨by rfl, rfl⟩ | true => exact (Or.inl ⟨rfl, fun _ => rfl⟩)) ?_
  simp only [Act.put, List.setIfInBounds_toArray, List.set_cons_zero, List.set_cons_succ]
  refine wpK_ta (i := 9) (some 38) (v := (bif c27 then .pointer (some ⟨q2, 1, none⟩) else undef)) rfl rfl (by kernel_rfl) (fun _ _ _ h => h) (by cases c27 with | false => exact Or.inr ⟨by rfl, rfl⟩ | true => exact (Or.inl ⟨by rfl, fun W => by go_simp⟩)) ?_
  simp only [Act.put, List.setIfInBounds_toArray, List.set_cons_zero, List.set_cons_succ]
  refine wpK_tk (i := 10) (some 39) (v := (bif c27 then .int .i64 b5 else undef)) rfl rfl (by kernel_rfl) (fun _ _ _ h => h) (by cases c27 with | false => exact .no (by rfl) | true => exact (.val (by rfl) (fun W hg => by have c := (R10.out.below (GC47.out.trans (Gr.un hg)) 1 _ rfl).1; go_simp))) ?_
  simp only [Act.put, List.setIfInBounds_toArray, List.set_cons_zero, List.set_cons_succ]
  refine wpK_ta (i := 11) (some 40) (v := (bif c27 then .int .i64 (min (y + (Mo.pw l)) b5) else undef)) rfl rfl (by kernel_rfl) (fun _ _ _ h => h) (by cases c27 with | false => exact Or.inr ⟨by rfl, rfl⟩ | true => exact (Or.inl ⟨by rfl, fun W => by (go_simp <;> (repeat' split) <;> omega)⟩)) ?_
  simp only [Act.put, List.setIfInBounds_toArray, List.set_cons_zero, List.set_cons_succ]
  refine wpK_ta (i := 12) (some 41) (v := (bif c27 then .bool (decide (max y b2 < min (y + (Mo.pw l)) b5)) else undef)) rfl rfl (by kernel_rfl) (fun _ _ _ h => h) (by cases c27 with | false => exact Or.inr ⟨by rfl, rfl⟩ | true => exact (Or.inl ⟨by rfl, fun W => by go_simp⟩)) ?_
  simp only [Act.put, List.setIfInBounds_toArray, List.set_cons_zero, List.set_cons_succ]
  refine wpK_ta (i := 13) (some 42) (v := .bool (c27 && (decide (max y b2 < min (y + (Mo.pw l)) b5)))) rfl rfl (by kernel_rfl) (fun _ _ _ h => h) (Or.inl ⟨by rfl, fun W => by cases c27 <;> go_simp⟩) ?_
  simp only [Act.put, List.setIfInBounds_toArray, List.set_cons_zero, List.set_cons_succ]
  obtain ⟨c48, hc48⟩ : ∃ b, b = (c27 && (decide (max y b2 < min (y + (Mo.pw l)) b5))) := ⟨_, rfl⟩
  rw [← hc48]
  have Hc48 := Lib.hid hc48
  clear hc48
  refine wpK_ta (i := 14) (some 4) (v := .bool c48) rfl rfl (by kernel_rfl) (fun _ _ _ h => h) (Or.inl ⟨rfl, fun _ => rfl⟩) ?_
  simp only [Act.put, List.setIfInBounds_toArray, List.set_cons_zero, List.set_cons_succ]
  refine wpK_done (by kernel_rfl) (fun V49 hv50 => ?_) _
  have GC51 := Lib.hid (GC47.out.trans (Gr.un hv50))
  clear hv50
  go_upto_region 8 with fail
  refine wpG_region ?_
  refine wpG_tk (some 43) (v := .bool c32) rfl (.val (by rfl) (fun _ _ => rfl)) ?_
  simp only [Act.put, List.setIfInBounds_toArray, List.set_cons_zero, List.set_cons_succ]
  refine wpG_tk (some 44) (v := .bool c32) rfl (.val (by rfl) (fun _ _ => rfl)) ?_
  simp only [Act.put, List.setIfInBounds_toArray, List.set_cons_zero, List.set_cons_succ]
  refine wpG_tk (some 45) (v := (bif c32 then .int .i64 1 else undef)) rfl (by cases c32 with | false => exact .no (by rfl) | true => exact (.val (by rfl) (fun _ _ => rfl))) ?_
  simp only [Act.put, List.setIfInBounds_toArray, List.set_cons_zero, List.set_cons_succ]
  refine wpG_tk (some 46) (v := (bif c32 then .pointer (some ⟨p1, 1, none⟩) else undef)) rfl (by cases c32 with | false => exact .no (by rfl) | true => exact (.val (by rfl) (fun W hg => by go_simp))) ?_
  simp only [Act.put, List.setIfInBounds_toArray, List.set_cons_zero, List.set_cons_succ]
  refine wpG_tk (some 47) (v := (bif c32 then .int .i64 b2 else undef)) rfl (by cases c32 with | false => exact .no (by rfl) | true => exact (.val (by rfl) (fun W hg => by have c := (R9.out.below (GC51.out.trans hg) 1 _ rfl).1; go_simp))) ?_
  simp only [Act.put, List.setIfInBounds_toArray, List.set_cons_zero, List.set_cons_succ]
  refine wpG_tk (some 48) (v := (bif c32 then .int .i64 y else undef)) rfl (by cases c32 with | false => exact .no (by rfl) | true => exact (.val (by rfl) (fun _ _ => rfl))) ?_
  simp only [Act.put, List.setIfInBounds_toArray, List.set_cons_zero, List.set_cons_succ]
  refine wpG_tk (some 49) (v := (bif c32 then .bool (decide (b2 ≤ y)) else undef)) rfl (by cases c32 with | false => exact .no (by rfl) | true => exact (.val (by rfl) (fun W hg => by go_simp))) ?_
  simp only [Act.put, List.setIfInBounds_toArray, List.set_cons_zero, List.set_cons_succ]
  refine wpG_tk (some 50) (v := .bool (c32 && (decide (b2 ≤ y)))) rfl (.val (by rfl) (fun W hg => by cases c32 <;> go_simp)) ?_
  simp only [Act.put, List.setIfInBounds_toArray, List.set_cons_zero, List.set_cons_succ]
  obtain ⟨c52, hc52⟩ : ∃ b, b = (c32 && (decide (b2 ≤ y))) := ⟨_, rfl⟩
  rw [← hc52]
  have Hc52 := Lib.hid hc52
  clear hc52
  refine wpG_tk (some 51) (v := .bool c52) rfl (.val (by rfl) (fun _ _ => rfl)) ?_
  simp only [Act.put, List.setIfInBounds_toArray, List.set_cons_zero, List.set_cons_succ]
  refine wpG_tk (some 52) (v := (bif c52 then .int .i64 (y + (Mo.pw l)) else undef)) rfl (by cases c52 with | false => exact .no (by rfl) | true => exact (.val (by rfl) (fun _ _ => rfl))) ?_
  simp only [Act.put, List.setIfInBounds_toArray, List.set_cons_zero, List.set_cons_succ]
  refine wpG_tk (some 53) (v := (bif c52 then .int .i64 1 else undef)) rfl (by cases c52 with | false => exact .no (by rfl) | true => exact (.val (by rfl) (fun _ _ => rfl))) ?_
  simp only [Act.put, List.setIfInBounds_toArray, List.set_cons_zero, List.set_cons_succ]
  refine wpG_tk (some 54) (v := (bif c52 then .pointer (some ⟨q2, 1, none⟩) else undef)) rfl (by cases c52 with | false => exact .no (by rfl) | true => exact (.val (by rfl) (fun W hg => by go_simp))) ?_
  simp only [Act.put, List.setIfInBounds_toArray, List.set_cons_zero, List.set_cons_succ]
  refine wpG_tk (some 55) (v := (bif c52 then .int .i64 b5 else undef)) rfl (by cases c52 with | false => exact .no (by rfl) | true => exact (.val (by rfl) (fun W hg => by have c := (R10.out.below (GC51.out.trans hg) 1 _ rfl).1; go_simp))) ?_
  simp only [Act.put, List.setIfInBounds_toArray, List.set_cons_zero, List.set_cons_succ]
  refine wpG_tk (some 56) (v := (bif c52 then .bool (decide (y + (Mo.pw l) ≤ b5)) else undef)) rfl (by cases c52 with | false => exact .no (by rfl) | true => exact (.val (by rfl) (fun W hg => by go_simp))) ?_
  simp only [Act.put, List.setIfInBounds_toArray, List.set_cons_zero, List.set_cons_succ]
  refine wpG_tk (some 57) (v := .bool (c52 && (decide (y + (Mo.pw l) ≤ b5)))) rfl (.val (by rfl) (fun W hg => by cases c52 <;> go_simp)) ?_
  simp only [Act.put, List.setIfInBounds_toArray, List.set_cons_zero, List.set_cons_succ]
  obtain ⟨c53, hc53⟩ : ∃ b, b = (c52 && (decide (y + (Mo.pw l) ≤ b5))) := ⟨_, rfl⟩
  rw [← hc53]
  have Hc53 := Lib.hid hc53
  clear hc53
  refine wpG_tk (some 5) (v := .bool c53) rfl (.val (by rfl) (fun _ _ => rfl)) ?_
  simp only [Act.put, List.setIfInBounds_toArray, List.set_cons_zero, List.set_cons_succ]
  refine wpG_done (fun V54 hv55 => ?_)
  have GC56 := Lib.hid (GC51.out.trans hv55)
  clear hv55
  go_upto_region 9 with fail
  refine wpG_region ?_
  refine wpG_tk (some 58) (v := .int .i64 2) rfl (.val (by rfl) (fun W hg => by go_simp <;> rfl)) ?_
  simp only [Act.put, List.setIfInBounds_toArray, List.set_cons_zero, List.set_cons_succ]
  refine wpG_tk (some 20) (v := .int .i64 2) rfl (.val (by rfl) (fun _ _ => rfl)) ?_
  simp only [Act.put, List.setIfInBounds_toArray, List.set_cons_zero, List.set_cons_succ]
  refine wpG_done (fun V57 hv58 => ?_)
  have GC59 := Lib.hid (GC56.out.trans hv58)
  clear hv58
  go_wp2_with fail
  rw [rounds_succ]
  go_upto_region 4 with fail
  refine wpG_region ?_
  refine wpG_tk (some 21) (v := .bool true) rfl (.val (by rfl) (fun W hg => by go_simp)) ?_
  simp only [Act.put, List.setIfInBounds_toArray, List.set_cons_zero, List.set_cons_succ]
  refine wpG_done (fun V60 hv61 => ?_)
  have GC62 := Lib.hid (GC59.out.trans hv61)
  clear hv61
  go_upto_region 5 with fail
  refine wpG_region ?_
  refine wpG_tk (some 22) (v := .int .i64 2) rfl (.val (by rfl) (fun _ _ => rfl)) ?_
  simp only [Act.put, List.setIfInBounds_toArray, List.set_cons_zero, List.set_cons_succ]
  refine wpG_tk (some 23) (v := .int .i64 z) rfl (.val (by rfl) (fun W hg => by have e := idx3_2 W x y z; go_simp)) ?_
  simp only [Act.put, List.setIfInBounds_toArray, List.set_cons_zero, List.set_cons_succ]
  refine wpG_tk (some 8) (v := .int .i64 2) rfl (.val (by rfl) (fun _ _ => rfl)) ?_
  simp only [Act.put, List.setIfInBounds_toArray, List.set_cons_zero, List.set_cons_succ]
  refine wpG_tk (some 9) (v := .int .i64 z) rfl (.val (by rfl) (fun _ _ => rfl)) ?_
  simp only [Act.put, List.setIfInBounds_toArray, List.set_cons_zero, List.set_cons_succ]
  refine wpG_done (fun V63 hv64 => ?_)
  have GC65 := Lib.hid (GC62.out.trans hv64)
  clear hv64
  go_upto_region 6 with fail
  refine wpG_region ?_
  refine wpG_tk (some 24) (v := .int .i64 z) rfl (.val (by rfl) (fun _ _ => rfl)) ?_
  simp only [Act.put, List.setIfInBounds_toArray, List.set_cons_zero, List.set_cons_succ]
  refine wpG_tk (some 25) (v := .pointer (some ⟨w.heap.size, 3, none⟩)) rfl (.val (by rfl) (fun W hg => by go_simp)) ?_
  simp only [Act.put, List.setIfInBounds_toArray, List.set_cons_zero, List.set_cons_succ]
  refine wpG_tk (some 26) (v := .int .i64 (l : Int)) rfl (.val (by rfl) (fun W hg => by have c := (R7.out.below (GC65.out.trans hg) 3 _ rfl).1; go_simp)) ?_
  simp only [Act.put, List.setIfInBounds_toArray, List.set_cons_zero, List.set_cons_succ]
  refine wpG_tk (some 27) (v := .int .i64 (Mo.pw l)) rfl (.val (by rfl) (fun W hg => by go_simp; exact wrap_pw l (by omega))) ?_
  simp only [Act.put, List.setIfInBounds_toArray, List.set_cons_zero, List.set_cons_succ]
  refine wpG_tk (some 28) (v := .int .i64 (z + (Mo.pw l))) rfl (.val (by rfl) (fun W hg => by (first | (go_simp; done) | (go_simp; rw [IntWalk.i64_in _ (by omega)])))) ?_
  simp only [Act.put, List.setIfInBounds_toArray, List.set_cons_zero, List.set_cons_succ]
  refine wpG_tk (some 10) (v := .int .i64 (z + (Mo.pw l))) rfl (.val (by rfl) (fun _ _ => rfl)) ?_
  simp only [Act.put, List.setIfInBounds_toArray, List.set_cons_zero, List.set_cons_succ]
  refine wpG_done (fun V66 hv67 => ?_)
  have GC68 := Lib.hid (GC65.out.trans hv67)
  clear hv67
  go_upto_region 7 with fail
  refine wpK_region (by kernel_rfl) ?_
  refine wpK_ta (i := 0) (some 29) (v := .bool c48) rfl rfl (by kernel_rfl) (fun _ _ _ h => h) (Or.inl ⟨rfl, fun _ => rfl⟩) ?_
  simp only [Act.put, List.setIfInBounds_toArray, List.set_cons_zero, List.set_cons_succ]
  refine wpK_ta (i := 1) (some 30) (v := .bool c48) rfl rfl (by kernel_rfl) (fun _ _ _ h => h) (Or.inl ⟨rfl, fun _ => rfl⟩) ?_
  simp only [Act.put, List.setIfInBounds_toArray, List.set_cons_zero, List.set_cons_succ]
  refine wpK_ta (i := 2) (some 31) (v := (bif c48 then .int .i64 z else undef)) rfl rfl (by kernel_rfl) (fun _ _ _ h => h) (by cases c48 with | false => exact Or.inr ⟨by rfl, rfl⟩ | true => exact (Or.inl ⟨rfl, fun _ => rfl⟩)) ?_
  simp only [Act.put, List.setIfInBounds_toArray, List.set_cons_zero, List.set_cons_succ]
  refine wpK_ta (i := 3) (some 32) (v := (bif c48 then .int .i64 2 else undef)) rfl rfl (by kernel_rfl) (fun _ _ _ h => h) (by cases c48 with | false => exact Or.inr ⟨by rfl, rfl⟩ | true => exact (Or.inl ⟨rfl, fun _ => rfl⟩)) ?_
  simp only [Act.put, List.setIfInBounds_toArray, List.set_cons_zero, List.set_cons_succ]
  refine wpK_ta (i := 4) (some 33) (v := (bif c48 then .pointer (some ⟨p1, 2, none⟩) else undef)) rfl rfl (by kernel_rfl) (fun _ _ _ h => h) (by cases c48 with | false => exact Or.inr ⟨by rfl, rfl⟩ | true => exact (Or.inl ⟨by rfl, fun W => by go_simp⟩)) ?_
  simp only [Act.put, List.setIfInBounds_toArray, List.set_cons_zero, List.set_cons_succ]
  refine wpK_tk (i := 5) (some 34) (v := (bif c48 then .int .i64 b3 else undef)) rfl rfl (by kernel_rfl) (fun _ _ _ h => h) (by cases c48 with | false => exact .no (by rfl) | true => exact (.val (by rfl) (fun W hg => by have c := (R9.out.below (GC68.out.trans (Gr.un hg)) 2 _ rfl).1; go_simp))) ?_
  simp only [Act.put, List.setIfInBounds_toArray, List.set_cons_zero, List.set_cons_succ]
  refine wpK_ta (i := 6) (some 35) (v := (bif c48 then .int .i64 (max z b3) else undef)) rfl rfl (by kernel_rfl) (fun _ _ _ h => h) (by cases c48 with | false => exact Or.inr ⟨by rfl, rfl⟩ | true => exact (Or.inl ⟨by rfl, fun W => by (go_simp <;> (repeat' split) <;> omega)⟩)) ?_
  simp only [Act.put, List.setIfInBounds_toArray, List.set_cons_zero, List.set_cons_succ]
  refine wpK_ta (i := 7) (some 36) (v := (bif c48 then .int .i64 (z + (Mo.pw l)) else undef)) rfl rfl (by kernel_rfl) (fun _ _ _ h => h) (by cases c48 with | false => exact Or.inr ⟨by rfl, rfl⟩ | true => exact (Or.inl ⟨rfl, fun _ => rfl⟩)) ?_
  simp only [Act.put, List.setIfInBounds_toArray, List.set_cons_zero, List.set_cons_succ]
  refine wpK_ta (i := 8) (some 37) (v := (bif c48 then .int .i64 2 else undef)) rfl rfl (by kernel_rfl) (fun _ _ _ h => h) (by cases c48 with | false => exact Or.inr ⟨by rfl, rfl⟩ | true => exact (Or.inl ⟨rfl, fun _ => rfl⟩)) ?_
  simp only [Act.put, List.setIfInBounds_toArray, List.set_cons_zero, List.set_cons_succ]
  refine wpK_ta (i := 9) (some 38) (v := (bif c48 then .pointer (some ⟨q2, 2, none⟩) else undef)) rfl rfl (by kernel_rfl) (fun _ _ _ h => h) (by cases c48 with | false => exact Or.inr ⟨by rfl, rfl⟩ | true => exact (Or.inl ⟨by rfl, fun W => by go_simp⟩)) ?_
  simp only [Act.put, List.setIfInBounds_toArray, List.set_cons_zero, List.set_cons_succ]
  refine wpK_tk (i := 10) (some 39) (v := (bif c48 then .int .i64 b6 else undef)) rfl rfl (by kernel_rfl) (fun _ _ _ h => h) (by cases c48 with | false => exact .no (by rfl) | true => exact (.val (by rfl) (fun W hg => by have c := (R10.out.below (GC68.out.trans (Gr.un hg)) 2 _ rfl).1; go_simp))) ?_
  simp only [Act.put, List.setIfInBounds_toArray, List.set_cons_zero, List.set_cons_succ]
  refine wpK_ta (i := 11) (some 40) (v := (bif c48 then .int .i64 (min (z + (Mo.pw l)) b6) else undef)) rfl rfl (by kernel_rfl) (fun _ _ _ h => h) (by cases c48 with | false => exact Or.inr ⟨by rfl, rfl⟩ | true => exact (Or.inl ⟨by rfl, fun W => by (go_simp <;> (repeat' split) <;> omega)⟩)) ?_
  simp only [Act.put, List.setIfInBounds_toArray, List.set_cons_zero, List.set_cons_succ]
  refine wpK_ta (i := 12) (some 41) (v := (bif c48 then .bool (decide (max z b3 < min (z + (Mo.pw l)) b6)) else undef)) rfl rfl (by kernel_rfl) (fun _ _ _ h => h) (by cases c48 with | false => exact Or.inr ⟨by rfl, rfl⟩ | true => exact (Or.inl ⟨by rfl, fun W => by go_simp⟩)) ?_
  simp only [Act.put, List.setIfInBounds_toArray, List.set_cons_zero, List.set_cons_succ]
  refine wpK_ta (i := 13) (some 42) (v := .bool (c48 && (decide (max z b3 < min (z + (Mo.pw l)) b6)))) rfl rfl (by kernel_rfl) (fun _ _ _ h => h) (Or.inl ⟨by rfl, fun W => by cases c48 <;> go_simp⟩) ?_
  simp only [Act.put, List.setIfInBounds_toArray, List.set_cons_zero, List.set_cons_succ]
  obtain ⟨c69, hc69⟩ : ∃ b, b = (c48 && (decide (max z b3 < min (z + (Mo.pw l)) b6))) := ⟨_, rfl⟩
  rw [← hc69]
  have Hc69 := Lib.hid hc69
  clear hc69
  refine wpK_ta (i := 14) (some 4) (v := .bool c69) rfl rfl (by kernel_rfl) (fun _ _ _ h => h) (Or.inl ⟨rfl, fun _ => rfl⟩) ?_
  simp only [Act.put, List.setIfInBounds_toArray, List.set_cons_zero, List.set_cons_succ]
  refine wpK_done (by kernel_rfl) (fun V70 hv71 => ?_) _
  have GC72 := Lib.hid (GC68.out.trans (Gr.un hv71))
  clear hv71
  go_upto_region 8 with fail
  refine wpG_region ?_
  refine wpG_tk (some 43) (v := .bool c53) rfl (.val (by rfl) (fun _ _ => rfl)) ?_
  simp only [Act.put, List.setIfInBounds_toArray, List.set_cons_zero, List.set_cons_succ]
  refine wpG_tk (some 44) (v := .bool c53) rfl (.val (by rfl) (fun _ _ => rfl)) ?_
  simp only [Act.put, List.setIfInBounds_toArray, List.set_cons_zero, List.set_cons_succ]
  refine wpG_tk (some 45) (v := (bif c53 then .int .i64 2 else undef)) rfl (by cases c53 with | false => exact .no (by rfl) | true => exact (.val (by rfl) (fun _ _ => rfl))) ?_
  simp only [Act.put, List.setIfInBounds_toArray, List.set_cons_zero, List.set_cons_succ]
  refine wpG_tk (some 46) (v := (bif c53 then .pointer (some ⟨p1, 2, none⟩) else undef)) rfl (by cases c53 with | false => exact .no (by rfl) | true => exact (.val (by rfl) (fun W hg => by go_simp))) ?_
  simp only [Act.put, List.setIfInBounds_toArray, List.set_cons_zero, List.set_cons_succ]
  refine wpG_tk (some 47) (v := (bif c53 then .int .i64 b3 else undef)) rfl (by cases c53 with | false => exact .no (by rfl) | true => exact (.val (by rfl) (fun W hg => by have c := (R9.out.below (GC72.out.trans hg) 2 _ rfl).1; go_simp))) ?_
  simp only [Act.put, List.setIfInBounds_toArray, List.set_cons_zero, List.set_cons_succ]
  refine wpG_tk (some 48) (v := (bif c53 then .int .i64 z else undef)) rfl (by cases c53 with | false => exact .no (by rfl) | true => exact (.val (by rfl) (fun _ _ => rfl))) ?_
  simp only [Act.put, List.setIfInBounds_toArray, List.set_cons_zero, List.set_cons_succ]
  refine wpG_tk (some 49) (v := (bif c53 then .bool (decide (b3 ≤ z)) else undef)) rfl (by cases c53 with | false => exact .no (by rfl) | true => exact (.val (by rfl) (fun W hg => by go_simp))) ?_
  simp only [Act.put, List.setIfInBounds_toArray, List.set_cons_zero, List.set_cons_succ]
  refine wpG_tk (some 50) (v := .bool (c53 && (decide (b3 ≤ z)))) rfl (.val (by rfl) (fun W hg => by cases c53 <;> go_simp)) ?_
  simp only [Act.put, List.setIfInBounds_toArray, List.set_cons_zero, List.set_cons_succ]
  obtain ⟨c73, hc73⟩ : ∃ b, b = (c53 && (decide (b3 ≤ z))) := ⟨_, rfl⟩
  rw [← hc73]
  have Hc73 := Lib.hid hc73
  clear hc73
  refine wpG_tk (some 51) (v := .bool c73) rfl (.val (by rfl) (fun _ _ => rfl)) ?_
  simp only [Act.put, List.setIfInBounds_toArray, List.set_cons_zero, List.set_cons_succ]
  refine wpG_tk (some 52) (v := (bif c73 then .int .i64 (z + (Mo.pw l)) else undef)) rfl (by cases c73 with | false => exact .no (by rfl) | true => exact (.val (by rfl) (fun _ _ => rfl))) ?_
  simp only [Act.put, List.setIfInBounds_toArray, List.set_cons_zero, List.set_cons_succ]
  refine wpG_tk (some 53) (v := (bif c73 then .int .i64 2 else undef)) rfl (by cases c73 with | false => exact .no (by rfl) | true => exact (.val (by rfl) (fun _ _ => rfl))) ?_
  simp only [Act.put, List.setIfInBounds_toArray, List.set_cons_zero, List.set_cons_succ]
  refine wpG_tk (some 54) (v := (bif c73 then .pointer (some ⟨q2, 2, none⟩) else undef)) rfl (by cases c73 with | false => exact .no (by rfl) | true => exact (.val (by rfl) (fun W hg => by go_simp))) ?_
  simp only [Act.put, List.setIfInBounds_toArray, List.set_cons_zero, List.set_cons_succ]
  refine wpG_tk (some 55) (v := (bif c73 then .int .i64 b6 else undef)) rfl (by cases c73 with | false => exact .no (by rfl) | true => exact (.val (by rfl) (fun W hg => by have c := (R10.out.below (GC72.out.trans hg) 2 _ rfl).1; go_simp))) ?_
  simp only [Act.put, List.setIfInBounds_toArray, List.set_cons_zero, List.set_cons_succ]
  refine wpG_tk (some 56) (v := (bif c73 then .bool (decide (z + (Mo.pw l) ≤ b6)) else undef)) rfl (by cases c73 with | false => exact .no (by rfl) | true => exact (.val (by rfl) (fun W hg => by go_simp))) ?_
  simp only [Act.put, List.setIfInBounds_toArray, List.set_cons_zero, List.set_cons_succ]
  refine wpG_tk (some 57) (v := .bool (c73 && (decide (z + (Mo.pw l) ≤ b6)))) rfl (.val (by rfl) (fun W hg => by cases c73 <;> go_simp)) ?_
  simp only [Act.put, List.setIfInBounds_toArray, List.set_cons_zero, List.set_cons_succ]
  obtain ⟨c74, hc74⟩ : ∃ b, b = (c73 && (decide (z + (Mo.pw l) ≤ b6))) := ⟨_, rfl⟩
  rw [← hc74]
  have Hc74 := Lib.hid hc74
  clear hc74
  refine wpG_tk (some 5) (v := .bool c74) rfl (.val (by rfl) (fun _ _ => rfl)) ?_
  simp only [Act.put, List.setIfInBounds_toArray, List.set_cons_zero, List.set_cons_succ]
  refine wpG_done (fun V75 hv76 => ?_)
  have GC77 := Lib.hid (GC72.out.trans hv76)
  clear hv76
  go_upto_region 9 with fail
  refine wpG_region ?_
  refine wpG_tk (some 58) (v := .int .i64 3) rfl (.val (by rfl) (fun W hg => by go_simp <;> rfl)) ?_
  simp only [Act.put, List.setIfInBounds_toArray, List.set_cons_zero, List.set_cons_succ]
  refine wpG_tk (some 20) (v := .int .i64 3) rfl (.val (by rfl) (fun _ _ => rfl)) ?_
  simp only [Act.put, List.setIfInBounds_toArray, List.set_cons_zero, List.set_cons_succ]
  refine wpG_done (fun V78 hv79 => ?_)
  have GC80 := Lib.hid (GC77.out.trans hv79)
  clear hv79
  go_wp2_with fail
  rw [rounds_succ]
  go_upto_region 4 with fail
  refine wpG_region ?_
  refine wpG_tk (some 21) (v := .bool false) rfl (.val (by rfl) (fun W hg => by go_simp)) ?_
  simp only [Act.put, List.setIfInBounds_toArray, List.set_cons_zero, List.set_cons_succ]
  refine wpG_done (fun V81 hv82 => ?_)
  have GC83 := Lib.hid (GC80.out.trans hv82)
  clear hv82
  go_upto_region 10 with fail
  refine wpG_region ?_
  refine wpG_tk (some 59) (v := .bool c69) rfl (.val (by rfl) (fun _ _ => rfl)) ?_
  simp only [Act.put, List.setIfInBounds_toArray, List.set_cons_zero, List.set_cons_succ]
  refine wpG_tk (some 60) (v := .bool c74) rfl (.val (by rfl) (fun _ _ => rfl)) ?_
  simp only [Act.put, List.setIfInBounds_toArray, List.set_cons_zero, List.set_cons_succ]
  refine wpG_tk (some 4) (v := .bool c69) rfl (.val (by rfl) (fun _ _ => rfl)) ?_
  simp only [Act.put, List.setIfInBounds_toArray, List.set_cons_zero, List.set_cons_succ]
  refine wpG_tk (some 5) (v := .bool c74) rfl (.val (by rfl) (fun _ _ => rfl)) ?_
  simp only [Act.put, List.setIfInBounds_toArray, List.set_cons_zero, List.set_cons_succ]
  refine wpG_done (fun V84 hv85 => ?_)
  have GC86 := Lib.hid (GC83.out.trans hv85)
  clear hv85
  go_wp2_with fail
  go_ret2
  exact ⟨by rw [Hc74.out, Hc73.out, Hc69.out, Hc53.out, Hc52.out, Hc48.out, Hc32.out, Hc31.out, Hc27.out]; rfl, Gr.to G11.out GC86.out⟩

end Go.Proofs.Ytmjjkloeipoefaa
