/-
  Contracts: the point with a code, by the program and by the specification.
-/
import Derived.Test.YtmjjkloeipoefaaMoa
import Derived.Test.YtmjjkloeipoefaaMob
import Derived.Test.YtmjjkloeipoefaaMof
import Derived.Test.YtmjjkloeipoefaaMo2
import Derived.Handy
namespace Go.Proofs.Ytmjjkloeipoefaa
open Go.RowKit
set_option linter.unusedVariables false
set_option maxRecDepth 1000000 in
set_option maxHeartbeats 4000000 in
theorem decode_out0 (n : Int) (w : World) (h : n < 0) :
    Calls Try.prog 9 #[.int .i64 n] w fun e w' => e = .returned (.tuple #[.agg #[.int .i64 0, .int .i64 0, .int .i64 0], .bool false]) ∧ Below w.heap.size w w' := by
  obtain ⟨u, hu, r0, g0⟩ := rows1 w [.int .i64 0, .int .i64 0, .int .i64 0] 23
  have R0 := Lib.hid r0
  have G0 := Lib.hid g0
  have HU := Lib.hid hu
  clear hu g0 r0
  go_enter Try.func9, Try.ntmps9
  go_upto_region 1 with fail
  rw [← HU.out]
  refine wpG_region ?_
  refine wpG_tk (some 7) (v := .int .i64 n) rfl (.val (by rfl) (fun _ _ => rfl)) ?_
  simp only [Act.put, List.setIfInBounds_toArray, List.set_cons_zero, List.set_cons_succ]
  refine wpG_tk (some 8) (v := .bool true) rfl (.val (by rfl) (fun W hg => by have hq : (n < 0) := (by omega); first | (go_simp; done) | (go_simp <;> omega))) ?_
  simp only [Act.put, List.setIfInBounds_toArray, List.set_cons_zero, List.set_cons_succ]
  refine wpG_tk (some 9) (v := .bool true) rfl (.val (by rfl) (fun _ _ => rfl)) ?_
  simp only [Act.put, List.setIfInBounds_toArray, List.set_cons_zero, List.set_cons_succ]
  refine wpG_tk (some 10) (v := undef) rfl (.no (by rfl)) ?_
  simp only [Act.put, List.setIfInBounds_toArray, List.set_cons_zero, List.set_cons_succ]
  refine wpG_tk (some 11) (v := undef) rfl (.no (by rfl)) ?_
  simp only [Act.put, List.setIfInBounds_toArray, List.set_cons_zero, List.set_cons_succ]
  refine wpG_tk (some 12) (v := .bool true) rfl (.val (by rfl) (fun W hg => by go_simp)) ?_
  simp only [Act.put, List.setIfInBounds_toArray, List.set_cons_zero, List.set_cons_succ]
  refine wpG_done (fun V1 hv2 => ?_)
  have GC3 := Lib.hid hv2
  clear hv2
  go_upto_region 2 with fail
  refine wpG_region ?_
  refine wpG_tk (some 13) (v := .agg #[.int .i64 0, .int .i64 0, .int .i64 0]) rfl (.val (by rfl) (fun W hg => by go_simp)) ?_
  simp only [Act.put, List.setIfInBounds_toArray, List.set_cons_zero, List.set_cons_succ]
  refine wpG_store (none) rfl (by rfl) (fun W4 hg5 => ⟨_, run_store_mid 23 (.tmp 2) (.tmp 13) rfl (w.heap.size) 0 #[.int .i64 0, .int .i64 0, .int .i64 0] rfl rfl (((R0.out.below (GC3.out.trans hg5)).there 0 3 (by simp))) (by kernel_rfl) (by kernel_rfl), ?_⟩)
  simp only [Act.put]
  refine wpG_tk (some 3) (v := .bool false) rfl (.val (by rfl) (fun _ _ => rfl)) ?_
  simp only [Act.put, List.setIfInBounds_toArray, List.set_cons_zero, List.set_cons_succ]
  refine wpG_done (fun V6 hv7 => ?_)
  have R9 := Lib.hid (Row.put (ds := [.int .i64 0, .int .i64 0, .int .i64 0]) R0.out (GC3.out.trans hg5) rfl hv7)
  have G8 := Lib.hid (Gr.put G0.out (GC3.out.trans hg5) (by omega) hv7)
  go_wp2_with fail
  refine bodyPost_ret (results_cell_tmp rfl _ _ _ (w.heap.size) 0 [.int .i64 0, .int .i64 0, .int .i64 0] _ rfl R9.out.range Try.underlying23 rfl (by kernel_rfl)) rfl ?_
  exact ⟨rfl, G8.out⟩
set_option maxRecDepth 1000000 in
set_option maxHeartbeats 4000000 in
theorem decode_out1 (n : Int) (w : World) (h : ¬ n < 0) (h2 : 4398046511104 ≤ n) :
    Calls Try.prog 9 #[.int .i64 n] w fun e w' => e = .returned (.tuple #[.agg #[.int .i64 0, .int .i64 0, .int .i64 0], .bool false]) ∧ Below w.heap.size w w' := by
  obtain ⟨u, hu, r0, g0⟩ := rows1 w [.int .i64 0, .int .i64 0, .int .i64 0] 23
  have R0 := Lib.hid r0
  have G0 := Lib.hid g0
  have HU := Lib.hid hu
  clear hu g0 r0
  go_enter Try.func9, Try.ntmps9
  go_upto_region 1 with fail
  rw [← HU.out]
  refine wpG_region ?_
  refine wpG_tk (some 7) (v := .int .i64 n) rfl (.val (by rfl) (fun _ _ => rfl)) ?_
  simp only [Act.put, List.setIfInBounds_toArray, List.set_cons_zero, List.set_cons_succ]
  refine wpG_tk (some 8) (v := .bool false) rfl (.val (by rfl) (fun W hg => by have hq : ¬ (n < 0) := (by omega); first | (go_simp; done) | (go_simp <;> omega))) ?_
  simp only [Act.put, List.setIfInBounds_toArray, List.set_cons_zero, List.set_cons_succ]
  refine wpG_tk (some 9) (v := .bool false) rfl (.val (by rfl) (fun _ _ => rfl)) ?_
  simp only [Act.put, List.setIfInBounds_toArray, List.set_cons_zero, List.set_cons_succ]
  refine wpG_tk (some 10) (v := .int .i64 n) rfl (.val (by rfl) (fun _ _ => rfl)) ?_
  simp only [Act.put, List.setIfInBounds_toArray, List.set_cons_zero, List.set_cons_succ]
  refine wpG_tk (some 11) (v := .bool true) rfl (.val (by rfl) (fun W hg => by have hq : (n ≥ 4398046511104) := (by omega); first | (go_simp; done) | (go_simp <;> omega))) ?_
  simp only [Act.put, List.setIfInBounds_toArray, List.set_cons_zero, List.set_cons_succ]
  refine wpG_tk (some 12) (v := .bool true) rfl (.val (by rfl) (fun W hg => by go_simp)) ?_
  simp only [Act.put, List.setIfInBounds_toArray, List.set_cons_zero, List.set_cons_succ]
  refine wpG_done (fun V1 hv2 => ?_)
  have GC3 := Lib.hid hv2
  clear hv2
  go_upto_region 2 with fail
  refine wpG_region ?_
  refine wpG_tk (some 13) (v := .agg #[.int .i64 0, .int .i64 0, .int .i64 0]) rfl (.val (by rfl) (fun W hg => by go_simp)) ?_
  simp only [Act.put, List.setIfInBounds_toArray, List.set_cons_zero, List.set_cons_succ]
  refine wpG_store (none) rfl (by rfl) (fun W4 hg5 => ⟨_, run_store_mid 23 (.tmp 2) (.tmp 13) rfl (w.heap.size) 0 #[.int .i64 0, .int .i64 0, .int .i64 0] rfl rfl (((R0.out.below (GC3.out.trans hg5)).there 0 3 (by simp))) (by kernel_rfl) (by kernel_rfl), ?_⟩)
  simp only [Act.put]
  refine wpG_tk (some 3) (v := .bool false) rfl (.val (by rfl) (fun _ _ => rfl)) ?_
  simp only [Act.put, List.setIfInBounds_toArray, List.set_cons_zero, List.set_cons_succ]
  refine wpG_done (fun V6 hv7 => ?_)
  have R9 := Lib.hid (Row.put (ds := [.int .i64 0, .int .i64 0, .int .i64 0]) R0.out (GC3.out.trans hg5) rfl hv7)
  have G8 := Lib.hid (Gr.put G0.out (GC3.out.trans hg5) (by omega) hv7)
  go_wp2_with fail
  refine bodyPost_ret (results_cell_tmp rfl _ _ _ (w.heap.size) 0 [.int .i64 0, .int .i64 0, .int .i64 0] _ rfl R9.out.range Try.underlying23 rfl (by kernel_rfl)) rfl ?_
  exact ⟨rfl, G8.out⟩
set_option maxRecDepth 1000000 in
set_option maxHeartbeats 4000000 in
theorem decode_in (n : Nat) (w : World) (h : n < 4398046511104) :
    Calls Try.prog 9 #[.int .i64 (n : Int)] w fun e w' => e = .returned (.tuple #[.agg #[.int .i64 ((Mo.D 14 (n) : Nat) : Int), .int .i64 ((Mo.D 14 (n / 2 ^ 1) : Nat) : Int), .int .i64 ((Mo.D 14 (n / 2 ^ 2) : Nat) : Int)], .bool true]) ∧ Below w.heap.size w w' := by
  obtain ⟨u, hu, r0, g0⟩ := rows1 w [.int .i64 0, .int .i64 0, .int .i64 0] 23
  have R0 := Lib.hid r0
  have G0 := Lib.hid g0
  have HU := Lib.hid hu
  clear hu g0 r0
  go_enter Try.func9, Try.ntmps9
  go_upto_region 1 with fail
  rw [← HU.out]
  refine wpG_region ?_
  refine wpG_tk (some 7) (v := .int .i64 (n : Int)) rfl (.val (by rfl) (fun _ _ => rfl)) ?_
  simp only [Act.put, List.setIfInBounds_toArray, List.set_cons_zero, List.set_cons_succ]
  refine wpG_tk (some 8) (v := .bool false) rfl (.val (by rfl) (fun W hg => by have hq : ¬ ((n : Int) < 0) := (by omega); first | (go_simp; done) | (go_simp <;> omega))) ?_
  simp only [Act.put, List.setIfInBounds_toArray, List.set_cons_zero, List.set_cons_succ]
  refine wpG_tk (some 9) (v := .bool false) rfl (.val (by rfl) (fun _ _ => rfl)) ?_
  simp only [Act.put, List.setIfInBounds_toArray, List.set_cons_zero, List.set_cons_succ]
  refine wpG_tk (some 10) (v := .int .i64 (n : Int)) rfl (.val (by rfl) (fun _ _ => rfl)) ?_
  simp only [Act.put, List.setIfInBounds_toArray, List.set_cons_zero, List.set_cons_succ]
  refine wpG_tk (some 11) (v := .bool false) rfl (.val (by rfl) (fun W hg => by have hq : ¬ ((n : Int) ≥ 4398046511104) := (by omega); first | (go_simp; done) | (go_simp <;> omega))) ?_
  simp only [Act.put, List.setIfInBounds_toArray, List.set_cons_zero, List.set_cons_succ]
  refine wpG_tk (some 12) (v := .bool false) rfl (.val (by rfl) (fun W hg => by go_simp)) ?_
  simp only [Act.put, List.setIfInBounds_toArray, List.set_cons_zero, List.set_cons_succ]
  refine wpG_done (fun V1 hv2 => ?_)
  have GC3 := Lib.hid hv2
  clear hv2
  go_upto_region 3 with fail
  refine wpG_region ?_
  refine wpG_val (some 4) rfl (by rfl) (fun W4 hg5 => ⟨.pointer (some ⟨W4.heap.size, 0, none⟩), W4.alloc (.cells #[.int .i64 0, .int .i64 0, .int .i64 0] 57), by (go_simp <;> rfl), ?_⟩)
  simp only [Act.put, List.setIfInBounds_toArray, List.set_cons_zero, List.set_cons_succ]
  refine wpG_done (fun V6 hv7 => ?_)
  have l9 : w.heap.size < W4.heap.size := (R0.out.below (GC3.out.trans hg5)).lt
  have l10 : w.heap.size ≤ W4.heap.size := (Gr.to G0.out (GC3.out.trans hg5)).size
  have R11 := Lib.hid (R0.out.below (((GC3.out.trans hg5).trans (Gr.al W4 (.cells #[.int .i64 0, .int .i64 0, .int .i64 0] 57))).trans hv7))
  have R12 := Lib.hid ((Row.newl W4 [.int .i64 0, .int .i64 0, .int .i64 0] 57).below hv7)
  have G8 := Lib.hid (Gr.to G0.out (((GC3.out.trans hg5).trans (Gr.al W4 (.cells #[.int .i64 0, .int .i64 0, .int .i64 0] 57))).trans hv7))
  clear hv7
  obtain ⟨q, hq⟩ : ∃ q, q = W4.heap.size := ⟨_, rfl⟩
  have hql : w.heap.size < q := by omega
  have RQ := R12.out
  rw [← hq] at RQ
  have RX := Lib.hid RQ
  rw [← hq]
  have HQ := Lib.hid hq
  clear hq RQ
  go_upto_region 4 with fail
  refine wpG_region ?_
  refine wpG_tk (some 14) (v := .int .i64 0) rfl (.val (by rfl) (fun _ _ => rfl)) ?_
  simp only [Act.put, List.setIfInBounds_toArray, List.set_cons_zero, List.set_cons_succ]
  refine wpG_done (fun V13 hv14 => ?_)
  have GC15 := Lib.hid hv14
  clear hv14
  go_wp2_with fail
  refine wp_loop_rounds 4 ?_
  rw [rounds_succ]
  go_upto_region 5 with fail
  refine wpG_region ?_
  refine wpG_tk (some 15) (v := .bool true) rfl (.val (by rfl) (fun W hg => by go_simp)) ?_
  simp only [Act.put, List.setIfInBounds_toArray, List.set_cons_zero, List.set_cons_succ]
  refine wpG_done (fun V16 hv17 => ?_)
  have GC18 := Lib.hid (GC15.out.trans hv17)
  clear hv17
  go_upto_region 6 with fail
  refine wpG_region ?_
  refine wpG_tk (some 16) (v := .int .i64 0) rfl (.val (by rfl) (fun _ _ => rfl)) ?_
  simp only [Act.put, List.setIfInBounds_toArray, List.set_cons_zero, List.set_cons_succ]
  refine wpG_tk (some 5) (v := .int .i64 0) rfl (.val (by rfl) (fun _ _ => rfl)) ?_
  simp only [Act.put, List.setIfInBounds_toArray, List.set_cons_zero, List.set_cons_succ]
  refine wpG_done (fun V19 hv20 => ?_)
  have GC21 := Lib.hid (GC18.out.trans hv20)
  clear hv20
  go_upto_region 7 with fail
  refine wpG_region ?_
  refine wpG_tk (some 17) (v := .int .i64 0) rfl (.val (by rfl) (fun _ _ => rfl)) ?_
  simp only [Act.put, List.setIfInBounds_toArray, List.set_cons_zero, List.set_cons_succ]
  refine wpG_done (fun V22 hv23 => ?_)
  have GC24 := Lib.hid (GC21.out.trans hv23)
  clear hv23
  go_wp2_with fail
  go_loopw [17] (fun i wr => ∃ k : Nat, i = .int .i64 (k : Int) ∧ k ≤ 14 ∧ Row q [.int .i64 ((Mo.D k (n / 2 ^ 0) : Nat) : Int), .int .i64 0, .int .i64 0] wr ∧ Row w.heap.size [.int .i64 0, .int .i64 0, .int .i64 0] wr ∧ Below w.heap.size w wr) (fun i _ => 14 - (intOf i).toNat)
  case atStart => exact ⟨0, rfl, by omega, RX.out.below GC24.out, R11.out.below GC24.out, Gr.to G8.out GC24.out⟩
  case round =>
    obtain ⟨k, rfl, hk, hR, hR0, hG⟩ := hrel
    have HG0 := Lib.hid hG
    have HR00 := Lib.hid hR0
    clear hG hR0
    have hlt := Mo.D_lt k (n / 2 ^ 0)
    have hp : 2 ^ k ≤ 2 ^ 14 := Nat.pow_le_pow_right (by decide) (by omega)
    have hst := Mo.D_or n 0 k
    by_cases hlt14 : k < 14
    · skip
      obtain ⟨m, hm⟩ : ∃ m, m = Mo.D k (n / 2 ^ 0) := ⟨_, rfl⟩
      rw [← hm] at hst hlt hR
      have hm14 : m < 16384 := Nat.lt_of_lt_of_le hlt hp
      obtain ⟨bt, hbt⟩ : ∃ bt, bt = n / 2 ^ (3 * k + 0) % 2 := ⟨_, rfl⟩
      have hb2 : bt < 2 := by rw [hbt]; exact Nat.mod_lt _ (by decide)
      rw [← hbt] at hst
      obtain ⟨sh, hsh⟩ : ∃ sh, sh = bt * 2 ^ k := ⟨_, rfl⟩
      have hs2 : sh < 2 ^ 60 := by rw [hsh]; exact Nat.lt_of_le_of_lt (Nat.mul_le_mul (show bt ≤ 1 by omega) (Nat.pow_le_pow_right (by decide) (show k ≤ 44 by omega))) (by decide)
      rw [← hsh] at hst
      have HT := Lib.hid hst
      have HB := Lib.hid hbt
      have HC := Lib.hid hsh
      have HR := Lib.hid hR
      clear hbt hsh hst hm hlt hp hR
      go_upto_region 8 with fail
      refine wpG_region ?_
      refine wpG_tk (some 18) (v := .bool true) rfl (.val (by rfl) (fun W hg => by have hq : ((k : Int) < 14) := (by omega); first | (go_simp; done) | (go_simp <;> omega))) ?_
      simp only [Act.put, List.setIfInBounds_toArray, List.set_cons_zero, List.set_cons_succ]
      refine wpG_done (fun V25 hv26 => ?_)
      have GC27 := Lib.hid hv26
      clear hv26
      go_upto_region 9 with fail
      refine wpG_region ?_
      refine wpG_tk (some 19) (v := .int .i64 (k : Int)) rfl (.val (by rfl) (fun _ _ => rfl)) ?_
      simp only [Act.put, List.setIfInBounds_toArray, List.set_cons_zero, List.set_cons_succ]
      refine wpG_tk (some 6) (v := .int .i64 (k : Int)) rfl (.val (by rfl) (fun _ _ => rfl)) ?_
      simp only [Act.put, List.setIfInBounds_toArray, List.set_cons_zero, List.set_cons_succ]
      refine wpG_done (fun V28 hv29 => ?_)
      have GC30 := Lib.hid (GC27.out.trans hv29)
      clear hv29
      go_upto_region 10 with fail
      refine wpK_region (by kernel_rfl) ?_
      refine wpK_ta (i := 0) (some 20) (v := .int .i64 0) rfl rfl (by kernel_rfl) (fun _ _ _ h => h) (Or.inl ⟨rfl, fun _ => rfl⟩) ?_
      simp only [Act.put, List.setIfInBounds_toArray, List.set_cons_zero, List.set_cons_succ]
      refine wpK_ta (i := 1) (some 21) (v := .pointer (some ⟨q, 0, none⟩)) rfl rfl (by kernel_rfl) (fun _ _ _ h => h) (Or.inl ⟨by rfl, fun W => by go_simp⟩) ?_
      simp only [Act.put, List.setIfInBounds_toArray, List.set_cons_zero, List.set_cons_succ]
      refine wpK_tk (i := 2) (some 22) (v := .int .i64 (m : Int)) rfl rfl (by kernel_rfl) (fun _ _ _ h => h) (.val (by rfl) (fun W hg => by have c := (HR.out.below (GC30.out.trans (Gr.un hg)) 0 _ rfl).1; go_simp)) ?_
      simp only [Act.put, List.setIfInBounds_toArray, List.set_cons_zero, List.set_cons_succ]
      refine wpK_ta (i := 3) (some 23) (v := .int .i64 (n : Int)) rfl rfl (by kernel_rfl) (fun _ _ _ h => h) (Or.inl ⟨rfl, fun _ => rfl⟩) ?_
      simp only [Act.put, List.setIfInBounds_toArray, List.set_cons_zero, List.set_cons_succ]
      refine wpK_ta (i := 4) (some 24) (v := .int .i64 (k : Int)) rfl rfl (by kernel_rfl) (fun _ _ _ h => h) (Or.inl ⟨rfl, fun _ => rfl⟩) ?_
      simp only [Act.put, List.setIfInBounds_toArray, List.set_cons_zero, List.set_cons_succ]
      refine wpK_ta (i := 5) (some 25) (v := .int .i64 (3 * (k : Int))) rfl rfl (by kernel_rfl) (fun _ _ _ h => h) (Or.inl ⟨by rfl, fun W => by (first | (go_simp; done) | (go_simp; rw [IntWalk.i64_in _ (by omega)]))⟩) ?_
      simp only [Act.put, List.setIfInBounds_toArray, List.set_cons_zero, List.set_cons_succ]
      refine wpK_ta (i := 6) (some 26) (v := .int .i64 0) rfl rfl (by kernel_rfl) (fun _ _ _ h => h) (Or.inl ⟨rfl, fun _ => rfl⟩) ?_
      simp only [Act.put, List.setIfInBounds_toArray, List.set_cons_zero, List.set_cons_succ]
      refine wpK_ta (i := 7) (some 27) (v := .int .i64 (3 * (k : Int))) rfl rfl (by kernel_rfl) (fun _ _ _ h => h) (Or.inl ⟨by rfl, fun W => by (first | (go_simp; done) | (go_simp; rw [IntWalk.i64_in _ (by omega)]))⟩) ?_
      simp only [Act.put, List.setIfInBounds_toArray, List.set_cons_zero, List.set_cons_succ]
      refine wpK_ta (i := 8) (some 28) (v := .int .i64 ((n : Int) / 2 ^ (3 * k))) rfl rfl (by kernel_rfl) (fun _ _ _ h => h) (Or.inl ⟨by rfl, fun W => by go_simp; rw [show (3 * (k : Int)).toNat = 3 * k by omega]⟩) ?_
      simp only [Act.put, List.setIfInBounds_toArray, List.set_cons_zero, List.set_cons_succ]
      refine wpK_ta (i := 9) (some 29) (v := .int .i64 (bt : Int)) rfl rfl (by kernel_rfl) (fun _ _ _ h => h) (Or.inl ⟨by rfl, fun W => by go_simp; rw [HB.out]; exact shr1 _ _ (by omega)⟩) ?_
      simp only [Act.put, List.setIfInBounds_toArray, List.set_cons_zero, List.set_cons_succ]
      refine wpK_ta (i := 10) (some 30) (v := .int .i64 (k : Int)) rfl rfl (by kernel_rfl) (fun _ _ _ h => h) (Or.inl ⟨rfl, fun _ => rfl⟩) ?_
      simp only [Act.put, List.setIfInBounds_toArray, List.set_cons_zero, List.set_cons_succ]
      refine wpK_ta (i := 11) (some 31) (v := .int .i64 (sh : Int)) rfl rfl (by kernel_rfl) (fun _ _ _ h => h) (Or.inl ⟨by rfl, fun W => by go_simp; rw [HC.out]; exact shl_bit bt k hb2 (by omega)⟩) ?_
      simp only [Act.put, List.setIfInBounds_toArray, List.set_cons_zero, List.set_cons_succ]
      refine wpK_ta (i := 12) (some 32) (v := .int .i64 ((m ||| sh : Nat) : Int)) rfl rfl (by kernel_rfl) (fun _ _ _ h => h) (Or.inl ⟨by rfl, fun W => by go_simp; exact bits_or_i64 _ _ (by omega) (by omega)⟩) ?_
      simp only [Act.put, List.setIfInBounds_toArray, List.set_cons_zero, List.set_cons_succ]
      refine wpK_ta (i := 13) (some 33) (v := .pointer (some ⟨q, 0, none⟩)) rfl rfl (by kernel_rfl) (fun _ _ _ h => h) (Or.inl ⟨by rfl, fun W => by go_simp⟩) ?_
      simp only [Act.put, List.setIfInBounds_toArray, List.set_cons_zero, List.set_cons_succ]
      refine wpK_store (i := 14) (none) rfl rfl (by kernel_rfl) (by rfl) (by rfl) (fun W31 hg32 => ⟨W31.setCell ⟨q, 0, none⟩ (.int .i64 ((m ||| sh : Nat) : Int)), by have c := (HR.out.below (GC30.out.trans (Gr.un hg32))).cellx 0 _ rfl; have c2 := (HR.out.below (GC30.out.trans (Gr.un hg32))).softx 0 _ rfl; go_simp, ?_⟩)
      simp only [Act.put]
      refine wpK_done (by kernel_rfl) (fun V33 hv34 => ?_) _
      have R36 := Lib.hid (((HR00.out.below (GC30.out.trans (Gr.un hg32))).far (b := q) (by omega) 0 [.int .i64 ((m ||| sh : Nat) : Int)]).below hv34)
      have R37 : Hid (Row q [.int .i64 ((m ||| sh : Nat) : Int), .int .i64 0, .int .i64 0] V33) := Lib.hid (((HR.out.below (GC30.out.trans (Gr.un hg32))).set 0 (.int .i64 ((m ||| sh : Nat) : Int)) (by simp)).below hv34)
      have G35 := Lib.hid (Gr.put1 HG0.out (GC30.out.trans (Gr.un hg32)) (by omega) hv34)
      clear hg32 hv34
      go_upto_region 11 with fail
      refine wpG_region ?_
      refine wpG_tk (some 34) (v := .int .i64 ((k : Int) + 1)) rfl (.val (by rfl) (fun W hg => by (first | (go_simp; done) | (go_simp; rw [IntWalk.i64_in _ (by omega)])))) ?_
      simp only [Act.put, List.setIfInBounds_toArray, List.set_cons_zero, List.set_cons_succ]
      refine wpG_tk (some 17) (v := .int .i64 ((k : Int) + 1)) rfl (.val (by rfl) (fun _ _ => rfl)) ?_
      simp only [Act.put, List.setIfInBounds_toArray, List.set_cons_zero, List.set_cons_succ]
      refine wpG_done (fun V38 hv39 => ?_)
      have GC40 := Lib.hid hv39
      clear hv39
      have hR := R37.out
      rw [HT.out] at hR
      have HRN := Lib.hid hR
      clear hR
      go_wp2_with fail
      go_roundw
      case rel => exact ⟨k + 1, by go_num, by omega, HRN.out.below GC40.out, R36.out.below GC40.out, Gr.to G35.out GC40.out⟩
      case measure => first | (simp [intOf]; done) | (simp [intOf]; omega)
    · obtain rfl : k = 14 := by omega
      have HR0 := Lib.hid hR
      clear hk hlt14 hst hlt hp hR
      go_upto_region 8 with fail
      refine wpG_region ?_
      refine wpG_tk (some 18) (v := .bool false) rfl (.val (by rfl) (fun W hg => by go_simp)) ?_
      simp only [Act.put, List.setIfInBounds_toArray, List.set_cons_zero, List.set_cons_succ]
      refine wpG_done (fun V41 hv42 => ?_)
      have GC43 := Lib.hid hv42
      clear hv42
      go_upto_region 12 with fail
      refine wpG_region ?_
      refine wpG_tk (some 35) (v := .int .i64 1) rfl (.val (by rfl) (fun W hg => by go_simp <;> rfl)) ?_
      simp only [Act.put, List.setIfInBounds_toArray, List.set_cons_zero, List.set_cons_succ]
      refine wpG_tk (some 14) (v := .int .i64 1) rfl (.val (by rfl) (fun _ _ => rfl)) ?_
      simp only [Act.put, List.setIfInBounds_toArray, List.set_cons_zero, List.set_cons_succ]
      refine wpG_done (fun V44 hv45 => ?_)
      have GC46 := Lib.hid (GC43.out.trans hv45)
      clear hv45
      go_wp2_with fail
      rw [rounds_succ]
      go_upto_region 5 with fail
      refine wpG_region ?_
      refine wpG_tk (some 15) (v := .bool true) rfl (.val (by rfl) (fun W hg => by go_simp)) ?_
      simp only [Act.put, List.setIfInBounds_toArray, List.set_cons_zero, List.set_cons_succ]
      refine wpG_done (fun V47 hv48 => ?_)
      have GC49 := Lib.hid (GC46.out.trans hv48)
      clear hv48
      go_upto_region 6 with fail
      refine wpG_region ?_
      refine wpG_tk (some 16) (v := .int .i64 1) rfl (.val (by rfl) (fun _ _ => rfl)) ?_
      simp only [Act.put, List.setIfInBounds_toArray, List.set_cons_zero, List.set_cons_succ]
      refine wpG_tk (some 5) (v := .int .i64 1) rfl (.val (by rfl) (fun _ _ => rfl)) ?_
      simp only [Act.put, List.setIfInBounds_toArray, List.set_cons_zero, List.set_cons_succ]
      refine wpG_done (fun V50 hv51 => ?_)
      have GC52 := Lib.hid (GC49.out.trans hv51)
      clear hv51
      go_upto_region 7 with fail
      refine wpG_region ?_
      refine wpG_tk (some 17) (v := .int .i64 0) rfl (.val (by rfl) (fun _ _ => rfl)) ?_
      simp only [Act.put, List.setIfInBounds_toArray, List.set_cons_zero, List.set_cons_succ]
      refine wpG_done (fun V53 hv54 => ?_)
      have GC55 := Lib.hid (GC52.out.trans hv54)
      clear hv54
      go_wp2_with fail
      go_loopw [17] (fun i wr => ∃ k : Nat, i = .int .i64 (k : Int) ∧ k ≤ 14 ∧ Row q [.int .i64 ((Mo.D 14 (n / 2 ^ 0) : Nat) : Int), .int .i64 ((Mo.D k (n / 2 ^ 1) : Nat) : Int), .int .i64 0] wr ∧ Row w.heap.size [.int .i64 0, .int .i64 0, .int .i64 0] wr ∧ Below w.heap.size w wr) (fun i _ => 14 - (intOf i).toNat)
      case atStart => exact ⟨0, rfl, by omega, HR0.out.below GC55.out, HR00.out.below GC55.out, Gr.to HG0.out GC55.out⟩
      case round =>
        obtain ⟨k, rfl, hk, hR, hR0, hG⟩ := hrel
        have HG1 := Lib.hid hG
        have HR01 := Lib.hid hR0
        clear hG hR0
        have hlt := Mo.D_lt k (n / 2 ^ 1)
        have hp : 2 ^ k ≤ 2 ^ 14 := Nat.pow_le_pow_right (by decide) (by omega)
        have hst := Mo.D_or n 1 k
        by_cases hlt14 : k < 14
        · skip
          obtain ⟨m, hm⟩ : ∃ m, m = Mo.D k (n / 2 ^ 1) := ⟨_, rfl⟩
          rw [← hm] at hst hlt hR
          have hm14 : m < 16384 := Nat.lt_of_lt_of_le hlt hp
          obtain ⟨bt, hbt⟩ : ∃ bt, bt = n / 2 ^ (3 * k + 1) % 2 := ⟨_, rfl⟩
          have hb2 : bt < 2 := by rw [hbt]; exact Nat.mod_lt _ (by decide)
          rw [← hbt] at hst
          obtain ⟨sh, hsh⟩ : ∃ sh, sh = bt * 2 ^ k := ⟨_, rfl⟩
          have hs2 : sh < 2 ^ 60 := by rw [hsh]; exact Nat.lt_of_le_of_lt (Nat.mul_le_mul (show bt ≤ 1 by omega) (Nat.pow_le_pow_right (by decide) (show k ≤ 44 by omega))) (by decide)
          rw [← hsh] at hst
          have HT := Lib.hid hst
          have HB := Lib.hid hbt
          have HC := Lib.hid hsh
          have HR := Lib.hid hR
          clear hbt hsh hst hm hlt hp hR
          go_upto_region 8 with fail
          refine wpG_region ?_
          refine wpG_tk (some 18) (v := .bool true) rfl (.val (by rfl) (fun W hg => by have hq : ((k : Int) < 14) := (by omega); first | (go_simp; done) | (go_simp <;> omega))) ?_
          simp only [Act.put, List.setIfInBounds_toArray, List.set_cons_zero, List.set_cons_succ]
          refine wpG_done (fun V56 hv57 => ?_)
          have GC58 := Lib.hid hv57
          clear hv57
          go_upto_region 9 with fail
          refine wpG_region ?_
          refine wpG_tk (some 19) (v := .int .i64 (k : Int)) rfl (.val (by rfl) (fun _ _ => rfl)) ?_
          simp only [Act.put, List.setIfInBounds_toArray, List.set_cons_zero, List.set_cons_succ]
          refine wpG_tk (some 6) (v := .int .i64 (k : Int)) rfl (.val (by rfl) (fun _ _ => rfl)) ?_
          simp only [Act.put, List.setIfInBounds_toArray, List.set_cons_zero, List.set_cons_succ]
          refine wpG_done (fun V59 hv60 => ?_)
          have GC61 := Lib.hid (GC58.out.trans hv60)
          clear hv60
          go_upto_region 10 with fail
          refine wpK_region (by kernel_rfl) ?_
          refine wpK_ta (i := 0) (some 20) (v := .int .i64 1) rfl rfl (by kernel_rfl) (fun _ _ _ h => h) (Or.inl ⟨rfl, fun _ => rfl⟩) ?_
          simp only [Act.put, List.setIfInBounds_toArray, List.set_cons_zero, List.set_cons_succ]
          refine wpK_ta (i := 1) (some 21) (v := .pointer (some ⟨q, 1, none⟩)) rfl rfl (by kernel_rfl) (fun _ _ _ h => h) (Or.inl ⟨by rfl, fun W => by go_simp⟩) ?_
          simp only [Act.put, List.setIfInBounds_toArray, List.set_cons_zero, List.set_cons_succ]
          refine wpK_tk (i := 2) (some 22) (v := .int .i64 (m : Int)) rfl rfl (by kernel_rfl) (fun _ _ _ h => h) (.val (by rfl) (fun W hg => by have c := (HR.out.below (GC61.out.trans (Gr.un hg)) 1 _ rfl).1; go_simp)) ?_
          simp only [Act.put, List.setIfInBounds_toArray, List.set_cons_zero, List.set_cons_succ]
          refine wpK_ta (i := 3) (some 23) (v := .int .i64 (n : Int)) rfl rfl (by kernel_rfl) (fun _ _ _ h => h) (Or.inl ⟨rfl, fun _ => rfl⟩) ?_
          simp only [Act.put, List.setIfInBounds_toArray, List.set_cons_zero, List.set_cons_succ]
          refine wpK_ta (i := 4) (some 24) (v := .int .i64 (k : Int)) rfl rfl (by kernel_rfl) (fun _ _ _ h => h) (Or.inl ⟨rfl, fun _ => rfl⟩) ?_
          simp only [Act.put, List.setIfInBounds_toArray, List.set_cons_zero, List.set_cons_succ]
          refine wpK_ta (i := 5) (some 25) (v := .int .i64 (3 * (k : Int))) rfl rfl (by kernel_rfl) (fun _ _ _ h => h) (Or.inl ⟨by rfl, fun W => by (first | (go_simp; done) | (go_simp; rw [IntWalk.i64_in _ (by omega)]))⟩) ?_
          simp only [Act.put, List.setIfInBounds_toArray, List.set_cons_zero, List.set_cons_succ]
          refine wpK_ta (i := 6) (some 26) (v := .int .i64 1) rfl rfl (by kernel_rfl) (fun _ _ _ h => h) (Or.inl ⟨rfl, fun _ => rfl⟩) ?_
          simp only [Act.put, List.setIfInBounds_toArray, List.set_cons_zero, List.set_cons_succ]
          refine wpK_ta (i := 7) (some 27) (v := .int .i64 (3 * (k : Int) + 1)) rfl rfl (by kernel_rfl) (fun _ _ _ h => h) (Or.inl ⟨by rfl, fun W => by (first | (go_simp; done) | (go_simp; rw [IntWalk.i64_in _ (by omega)]))⟩) ?_
          simp only [Act.put, List.setIfInBounds_toArray, List.set_cons_zero, List.set_cons_succ]
          refine wpK_ta (i := 8) (some 28) (v := .int .i64 ((n : Int) / 2 ^ (3 * k + 1))) rfl rfl (by kernel_rfl) (fun _ _ _ h => h) (Or.inl ⟨by rfl, fun W => by go_simp; rw [show (3 * (k : Int) + 1).toNat = 3 * k + 1 by omega]⟩) ?_
          simp only [Act.put, List.setIfInBounds_toArray, List.set_cons_zero, List.set_cons_succ]
          refine wpK_ta (i := 9) (some 29) (v := .int .i64 (bt : Int)) rfl rfl (by kernel_rfl) (fun _ _ _ h => h) (Or.inl ⟨by rfl, fun W => by go_simp; rw [HB.out]; exact shr1 _ _ (by omega)⟩) ?_
          simp only [Act.put, List.setIfInBounds_toArray, List.set_cons_zero, List.set_cons_succ]
          refine wpK_ta (i := 10) (some 30) (v := .int .i64 (k : Int)) rfl rfl (by kernel_rfl) (fun _ _ _ h => h) (Or.inl ⟨rfl, fun _ => rfl⟩) ?_
          simp only [Act.put, List.setIfInBounds_toArray, List.set_cons_zero, List.set_cons_succ]
          refine wpK_ta (i := 11) (some 31) (v := .int .i64 (sh : Int)) rfl rfl (by kernel_rfl) (fun _ _ _ h => h) (Or.inl ⟨by rfl, fun W => by go_simp; rw [HC.out]; exact shl_bit bt k hb2 (by omega)⟩) ?_
          simp only [Act.put, List.setIfInBounds_toArray, List.set_cons_zero, List.set_cons_succ]
          refine wpK_ta (i := 12) (some 32) (v := .int .i64 ((m ||| sh : Nat) : Int)) rfl rfl (by kernel_rfl) (fun _ _ _ h => h) (Or.inl ⟨by rfl, fun W => by go_simp; exact bits_or_i64 _ _ (by omega) (by omega)⟩) ?_
          simp only [Act.put, List.setIfInBounds_toArray, List.set_cons_zero, List.set_cons_succ]
          refine wpK_ta (i := 13) (some 33) (v := .pointer (some ⟨q, 1, none⟩)) rfl rfl (by kernel_rfl) (fun _ _ _ h => h) (Or.inl ⟨by rfl, fun W => by go_simp⟩) ?_
          simp only [Act.put, List.setIfInBounds_toArray, List.set_cons_zero, List.set_cons_succ]
          refine wpK_store (i := 14) (none) rfl rfl (by kernel_rfl) (by rfl) (by rfl) (fun W62 hg63 => ⟨W62.setCell ⟨q, 1, none⟩ (.int .i64 ((m ||| sh : Nat) : Int)), by have c := (HR.out.below (GC61.out.trans (Gr.un hg63))).cellx 1 _ rfl; have c2 := (HR.out.below (GC61.out.trans (Gr.un hg63))).softx 1 _ rfl; go_simp, ?_⟩)
          simp only [Act.put]
          refine wpK_done (by kernel_rfl) (fun V64 hv65 => ?_) _
          have R67 := Lib.hid (((HR01.out.below (GC61.out.trans (Gr.un hg63))).far (b := q) (by omega) 1 [.int .i64 ((m ||| sh : Nat) : Int)]).below hv65)
          have R68 : Hid (Row q [.int .i64 ((Mo.D 14 (n / 2 ^ 0) : Nat) : Int), .int .i64 ((m ||| sh : Nat) : Int), .int .i64 0] V64) := Lib.hid (((HR.out.below (GC61.out.trans (Gr.un hg63))).set 1 (.int .i64 ((m ||| sh : Nat) : Int)) (by simp)).below hv65)
          have G66 := Lib.hid (Gr.put1 HG1.out (GC61.out.trans (Gr.un hg63)) (by omega) hv65)
          clear hg63 hv65
          go_upto_region 11 with fail
          refine wpG_region ?_
          refine wpG_tk (some 34) (v := .int .i64 ((k : Int) + 1)) rfl (.val (by rfl) (fun W hg => by (first | (go_simp; done) | (go_simp; rw [IntWalk.i64_in _ (by omega)])))) ?_
          simp only [Act.put, List.setIfInBounds_toArray, List.set_cons_zero, List.set_cons_succ]
          refine wpG_tk (some 17) (v := .int .i64 ((k : Int) + 1)) rfl (.val (by rfl) (fun _ _ => rfl)) ?_
          simp only [Act.put, List.setIfInBounds_toArray, List.set_cons_zero, List.set_cons_succ]
          refine wpG_done (fun V69 hv70 => ?_)
          have GC71 := Lib.hid hv70
          clear hv70
          have hR := R68.out
          rw [HT.out] at hR
          have HRN := Lib.hid hR
          clear hR
          go_wp2_with fail
          go_roundw
          case rel => exact ⟨k + 1, by go_num, by omega, HRN.out.below GC71.out, R67.out.below GC71.out, Gr.to G66.out GC71.out⟩
          case measure => first | (simp [intOf]; done) | (simp [intOf]; omega)
        · obtain rfl : k = 14 := by omega
          have HR1 := Lib.hid hR
          clear hk hlt14 hst hlt hp hR
          go_upto_region 8 with fail
          refine wpG_region ?_
          refine wpG_tk (some 18) (v := .bool false) rfl (.val (by rfl) (fun W hg => by go_simp)) ?_
          simp only [Act.put, List.setIfInBounds_toArray, List.set_cons_zero, List.set_cons_succ]
          refine wpG_done (fun V72 hv73 => ?_)
          have GC74 := Lib.hid hv73
          clear hv73
          go_upto_region 12 with fail
          refine wpG_region ?_
          refine wpG_tk (some 35) (v := .int .i64 2) rfl (.val (by rfl) (fun W hg => by go_simp <;> rfl)) ?_
          simp only [Act.put, List.setIfInBounds_toArray, List.set_cons_zero, List.set_cons_succ]
          refine wpG_tk (some 14) (v := .int .i64 2) rfl (.val (by rfl) (fun _ _ => rfl)) ?_
          simp only [Act.put, List.setIfInBounds_toArray, List.set_cons_zero, List.set_cons_succ]
          refine wpG_done (fun V75 hv76 => ?_)
          have GC77 := Lib.hid (GC74.out.trans hv76)
          clear hv76
          go_wp2_with fail
          rw [rounds_succ]
          go_upto_region 5 with fail
          refine wpG_region ?_
          refine wpG_tk (some 15) (v := .bool true) rfl (.val (by rfl) (fun W hg => by go_simp)) ?_
          simp only [Act.put, List.setIfInBounds_toArray, List.set_cons_zero, List.set_cons_succ]
          refine wpG_done (fun V78 hv79 => ?_)
          have GC80 := Lib.hid (GC77.out.trans hv79)
          clear hv79
          go_upto_region 6 with fail
          refine wpG_region ?_
          refine wpG_tk (some 16) (v := .int .i64 2) rfl (.val (by rfl) (fun _ _ => rfl)) ?_
          simp only [Act.put, List.setIfInBounds_toArray, List.set_cons_zero, List.set_cons_succ]
          refine wpG_tk (some 5) (v := .int .i64 2) rfl (.val (by rfl) (fun _ _ => rfl)) ?_
          simp only [Act.put, List.setIfInBounds_toArray, List.set_cons_zero, List.set_cons_succ]
          refine wpG_done (fun V81 hv82 => ?_)
          have GC83 := Lib.hid (GC80.out.trans hv82)
          clear hv82
          go_upto_region 7 with fail
          refine wpG_region ?_
          refine wpG_tk (some 17) (v := .int .i64 0) rfl (.val (by rfl) (fun _ _ => rfl)) ?_
          simp only [Act.put, List.setIfInBounds_toArray, List.set_cons_zero, List.set_cons_succ]
          refine wpG_done (fun V84 hv85 => ?_)
          have GC86 := Lib.hid (GC83.out.trans hv85)
          clear hv85
          go_wp2_with fail
          go_loopw [17] (fun i wr => ∃ k : Nat, i = .int .i64 (k : Int) ∧ k ≤ 14 ∧ Row q [.int .i64 ((Mo.D 14 (n / 2 ^ 0) : Nat) : Int), .int .i64 ((Mo.D 14 (n / 2 ^ 1) : Nat) : Int), .int .i64 ((Mo.D k (n / 2 ^ 2) : Nat) : Int)] wr ∧ Row w.heap.size [.int .i64 0, .int .i64 0, .int .i64 0] wr ∧ Below w.heap.size w wr) (fun i _ => 14 - (intOf i).toNat)
          case atStart => exact ⟨0, rfl, by omega, HR1.out.below GC86.out, HR01.out.below GC86.out, Gr.to HG1.out GC86.out⟩
          case round =>
            obtain ⟨k, rfl, hk, hR, hR0, hG⟩ := hrel
            have HG2 := Lib.hid hG
            have HR02 := Lib.hid hR0
            clear hG hR0
            have hlt := Mo.D_lt k (n / 2 ^ 2)
            have hp : 2 ^ k ≤ 2 ^ 14 := Nat.pow_le_pow_right (by decide) (by omega)
            have hst := Mo.D_or n 2 k
            by_cases hlt14 : k < 14
            · skip
              obtain ⟨m, hm⟩ : ∃ m, m = Mo.D k (n / 2 ^ 2) := ⟨_, rfl⟩
              rw [← hm] at hst hlt hR
              have hm14 : m < 16384 := Nat.lt_of_lt_of_le hlt hp
              obtain ⟨bt, hbt⟩ : ∃ bt, bt = n / 2 ^ (3 * k + 2) % 2 := ⟨_, rfl⟩
              have hb2 : bt < 2 := by rw [hbt]; exact Nat.mod_lt _ (by decide)
              rw [← hbt] at hst
              obtain ⟨sh, hsh⟩ : ∃ sh, sh = bt * 2 ^ k := ⟨_, rfl⟩
              have hs2 : sh < 2 ^ 60 := by rw [hsh]; exact Nat.lt_of_le_of_lt (Nat.mul_le_mul (show bt ≤ 1 by omega) (Nat.pow_le_pow_right (by decide) (show k ≤ 44 by omega))) (by decide)
              rw [← hsh] at hst
              have HT := Lib.hid hst
              have HB := Lib.hid hbt
              have HC := Lib.hid hsh
              have HR := Lib.hid hR
              clear hbt hsh hst hm hlt hp hR
              go_upto_region 8 with fail
              refine wpG_region ?_
              refine wpG_tk (some 18) (v := .bool true) rfl (.val (by rfl) (fun W hg => by have hq : ((k : Int) < 14) := (by omega); first | (go_simp; done) | (go_simp <;> omega))) ?_
              simp only [Act.put, List.setIfInBounds_toArray, List.set_cons_zero, List.set_cons_succ]
              refine wpG_done (fun V87 hv88 => ?_)
              have GC89 := Lib.hid hv88
              clear hv88
              go_upto_region 9 with fail
              refine wpG_region ?_
              refine wpG_tk (some 19) (v := .int .i64 (k : Int)) rfl (.val (by rfl) (fun _ _ => rfl)) ?_
              simp only [Act.put, List.setIfInBounds_toArray, List.set_cons_zero, List.set_cons_succ]
              refine wpG_tk (some 6) (v := .int .i64 (k : Int)) rfl (.val (by rfl) (fun _ _ => rfl)) ?_
              simp only [Act.put, List.setIfInBounds_toArray, List.set_cons_zero, List.set_cons_succ]
              refine wpG_done (fun V90 hv91 => ?_)
              have GC92 := Lib.hid (GC89.out.trans hv91)
              clear hv91
              go_upto_region 10 with fail
              refine wpK_region (by kernel_rfl) ?_
              refine wpK_ta (i := 0) (some 20) (v := .int .i64 2) rfl rfl (by kernel_rfl) (fun _ _ _ h => h) (Or.inl ⟨rfl, fun _ => rfl⟩) ?_
              simp only [Act.put, List.setIfInBounds_toArray, List.set_cons_zero, List.set_cons_succ]
              refine wpK_ta (i := 1) (some 21) (v := .pointer (some ⟨q, 2, none⟩)) rfl rfl (by kernel_rfl) (fun _ _ _ h => h) (Or.inl ⟨by rfl, fun W => by go_simp⟩) ?_
              simp only [Act.put, List.setIfInBounds_toArray, List.set_cons_zero, List.set_cons_succ]
              refine wpK_tk (i := 2) (some 22) (v := .int .i64 (m : Int)) rfl rfl (by kernel_rfl) (fun _ _ _ h => h) (.val (by rfl) (fun W hg => by have c := (HR.out.below (GC92.out.trans (Gr.un hg)) 2 _ rfl).1; go_simp)) ?_
              simp only [Act.put, List.setIfInBounds_toArray, List.set_cons_zero, List.set_cons_succ]
              refine wpK_ta (i := 3) (some 23) (v := .int .i64 (n : Int)) rfl rfl (by kernel_rfl) (fun _ _ _ h => h) (Or.inl ⟨rfl, fun _ => rfl⟩) ?_
              simp only [Act.put, List.setIfInBounds_toArray, List.set_cons_zero, List.set_cons_succ]
              refine wpK_ta (i := 4) (some 24) (v := .int .i64 (k : Int)) rfl rfl (by kernel_rfl) (fun _ _ _ h => h) (Or.inl ⟨rfl, fun _ => rfl⟩) ?_
              simp only [Act.put, List.setIfInBounds_toArray, List.set_cons_zero, List.set_cons_succ]
              refine wpK_ta (i := 5) (some 25) (v := .int .i64 (3 * (k : Int))) rfl rfl (by kernel_rfl) (fun _ _ _ h => h) (Or.inl ⟨by rfl, fun W => by (first | (go_simp; done) | (go_simp; rw [IntWalk.i64_in _ (by omega)]))⟩) ?_
              simp only [Act.put, List.setIfInBounds_toArray, List.set_cons_zero, List.set_cons_succ]
              refine wpK_ta (i := 6) (some 26) (v := .int .i64 2) rfl rfl (by kernel_rfl) (fun _ _ _ h => h) (Or.inl ⟨rfl, fun _ => rfl⟩) ?_
              simp only [Act.put, List.setIfInBounds_toArray, List.set_cons_zero, List.set_cons_succ]
              refine wpK_ta (i := 7) (some 27) (v := .int .i64 (3 * (k : Int) + 2)) rfl rfl (by kernel_rfl) (fun _ _ _ h => h) (Or.inl ⟨by rfl, fun W => by (first | (go_simp; done) | (go_simp; rw [IntWalk.i64_in _ (by omega)]))⟩) ?_
              simp only [Act.put, List.setIfInBounds_toArray, List.set_cons_zero, List.set_cons_succ]
              refine wpK_ta (i := 8) (some 28) (v := .int .i64 ((n : Int) / 2 ^ (3 * k + 2))) rfl rfl (by kernel_rfl) (fun _ _ _ h => h) (Or.inl ⟨by rfl, fun W => by go_simp; rw [show (3 * (k : Int) + 2).toNat = 3 * k + 2 by omega]⟩) ?_
              simp only [Act.put, List.setIfInBounds_toArray, List.set_cons_zero, List.set_cons_succ]
              refine wpK_ta (i := 9) (some 29) (v := .int .i64 (bt : Int)) rfl rfl (by kernel_rfl) (fun _ _ _ h => h) (Or.inl ⟨by rfl, fun W => by go_simp; rw [HB.out]; exact shr1 _ _ (by omega)⟩) ?_
              simp only [Act.put, List.setIfInBounds_toArray, List.set_cons_zero, List.set_cons_succ]
              refine wpK_ta (i := 10) (some 30) (v := .int .i64 (k : Int)) rfl rfl (by kernel_rfl) (fun _ _ _ h => h) (Or.inl ⟨rfl, fun _ => rfl⟩) ?_
              simp only [Act.put, List.setIfInBounds_toArray, List.set_cons_zero, List.set_cons_succ]
              refine wpK_ta (i := 11) (some 31) (v := .int .i64 (sh : Int)) rfl rfl (by kernel_rfl) (fun _ _ _ h => h) (Or.inl ⟨by rfl, fun W => by go_simp; rw [HC.out]; exact shl_bit bt k hb2 (by omega)⟩) ?_
              simp only [Act.put, List.setIfInBounds_toArray, List.set_cons_zero, List.set_cons_succ]
              refine wpK_ta (i := 12) (some 32) (v := .int .i64 ((m ||| sh : Nat) : Int)) rfl rfl (by kernel_rfl) (fun _ _ _ h => h) (Or.inl ⟨by rfl, fun W => by go_simp; exact bits_or_i64 _ _ (by omega) (by omega)⟩) ?_
              simp only [Act.put, List.setIfInBounds_toArray, List.set_cons_zero, List.set_cons_succ]
              refine wpK_ta (i := 13) (some 33) (v := .pointer (some ⟨q, 2, none⟩)) rfl rfl (by kernel_rfl) (fun _ _ _ h => h) (Or.inl ⟨by rfl, fun W => by go_simp⟩) ?_
              simp only [Act.put, List.setIfInBounds_toArray, List.set_cons_zero, List.set_cons_succ]
              refine wpK_store (i := 14) (none) rfl rfl (by kernel_rfl) (by rfl) (by rfl) (fun W93 hg94 => ⟨W93.setCell ⟨q, 2, none⟩ (.int .i64 ((m ||| sh : Nat) : Int)), by have c := (HR.out.below (GC92.out.trans (Gr.un hg94))).cellx 2 _ rfl; have c2 := (HR.out.below (GC92.out.trans (Gr.un hg94))).softx 2 _ rfl; go_simp, ?_⟩)
              simp only [Act.put]
              refine wpK_done (by kernel_rfl) (fun V95 hv96 => ?_) _
              have R98 := Lib.hid (((HR02.out.below (GC92.out.trans (Gr.un hg94))).far (b := q) (by omega) 2 [.int .i64 ((m ||| sh : Nat) : Int)]).below hv96)
              have R99 : Hid (Row q [.int .i64 ((Mo.D 14 (n / 2 ^ 0) : Nat) : Int), .int .i64 ((Mo.D 14 (n / 2 ^ 1) : Nat) : Int), .int .i64 ((m ||| sh : Nat) : Int)] V95) := Lib.hid (((HR.out.below (GC92.out.trans (Gr.un hg94))).set 2 (.int .i64 ((m ||| sh : Nat) : Int)) (by simp)).below hv96)
              have G97 := Lib.hid (Gr.put1 HG2.out (GC92.out.trans (Gr.un hg94)) (by omega) hv96)
              clear hg94 hv96
              go_upto_region 11 with fail
              refine wpG_region ?_
              refine wpG_tk (some 34) (v := .int .i64 ((k : Int) + 1)) rfl (.val (by rfl) (fun W hg => by (first | (go_simp; done) | (go_simp; rw [IntWalk.i64_in _ (by omega)])))) ?_
              simp only [Act.put, List.setIfInBounds_toArray, List.set_cons_zero, List.set_cons_succ]
              refine wpG_tk (some 17) (v := .int .i64 ((k : Int) + 1)) rfl (.val (by rfl) (fun _ _ => rfl)) ?_
              simp only [Act.put, List.setIfInBounds_toArray, List.set_cons_zero, List.set_cons_succ]
              refine wpG_done (fun V100 hv101 => ?_)
              have GC102 := Lib.hid hv101
              clear hv101
              have hR := R99.out
              rw [HT.out] at hR
              have HRN := Lib.hid hR
              clear hR
              go_wp2_with fail
              go_roundw
              case rel => exact ⟨k + 1, by go_num, by omega, HRN.out.below GC102.out, R98.out.below GC102.out, Gr.to G97.out GC102.out⟩
              case measure => first | (simp [intOf]; done) | (simp [intOf]; omega)
            · obtain rfl : k = 14 := by omega
              have HR2 := Lib.hid hR
              clear hk hlt14 hst hlt hp hR
              go_upto_region 8 with fail
              refine wpG_region ?_
              refine wpG_tk (some 18) (v := .bool false) rfl (.val (by rfl) (fun W hg => by go_simp)) ?_
              simp only [Act.put, List.setIfInBounds_toArray, List.set_cons_zero, List.set_cons_succ]
              refine wpG_done (fun V103 hv104 => ?_)
              have GC105 := Lib.hid hv104
              clear hv104
              go_upto_region 12 with fail
              refine wpG_region ?_
              refine wpG_tk (some 35) (v := .int .i64 3) rfl (.val (by rfl) (fun W hg => by go_simp <;> rfl)) ?_
              simp only [Act.put, List.setIfInBounds_toArray, List.set_cons_zero, List.set_cons_succ]
              refine wpG_tk (some 14) (v := .int .i64 3) rfl (.val (by rfl) (fun _ _ => rfl)) ?_
              simp only [Act.put, List.setIfInBounds_toArray, List.set_cons_zero, List.set_cons_succ]
              refine wpG_done (fun V106 hv107 => ?_)
              have GC108 := Lib.hid (GC105.out.trans hv107)
              clear hv107
              go_wp2_with fail
              rw [rounds_succ]
              go_upto_region 5 with fail
              refine wpG_region ?_
              refine wpG_tk (some 15) (v := .bool false) rfl (.val (by rfl) (fun W hg => by go_simp)) ?_
              simp only [Act.put, List.setIfInBounds_toArray, List.set_cons_zero, List.set_cons_succ]
              refine wpG_done (fun V109 hv110 => ?_)
              have GC111 := Lib.hid (GC108.out.trans hv110)
              clear hv110
              go_upto_region 13 with fail
              refine wpG_region ?_
              refine wpG_tk (some 36) (v := .agg #[.int .i64 ((Mo.D 14 (n / 2 ^ 0) : Nat) : Int), .int .i64 ((Mo.D 14 (n / 2 ^ 1) : Nat) : Int), .int .i64 ((Mo.D 14 (n / 2 ^ 2) : Nat) : Int)]) rfl (.load_mid (by rfl) 57 (.tmp 4) rfl (q) 0 rfl [.int .i64 ((Mo.D 14 (n / 2 ^ 0) : Nat) : Int), .int .i64 ((Mo.D 14 (n / 2 ^ 1) : Nat) : Int), .int .i64 ((Mo.D 14 (n / 2 ^ 2) : Nat) : Int)] _ (fun W hg => (HR2.out.below (GC111.out.trans hg)).range) Try.underlying57 rfl (by kernel_rfl)) ?_
              simp only [Act.put, List.setIfInBounds_toArray, List.set_cons_zero, List.set_cons_succ]
              refine wpG_tk (some 37) (v := .agg #[.int .i64 ((Mo.D 14 (n / 2 ^ 0) : Nat) : Int), .int .i64 ((Mo.D 14 (n / 2 ^ 1) : Nat) : Int), .int .i64 ((Mo.D 14 (n / 2 ^ 2) : Nat) : Int)]) rfl (.call (f := 34) (args := #[.agg #[.int .i64 ((Mo.D 14 (n / 2 ^ 0) : Nat) : Int), .int .i64 ((Mo.D 14 (n / 2 ^ 1) : Nat) : Int), .int .i64 ((Mo.D 14 (n / 2 ^ 2) : Nat) : Int)]]) (by rfl) (fun W => by go_simp) (fun W hg => point_any ((Mo.D 14 (n / 2 ^ 0) : Nat) : Int) ((Mo.D 14 (n / 2 ^ 1) : Nat) : Int) ((Mo.D 14 (n / 2 ^ 2) : Nat) : Int) W)) ?_
              simp only [Act.put, List.setIfInBounds_toArray, List.set_cons_zero, List.set_cons_succ]
              refine wpG_store (none) rfl (by rfl) (fun W112 hg113 => ⟨_, run_store_mid 23 (.tmp 2) (.tmp 37) rfl (w.heap.size) 0 #[.int .i64 ((Mo.D 14 (n / 2 ^ 0) : Nat) : Int), .int .i64 ((Mo.D 14 (n / 2 ^ 1) : Nat) : Int), .int .i64 ((Mo.D 14 (n / 2 ^ 2) : Nat) : Int)] rfl rfl (((HR02.out.below (GC111.out.trans hg113)).there 0 3 (by simp))) (by kernel_rfl) (by kernel_rfl), ?_⟩)
              simp only [Act.put]
              refine wpG_tk (some 3) (v := .bool true) rfl (.val (by rfl) (fun _ _ => rfl)) ?_
              simp only [Act.put, List.setIfInBounds_toArray, List.set_cons_zero, List.set_cons_succ]
              refine wpG_done (fun V114 hv115 => ?_)
              have R117 := Lib.hid (Row.put (ds := [.int .i64 ((Mo.D 14 (n / 2 ^ 0) : Nat) : Int), .int .i64 ((Mo.D 14 (n / 2 ^ 1) : Nat) : Int), .int .i64 ((Mo.D 14 (n / 2 ^ 2) : Nat) : Int)]) HR02.out (GC111.out.trans hg113) rfl hv115)
              have G116 := Lib.hid (Gr.put HG2.out (GC111.out.trans hg113) (by omega) hv115)
              have R118 := Lib.hid (((HR2.out.below (GC111.out.trans hg113)).far (b := w.heap.size) (by omega) 0 [.int .i64 ((Mo.D 14 (n / 2 ^ 0) : Nat) : Int), .int .i64 ((Mo.D 14 (n / 2 ^ 1) : Nat) : Int), .int .i64 ((Mo.D 14 (n / 2 ^ 2) : Nat) : Int)]).below hv115)
              have hR := R117.out
              simp only [Nat.pow_zero, Nat.div_one] at hR
              have HRN := Lib.hid hR
              go_wp2_with fail
              refine bodyPost_ret (results_cell_tmp rfl _ _ _ (w.heap.size) 0 [.int .i64 ((Mo.D 14 (n) : Nat) : Int), .int .i64 ((Mo.D 14 (n / 2 ^ 1) : Nat) : Int), .int .i64 ((Mo.D 14 (n / 2 ^ 2) : Nat) : Int)] _ rfl HRN.out.range Try.underlying23 rfl (by kernel_rfl)) rfl ?_
              exact ⟨rfl, G116.out⟩
set_option maxRecDepth 1000000 in
set_option maxHeartbeats 4000000 in
theorem decode_any (n : Int) (w : World) :
    Calls Try.prog 9 #[.int .i64 n] w fun e w' => e = .returned (.tuple #[.agg #[.int .i64 (Mo.dec 0 n), .int .i64 (Mo.dec 1 n), .int .i64 (Mo.dec 2 n)], .bool (Mo.okB n)]) ∧ Below w.heap.size w w' := by
  cases h : Mo.okB n with
  | false =>
    rw [Mo.dec_out h, Mo.dec_out h, Mo.dec_out h]
    have hx := Mo.okB_false.1 h
    by_cases h0 : n < 0
    · exact decode_out0 n w h0
    · exact decode_out1 n w h0 (by omega)
  | true =>
    rw [Mo.dec_in h, Mo.dec_in h, Mo.dec_in h]
    have hx := Mo.okB_true.1 h
    obtain ⟨n, rfl⟩ := Int.eq_ofNat_of_zero_le hx.1
    have := decode_in n w (by omega)
    simpa using this

end Go.Proofs.Ytmjjkloeipoefaa
