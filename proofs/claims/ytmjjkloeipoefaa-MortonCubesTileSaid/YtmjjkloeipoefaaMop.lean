/-
  Contracts: the least common cube, by the program and by the specification.
-/
import Derived.Test.YtmjjkloeipoefaaMo4
import Derived.Test.YtmjjkloeipoefaaMok
import Derived.Handy
namespace Go.Proofs.Ytmjjkloeipoefaa
open Go.RowKit
set_option linter.unusedVariables false
theorem wrap_u64 (n : Nat) (h : n < 9223372036854775808) : IntKind.u64.wrap (n : Int) = n := by
  rw [IntKind.wrap_u64]; omega
set_option maxRecDepth 1000000 in
set_option maxHeartbeats 4000000 in
theorem common_0 (a1 a2 a3 b1 b2 b3 : Int) (w : World) (h : Mo.inB a1 a2 a3 = false) :
    Calls Try.prog 11 #[.agg #[.int .i64 a1, .int .i64 a2, .int .i64 a3], .agg #[.int .i64 b1, .int .i64 b2, .int .i64 b3]] w fun e w' => e = .returned (.tuple #[.agg #[.int .i64 0, .int .i64 0, .int .i64 0, .int .i64 0], .bool false]) ∧ Below w.heap.size w w' := by
  have e1 := Mo.enc_bd a1 a2 a3
  have e2 := Mo.enc_bd b1 b2 b3
  have f1 := Mo.enc_out h
  obtain ⟨ca, hca⟩ : ∃ c, c = Mo.enc a1 a2 a3 := ⟨_, rfl⟩
  obtain ⟨cb, hcb⟩ : ∃ c, c = Mo.enc b1 b2 b3 := ⟨_, rfl⟩
  rw [← hca] at e1 f1
  rw [← hcb] at e2
  have HA := Lib.hid hca
  have HB := Lib.hid hcb
  have g1 : ca < 0 := by omega
  clear hca hcb f1
  obtain ⟨u, hu, r0, r1, r2, g0⟩ := rows3 w [.int .i64 a1, .int .i64 a2, .int .i64 a3] 23 [.int .i64 b1, .int .i64 b2, .int .i64 b3] 23 [.int .i64 0, .int .i64 0, .int .i64 0, .int .i64 0] 27
  have R0 := Lib.hid r0
  have R1 := Lib.hid r1
  have R2 := Lib.hid r2
  have G0 := Lib.hid g0
  have HU := Lib.hid hu
  clear hu g0 r0 r1 r2
  go_enter Try.func11, Try.ntmps11
  go_upto_region 1 with fail
  rw [← HU.out]
  refine wpK_region (by kernel_rfl) ?_
  refine wpK_tk (i := 0) (some 11) (v := .agg #[.int .i64 a1, .int .i64 a2, .int .i64 a3]) rfl rfl (by kernel_rfl) (fun _ _ _ h => h) (.load_mid (by rfl) 23 (.tmp 2) rfl (w.heap.size) 0 rfl [.int .i64 a1, .int .i64 a2, .int .i64 a3] _ (fun W hg => (R0.out.below (Gr.un hg)).range) Try.underlying23 rfl (by kernel_rfl)) ?_
  simp only [Act.put, List.setIfInBounds_toArray, List.set_cons_zero, List.set_cons_succ]
  refine wpK_tk (i := 1) (some 12) (v := .int .i64 ca) rfl rfl (by kernel_rfl) (fun _ _ _ h => h) (.call (f := 13) (args := #[.agg #[.int .i64 a1, .int .i64 a2, .int .i64 a3]]) (by rfl) (fun W => by go_simp) (fun W hg => (HA.out ▸ encode_any a1 a2 a3 W))) ?_
  simp only [Act.put, List.setIfInBounds_toArray, List.set_cons_zero, List.set_cons_succ]
  refine wpK_tk (i := 2) (some 13) (v := .agg #[.int .i64 b1, .int .i64 b2, .int .i64 b3]) rfl rfl (by kernel_rfl) (fun _ _ _ h => h) (.load_mid (by rfl) 23 (.tmp 3) rfl (w.heap.size + 1) 0 rfl [.int .i64 b1, .int .i64 b2, .int .i64 b3] _ (fun W hg => (R1.out.below (Gr.un hg)).range) Try.underlying23 rfl (by kernel_rfl)) ?_
  simp only [Act.put, List.setIfInBounds_toArray, List.set_cons_zero, List.set_cons_succ]
  refine wpK_tk (i := 3) (some 14) (v := .int .i64 cb) rfl rfl (by kernel_rfl) (fun _ _ _ h => h) (.call (f := 13) (args := #[.agg #[.int .i64 b1, .int .i64 b2, .int .i64 b3]]) (by rfl) (fun W => by go_simp) (fun W hg => (HB.out ▸ encode_any b1 b2 b3 W))) ?_
  simp only [Act.put, List.setIfInBounds_toArray, List.set_cons_zero, List.set_cons_succ]
  refine wpK_ta (i := 4) (some 6) (v := .int .i64 ca) rfl rfl (by kernel_rfl) (fun _ _ _ h => h) (Or.inl ⟨rfl, fun _ => rfl⟩) ?_
  simp only [Act.put, List.setIfInBounds_toArray, List.set_cons_zero, List.set_cons_succ]
  refine wpK_ta (i := 5) (some 7) (v := .int .i64 cb) rfl rfl (by kernel_rfl) (fun _ _ _ h => h) (Or.inl ⟨rfl, fun _ => rfl⟩) ?_
  simp only [Act.put, List.setIfInBounds_toArray, List.set_cons_zero, List.set_cons_succ]
  refine wpK_done (by kernel_rfl) (fun V1 hv2 => ?_) _
  have GC3 := Lib.hid (Gr.un hv2)
  clear hv2
  go_upto_region 2 with fail
  refine wpG_region ?_
  refine wpG_tk (some 15) (v := .int .i64 ca) rfl (.val (by rfl) (fun _ _ => rfl)) ?_
  simp only [Act.put, List.setIfInBounds_toArray, List.set_cons_zero, List.set_cons_succ]
  refine wpG_tk (some 16) (v := .bool true) rfl (.val (by rfl) (fun W hg => by have hq : (ca < 0) := (by omega); first | (go_simp; done) | (go_simp <;> omega))) ?_
  simp only [Act.put, List.setIfInBounds_toArray, List.set_cons_zero, List.set_cons_succ]
  refine wpG_tk (some 17) (v := .bool true) rfl (.val (by rfl) (fun _ _ => rfl)) ?_
  simp only [Act.put, List.setIfInBounds_toArray, List.set_cons_zero, List.set_cons_succ]
  refine wpG_tk (some 18) (v := undef) rfl (.no (by rfl)) ?_
  simp only [Act.put, List.setIfInBounds_toArray, List.set_cons_zero, List.set_cons_succ]
  refine wpG_tk (some 19) (v := undef) rfl (.no (by rfl)) ?_
  simp only [Act.put, List.setIfInBounds_toArray, List.set_cons_zero, List.set_cons_succ]
  refine wpG_tk (some 20) (v := .bool true) rfl (.val (by rfl) (fun W hg => by go_simp)) ?_
  simp only [Act.put, List.setIfInBounds_toArray, List.set_cons_zero, List.set_cons_succ]
  refine wpG_done (fun V4 hv5 => ?_)
  have GC6 := Lib.hid (GC3.out.trans hv5)
  clear hv5
  go_upto_region 3 with fail
  refine wpG_region ?_
  refine wpG_tk (some 21) (v := .agg #[.int .i64 0, .int .i64 0, .int .i64 0, .int .i64 0]) rfl (.val (by rfl) (fun W hg => by go_simp)) ?_
  simp only [Act.put, List.setIfInBounds_toArray, List.set_cons_zero, List.set_cons_succ]
  refine wpG_store (none) rfl (by rfl) (fun W7 hg8 => ⟨_, run_store_mid 27 (.tmp 4) (.tmp 21) rfl (w.heap.size + 1 + 1) 0 #[.int .i64 0, .int .i64 0, .int .i64 0, .int .i64 0] rfl rfl (((R2.out.below (GC6.out.trans hg8)).there 0 4 (by simp))) (by kernel_rfl) (by kernel_rfl), ?_⟩)
  simp only [Act.put]
  refine wpG_tk (some 5) (v := .bool false) rfl (.val (by rfl) (fun _ _ => rfl)) ?_
  simp only [Act.put, List.setIfInBounds_toArray, List.set_cons_zero, List.set_cons_succ]
  refine wpG_done (fun V9 hv10 => ?_)
  have R12 := Lib.hid (Row.put (ds := [.int .i64 0, .int .i64 0, .int .i64 0, .int .i64 0]) R2.out (GC6.out.trans hg8) rfl hv10)
  have G11 := Lib.hid (Gr.put G0.out (GC6.out.trans hg8) (by omega) hv10)
  have R13 := Lib.hid (((R0.out.below (GC6.out.trans hg8)).far (b := w.heap.size + 1 + 1) (by omega) 0 [.int .i64 0, .int .i64 0, .int .i64 0, .int .i64 0]).below hv10)
  have R14 := Lib.hid (((R1.out.below (GC6.out.trans hg8)).far (b := w.heap.size + 1 + 1) (by omega) 0 [.int .i64 0, .int .i64 0, .int .i64 0, .int .i64 0]).below hv10)
  go_wp2_with fail
  refine bodyPost_ret (results_cell_tmp rfl _ _ _ (w.heap.size + 1 + 1) 0 [.int .i64 0, .int .i64 0, .int .i64 0, .int .i64 0] _ rfl R12.out.range Try.underlying27 rfl (by kernel_rfl)) rfl ?_
  exact ⟨rfl, G11.out⟩
set_option maxRecDepth 1000000 in
set_option maxHeartbeats 4000000 in
theorem common_1 (a1 a2 a3 b1 b2 b3 : Int) (w : World) (h : Mo.inB a1 a2 a3 = true) (h2 : Mo.inB b1 b2 b3 = false) :
    Calls Try.prog 11 #[.agg #[.int .i64 a1, .int .i64 a2, .int .i64 a3], .agg #[.int .i64 b1, .int .i64 b2, .int .i64 b3]] w fun e w' => e = .returned (.tuple #[.agg #[.int .i64 0, .int .i64 0, .int .i64 0, .int .i64 0], .bool false]) ∧ Below w.heap.size w w' := by
  have e1 := Mo.enc_bd a1 a2 a3
  have e2 := Mo.enc_bd b1 b2 b3
  have f1 : 0 ≤ Mo.enc a1 a2 a3 := by rw [Mo.enc_in h]; omega
  have f2 := Mo.enc_out h2
  obtain ⟨ca, hca⟩ : ∃ c, c = Mo.enc a1 a2 a3 := ⟨_, rfl⟩
  obtain ⟨cb, hcb⟩ : ∃ c, c = Mo.enc b1 b2 b3 := ⟨_, rfl⟩
  rw [← hca] at e1 f1
  rw [← hcb] at e2 f2
  have HA := Lib.hid hca
  have HB := Lib.hid hcb
  have g1 : ¬ ca < 0 := by omega
  have g2 : cb < 0 := by omega
  clear hca hcb f1 f2
  obtain ⟨u, hu, r0, r1, r2, g0⟩ := rows3 w [.int .i64 a1, .int .i64 a2, .int .i64 a3] 23 [.int .i64 b1, .int .i64 b2, .int .i64 b3] 23 [.int .i64 0, .int .i64 0, .int .i64 0, .int .i64 0] 27
  have R0 := Lib.hid r0
  have R1 := Lib.hid r1
  have R2 := Lib.hid r2
  have G0 := Lib.hid g0
  have HU := Lib.hid hu
  clear hu g0 r0 r1 r2
  go_enter Try.func11, Try.ntmps11
  go_upto_region 1 with fail
  rw [← HU.out]
  refine wpK_region (by kernel_rfl) ?_
  refine wpK_tk (i := 0) (some 11) (v := .agg #[.int .i64 a1, .int .i64 a2, .int .i64 a3]) rfl rfl (by kernel_rfl) (fun _ _ _ h => h) (.load_mid (by rfl) 23 (.tmp 2) rfl (w.heap.size) 0 rfl [.int .i64 a1, .int .i64 a2, .int .i64 a3] _ (fun W hg => (R0.out.below (Gr.un hg)).range) Try.underlying23 rfl (by kernel_rfl)) ?_
  simp only [Act.put, List.setIfInBounds_toArray, List.set_cons_zero, List.set_cons_succ]
  refine wpK_tk (i := 1) (some 12) (v := .int .i64 ca) rfl rfl (by kernel_rfl) (fun _ _ _ h => h) (.call (f := 13) (args := #[.agg #[.int .i64 a1, .int .i64 a2, .int .i64 a3]]) (by rfl) (fun W => by go_simp) (fun W hg => (HA.out ▸ encode_any a1 a2 a3 W))) ?_
  simp only [Act.put, List.setIfInBounds_toArray, List.set_cons_zero, List.set_cons_succ]
  refine wpK_tk (i := 2) (some 13) (v := .agg #[.int .i64 b1, .int .i64 b2, .int .i64 b3]) rfl rfl (by kernel_rfl) (fun _ _ _ h => h) (.load_mid (by rfl) 23 (.tmp 3) rfl (w.heap.size + 1) 0 rfl [.int .i64 b1, .int .i64 b2, .int .i64 b3] _ (fun W hg => (R1.out.below (Gr.un hg)).range) Try.underlying23 rfl (by kernel_rfl)) ?_
  simp only [Act.put, List.setIfInBounds_toArray, List.set_cons_zero, List.set_cons_succ]
  refine wpK_tk (i := 3) (some 14) (v := .int .i64 cb) rfl rfl (by kernel_rfl) (fun _ _ _ h => h) (.call (f := 13) (args := #[.agg #[.int .i64 b1, .int .i64 b2, .int .i64 b3]]) (by rfl) (fun W => by go_simp) (fun W hg => (HB.out ▸ encode_any b1 b2 b3 W))) ?_
  simp only [Act.put, List.setIfInBounds_toArray, List.set_cons_zero, List.set_cons_succ]
  refine wpK_ta (i := 4) (some 6) (v := .int .i64 ca) rfl rfl (by kernel_rfl) (fun _ _ _ h => h) (Or.inl ⟨rfl, fun _ => rfl⟩) ?_
  simp only [Act.put, List.setIfInBounds_toArray, List.set_cons_zero, List.set_cons_succ]
  refine wpK_ta (i := 5) (some 7) (v := .int .i64 cb) rfl rfl (by kernel_rfl) (fun _ _ _ h => h) (Or.inl ⟨rfl, fun _ => rfl⟩) ?_
  simp only [Act.put, List.setIfInBounds_toArray, List.set_cons_zero, List.set_cons_succ]
  refine wpK_done (by kernel_rfl) (fun V1 hv2 => ?_) _
  have GC3 := Lib.hid (Gr.un hv2)
  clear hv2
  go_upto_region 2 with fail
  refine wpG_region ?_
  refine wpG_tk (some 15) (v := .int .i64 ca) rfl (.val (by rfl) (fun _ _ => rfl)) ?_
  simp only [Act.put, List.setIfInBounds_toArray, List.set_cons_zero, List.set_cons_succ]
  refine wpG_tk (some 16) (v := .bool false) rfl (.val (by rfl) (fun W hg => by have hq : ¬ (ca < 0) := (by omega); first | (go_simp; done) | (go_simp <;> omega))) ?_
  simp only [Act.put, List.setIfInBounds_toArray, List.set_cons_zero, List.set_cons_succ]
  refine wpG_tk (some 17) (v := .bool false) rfl (.val (by rfl) (fun _ _ => rfl)) ?_
  simp only [Act.put, List.setIfInBounds_toArray, List.set_cons_zero, List.set_cons_succ]
  refine wpG_tk (some 18) (v := .int .i64 cb) rfl (.val (by rfl) (fun _ _ => rfl)) ?_
  simp only [Act.put, List.setIfInBounds_toArray, List.set_cons_zero, List.set_cons_succ]
  refine wpG_tk (some 19) (v := .bool true) rfl (.val (by rfl) (fun W hg => by have hq : (cb < 0) := (by omega); first | (go_simp; done) | (go_simp <;> omega))) ?_
  simp only [Act.put, List.setIfInBounds_toArray, List.set_cons_zero, List.set_cons_succ]
  refine wpG_tk (some 20) (v := .bool true) rfl (.val (by rfl) (fun W hg => by go_simp)) ?_
  simp only [Act.put, List.setIfInBounds_toArray, List.set_cons_zero, List.set_cons_succ]
  refine wpG_done (fun V4 hv5 => ?_)
  have GC6 := Lib.hid (GC3.out.trans hv5)
  clear hv5
  go_upto_region 3 with fail
  refine wpG_region ?_
  refine wpG_tk (some 21) (v := .agg #[.int .i64 0, .int .i64 0, .int .i64 0, .int .i64 0]) rfl (.val (by rfl) (fun W hg => by go_simp)) ?_
  simp only [Act.put, List.setIfInBounds_toArray, List.set_cons_zero, List.set_cons_succ]
  refine wpG_store (none) rfl (by rfl) (fun W7 hg8 => ⟨_, run_store_mid 27 (.tmp 4) (.tmp 21) rfl (w.heap.size + 1 + 1) 0 #[.int .i64 0, .int .i64 0, .int .i64 0, .int .i64 0] rfl rfl (((R2.out.below (GC6.out.trans hg8)).there 0 4 (by simp))) (by kernel_rfl) (by kernel_rfl), ?_⟩)
  simp only [Act.put]
  refine wpG_tk (some 5) (v := .bool false) rfl (.val (by rfl) (fun _ _ => rfl)) ?_
  simp only [Act.put, List.setIfInBounds_toArray, List.set_cons_zero, List.set_cons_succ]
  refine wpG_done (fun V9 hv10 => ?_)
  have R12 := Lib.hid (Row.put (ds := [.int .i64 0, .int .i64 0, .int .i64 0, .int .i64 0]) R2.out (GC6.out.trans hg8) rfl hv10)
  have G11 := Lib.hid (Gr.put G0.out (GC6.out.trans hg8) (by omega) hv10)
  have R13 := Lib.hid (((R0.out.below (GC6.out.trans hg8)).far (b := w.heap.size + 1 + 1) (by omega) 0 [.int .i64 0, .int .i64 0, .int .i64 0, .int .i64 0]).below hv10)
  have R14 := Lib.hid (((R1.out.below (GC6.out.trans hg8)).far (b := w.heap.size + 1 + 1) (by omega) 0 [.int .i64 0, .int .i64 0, .int .i64 0, .int .i64 0]).below hv10)
  go_wp2_with fail
  refine bodyPost_ret (results_cell_tmp rfl _ _ _ (w.heap.size + 1 + 1) 0 [.int .i64 0, .int .i64 0, .int .i64 0, .int .i64 0] _ rfl R12.out.range Try.underlying27 rfl (by kernel_rfl)) rfl ?_
  exact ⟨rfl, G11.out⟩
set_option maxRecDepth 1000000 in
set_option maxHeartbeats 4000000 in
theorem common_in (a1 a2 a3 b1 b2 b3 : Nat) (w : World) (h1 : Mo.inB (a1 : Int) (a2 : Int) (a3 : Int) = true) (h2 : Mo.inB (b1 : Int) (b2 : Int) (b3 : Int) = true) (h : (a1 < 16384 ∧ a2 < 16384 ∧ a3 < 16384) ∧ (b1 < 16384 ∧ b2 < 16384 ∧ b3 < 16384)) :
    Calls Try.prog 11 #[.agg #[.int .i64 (a1 : Int), .int .i64 (a2 : Int), .int .i64 (a3 : Int)], .agg #[.int .i64 (b1 : Int), .int .i64 (b2 : Int), .int .i64 (b3 : Int)]] w fun e w' => e = .returned (.tuple #[.agg #[.int .i64 ((b1 / 2 ^ Mo.lev a1 a2 a3 b1 b2 b3 * 2 ^ Mo.lev a1 a2 a3 b1 b2 b3 : Nat) : Int), .int .i64 ((b2 / 2 ^ Mo.lev a1 a2 a3 b1 b2 b3 * 2 ^ Mo.lev a1 a2 a3 b1 b2 b3 : Nat) : Int), .int .i64 ((b3 / 2 ^ Mo.lev a1 a2 a3 b1 b2 b3 * 2 ^ Mo.lev a1 a2 a3 b1 b2 b3 : Nat) : Int), .int .i64 (Mo.lev a1 a2 a3 b1 b2 b3 : Int)], .bool true]) ∧ Below w.heap.size w w' := by
  have HI1 := Lib.hid h1
  have HI2 := Lib.hid h2
  clear h1 h2
  obtain ⟨m, hm⟩ : ∃ m, m = Mo.E 14 a1 a2 a3 := ⟨_, rfl⟩
  obtain ⟨n, hn⟩ : ∃ n, n = Mo.E 14 b1 b2 b3 := ⟨_, rfl⟩
  have hm2 : m < 4398046511104 := by rw [hm]; exact Mo.E_lt 14 a1 a2 a3
  have hn2 : n < 4398046511104 := by rw [hn]; exact Mo.E_lt 14 b1 b2 b3
  obtain ⟨xr, hxr⟩ : ∃ x, x = m ^^^ n := ⟨_, rfl⟩
  have hx2 : xr < 4398046511104 := by rw [hxr, hm, hn]; exact Mo.code_xor_lt a1 a2 a3 b1 b2 b3
  obtain ⟨bl, hbl⟩ : ∃ b, b = Lib.bitLen xr := ⟨_, rfl⟩
  have hb2 : bl ≤ 42 := by rw [hbl]; exact (bitLen_le 42 xr (by omega)).2 hx2
  obtain ⟨L, hL⟩ : ∃ L, L = (bl + 2) / 3 := ⟨_, rfl⟩
  have hl : L = Mo.lev a1 a2 a3 b1 b2 b3 := by rw [hL, hbl, hxr, hm, hn]; rfl
  have hL2 : L ≤ 14 ∧ 3 * L ≤ bl + 2 ∧ bl + 2 < 3 * L + 3 := by omega
  obtain ⟨p8, hp⟩ : ∃ p, p = 2 ^ (3 * L) := ⟨_, rfl⟩
  have hp2 : 1 ≤ p8 := by rw [hp]; exact Nat.two_pow_pos _
  have hp3 : p8 ≤ 4398046511104 := by rw [hp]; exact Nat.pow_le_pow_right (n := 2) (by decide) (show 3 * L ≤ 42 by omega)
  obtain ⟨r, hr⟩ : ∃ r, r = n / p8 * p8 := ⟨_, rfl⟩
  have hr2 : r ≤ n := by rw [hr]; exact Nat.div_mul_le_self _ _
  have HM := Lib.hid hm
  have HN := Lib.hid hn
  have HX := Lib.hid hxr
  have HB := Lib.hid hbl
  have HL := Lib.hid hL
  have HP := Lib.hid hp
  have HR := Lib.hid hr
  have HLV := Lib.hid hl
  clear hm hn hxr hbl hL hp hr hl
  obtain ⟨u, hu, r0, r1, r2, g0⟩ := rows3 w [.int .i64 (a1 : Int), .int .i64 (a2 : Int), .int .i64 (a3 : Int)] 23 [.int .i64 (b1 : Int), .int .i64 (b2 : Int), .int .i64 (b3 : Int)] 23 [.int .i64 0, .int .i64 0, .int .i64 0, .int .i64 0] 27
  have R0 := Lib.hid r0
  have R1 := Lib.hid r1
  have R2 := Lib.hid r2
  have G0 := Lib.hid g0
  have HU := Lib.hid hu
  clear hu g0 r0 r1 r2
  go_enter Try.func11, Try.ntmps11
  go_upto_region 1 with fail
  rw [← HU.out]
  refine wpK_region (by kernel_rfl) ?_
  refine wpK_tk (i := 0) (some 11) (v := .agg #[.int .i64 (a1 : Int), .int .i64 (a2 : Int), .int .i64 (a3 : Int)]) rfl rfl (by kernel_rfl) (fun _ _ _ h => h) (.load_mid (by rfl) 23 (.tmp 2) rfl (w.heap.size) 0 rfl [.int .i64 (a1 : Int), .int .i64 (a2 : Int), .int .i64 (a3 : Int)] _ (fun W hg => (R0.out.below (Gr.un hg)).range) Try.underlying23 rfl (by kernel_rfl)) ?_
  simp only [Act.put, List.setIfInBounds_toArray, List.set_cons_zero, List.set_cons_succ]
  refine wpK_tk (i := 1) (some 12) (v := .int .i64 (m : Int)) rfl rfl (by kernel_rfl) (fun _ _ _ h => h) (.call (f := 13) (args := #[.agg #[.int .i64 (a1 : Int), .int .i64 (a2 : Int), .int .i64 (a3 : Int)]]) (by rfl) (fun W => by go_simp) (fun W hg => (HM.out ▸ encode_in a1 a2 a3 W HI1.out h.1))) ?_
  simp only [Act.put, List.setIfInBounds_toArray, List.set_cons_zero, List.set_cons_succ]
  refine wpK_tk (i := 2) (some 13) (v := .agg #[.int .i64 (b1 : Int), .int .i64 (b2 : Int), .int .i64 (b3 : Int)]) rfl rfl (by kernel_rfl) (fun _ _ _ h => h) (.load_mid (by rfl) 23 (.tmp 3) rfl (w.heap.size + 1) 0 rfl [.int .i64 (b1 : Int), .int .i64 (b2 : Int), .int .i64 (b3 : Int)] _ (fun W hg => (R1.out.below (Gr.un hg)).range) Try.underlying23 rfl (by kernel_rfl)) ?_
  simp only [Act.put, List.setIfInBounds_toArray, List.set_cons_zero, List.set_cons_succ]
  refine wpK_tk (i := 3) (some 14) (v := .int .i64 (n : Int)) rfl rfl (by kernel_rfl) (fun _ _ _ h => h) (.call (f := 13) (args := #[.agg #[.int .i64 (b1 : Int), .int .i64 (b2 : Int), .int .i64 (b3 : Int)]]) (by rfl) (fun W => by go_simp) (fun W hg => (HN.out ▸ encode_in b1 b2 b3 W HI2.out h.2))) ?_
  simp only [Act.put, List.setIfInBounds_toArray, List.set_cons_zero, List.set_cons_succ]
  refine wpK_ta (i := 4) (some 6) (v := .int .i64 (m : Int)) rfl rfl (by kernel_rfl) (fun _ _ _ h => h) (Or.inl ⟨rfl, fun _ => rfl⟩) ?_
  simp only [Act.put, List.setIfInBounds_toArray, List.set_cons_zero, List.set_cons_succ]
  refine wpK_ta (i := 5) (some 7) (v := .int .i64 (n : Int)) rfl rfl (by kernel_rfl) (fun _ _ _ h => h) (Or.inl ⟨rfl, fun _ => rfl⟩) ?_
  simp only [Act.put, List.setIfInBounds_toArray, List.set_cons_zero, List.set_cons_succ]
  refine wpK_done (by kernel_rfl) (fun V1 hv2 => ?_) _
  have GC3 := Lib.hid (Gr.un hv2)
  clear hv2
  go_upto_region 2 with fail
  refine wpG_region ?_
  refine wpG_tk (some 15) (v := .int .i64 (m : Int)) rfl (.val (by rfl) (fun _ _ => rfl)) ?_
  simp only [Act.put, List.setIfInBounds_toArray, List.set_cons_zero, List.set_cons_succ]
  refine wpG_tk (some 16) (v := .bool false) rfl (.val (by rfl) (fun W hg => by have hq : ¬ ((m : Int) < 0) := (by omega); first | (go_simp; done) | (go_simp <;> omega))) ?_
  simp only [Act.put, List.setIfInBounds_toArray, List.set_cons_zero, List.set_cons_succ]
  refine wpG_tk (some 17) (v := .bool false) rfl (.val (by rfl) (fun _ _ => rfl)) ?_
  simp only [Act.put, List.setIfInBounds_toArray, List.set_cons_zero, List.set_cons_succ]
  refine wpG_tk (some 18) (v := .int .i64 (n : Int)) rfl (.val (by rfl) (fun _ _ => rfl)) ?_
  simp only [Act.put, List.setIfInBounds_toArray, List.set_cons_zero, List.set_cons_succ]
  refine wpG_tk (some 19) (v := .bool false) rfl (.val (by rfl) (fun W hg => by have hq : ¬ ((n : Int) < 0) := (by omega); first | (go_simp; done) | (go_simp <;> omega))) ?_
  simp only [Act.put, List.setIfInBounds_toArray, List.set_cons_zero, List.set_cons_succ]
  refine wpG_tk (some 20) (v := .bool false) rfl (.val (by rfl) (fun W hg => by go_simp)) ?_
  simp only [Act.put, List.setIfInBounds_toArray, List.set_cons_zero, List.set_cons_succ]
  refine wpG_done (fun V4 hv5 => ?_)
  have GC6 := Lib.hid (GC3.out.trans hv5)
  clear hv5
  go_upto_region 4 with fail
  refine wpG_region ?_
  refine wpG_tk (some 22) (v := .int .i64 (m : Int)) rfl (.val (by rfl) (fun _ _ => rfl)) ?_
  simp only [Act.put, List.setIfInBounds_toArray, List.set_cons_zero, List.set_cons_succ]
  refine wpG_tk (some 23) (v := .int .i64 (n : Int)) rfl (.val (by rfl) (fun _ _ => rfl)) ?_
  simp only [Act.put, List.setIfInBounds_toArray, List.set_cons_zero, List.set_cons_succ]
  refine wpG_tk (some 24) (v := .int .i64 (xr : Int)) rfl (.val (by rfl) (fun W hg => by go_simp; rw [HX.out]; exact bits_xor_i64 _ _ (by omega) (by omega))) ?_
  simp only [Act.put, List.setIfInBounds_toArray, List.set_cons_zero, List.set_cons_succ]
  refine wpG_tk (some 25) (v := .int .u64 (xr : Int)) rfl (.val (by rfl) (fun W hg => by go_simp; exact wrap_u64 _ (by omega))) ?_
  simp only [Act.put, List.setIfInBounds_toArray, List.set_cons_zero, List.set_cons_succ]
  refine wpG_tk (some 26) (v := .int .i64 (bl : Int)) rfl (.call (f := 36) (args := #[.int .u64 (xr : Int)]) (by rfl) (fun W => by go_simp) (fun W hg => (HB.out ▸ len_any xr W hx2))) ?_
  simp only [Act.put, List.setIfInBounds_toArray, List.set_cons_zero, List.set_cons_succ]
  refine wpG_tk (some 27) (v := .int .i64 ((bl : Int) + 3)) rfl (.val (by rfl) (fun W hg => by (first | (go_simp; done) | (go_simp; rw [IntWalk.i64_in _ (by omega)])))) ?_
  simp only [Act.put, List.setIfInBounds_toArray, List.set_cons_zero, List.set_cons_succ]
  refine wpG_tk (some 28) (v := .int .i64 (((bl : Int) + 3) - 1)) rfl (.val (by rfl) (fun W hg => by (first | (go_simp; done) | (go_simp; rw [IntWalk.i64_in _ (by omega)])))) ?_
  simp only [Act.put, List.setIfInBounds_toArray, List.set_cons_zero, List.set_cons_succ]
  refine wpG_tk (some 29) (v := .int .i64 (L : Int)) rfl (.val (by rfl) (fun W hg => by go_simp; first | omega | (rw [show (↑bl + 3 - 1 : Int).tdiv 3 = (L : Int) by rw [Int.tdiv_eq_ediv_of_nonneg (by omega)]; omega]; exact wrap_nat _ (by omega)) | (rw [Int.tdiv_eq_ediv_of_nonneg (by omega)]; omega))) ?_
  simp only [Act.put, List.setIfInBounds_toArray, List.set_cons_zero, List.set_cons_succ]
  refine wpG_tk (some 8) (v := .int .i64 (L : Int)) rfl (.val (by rfl) (fun _ _ => rfl)) ?_
  simp only [Act.put, List.setIfInBounds_toArray, List.set_cons_zero, List.set_cons_succ]
  refine wpG_done (fun V7 hv8 => ?_)
  have GC9 := Lib.hid (GC6.out.trans hv8)
  clear hv8
  go_upto_region 5 with fail
  refine wpG_region ?_
  refine wpG_tk (some 31) (v := .int .i64 (n : Int)) rfl (.val (by rfl) (fun _ _ => rfl)) ?_
  simp only [Act.put, List.setIfInBounds_toArray, List.set_cons_zero, List.set_cons_succ]
  refine wpG_tk (some 32) (v := .int .i64 (L : Int)) rfl (.val (by rfl) (fun _ _ => rfl)) ?_
  simp only [Act.put, List.setIfInBounds_toArray, List.set_cons_zero, List.set_cons_succ]
  refine wpG_tk (some 33) (v := .int .i64 (3 * (L : Int))) rfl (.val (by rfl) (fun W hg => by (first | (go_simp; done) | (go_simp; rw [IntWalk.i64_in _ (by omega)])))) ?_
  simp only [Act.put, List.setIfInBounds_toArray, List.set_cons_zero, List.set_cons_succ]
  refine wpG_tk (some 34) (v := .int .i64 (p8 : Int)) rfl (.val (by rfl) (fun W hg => by go_simp; rw [HP.out]; exact wrap_pow (3 * L) (by omega))) ?_
  simp only [Act.put, List.setIfInBounds_toArray, List.set_cons_zero, List.set_cons_succ]
  refine wpG_tk (some 35) (v := .int .i64 ((p8 : Int) - 1)) rfl (.val (by rfl) (fun W hg => by (first | (go_simp; done) | (go_simp; rw [IntWalk.i64_in _ (by omega)])))) ?_
  simp only [Act.put, List.setIfInBounds_toArray, List.set_cons_zero, List.set_cons_succ]
  refine wpG_tk (some 36) (v := .int .i64 (r : Int)) rfl (.val (by rfl) (fun W hg => by go_simp; rw [HR.out, show (p8 : Int) - 1 = ((2 ^ (3 * L) - 1 : Nat) : Int) by rw [← HP.out]; omega, HP.out]; exact bits_andNot_i64 n (3 * L) (by omega) (by omega))) ?_
  simp only [Act.put, List.setIfInBounds_toArray, List.set_cons_zero, List.set_cons_succ]
  refine wpG_tk (some 37) (v := .tuple #[.agg #[.int .i64 ((Mo.D 14 r : Nat) : Int), .int .i64 ((Mo.D 14 (r / 2 ^ 1) : Nat) : Int), .int .i64 ((Mo.D 14 (r / 2 ^ 2) : Nat) : Int)], .bool true]) rfl (.call (f := 9) (args := #[.int .i64 (r : Int)]) (by rfl) (fun W => by go_simp) (fun W hg => decode_in r W (by omega))) ?_
  simp only [Act.put, List.setIfInBounds_toArray, List.set_cons_zero, List.set_cons_succ]
  refine wpG_tk (some 30) (v := .tuple #[.agg #[.int .i64 ((Mo.D 14 r : Nat) : Int), .int .i64 ((Mo.D 14 (r / 2 ^ 1) : Nat) : Int), .int .i64 ((Mo.D 14 (r / 2 ^ 2) : Nat) : Int)], .bool true]) rfl (.val (by rfl) (fun _ _ => rfl)) ?_
  simp only [Act.put, List.setIfInBounds_toArray, List.set_cons_zero, List.set_cons_succ]
  refine wpG_tk (some 38) (v := .agg #[.int .i64 ((Mo.D 14 r : Nat) : Int), .int .i64 ((Mo.D 14 (r / 2 ^ 1) : Nat) : Int), .int .i64 ((Mo.D 14 (r / 2 ^ 2) : Nat) : Int)]) rfl (.val (by rfl) (fun W hg => by go_simp)) ?_
  simp only [Act.put, List.setIfInBounds_toArray, List.set_cons_zero, List.set_cons_succ]
  refine wpG_tk (some 39) (v := .bool true) rfl (.val (by rfl) (fun W hg => by go_simp)) ?_
  simp only [Act.put, List.setIfInBounds_toArray, List.set_cons_zero, List.set_cons_succ]
  refine wpG_val (some 9) rfl (by rfl) (fun W10 hg11 => ⟨.pointer (some ⟨W10.heap.size, 0, none⟩), W10.alloc (.cells #[.int .i64 0, .int .i64 0, .int .i64 0] 23), by (go_simp <;> rfl), ?_⟩)
  simp only [Act.put, List.setIfInBounds_toArray, List.set_cons_zero, List.set_cons_succ]
  refine wpG_store (none) rfl (by rfl) (fun W12 hg13 => ⟨_, run_store_mid 23 (.tmp 9) (.tmp 38) rfl (W10.heap.size) 0 #[.int .i64 ((Mo.D 14 r : Nat) : Int), .int .i64 ((Mo.D 14 (r / 2 ^ 1) : Nat) : Int), .int .i64 ((Mo.D 14 (r / 2 ^ 2) : Nat) : Int)] rfl rfl (Row.room hg13 3 rfl) (by kernel_rfl) (by kernel_rfl), ?_⟩)
  simp only [Act.put]
  refine wpG_tk (some 10) (v := .bool true) rfl (.val (by rfl) (fun _ _ => rfl)) ?_
  simp only [Act.put, List.setIfInBounds_toArray, List.set_cons_zero, List.set_cons_succ]
  refine wpG_done (fun V14 hv15 => ?_)
  have l17 : w.heap.size < W10.heap.size := (R0.out.below (GC9.out.trans hg11)).lt
  have l18 : w.heap.size + 1 < W10.heap.size := (R1.out.below (GC9.out.trans hg11)).lt
  have l19 : w.heap.size + 1 + 1 < W10.heap.size := (R2.out.below (GC9.out.trans hg11)).lt
  have l20 : w.heap.size ≤ W10.heap.size := (Gr.to G0.out (GC9.out.trans hg11)).size
  have R21 := Lib.hid ((R0.out.below (GC9.out.trans hg11)).past hg13 hv15)
  have R22 := Lib.hid ((R1.out.below (GC9.out.trans hg11)).past hg13 hv15)
  have R23 := Lib.hid ((R2.out.below (GC9.out.trans hg11)).past hg13 hv15)
  have R24 := Lib.hid (Row.made (zs := [.int .i64 0, .int .i64 0, .int .i64 0]) (ds := [.int .i64 ((Mo.D 14 r : Nat) : Int), .int .i64 ((Mo.D 14 (r / 2 ^ 1) : Nat) : Int), .int .i64 ((Mo.D 14 (r / 2 ^ 2) : Nat) : Int)]) rfl hg13 hv15)
  have G16 := Lib.hid (Gr.to (Gr.to G0.out (GC9.out.trans hg11)) (Gr.past hg13 hv15))
  clear hg13 hv15 
  go_upto_region 6 with fail
  refine wpG_region ?_
  refine wpG_tk (some 40) (v := .agg #[.int .i64 ((Mo.D 14 r : Nat) : Int), .int .i64 ((Mo.D 14 (r / 2 ^ 1) : Nat) : Int), .int .i64 ((Mo.D 14 (r / 2 ^ 2) : Nat) : Int)]) rfl (.load_mid (by rfl) 23 (.tmp 9) rfl (W10.heap.size) 0 rfl [.int .i64 ((Mo.D 14 r : Nat) : Int), .int .i64 ((Mo.D 14 (r / 2 ^ 1) : Nat) : Int), .int .i64 ((Mo.D 14 (r / 2 ^ 2) : Nat) : Int)] _ (fun W hg => (R24.out.below hg).range) Try.underlying23 rfl (by kernel_rfl)) ?_
  simp only [Act.put, List.setIfInBounds_toArray, List.set_cons_zero, List.set_cons_succ]
  refine wpG_tk (some 41) (v := .int .i64 (L : Int)) rfl (.val (by rfl) (fun _ _ => rfl)) ?_
  simp only [Act.put, List.setIfInBounds_toArray, List.set_cons_zero, List.set_cons_succ]
  refine wpG_tk (some 42) (v := .agg #[.int .i64 ((Mo.D 14 r : Nat) : Int), .int .i64 ((Mo.D 14 (r / 2 ^ 1) : Nat) : Int), .int .i64 ((Mo.D 14 (r / 2 ^ 2) : Nat) : Int), .int .i64 (L : Int)]) rfl (.val (by rfl) (fun W hg => by go_simp)) ?_
  simp only [Act.put, List.setIfInBounds_toArray, List.set_cons_zero, List.set_cons_succ]
  refine wpG_store (none) rfl (by rfl) (fun W25 hg26 => ⟨_, run_store_mid 27 (.tmp 4) (.tmp 42) rfl (w.heap.size + 1 + 1) 0 #[.int .i64 ((Mo.D 14 r : Nat) : Int), .int .i64 ((Mo.D 14 (r / 2 ^ 1) : Nat) : Int), .int .i64 ((Mo.D 14 (r / 2 ^ 2) : Nat) : Int), .int .i64 (L : Int)] rfl rfl (((R23.out.below hg26).there 0 4 (by simp))) (by kernel_rfl) (by kernel_rfl), ?_⟩)
  simp only [Act.put]
  refine wpG_tk (some 5) (v := .bool true) rfl (.val (by rfl) (fun _ _ => rfl)) ?_
  simp only [Act.put, List.setIfInBounds_toArray, List.set_cons_zero, List.set_cons_succ]
  refine wpG_done (fun V27 hv28 => ?_)
  have R30 := Lib.hid (Row.put (ds := [.int .i64 ((Mo.D 14 r : Nat) : Int), .int .i64 ((Mo.D 14 (r / 2 ^ 1) : Nat) : Int), .int .i64 ((Mo.D 14 (r / 2 ^ 2) : Nat) : Int), .int .i64 (L : Int)]) R23.out hg26 rfl hv28)
  have G29 := Lib.hid (Gr.put G16.out hg26 (by omega) hv28)
  have R31 := Lib.hid (((R21.out.below hg26).far (b := w.heap.size + 1 + 1) (by omega) 0 [.int .i64 ((Mo.D 14 r : Nat) : Int), .int .i64 ((Mo.D 14 (r / 2 ^ 1) : Nat) : Int), .int .i64 ((Mo.D 14 (r / 2 ^ 2) : Nat) : Int), .int .i64 (L : Int)]).below hv28)
  have R32 := Lib.hid (((R22.out.below hg26).far (b := w.heap.size + 1 + 1) (by omega) 0 [.int .i64 ((Mo.D 14 r : Nat) : Int), .int .i64 ((Mo.D 14 (r / 2 ^ 1) : Nat) : Int), .int .i64 ((Mo.D 14 (r / 2 ^ 2) : Nat) : Int), .int .i64 (L : Int)]).below hv28)
  have R33 := Lib.hid (((R24.out.below hg26).far (b := w.heap.size + 1 + 1) (by omega) 0 [.int .i64 ((Mo.D 14 r : Nat) : Int), .int .i64 ((Mo.D 14 (r / 2 ^ 1) : Nat) : Int), .int .i64 ((Mo.D 14 (r / 2 ^ 2) : Nat) : Int), .int .i64 (L : Int)]).below hv28)
  obtain ⟨c1, c2, c3⟩ := Mo.D_corner (L := L) (by omega) h.2
  rw [← HN.out, Mo.pow83 L, ← HP.out, ← HR.out] at c1 c2 c3
  go_wp2_with fail
  refine bodyPost_ret (results_cell_tmp rfl _ _ _ (w.heap.size + 1 + 1) 0 [.int .i64 ((Mo.D 14 r : Nat) : Int), .int .i64 ((Mo.D 14 (r / 2 ^ 1) : Nat) : Int), .int .i64 ((Mo.D 14 (r / 2 ^ 2) : Nat) : Int), .int .i64 (L : Int)] _ rfl R30.out.range Try.underlying27 rfl (by kernel_rfl)) rfl ?_
  exact ⟨by rw [show (2 : Nat) ^ 1 = 2 from rfl, show (2 : Nat) ^ 2 = 4 from rfl, c1, c2, c3, HLV.out]; rfl, G29.out⟩
set_option maxRecDepth 1000000 in
set_option maxHeartbeats 4000000 in
theorem common_any (a1 a2 a3 b1 b2 b3 : Int) (w : World) :
    Calls Try.prog 11 #[.agg #[.int .i64 a1, .int .i64 a2, .int .i64 a3], .agg #[.int .i64 b1, .int .i64 b2, .int .i64 b3]] w fun e w' => e = .returned (.tuple #[.agg #[.int .i64 (Mo.com 0 a1 a2 a3 b1 b2 b3), .int .i64 (Mo.com 1 a1 a2 a3 b1 b2 b3), .int .i64 (Mo.com 2 a1 a2 a3 b1 b2 b3), .int .i64 (Mo.com 3 a1 a2 a3 b1 b2 b3)], .bool (Mo.inB a1 a2 a3 && Mo.inB b1 b2 b3)]) ∧ Below w.heap.size w w' := by
  cases h1 : Mo.inB a1 a2 a3 with
  | false =>
    have hb : (Mo.inB a1 a2 a3 && Mo.inB b1 b2 b3) = false := by rw [h1]; rfl
    rw [Mo.com_out hb, Mo.com_out hb, Mo.com_out hb, Mo.com_out hb]
    exact common_0 a1 a2 a3 b1 b2 b3 w h1
  | true =>
    cases h2 : Mo.inB b1 b2 b3 with
    | false =>
      have hb : (Mo.inB a1 a2 a3 && Mo.inB b1 b2 b3) = false := by rw [h1, h2]; rfl
      rw [Mo.com_out hb, Mo.com_out hb, Mo.com_out hb, Mo.com_out hb]
      exact common_1 a1 a2 a3 b1 b2 b3 w h1 h2
    | true =>
      have hb : (Mo.inB a1 a2 a3 && Mo.inB b1 b2 b3) = true := by rw [h1, h2]; rfl
      have hx := Mo.inB_true.1 h1
      have hy := Mo.inB_true.1 h2
      obtain ⟨a1, rfl⟩ := Int.eq_ofNat_of_zero_le hx.1.1
      obtain ⟨a2, rfl⟩ := Int.eq_ofNat_of_zero_le hx.2.1.1
      obtain ⟨a3, rfl⟩ := Int.eq_ofNat_of_zero_le hx.2.2.1
      obtain ⟨b1, rfl⟩ := Int.eq_ofNat_of_zero_le hy.1.1
      obtain ⟨b2, rfl⟩ := Int.eq_ofNat_of_zero_le hy.2.1.1
      obtain ⟨b3, rfl⟩ := Int.eq_ofNat_of_zero_le hy.2.2.1
      have hc := Mo.com_in hb
      rw [hc.1, hc.2.1, hc.2.2.1, hc.2.2.2]
      have h : (a1 < 16384 ∧ a2 < 16384 ∧ a3 < 16384) ∧ (b1 < 16384 ∧ b2 < 16384 ∧ b3 < 16384) := by omega
      have he := (Mo.lev_le (l := Mo.lev a1 a2 a3 b1 b2 b3) (Mo.lev_le14 h) h).1 (Nat.le_refl _)
      rw [he.1, he.2.1, he.2.2]
      exact common_in a1 a2 a3 b1 b2 b3 w h1 h2 h
end Go.Proofs.Ytmjjkloeipoefaa
