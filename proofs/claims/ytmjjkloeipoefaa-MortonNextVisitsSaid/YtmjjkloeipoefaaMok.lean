/-
  Contract of the specification: the corner of a cube.
-/
import Derived.Test.YtmjjkloeipoefaaMon
import Derived.Test.YtmjjkloeipoefaaMol
import Derived.Handy
namespace Go.Proofs.Ytmjjkloeipoefaa
open Go.RowKit
set_option linter.unusedVariables false
theorem wrap_pow (l : Nat) (h : l ≤ 62) : IntKind.i64.wrap ((2 : Int) ^ l) = ((2 ^ l : Nat) : Int) := by
  have h1 : 2 ^ l ≤ 2 ^ 62 := Nat.pow_le_pow_right (by decide) h
  rw [show ((2 : Int) ^ l) = ((2 ^ l : Nat) : Int) by simp]
  exact wrap_nat _ (by omega)
theorem wrap_tdiv {x s q : Nat} (h : q = x / s) (hx : x < 9223372036854775808) : IntKind.i64.wrap ((x : Int) / (s : Int)) = (q : Int) := by
  rw [show (x : Int) / (s : Int) = ((x / s : Nat) : Int) by simp, ← h]
  exact wrap_nat _ (by rw [h]; exact div_lt_63 _ _ hx)
theorem wrap_mul {q s p : Nat} (h : p = q * s) (hp : p < 9223372036854775808) : IntKind.i64.wrap ((q : Int) * (s : Int)) = (p : Int) := by
  rw [show (q : Int) * (s : Int) = ((q * s : Nat) : Int) by simp, ← h]
  exact wrap_nat _ hp
set_option maxRecDepth 1000000 in
set_option maxHeartbeats 4000000 in
theorem corner_any (x y z l : Nat) (w : World) (h : x < 16384 ∧ y < 16384 ∧ z < 16384) (hl : l ≤ 14) :
    Calls Try.prog 37 #[.agg #[.int .i64 (x : Int), .int .i64 (y : Int), .int .i64 (z : Int)], .int .i64 (l : Int)] w fun e w' => e = .returned (.agg #[.int .i64 ((x / 2 ^ l * 2 ^ l : Nat) : Int), .int .i64 ((y / 2 ^ l * 2 ^ l : Nat) : Int), .int .i64 ((z / 2 ^ l * 2 ^ l : Nat) : Int)]) ∧ Below w.heap.size w w' := by
  obtain ⟨u, hu, r0, r1, g0⟩ := rows2 w [.int .i64 (x : Int), .int .i64 (y : Int), .int .i64 (z : Int)] 23 [.int .i64 0, .int .i64 0, .int .i64 0] 23
  have R0 := Lib.hid r0
  have R1 := Lib.hid r1
  have G0 := Lib.hid g0
  have HU := Lib.hid hu
  clear hu g0 r0 r1
  go_enter Try.func37, Try.ntmps37
  go_upto_region 1 with fail
  rw [← HU.out]
  obtain ⟨s, hs⟩ : ∃ s, s = 2 ^ l := ⟨_, rfl⟩
  have hs1 : 1 ≤ s := by rw [hs]; exact Nat.two_pow_pos l
  have hs2 : s ≤ 16384 := by rw [hs]; exact Nat.pow_le_pow_right (n := 2) (by decide) hl
  have hs0 : ¬ s = 0 := by omega
  have HS := Lib.hid hs
  clear hs
  refine wpG_region ?_
  refine wpG_tk (some 6) (v := .int .i64 (l : Int)) rfl (.val (by rfl) (fun _ _ => rfl)) ?_
  simp only [Act.put, List.setIfInBounds_toArray, List.set_cons_zero, List.set_cons_succ]
  refine wpG_tk (some 7) (v := .int .i64 (s : Int)) rfl (.val (by rfl) (fun W hg => by go_simp; rw [HS.out]; exact (wrap_pow l (by omega)))) ?_
  simp only [Act.put, List.setIfInBounds_toArray, List.set_cons_zero, List.set_cons_succ]
  refine wpG_tk (some 5) (v := .int .i64 (s : Int)) rfl (.val (by rfl) (fun _ _ => rfl)) ?_
  simp only [Act.put, List.setIfInBounds_toArray, List.set_cons_zero, List.set_cons_succ]
  refine wpG_done (fun V1 hv2 => ?_)
  have GC3 := Lib.hid hv2
  clear hv2
  obtain ⟨qx, hqx⟩ : ∃ q, q = x / s := ⟨_, rfl⟩
  obtain ⟨px, hpx⟩ : ∃ p, p = qx * s := ⟨_, rfl⟩
  have hbx : px ≤ x ∧ qx ≤ x := by rw [hpx, hqx]; exact ⟨Nat.div_mul_le_self _ _, Nat.div_le_self _ _⟩
  have HQx := Lib.hid hqx
  have HPx := Lib.hid hpx
  clear hqx hpx
  obtain ⟨qy, hqy⟩ : ∃ q, q = y / s := ⟨_, rfl⟩
  obtain ⟨py, hpy⟩ : ∃ p, p = qy * s := ⟨_, rfl⟩
  have hby : py ≤ y ∧ qy ≤ y := by rw [hpy, hqy]; exact ⟨Nat.div_mul_le_self _ _, Nat.div_le_self _ _⟩
  have HQy := Lib.hid hqy
  have HPy := Lib.hid hpy
  clear hqy hpy
  obtain ⟨qz, hqz⟩ : ∃ q, q = z / s := ⟨_, rfl⟩
  obtain ⟨pz, hpz⟩ : ∃ p, p = qz * s := ⟨_, rfl⟩
  have hbz : pz ≤ z ∧ qz ≤ z := by rw [hpz, hqz]; exact ⟨Nat.div_mul_le_self _ _, Nat.div_le_self _ _⟩
  have HQz := Lib.hid hqz
  have HPz := Lib.hid hpz
  clear hqz hpz
  go_upto_region 2 with fail
  refine wpK_region (by kernel_rfl) ?_
  refine wpK_ta (i := 0) (some 8) (v := .pointer (some ⟨w.heap.size, 0, none⟩)) rfl rfl (by kernel_rfl) (fun _ _ _ h => h) (Or.inl ⟨by rfl, fun W => by go_simp⟩) ?_
  simp only [Act.put, List.setIfInBounds_toArray, List.set_cons_zero, List.set_cons_succ]
  refine wpK_tk (i := 1) (some 9) (v := .int .i64 (x : Int)) rfl rfl (by kernel_rfl) (fun _ _ _ h => h) (.val (by rfl) (fun W hg => by have c := (R0.out.below (GC3.out.trans (Gr.un hg)) 0 _ rfl).1; go_simp)) ?_
  simp only [Act.put, List.setIfInBounds_toArray, List.set_cons_zero, List.set_cons_succ]
  refine wpK_ta (i := 2) (some 10) (v := .int .i64 (s : Int)) rfl rfl (by kernel_rfl) (fun _ _ _ h => h) (Or.inl ⟨rfl, fun _ => rfl⟩) ?_
  simp only [Act.put, List.setIfInBounds_toArray, List.set_cons_zero, List.set_cons_succ]
  refine wpK_ta (i := 3) (some 11) (v := .int .i64 (qx : Int)) rfl rfl (by kernel_rfl) (fun _ _ _ h => h) (Or.inl ⟨by rfl, fun W => by go_simp; exact wrap_tdiv HQx.out (by omega)⟩) ?_
  simp only [Act.put, List.setIfInBounds_toArray, List.set_cons_zero, List.set_cons_succ]
  refine wpK_ta (i := 4) (some 12) (v := .int .i64 (s : Int)) rfl rfl (by kernel_rfl) (fun _ _ _ h => h) (Or.inl ⟨rfl, fun _ => rfl⟩) ?_
  simp only [Act.put, List.setIfInBounds_toArray, List.set_cons_zero, List.set_cons_succ]
  refine wpK_ta (i := 5) (some 13) (v := .int .i64 (px : Int)) rfl rfl (by kernel_rfl) (fun _ _ _ h => h) (Or.inl ⟨by rfl, fun W => by go_simp; exact wrap_mul HPx.out (by omega)⟩) ?_
  simp only [Act.put, List.setIfInBounds_toArray, List.set_cons_zero, List.set_cons_succ]
  refine wpK_ta (i := 6) (some 14) (v := .pointer (some ⟨w.heap.size, 1, none⟩)) rfl rfl (by kernel_rfl) (fun _ _ _ h => h) (Or.inl ⟨by rfl, fun W => by go_simp⟩) ?_
  simp only [Act.put, List.setIfInBounds_toArray, List.set_cons_zero, List.set_cons_succ]
  refine wpK_tk (i := 7) (some 15) (v := .int .i64 (y : Int)) rfl rfl (by kernel_rfl) (fun _ _ _ h => h) (.val (by rfl) (fun W hg => by have c := (R0.out.below (GC3.out.trans (Gr.un hg)) 1 _ rfl).1; go_simp)) ?_
  simp only [Act.put, List.setIfInBounds_toArray, List.set_cons_zero, List.set_cons_succ]
  refine wpK_ta (i := 8) (some 16) (v := .int .i64 (s : Int)) rfl rfl (by kernel_rfl) (fun _ _ _ h => h) (Or.inl ⟨rfl, fun _ => rfl⟩) ?_
  simp only [Act.put, List.setIfInBounds_toArray, List.set_cons_zero, List.set_cons_succ]
  refine wpK_ta (i := 9) (some 17) (v := .int .i64 (qy : Int)) rfl rfl (by kernel_rfl) (fun _ _ _ h => h) (Or.inl ⟨by rfl, fun W => by go_simp; exact wrap_tdiv HQy.out (by omega)⟩) ?_
  simp only [Act.put, List.setIfInBounds_toArray, List.set_cons_zero, List.set_cons_succ]
  refine wpK_ta (i := 10) (some 18) (v := .int .i64 (s : Int)) rfl rfl (by kernel_rfl) (fun _ _ _ h => h) (Or.inl ⟨rfl, fun _ => rfl⟩) ?_
  simp only [Act.put, List.setIfInBounds_toArray, List.set_cons_zero, List.set_cons_succ]
  refine wpK_ta (i := 11) (some 19) (v := .int .i64 (py : Int)) rfl rfl (by kernel_rfl) (fun _ _ _ h => h) (Or.inl ⟨by rfl, fun W => by go_simp; exact wrap_mul HPy.out (by omega)⟩) ?_
  simp only [Act.put, List.setIfInBounds_toArray, List.set_cons_zero, List.set_cons_succ]
  refine wpK_ta (i := 12) (some 20) (v := .pointer (some ⟨w.heap.size, 2, none⟩)) rfl rfl (by kernel_rfl) (fun _ _ _ h => h) (Or.inl ⟨by rfl, fun W => by go_simp⟩) ?_
  simp only [Act.put, List.setIfInBounds_toArray, List.set_cons_zero, List.set_cons_succ]
  refine wpK_tk (i := 13) (some 21) (v := .int .i64 (z : Int)) rfl rfl (by kernel_rfl) (fun _ _ _ h => h) (.val (by rfl) (fun W hg => by have c := (R0.out.below (GC3.out.trans (Gr.un hg)) 2 _ rfl).1; go_simp)) ?_
  simp only [Act.put, List.setIfInBounds_toArray, List.set_cons_zero, List.set_cons_succ]
  refine wpK_ta (i := 14) (some 22) (v := .int .i64 (s : Int)) rfl rfl (by kernel_rfl) (fun _ _ _ h => h) (Or.inl ⟨rfl, fun _ => rfl⟩) ?_
  simp only [Act.put, List.setIfInBounds_toArray, List.set_cons_zero, List.set_cons_succ]
  refine wpK_ta (i := 15) (some 23) (v := .int .i64 (qz : Int)) rfl rfl (by kernel_rfl) (fun _ _ _ h => h) (Or.inl ⟨by rfl, fun W => by go_simp; exact wrap_tdiv HQz.out (by omega)⟩) ?_
  simp only [Act.put, List.setIfInBounds_toArray, List.set_cons_zero, List.set_cons_succ]
  refine wpK_ta (i := 16) (some 24) (v := .int .i64 (s : Int)) rfl rfl (by kernel_rfl) (fun _ _ _ h => h) (Or.inl ⟨rfl, fun _ => rfl⟩) ?_
  simp only [Act.put, List.setIfInBounds_toArray, List.set_cons_zero, List.set_cons_succ]
  refine wpK_ta (i := 17) (some 25) (v := .int .i64 (pz : Int)) rfl rfl (by kernel_rfl) (fun _ _ _ h => h) (Or.inl ⟨by rfl, fun W => by go_simp; exact wrap_mul HPz.out (by omega)⟩) ?_
  simp only [Act.put, List.setIfInBounds_toArray, List.set_cons_zero, List.set_cons_succ]
  refine wpK_ta (i := 18) (some 26) (v := .agg #[.int .i64 (px : Int), .int .i64 (py : Int), .int .i64 (pz : Int)]) rfl rfl (by kernel_rfl) (fun _ _ _ h => h) (Or.inl ⟨by rfl, fun W => by go_simp⟩) ?_
  simp only [Act.put, List.setIfInBounds_toArray, List.set_cons_zero, List.set_cons_succ]
  refine wpK_store (i := 19) (none) rfl rfl (by kernel_rfl) (by rfl) (by rfl) (fun W4 hg5 => ⟨_, run_store_mid 23 (.tmp 4) (.tmp 26) rfl (w.heap.size + 1) 0 #[.int .i64 (px : Int), .int .i64 (py : Int), .int .i64 (pz : Int)] rfl rfl (((R1.out.below (GC3.out.trans (Gr.un hg5))).there 0 3 (by simp))) (by kernel_rfl) (by kernel_rfl), ?_⟩)
  simp only [Act.put]
  refine wpK_done (by kernel_rfl) (fun V6 hv7 => ?_) _
  have R9 := Lib.hid (Row.put (ds := [.int .i64 (px : Int), .int .i64 (py : Int), .int .i64 (pz : Int)]) R1.out (GC3.out.trans (Gr.un hg5)) rfl hv7)
  have G8 := Lib.hid (Gr.put G0.out (GC3.out.trans (Gr.un hg5)) (by omega) hv7)
  have R10 := Lib.hid (((R0.out.below (GC3.out.trans (Gr.un hg5))).far (b := w.heap.size + 1) (by omega) 0 [.int .i64 (px : Int), .int .i64 (py : Int), .int .i64 (pz : Int)]).below hv7)
  go_wp2_with fail
  refine bodyPost_ret (results_cell_mid rfl _ _ _ (w.heap.size + 1) 0 [.int .i64 (px : Int), .int .i64 (py : Int), .int .i64 (pz : Int)] _ rfl R9.out.range Try.underlying23 rfl (by kernel_rfl)) rfl ?_
  exact ⟨by rw [HPx.out, HPy.out, HPz.out, HQx.out, HQy.out, HQz.out, HS.out], G8.out⟩

end Go.Proofs.Ytmjjkloeipoefaa
