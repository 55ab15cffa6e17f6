/-
  Contract of package morton: the code of a point.
-/
import Derived.Test.YtmjjkloeipoefaaMoa
import Derived.Test.YtmjjkloeipoefaaMob
import Derived.Test.YtmjjkloeipoefaaMo2
import Derived.Handy
namespace Go.Proofs.Ytmjjkloeipoefaa
open Go.RowKit
set_option linter.unusedVariables false
set_option maxRecDepth 1000000 in
set_option maxHeartbeats 4000000 in
theorem encode_in (x y z : Nat) (w : World) (h : Mo.inB (x : Int) (y : Int) (z : Int) = true) (hx : x < 16384 ∧ y < 16384 ∧ z < 16384) :
    Calls Try.prog 13 #[.agg #[.int .i64 (x : Int), .int .i64 (y : Int), .int .i64 (z : Int)]] w fun e w' => e = .returned (.int .i64 ((Mo.E 14 x y z : Nat) : Int)) ∧ Below w.heap.size w w' := by
  have HI := Lib.hid h
  clear h
  obtain ⟨u, hu, r0, g0⟩ := rows1 w [.int .i64 (x : Int), .int .i64 (y : Int), .int .i64 (z : Int)] 23
  have R0 := Lib.hid r0
  have G0 := Lib.hid g0
  have HU := Lib.hid hu
  clear hu g0 r0
  go_enter Try.func13, Try.ntmps13
  go_upto_region 1 with fail
  rw [← HU.out]
  refine wpG_region ?_
  refine wpG_tk (some 7) (v := .agg #[.int .i64 (x : Int), .int .i64 (y : Int), .int .i64 (z : Int)]) rfl (.load_mid (by rfl) 23 (.tmp 1) rfl (w.heap.size) 0 rfl [.int .i64 (x : Int), .int .i64 (y : Int), .int .i64 (z : Int)] _ (fun W hg => (R0.out.below hg).range) Try.underlying23 rfl (by kernel_rfl)) ?_
  simp only [Act.put, List.setIfInBounds_toArray, List.set_cons_zero, List.set_cons_succ]
  refine wpG_tk (some 8) (v := .bool true) rfl (.call (f := 38) (args := #[.agg #[.int .i64 (x : Int), .int .i64 (y : Int), .int .i64 (z : Int)]]) (by rfl) (fun W => by go_simp) (fun W hg => (HI.out ▸ inside_b (x : Int) (y : Int) (z : Int) W))) ?_
  simp only [Act.put, List.setIfInBounds_toArray, List.set_cons_zero, List.set_cons_succ]
  refine wpG_tk (some 9) (v := .bool false) rfl (.val (by rfl) (fun W hg => by go_simp)) ?_
  simp only [Act.put, List.setIfInBounds_toArray, List.set_cons_zero, List.set_cons_succ]
  refine wpG_done (fun V1 hv2 => ?_)
  have GC3 := Lib.hid hv2
  clear hv2
  go_upto_region 3 with fail
  refine wpG_region ?_
  refine wpG_tk (some 3) (v := .int .i64 0) rfl (.val (by rfl) (fun _ _ => rfl)) ?_
  simp only [Act.put, List.setIfInBounds_toArray, List.set_cons_zero, List.set_cons_succ]
  refine wpG_done (fun V4 hv5 => ?_)
  have GC6 := Lib.hid (GC3.out.trans hv5)
  clear hv5
  go_upto_region 4 with fail
  refine wpG_region ?_
  refine wpG_tk (some 10) (v := .agg #[.int .i64 (x : Int), .int .i64 (y : Int), .int .i64 (z : Int)]) rfl (.load_mid (by rfl) 23 (.tmp 1) rfl (w.heap.size) 0 rfl [.int .i64 (x : Int), .int .i64 (y : Int), .int .i64 (z : Int)] _ (fun W hg => (R0.out.below (GC6.out.trans hg)).range) Try.underlying23 rfl (by kernel_rfl)) ?_
  simp only [Act.put, List.setIfInBounds_toArray, List.set_cons_zero, List.set_cons_succ]
  refine wpG_tk (some 11) (v := .agg #[.int .i64 (x : Int), .int .i64 (y : Int), .int .i64 (z : Int)]) rfl (.call (f := 39) (args := #[.agg #[.int .i64 (x : Int), .int .i64 (y : Int), .int .i64 (z : Int)]]) (by rfl) (fun W => by go_simp) (fun W hg => coords_any (x : Int) (y : Int) (z : Int) W)) ?_
  simp only [Act.put, List.setIfInBounds_toArray, List.set_cons_zero, List.set_cons_succ]
  refine wpG_tk (some 12) (v := .int .i64 0) rfl (.val (by rfl) (fun _ _ => rfl)) ?_
  simp only [Act.put, List.setIfInBounds_toArray, List.set_cons_zero, List.set_cons_succ]
  refine wpG_done (fun V7 hv8 => ?_)
  have GC9 := Lib.hid (GC6.out.trans hv8)
  clear hv8
  go_wp2_with fail
  refine wp_loop_rounds 4 ?_
  obtain ⟨n0, hn0⟩ : ∃ n0 : Nat, n0 = 0 := ⟨_, rfl⟩
  have hb0 : n0 < 2 ^ 60 := by omega
  have HN0 := Lib.hid hn0
  clear hn0
  rw [rounds_succ]
  go_upto_region 5 with fail
  refine wpG_region ?_
  refine wpG_tk (some 13) (v := .bool true) rfl (.val (by rfl) (fun W hg => by go_simp)) ?_
  simp only [Act.put, List.setIfInBounds_toArray, List.set_cons_zero, List.set_cons_succ]
  refine wpG_done (fun V10 hv11 => ?_)
  have GC12 := Lib.hid (GC9.out.trans hv11)
  clear hv11
  go_upto_region 6 with fail
  refine wpG_region ?_
  refine wpG_tk (some 14) (v := .int .i64 0) rfl (.val (by rfl) (fun _ _ => rfl)) ?_
  simp only [Act.put, List.setIfInBounds_toArray, List.set_cons_zero, List.set_cons_succ]
  refine wpG_tk (some 15) (v := .int .i64 (x : Int)) rfl (.val (by rfl) (fun W hg => by have e := idx3_0 W (x : Int) (y : Int) (z : Int); go_simp)) ?_
  simp only [Act.put, List.setIfInBounds_toArray, List.set_cons_zero, List.set_cons_succ]
  refine wpG_tk (some 4) (v := .int .i64 0) rfl (.val (by rfl) (fun _ _ => rfl)) ?_
  simp only [Act.put, List.setIfInBounds_toArray, List.set_cons_zero, List.set_cons_succ]
  refine wpG_tk (some 5) (v := .int .i64 (x : Int)) rfl (.val (by rfl) (fun _ _ => rfl)) ?_
  simp only [Act.put, List.setIfInBounds_toArray, List.set_cons_zero, List.set_cons_succ]
  refine wpG_done (fun V13 hv14 => ?_)
  have GC15 := Lib.hid (GC12.out.trans hv14)
  clear hv14
  go_upto_region 7 with fail
  refine wpG_region ?_
  refine wpG_tk (some 16) (v := .int .i64 0) rfl (.val (by rfl) (fun _ _ => rfl)) ?_
  simp only [Act.put, List.setIfInBounds_toArray, List.set_cons_zero, List.set_cons_succ]
  refine wpG_done (fun V16 hv17 => ?_)
  have GC18 := Lib.hid (GC15.out.trans hv17)
  clear hv17
  go_wp2_with fail
  go_loopw [16, 3] (fun i v wr => ∃ k : Nat, i = .int .i64 (k : Int) ∧ v = .int .i64 ((Mo.acc n0 (2 ^ 0) k x : Nat) : Int) ∧ k ≤ 14 ∧ Gr u wr) (fun i _ _ => 14 - (intOf i).toNat)
  case atStart => exact ⟨0, rfl, by rw [Mo.acc_zero, HN0.out]; rfl, by omega, GC18.out⟩
  case round =>
    obtain ⟨k, rfl, rfl, hk, hG⟩ := hrel
    have HG0 := Lib.hid hG
    clear hG
    have hb1 := Mo.acc_lt n0 0 k x hb0 (by omega) hk
    have hst := Mo.acc_step n0 0 k x
    obtain ⟨n1, hn⟩ : ∃ n, n = Mo.acc n0 (2 ^ 0) k x := ⟨_, rfl⟩
    rw [← hn] at hst hb1
    rw [← hn]
    have HS := Lib.hid hst
    have HN1 := Lib.hid hn
    clear hst hn
    by_cases hlt : k < 14
    · skip
      go_upto_region 8 with fail
      refine wpG_region ?_
      refine wpG_tk (some 17) (v := .bool true) rfl (.val (by rfl) (fun W hg => by have hq : ((k : Int) < 14) := (by omega); first | (go_simp; done) | (go_simp <;> omega))) ?_
      simp only [Act.put, List.setIfInBounds_toArray, List.set_cons_zero, List.set_cons_succ]
      refine wpG_done (fun V19 hv20 => ?_)
      have GC21 := Lib.hid (HG0.out.trans hv20)
      clear hv20
      go_upto_region 9 with fail
      refine wpG_region ?_
      refine wpG_tk (some 18) (v := .int .i64 (k : Int)) rfl (.val (by rfl) (fun _ _ => rfl)) ?_
      simp only [Act.put, List.setIfInBounds_toArray, List.set_cons_zero, List.set_cons_succ]
      refine wpG_tk (some 6) (v := .int .i64 (k : Int)) rfl (.val (by rfl) (fun _ _ => rfl)) ?_
      simp only [Act.put, List.setIfInBounds_toArray, List.set_cons_zero, List.set_cons_succ]
      refine wpG_done (fun V22 hv23 => ?_)
      have GC24 := Lib.hid (GC21.out.trans hv23)
      clear hv23
      go_upto_region 10 with fail
      obtain ⟨bt, hbt⟩ : ∃ bt, bt = x / 2 ^ k % 2 := ⟨_, rfl⟩
      have hb2 : bt < 2 := by rw [hbt]; exact Nat.mod_lt _ (by decide)
      obtain ⟨sh, hsh⟩ : ∃ sh, sh = bt * 2 ^ (3 * k + 0) := ⟨_, rfl⟩
      have hs2 : sh < 2 ^ 60 := by rw [hsh]; exact Nat.lt_of_le_of_lt (Nat.mul_le_mul (show bt ≤ 1 by omega) (Nat.pow_le_pow_right (by decide) (show 3 * k + 0 ≤ 44 by omega))) (by decide)
      have hst := HS.out
      rw [← hbt, ← hsh] at hst
      have HT := Lib.hid hst
      have HB := Lib.hid hbt
      have HC := Lib.hid hsh
      clear hbt hsh hst
      refine wpG_region ?_
      refine wpG_tk (some 19) (v := .int .i64 (n1 : Int)) rfl (.val (by rfl) (fun _ _ => rfl)) ?_
      simp only [Act.put, List.setIfInBounds_toArray, List.set_cons_zero, List.set_cons_succ]
      refine wpG_tk (some 20) (v := .int .i64 (x : Int)) rfl (.val (by rfl) (fun _ _ => rfl)) ?_
      simp only [Act.put, List.setIfInBounds_toArray, List.set_cons_zero, List.set_cons_succ]
      refine wpG_tk (some 21) (v := .int .i64 (k : Int)) rfl (.val (by rfl) (fun _ _ => rfl)) ?_
      simp only [Act.put, List.setIfInBounds_toArray, List.set_cons_zero, List.set_cons_succ]
      refine wpG_tk (some 22) (v := .int .i64 ((x : Int) / 2 ^ k)) rfl (.val (by rfl) (fun W hg => by go_simp)) ?_
      simp only [Act.put, List.setIfInBounds_toArray, List.set_cons_zero, List.set_cons_succ]
      refine wpG_tk (some 23) (v := .int .i64 (bt : Int)) rfl (.val (by rfl) (fun W hg => by go_simp; rw [HB.out]; exact shr1 _ _ (by omega))) ?_
      simp only [Act.put, List.setIfInBounds_toArray, List.set_cons_zero, List.set_cons_succ]
      refine wpG_tk (some 24) (v := .int .i64 (k : Int)) rfl (.val (by rfl) (fun _ _ => rfl)) ?_
      simp only [Act.put, List.setIfInBounds_toArray, List.set_cons_zero, List.set_cons_succ]
      refine wpG_tk (some 25) (v := .int .i64 (3 * (k : Int))) rfl (.val (by rfl) (fun W hg => by (first | (go_simp; done) | (go_simp; rw [IntWalk.i64_in _ (by omega)])))) ?_
      simp only [Act.put, List.setIfInBounds_toArray, List.set_cons_zero, List.set_cons_succ]
      refine wpG_tk (some 26) (v := .int .i64 0) rfl (.val (by rfl) (fun _ _ => rfl)) ?_
      simp only [Act.put, List.setIfInBounds_toArray, List.set_cons_zero, List.set_cons_succ]
      refine wpG_tk (some 27) (v := .int .i64 (3 * (k : Int))) rfl (.val (by rfl) (fun W hg => by (first | (go_simp; done) | (go_simp; rw [IntWalk.i64_in _ (by omega)])))) ?_
      simp only [Act.put, List.setIfInBounds_toArray, List.set_cons_zero, List.set_cons_succ]
      refine wpG_tk (some 28) (v := .int .i64 (sh : Int)) rfl (.val (by rfl) (fun W hg => by go_simp; rw [HC.out]; exact shl_bit bt (3 * k + 0) hb2 (by omega))) ?_
      simp only [Act.put, List.setIfInBounds_toArray, List.set_cons_zero, List.set_cons_succ]
      refine wpG_tk (some 29) (v := .int .i64 ((n1 ||| sh : Nat) : Int)) rfl (.val (by rfl) (fun W hg => by go_simp; exact bits_or_i64 _ _ (by omega) (by omega))) ?_
      simp only [Act.put, List.setIfInBounds_toArray, List.set_cons_zero, List.set_cons_succ]
      refine wpG_tk (some 3) (v := .int .i64 ((n1 ||| sh : Nat) : Int)) rfl (.val (by rfl) (fun _ _ => rfl)) ?_
      simp only [Act.put, List.setIfInBounds_toArray, List.set_cons_zero, List.set_cons_succ]
      refine wpG_done (fun V25 hv26 => ?_)
      have GC27 := Lib.hid (GC24.out.trans hv26)
      clear hv26
      go_upto_region 11 with fail
      refine wpG_region ?_
      refine wpG_tk (some 30) (v := .int .i64 ((k : Int) + 1)) rfl (.val (by rfl) (fun W hg => by (first | (go_simp; done) | (go_simp; rw [IntWalk.i64_in _ (by omega)])))) ?_
      simp only [Act.put, List.setIfInBounds_toArray, List.set_cons_zero, List.set_cons_succ]
      refine wpG_tk (some 16) (v := .int .i64 ((k : Int) + 1)) rfl (.val (by rfl) (fun _ _ => rfl)) ?_
      simp only [Act.put, List.setIfInBounds_toArray, List.set_cons_zero, List.set_cons_succ]
      refine wpG_done (fun V28 hv29 => ?_)
      have GC30 := Lib.hid (GC27.out.trans hv29)
      clear hv29
      go_wp2_with fail
      go_roundw
      case rel => exact ⟨k + 1, by go_num, by rw [HT.out], by omega, GC30.out⟩
      case measure => simp [intOf]; omega
    · obtain rfl : k = 14 := by omega
      clear hk hlt HS
      go_upto_region 8 with fail
      refine wpG_region ?_
      refine wpG_tk (some 17) (v := .bool false) rfl (.val (by rfl) (fun W hg => by go_simp)) ?_
      simp only [Act.put, List.setIfInBounds_toArray, List.set_cons_zero, List.set_cons_succ]
      refine wpG_done (fun V31 hv32 => ?_)
      have GC33 := Lib.hid (HG0.out.trans hv32)
      clear hv32
      go_upto_region 12 with fail
      refine wpG_region ?_
      refine wpG_tk (some 31) (v := .int .i64 1) rfl (.val (by rfl) (fun W hg => by go_simp <;> rfl)) ?_
      simp only [Act.put, List.setIfInBounds_toArray, List.set_cons_zero, List.set_cons_succ]
      refine wpG_tk (some 12) (v := .int .i64 1) rfl (.val (by rfl) (fun _ _ => rfl)) ?_
      simp only [Act.put, List.setIfInBounds_toArray, List.set_cons_zero, List.set_cons_succ]
      refine wpG_done (fun V34 hv35 => ?_)
      have GC36 := Lib.hid (GC33.out.trans hv35)
      clear hv35
      go_wp2_with fail
      rw [rounds_succ]
      go_upto_region 5 with fail
      refine wpG_region ?_
      refine wpG_tk (some 13) (v := .bool true) rfl (.val (by rfl) (fun W hg => by go_simp)) ?_
      simp only [Act.put, List.setIfInBounds_toArray, List.set_cons_zero, List.set_cons_succ]
      refine wpG_done (fun V37 hv38 => ?_)
      have GC39 := Lib.hid (GC36.out.trans hv38)
      clear hv38
      go_upto_region 6 with fail
      refine wpG_region ?_
      refine wpG_tk (some 14) (v := .int .i64 1) rfl (.val (by rfl) (fun _ _ => rfl)) ?_
      simp only [Act.put, List.setIfInBounds_toArray, List.set_cons_zero, List.set_cons_succ]
      refine wpG_tk (some 15) (v := .int .i64 (y : Int)) rfl (.val (by rfl) (fun W hg => by have e := idx3_1 W (x : Int) (y : Int) (z : Int); go_simp)) ?_
      simp only [Act.put, List.setIfInBounds_toArray, List.set_cons_zero, List.set_cons_succ]
      refine wpG_tk (some 4) (v := .int .i64 1) rfl (.val (by rfl) (fun _ _ => rfl)) ?_
      simp only [Act.put, List.setIfInBounds_toArray, List.set_cons_zero, List.set_cons_succ]
      refine wpG_tk (some 5) (v := .int .i64 (y : Int)) rfl (.val (by rfl) (fun _ _ => rfl)) ?_
      simp only [Act.put, List.setIfInBounds_toArray, List.set_cons_zero, List.set_cons_succ]
      refine wpG_done (fun V40 hv41 => ?_)
      have GC42 := Lib.hid (GC39.out.trans hv41)
      clear hv41
      go_upto_region 7 with fail
      refine wpG_region ?_
      refine wpG_tk (some 16) (v := .int .i64 0) rfl (.val (by rfl) (fun _ _ => rfl)) ?_
      simp only [Act.put, List.setIfInBounds_toArray, List.set_cons_zero, List.set_cons_succ]
      refine wpG_done (fun V43 hv44 => ?_)
      have GC45 := Lib.hid (GC42.out.trans hv44)
      clear hv44
      go_wp2_with fail
      go_loopw [16, 3] (fun i v wr => ∃ k : Nat, i = .int .i64 (k : Int) ∧ v = .int .i64 ((Mo.acc n1 (2 ^ 1) k y : Nat) : Int) ∧ k ≤ 14 ∧ Gr u wr) (fun i _ _ => 14 - (intOf i).toNat)
      case atStart => exact ⟨0, rfl, by rw [Mo.acc_zero], by omega, GC45.out⟩
      case round =>
        obtain ⟨k, rfl, rfl, hk, hG⟩ := hrel
        have HG1 := Lib.hid hG
        clear hG
        have hb2 := Mo.acc_lt n1 1 k y hb1 (by omega) hk
        have hst := Mo.acc_step n1 1 k y
        obtain ⟨n2, hn⟩ : ∃ n, n = Mo.acc n1 (2 ^ 1) k y := ⟨_, rfl⟩
        rw [← hn] at hst hb2
        rw [← hn]
        have HS := Lib.hid hst
        have HN2 := Lib.hid hn
        clear hst hn
        by_cases hlt : k < 14
        · skip
          go_upto_region 8 with fail
          refine wpG_region ?_
          refine wpG_tk (some 17) (v := .bool true) rfl (.val (by rfl) (fun W hg => by have hq : ((k : Int) < 14) := (by omega); first | (go_simp; done) | (go_simp <;> omega))) ?_
          simp only [Act.put, List.setIfInBounds_toArray, List.set_cons_zero, List.set_cons_succ]
          refine wpG_done (fun V46 hv47 => ?_)
          have GC48 := Lib.hid (HG1.out.trans hv47)
          clear hv47
          go_upto_region 9 with fail
          refine wpG_region ?_
          refine wpG_tk (some 18) (v := .int .i64 (k : Int)) rfl (.val (by rfl) (fun _ _ => rfl)) ?_
          simp only [Act.put, List.setIfInBounds_toArray, List.set_cons_zero, List.set_cons_succ]
          refine wpG_tk (some 6) (v := .int .i64 (k : Int)) rfl (.val (by rfl) (fun _ _ => rfl)) ?_
          simp only [Act.put, List.setIfInBounds_toArray, List.set_cons_zero, List.set_cons_succ]
          refine wpG_done (fun V49 hv50 => ?_)
          have GC51 := Lib.hid (GC48.out.trans hv50)
          clear hv50
          go_upto_region 10 with fail
          obtain ⟨bt, hbt⟩ : ∃ bt, bt = y / 2 ^ k % 2 := ⟨_, rfl⟩
          have hb2 : bt < 2 := by rw [hbt]; exact Nat.mod_lt _ (by decide)
          obtain ⟨sh, hsh⟩ : ∃ sh, sh = bt * 2 ^ (3 * k + 1) := ⟨_, rfl⟩
          have hs2 : sh < 2 ^ 60 := by rw [hsh]; exact Nat.lt_of_le_of_lt (Nat.mul_le_mul (show bt ≤ 1 by omega) (Nat.pow_le_pow_right (by decide) (show 3 * k + 1 ≤ 44 by omega))) (by decide)
          have hst := HS.out
          rw [← hbt, ← hsh] at hst
          have HT := Lib.hid hst
          have HB := Lib.hid hbt
          have HC := Lib.hid hsh
          clear hbt hsh hst
          refine wpG_region ?_
          refine wpG_tk (some 19) (v := .int .i64 (n2 : Int)) rfl (.val (by rfl) (fun _ _ => rfl)) ?_
          simp only [Act.put, List.setIfInBounds_toArray, List.set_cons_zero, List.set_cons_succ]
          refine wpG_tk (some 20) (v := .int .i64 (y : Int)) rfl (.val (by rfl) (fun _ _ => rfl)) ?_
          simp only [Act.put, List.setIfInBounds_toArray, List.set_cons_zero, List.set_cons_succ]
          refine wpG_tk (some 21) (v := .int .i64 (k : Int)) rfl (.val (by rfl) (fun _ _ => rfl)) ?_
          simp only [Act.put, List.setIfInBounds_toArray, List.set_cons_zero, List.set_cons_succ]
          refine wpG_tk (some 22) (v := .int .i64 ((y : Int) / 2 ^ k)) rfl (.val (by rfl) (fun W hg => by go_simp)) ?_
          simp only [Act.put, List.setIfInBounds_toArray, List.set_cons_zero, List.set_cons_succ]
          refine wpG_tk (some 23) (v := .int .i64 (bt : Int)) rfl (.val (by rfl) (fun W hg => by go_simp; rw [HB.out]; exact shr1 _ _ (by omega))) ?_
          simp only [Act.put, List.setIfInBounds_toArray, List.set_cons_zero, List.set_cons_succ]
          refine wpG_tk (some 24) (v := .int .i64 (k : Int)) rfl (.val (by rfl) (fun _ _ => rfl)) ?_
          simp only [Act.put, List.setIfInBounds_toArray, List.set_cons_zero, List.set_cons_succ]
          refine wpG_tk (some 25) (v := .int .i64 (3 * (k : Int))) rfl (.val (by rfl) (fun W hg => by (first | (go_simp; done) | (go_simp; rw [IntWalk.i64_in _ (by omega)])))) ?_
          simp only [Act.put, List.setIfInBounds_toArray, List.set_cons_zero, List.set_cons_succ]
          refine wpG_tk (some 26) (v := .int .i64 1) rfl (.val (by rfl) (fun _ _ => rfl)) ?_
          simp only [Act.put, List.setIfInBounds_toArray, List.set_cons_zero, List.set_cons_succ]
          refine wpG_tk (some 27) (v := .int .i64 (3 * (k : Int) + 1)) rfl (.val (by rfl) (fun W hg => by (first | (go_simp; done) | (go_simp; rw [IntWalk.i64_in _ (by omega)])))) ?_
          simp only [Act.put, List.setIfInBounds_toArray, List.set_cons_zero, List.set_cons_succ]
          refine wpG_tk (some 28) (v := .int .i64 (sh : Int)) rfl (.val (by rfl) (fun W hg => by go_simp; rw [HC.out]; exact shl_bit bt (3 * k + 1) hb2 (by omega))) ?_
          simp only [Act.put, List.setIfInBounds_toArray, List.set_cons_zero, List.set_cons_succ]
          refine wpG_tk (some 29) (v := .int .i64 ((n2 ||| sh : Nat) : Int)) rfl (.val (by rfl) (fun W hg => by go_simp; exact bits_or_i64 _ _ (by omega) (by omega))) ?_
          simp only [Act.put, List.setIfInBounds_toArray, List.set_cons_zero, List.set_cons_succ]
          refine wpG_tk (some 3) (v := .int .i64 ((n2 ||| sh : Nat) : Int)) rfl (.val (by rfl) (fun _ _ => rfl)) ?_
          simp only [Act.put, List.setIfInBounds_toArray, List.set_cons_zero, List.set_cons_succ]
          refine wpG_done (fun V52 hv53 => ?_)
          have GC54 := Lib.hid (GC51.out.trans hv53)
          clear hv53
          go_upto_region 11 with fail
          refine wpG_region ?_
          refine wpG_tk (some 30) (v := .int .i64 ((k : Int) + 1)) rfl (.val (by rfl) (fun W hg => by (first | (go_simp; done) | (go_simp; rw [IntWalk.i64_in _ (by omega)])))) ?_
          simp only [Act.put, List.setIfInBounds_toArray, List.set_cons_zero, List.set_cons_succ]
          refine wpG_tk (some 16) (v := .int .i64 ((k : Int) + 1)) rfl (.val (by rfl) (fun _ _ => rfl)) ?_
          simp only [Act.put, List.setIfInBounds_toArray, List.set_cons_zero, List.set_cons_succ]
          refine wpG_done (fun V55 hv56 => ?_)
          have GC57 := Lib.hid (GC54.out.trans hv56)
          clear hv56
          go_wp2_with fail
          go_roundw
          case rel => exact ⟨k + 1, by go_num, by rw [HT.out], by omega, GC57.out⟩
          case measure => simp [intOf]; omega
        · obtain rfl : k = 14 := by omega
          clear hk hlt HS
          go_upto_region 8 with fail
          refine wpG_region ?_
          refine wpG_tk (some 17) (v := .bool false) rfl (.val (by rfl) (fun W hg => by go_simp)) ?_
          simp only [Act.put, List.setIfInBounds_toArray, List.set_cons_zero, List.set_cons_succ]
          refine wpG_done (fun V58 hv59 => ?_)
          have GC60 := Lib.hid (HG1.out.trans hv59)
          clear hv59
          go_upto_region 12 with fail
          refine wpG_region ?_
          refine wpG_tk (some 31) (v := .int .i64 2) rfl (.val (by rfl) (fun W hg => by go_simp <;> rfl)) ?_
          simp only [Act.put, List.setIfInBounds_toArray, List.set_cons_zero, List.set_cons_succ]
          refine wpG_tk (some 12) (v := .int .i64 2) rfl (.val (by rfl) (fun _ _ => rfl)) ?_
          simp only [Act.put, List.setIfInBounds_toArray, List.set_cons_zero, List.set_cons_succ]
          refine wpG_done (fun V61 hv62 => ?_)
          have GC63 := Lib.hid (GC60.out.trans hv62)
          clear hv62
          go_wp2_with fail
          rw [rounds_succ]
          go_upto_region 5 with fail
          refine wpG_region ?_
          refine wpG_tk (some 13) (v := .bool true) rfl (.val (by rfl) (fun W hg => by go_simp)) ?_
          simp only [Act.put, List.setIfInBounds_toArray, List.set_cons_zero, List.set_cons_succ]
          refine wpG_done (fun V64 hv65 => ?_)
          have GC66 := Lib.hid (GC63.out.trans hv65)
          clear hv65
          go_upto_region 6 with fail
          refine wpG_region ?_
          refine wpG_tk (some 14) (v := .int .i64 2) rfl (.val (by rfl) (fun _ _ => rfl)) ?_
          simp only [Act.put, List.setIfInBounds_toArray, List.set_cons_zero, List.set_cons_succ]
          refine wpG_tk (some 15) (v := .int .i64 (z : Int)) rfl (.val (by rfl) (fun W hg => by have e := idx3_2 W (x : Int) (y : Int) (z : Int); go_simp)) ?_
          simp only [Act.put, List.setIfInBounds_toArray, List.set_cons_zero, List.set_cons_succ]
          refine wpG_tk (some 4) (v := .int .i64 2) rfl (.val (by rfl) (fun _ _ => rfl)) ?_
          simp only [Act.put, List.setIfInBounds_toArray, List.set_cons_zero, List.set_cons_succ]
          refine wpG_tk (some 5) (v := .int .i64 (z : Int)) rfl (.val (by rfl) (fun _ _ => rfl)) ?_
          simp only [Act.put, List.setIfInBounds_toArray, List.set_cons_zero, List.set_cons_succ]
          refine wpG_done (fun V67 hv68 => ?_)
          have GC69 := Lib.hid (GC66.out.trans hv68)
          clear hv68
          go_upto_region 7 with fail
          refine wpG_region ?_
          refine wpG_tk (some 16) (v := .int .i64 0) rfl (.val (by rfl) (fun _ _ => rfl)) ?_
          simp only [Act.put, List.setIfInBounds_toArray, List.set_cons_zero, List.set_cons_succ]
          refine wpG_done (fun V70 hv71 => ?_)
          have GC72 := Lib.hid (GC69.out.trans hv71)
          clear hv71
          go_wp2_with fail
          go_loopw [16, 3] (fun i v wr => ∃ k : Nat, i = .int .i64 (k : Int) ∧ v = .int .i64 ((Mo.acc n2 (2 ^ 2) k z : Nat) : Int) ∧ k ≤ 14 ∧ Gr u wr) (fun i _ _ => 14 - (intOf i).toNat)
          case atStart => exact ⟨0, rfl, by rw [Mo.acc_zero], by omega, GC72.out⟩
          case round =>
            obtain ⟨k, rfl, rfl, hk, hG⟩ := hrel
            have HG2 := Lib.hid hG
            clear hG
            have hb3 := Mo.acc_lt n2 2 k z hb2 (by omega) hk
            have hst := Mo.acc_step n2 2 k z
            obtain ⟨n3, hn⟩ : ∃ n, n = Mo.acc n2 (2 ^ 2) k z := ⟨_, rfl⟩
            rw [← hn] at hst hb3
            rw [← hn]
            have HS := Lib.hid hst
            have HN3 := Lib.hid hn
            clear hst hn
            by_cases hlt : k < 14
            · skip
              go_upto_region 8 with fail
              refine wpG_region ?_
              refine wpG_tk (some 17) (v := .bool true) rfl (.val (by rfl) (fun W hg => by have hq : ((k : Int) < 14) := (by omega); first | (go_simp; done) | (go_simp <;> omega))) ?_
              simp only [Act.put, List.setIfInBounds_toArray, List.set_cons_zero, List.set_cons_succ]
              refine wpG_done (fun V73 hv74 => ?_)
              have GC75 := Lib.hid (HG2.out.trans hv74)
              clear hv74
              go_upto_region 9 with fail
              refine wpG_region ?_
              refine wpG_tk (some 18) (v := .int .i64 (k : Int)) rfl (.val (by rfl) (fun _ _ => rfl)) ?_
              simp only [Act.put, List.setIfInBounds_toArray, List.set_cons_zero, List.set_cons_succ]
              refine wpG_tk (some 6) (v := .int .i64 (k : Int)) rfl (.val (by rfl) (fun _ _ => rfl)) ?_
              simp only [Act.put, List.setIfInBounds_toArray, List.set_cons_zero, List.set_cons_succ]
              refine wpG_done (fun V76 hv77 => ?_)
              have GC78 := Lib.hid (GC75.out.trans hv77)
              clear hv77
              go_upto_region 10 with fail
              obtain ⟨bt, hbt⟩ : ∃ bt, bt = z / 2 ^ k % 2 := ⟨_, rfl⟩
              have hb2 : bt < 2 := by rw [hbt]; exact Nat.mod_lt _ (by decide)
              obtain ⟨sh, hsh⟩ : ∃ sh, sh = bt * 2 ^ (3 * k + 2) := ⟨_, rfl⟩
              have hs2 : sh < 2 ^ 60 := by rw [hsh]; exact Nat.lt_of_le_of_lt (Nat.mul_le_mul (show bt ≤ 1 by omega) (Nat.pow_le_pow_right (by decide) (show 3 * k + 2 ≤ 44 by omega))) (by decide)
              have hst := HS.out
              rw [← hbt, ← hsh] at hst
              have HT := Lib.hid hst
              have HB := Lib.hid hbt
              have HC := Lib.hid hsh
              clear hbt hsh hst
              refine wpG_region ?_
              refine wpG_tk (some 19) (v := .int .i64 (n3 : Int)) rfl (.val (by rfl) (fun _ _ => rfl)) ?_
              simp only [Act.put, List.setIfInBounds_toArray, List.set_cons_zero, List.set_cons_succ]
              refine wpG_tk (some 20) (v := .int .i64 (z : Int)) rfl (.val (by rfl) (fun _ _ => rfl)) ?_
              simp only [Act.put, List.setIfInBounds_toArray, List.set_cons_zero, List.set_cons_succ]
              refine wpG_tk (some 21) (v := .int .i64 (k : Int)) rfl (.val (by rfl) (fun _ _ => rfl)) ?_
              simp only [Act.put, List.setIfInBounds_toArray, List.set_cons_zero, List.set_cons_succ]
              refine wpG_tk (some 22) (v := .int .i64 ((z : Int) / 2 ^ k)) rfl (.val (by rfl) (fun W hg => by go_simp)) ?_
              simp only [Act.put, List.setIfInBounds_toArray, List.set_cons_zero, List.set_cons_succ]
              refine wpG_tk (some 23) (v := .int .i64 (bt : Int)) rfl (.val (by rfl) (fun W hg => by go_simp; rw [HB.out]; exact shr1 _ _ (by omega))) ?_
              simp only [Act.put, List.setIfInBounds_toArray, List.set_cons_zero, List.set_cons_succ]
              refine wpG_tk (some 24) (v := .int .i64 (k : Int)) rfl (.val (by rfl) (fun _ _ => rfl)) ?_
              simp only [Act.put, List.setIfInBounds_toArray, List.set_cons_zero, List.set_cons_succ]
              refine wpG_tk (some 25) (v := .int .i64 (3 * (k : Int))) rfl (.val (by rfl) (fun W hg => by (first | (go_simp; done) | (go_simp; rw [IntWalk.i64_in _ (by omega)])))) ?_
              simp only [Act.put, List.setIfInBounds_toArray, List.set_cons_zero, List.set_cons_succ]
              refine wpG_tk (some 26) (v := .int .i64 2) rfl (.val (by rfl) (fun _ _ => rfl)) ?_
              simp only [Act.put, List.setIfInBounds_toArray, List.set_cons_zero, List.set_cons_succ]
              refine wpG_tk (some 27) (v := .int .i64 (3 * (k : Int) + 2)) rfl (.val (by rfl) (fun W hg => by (first | (go_simp; done) | (go_simp; rw [IntWalk.i64_in _ (by omega)])))) ?_
              simp only [Act.put, List.setIfInBounds_toArray, List.set_cons_zero, List.set_cons_succ]
              refine wpG_tk (some 28) (v := .int .i64 (sh : Int)) rfl (.val (by rfl) (fun W hg => by go_simp; rw [HC.out]; exact shl_bit bt (3 * k + 2) hb2 (by omega))) ?_
              simp only [Act.put, List.setIfInBounds_toArray, List.set_cons_zero, List.set_cons_succ]
              refine wpG_tk (some 29) (v := .int .i64 ((n3 ||| sh : Nat) : Int)) rfl (.val (by rfl) (fun W hg => by go_simp; exact bits_or_i64 _ _ (by omega) (by omega))) ?_
              simp only [Act.put, List.setIfInBounds_toArray, List.set_cons_zero, List.set_cons_succ]
              refine wpG_tk (some 3) (v := .int .i64 ((n3 ||| sh : Nat) : Int)) rfl (.val (by rfl) (fun _ _ => rfl)) ?_
              simp only [Act.put, List.setIfInBounds_toArray, List.set_cons_zero, List.set_cons_succ]
              refine wpG_done (fun V79 hv80 => ?_)
              have GC81 := Lib.hid (GC78.out.trans hv80)
              clear hv80
              go_upto_region 11 with fail
              refine wpG_region ?_
              refine wpG_tk (some 30) (v := .int .i64 ((k : Int) + 1)) rfl (.val (by rfl) (fun W hg => by (first | (go_simp; done) | (go_simp; rw [IntWalk.i64_in _ (by omega)])))) ?_
              simp only [Act.put, List.setIfInBounds_toArray, List.set_cons_zero, List.set_cons_succ]
              refine wpG_tk (some 16) (v := .int .i64 ((k : Int) + 1)) rfl (.val (by rfl) (fun _ _ => rfl)) ?_
              simp only [Act.put, List.setIfInBounds_toArray, List.set_cons_zero, List.set_cons_succ]
              refine wpG_done (fun V82 hv83 => ?_)
              have GC84 := Lib.hid (GC81.out.trans hv83)
              clear hv83
              go_wp2_with fail
              go_roundw
              case rel => exact ⟨k + 1, by go_num, by rw [HT.out], by omega, GC84.out⟩
              case measure => simp [intOf]; omega
            · obtain rfl : k = 14 := by omega
              clear hk hlt HS
              go_upto_region 8 with fail
              refine wpG_region ?_
              refine wpG_tk (some 17) (v := .bool false) rfl (.val (by rfl) (fun W hg => by go_simp)) ?_
              simp only [Act.put, List.setIfInBounds_toArray, List.set_cons_zero, List.set_cons_succ]
              refine wpG_done (fun V85 hv86 => ?_)
              have GC87 := Lib.hid (HG2.out.trans hv86)
              clear hv86
              go_upto_region 12 with fail
              refine wpG_region ?_
              refine wpG_tk (some 31) (v := .int .i64 3) rfl (.val (by rfl) (fun W hg => by go_simp <;> rfl)) ?_
              simp only [Act.put, List.setIfInBounds_toArray, List.set_cons_zero, List.set_cons_succ]
              refine wpG_tk (some 12) (v := .int .i64 3) rfl (.val (by rfl) (fun _ _ => rfl)) ?_
              simp only [Act.put, List.setIfInBounds_toArray, List.set_cons_zero, List.set_cons_succ]
              refine wpG_done (fun V88 hv89 => ?_)
              have GC90 := Lib.hid (GC87.out.trans hv89)
              clear hv89
              go_wp2_with fail
              rw [rounds_succ]
              go_upto_region 5 with fail
              refine wpG_region ?_
              refine wpG_tk (some 13) (v := .bool false) rfl (.val (by rfl) (fun W hg => by go_simp)) ?_
              simp only [Act.put, List.setIfInBounds_toArray, List.set_cons_zero, List.set_cons_succ]
              refine wpG_done (fun V91 hv92 => ?_)
              have GC93 := Lib.hid (GC90.out.trans hv92)
              clear hv92
              go_upto_region 13 with fail
              refine wpG_region ?_
              refine wpG_tk (some 32) (v := .int .i64 (n3 : Int)) rfl (.val (by rfl) (fun _ _ => rfl)) ?_
              simp only [Act.put, List.setIfInBounds_toArray, List.set_cons_zero, List.set_cons_succ]
              refine wpG_tk (some 2) (v := .int .i64 (n3 : Int)) rfl (.val (by rfl) (fun _ _ => rfl)) ?_
              simp only [Act.put, List.setIfInBounds_toArray, List.set_cons_zero, List.set_cons_succ]
              refine wpG_done (fun V94 hv95 => ?_)
              have GC96 := Lib.hid (GC93.out.trans hv95)
              clear hv95
              go_wp2_with fail
              go_ret
              exact ⟨ret_int (by rw [← Mo.acc3, HN3.out, HN2.out, HN1.out, HN0.out]), Gr.to G0.out GC96.out⟩
set_option maxRecDepth 1000000 in
set_option maxHeartbeats 4000000 in
theorem encode_out (x y z : Int) (w : World) (h : Mo.inB x y z = false) :
    Calls Try.prog 13 #[.agg #[.int .i64 x, .int .i64 y, .int .i64 z]] w fun e w' => e = .returned (.int .i64 (-1)) ∧ Below w.heap.size w w' := by
  have HI := Lib.hid h
  clear h
  obtain ⟨u, hu, r0, g0⟩ := rows1 w [.int .i64 x, .int .i64 y, .int .i64 z] 23
  have R0 := Lib.hid r0
  have G0 := Lib.hid g0
  have HU := Lib.hid hu
  clear hu g0 r0
  go_enter Try.func13, Try.ntmps13
  go_upto_region 1 with fail
  rw [← HU.out]
  refine wpG_region ?_
  refine wpG_tk (some 7) (v := .agg #[.int .i64 x, .int .i64 y, .int .i64 z]) rfl (.load_mid (by rfl) 23 (.tmp 1) rfl (w.heap.size) 0 rfl [.int .i64 x, .int .i64 y, .int .i64 z] _ (fun W hg => (R0.out.below hg).range) Try.underlying23 rfl (by kernel_rfl)) ?_
  simp only [Act.put, List.setIfInBounds_toArray, List.set_cons_zero, List.set_cons_succ]
  refine wpG_tk (some 8) (v := .bool false) rfl (.call (f := 38) (args := #[.agg #[.int .i64 x, .int .i64 y, .int .i64 z]]) (by rfl) (fun W => by go_simp) (fun W hg => (HI.out ▸ inside_b x y z W))) ?_
  simp only [Act.put, List.setIfInBounds_toArray, List.set_cons_zero, List.set_cons_succ]
  refine wpG_tk (some 9) (v := .bool true) rfl (.val (by rfl) (fun W hg => by go_simp)) ?_
  simp only [Act.put, List.setIfInBounds_toArray, List.set_cons_zero, List.set_cons_succ]
  refine wpG_done (fun V1 hv2 => ?_)
  have GC3 := Lib.hid hv2
  clear hv2
  go_upto_region 2 with fail
  refine wpG_region ?_
  refine wpG_tk (some 2) (v := .int .i64 (-1)) rfl (.val (by rfl) (fun _ _ => rfl)) ?_
  simp only [Act.put, List.setIfInBounds_toArray, List.set_cons_zero, List.set_cons_succ]
  refine wpG_done (fun V4 hv5 => ?_)
  have GC6 := Lib.hid (GC3.out.trans hv5)
  clear hv5
  go_wp2_with fail
  go_ret
  exact ⟨rfl, Gr.to G0.out GC6.out⟩
set_option maxRecDepth 1000000 in
set_option maxHeartbeats 4000000 in
theorem encode_any (x y z : Int) (w : World) :
    Calls Try.prog 13 #[.agg #[.int .i64 x, .int .i64 y, .int .i64 z]] w fun e w' => e = .returned (.int .i64 (Mo.enc x y z)) ∧ Below w.heap.size w w' := by
  cases h : Mo.inB x y z with
  | false => rw [Mo.enc_out h]; exact encode_out x y z w h
  | true =>
    rw [Mo.enc_in h]
    have hx := Mo.inB_true.1 h
    obtain ⟨x, rfl⟩ := Int.eq_ofNat_of_zero_le hx.1.1
    obtain ⟨y, rfl⟩ := Int.eq_ofNat_of_zero_le hx.2.1.1
    obtain ⟨z, rfl⟩ := Int.eq_ofNat_of_zero_le hx.2.2.1
    exact encode_in x y z w h (by omega)

end Go.Proofs.Ytmjjkloeipoefaa
