/-
  How many cells three loops count; small boxes; the visits of the search. No program is mentioned here.
-/
import Derived.Test.YtmjjkloeipoefaaMo12
import Derived.Handy
namespace Go.Proofs.Ytmjjkloeipoefaa.Mo
def iv (a z : Int) : Int := max 0 (min z 16384 - max a 0)
def fX (x : Int) : Bool := decide (0 ≤ x ∧ x < 16384)
def gb (f : Bool) (v : Int) : Int := if f then v else 0
theorem iv_self (a : Int) : iv a a = 0 := by unfold iv; omega
theorem iv_step {a z : Int} (h : a ≤ z) : iv a (z + 1) = iv a z + gb (fX z) 1 := by
  unfold iv gb fX
  split
  · rename_i h1; rw [decide_eq_true_eq] at h1; omega
  · rename_i h1; rw [decide_eq_true_eq] at h1; omega
theorem iv_bd {a z : Int} {k : Int} (h : z - a ≤ k) (hk : 0 ≤ k) : 0 ≤ iv a z ∧ iv a z ≤ k := by unfold iv; omega
theorem inB_f (x y z : Int) : inB x y z = (fX x && fX y && fX z) := by
  rw [Bool.eq_iff_iff, inB_true]
  unfold fX
  simp only [Bool.and_eq_true, decide_eq_true_eq]
  omega
theorem inner_yes {x y z a : Int} (h : a ≤ z) (hi : inB x y z = true) : gb (fX x && fX y) (iv a (z + 1)) = gb (fX x && fX y) (iv a z) + 1 := by
  rw [inB_f, Bool.and_eq_true] at hi
  rw [hi.1, iv_step h, hi.2]; rfl
theorem inner_no {x y z a : Int} (h : a ≤ z) (hi : inB x y z = false) : gb (fX x && fX y) (iv a (z + 1)) = gb (fX x && fX y) (iv a z) := by
  rw [inB_f] at hi
  cases hx : (fX x && fX y) with
  | false => rfl
  | true =>
    rw [hx, Bool.true_and] at hi
    rw [iv_step h, hi]
    unfold gb
    simp
theorem mid_step {x y a I : Int} (h : a ≤ y) : gb (fX x) (iv a y * I) + gb (fX x && fX y) I = gb (fX x) (iv a (y + 1) * I) := by
  rw [iv_step h]
  cases fX x <;> cases fX y <;> simp [gb, Int.add_mul]
theorem outer_step {x a T : Int} (h : a ≤ x) : iv a x * T + gb (fX x) T = iv a (x + 1) * T := by
  rw [iv_step h]
  cases fX x <;> simp [gb, Int.add_mul]
theorem gb_bd {f : Bool} {v k : Int} (h : 0 ≤ v ∧ v ≤ k) : 0 ≤ gb f v ∧ gb f v ≤ k := by unfold gb; split <;> omega
theorem iv_ov {lo hi : Int} : iv lo (max lo hi) = ((ov 0 14 lo hi : Nat) : Int) := by
  unfold iv ov
  rw [show pw 14 = 16384 from rfl]
  omega
def smallB (b1 b2 b3 b4 b5 b6 : Int) : Bool := decide (b1 ≥ -100000) && decide (b2 ≥ -100000) && decide (b3 ≥ -100000) && decide (b4 ≤ 100000) && decide (b5 ≤ 100000) && decide (b6 ≤ 100000) &&
  decide (IntKind.i64.wrap (b4 - b1) ≤ 20) && decide (IntKind.i64.wrap (b5 - b2) ≤ 20) && decide (IntKind.i64.wrap (b6 - b3) ≤ 20)
theorem small_bd {b1 b2 b3 b4 b5 b6 : Int} (h : smallB b1 b2 b3 b4 b5 b6 = true) : (-100000 ≤ b1 ∧ b4 ≤ 100000) ∧ (-100000 ≤ b2 ∧ b5 ≤ 100000) ∧ (-100000 ≤ b3 ∧ b6 ≤ 100000) := by
  unfold smallB at h
  simp only [Bool.and_eq_true, decide_eq_true_eq] at h
  omega
theorem wrap_le {a b k : Int} (h : IntKind.i64.wrap (b - a) ≤ k) (ha : -100000 ≤ a) (hb : b ≤ 100000) (hk : 0 ≤ k) : max a b - a ≤ k := by
  by_cases hab : a < b
  · rw [IntWalk.i64_in _ (by omega)] at h; omega
  · omega
theorem nextI_fnd (b1 b2 b3 b4 b5 b6 n : Int) : Fnd b1 b2 b3 b4 b5 b6 0 4398046511104 n (nx b1 b2 b3 b4 b5 b6 n 14 0 0 0) := by
  have := nx_fnd (b1 := b1) (b2 := b2) (b3 := b3) (b4 := b4) (b5 := b5) (b6 := b6) (n := n) 14 0 0 0 al0
  rw [show enc 0 0 0 = 0 by decide +kernel, show (0 : Int) + pw (3 * 14) = 4398046511104 by decide +kernel] at this
  exact this
/-- how many cells a box has -/
def total (b1 b2 b3 b4 b5 b6 : Int) : Nat := cntR (pc b1 b2 b3 b4 b5 b6) 0 (8 ^ 14)
theorem total_eq (b1 b2 b3 b4 b5 b6 : Int) : ((total b1 b2 b3 b4 b5 b6 : Nat) : Int) = iv b1 (max b1 b4) * (iv b2 (max b2 b5) * iv b3 (max b3 b6)) := by
  have h := cnt_al (b1 := b1) (b2 := b2) (b3 := b3) (b4 := b4) (b5 := b5) (b6 := b6) 14 0 0 0 al0
  rw [show (enc 0 0 0).toNat = 0 by decide +kernel] at h
  unfold total
  rw [h, iv_ov, iv_ov, iv_ov, ← Int.mul_assoc]
  simp
section
variable {b1 b2 b3 b4 b5 b6 : Int}
/-- no cell from k on: all are counted -/
theorem cnt_end {k : Nat} (hk : k ≤ 4398046511104) (h : ∀ c : Nat, (0 : Int) ≤ c → (c : Int) < 4398046511104 → (k : Int) ≤ c → pc b1 b2 b3 b4 b5 b6 c = false) : cntR (pc b1 b2 b3 b4 b5 b6) 0 k = total b1 b2 b3 b4 b5 b6 := by
  have e := cntR_none (P := pc b1 b2 b3 b4 b5 b6) (s := k) (k := 4398046511104 - k) (fun c h1 h2 => h c (by omega) (by omega) (by omega))
  unfold total
  rw [show 8 ^ 14 = k + (4398046511104 - k) by omega, cntR_add, Nat.zero_add, e]; rfl
/-- the next cell is one more -/
theorem cnt_next {k v : Nat} (hkv : k ≤ v) (hp : pc b1 b2 b3 b4 b5 b6 v = true) (h : ∀ c : Nat, (0 : Int) ≤ c → (k : Int) ≤ c → c < v → pc b1 b2 b3 b4 b5 b6 c = false) : cntR (pc b1 b2 b3 b4 b5 b6) 0 (v + 1) = cntR (pc b1 b2 b3 b4 b5 b6) 0 k + 1 := by
  have e := cntR_none (P := pc b1 b2 b3 b4 b5 b6) (s := k) (k := v - k) (fun c h1 h2 => h c (by omega) (by omega) (by omega))
  have e2 := cntR_add (pc b1 b2 b3 b4 b5 b6) 0 k (v - k)
  rw [show k + (v - k) = v by omega, Nat.zero_add, e] at e2
  rw [cntR, Nat.zero_add, if_pos hp, e2]
theorem cnt_le {k : Nat} (hk : k ≤ 4398046511104) : cntR (pc b1 b2 b3 b4 b5 b6) 0 k ≤ total b1 b2 b3 b4 b5 b6 := by
  unfold total
  rw [show 8 ^ 14 = k + (4398046511104 - k) by omega]
  exact cntR_le _ _ _ _
end
end Go.Proofs.Ytmjjkloeipoefaa.Mo
