/-
  Codes of points with integer coordinates. No program is mentioned here.
-/
import Derived.Test.YtmjjkloeipoefaaMo1
namespace Go.Proofs.Ytmjjkloeipoefaa.Mo

def inB (x y z : Int) : Bool := decide (0 ≤ x ∧ x < 16384 ∧ 0 ≤ y ∧ y < 16384 ∧ 0 ≤ z ∧ z < 16384)
theorem inB_true {x y z : Int} : inB x y z = true ↔ (0 ≤ x ∧ x < 16384) ∧ (0 ≤ y ∧ y < 16384) ∧ (0 ≤ z ∧ z < 16384) := by
  unfold inB; rw [decide_eq_true_eq]; omega
/-- what the program's loop over the bits of one coordinate holds -/
def acc (A m k c : Nat) : Nat := A ||| m * S k c
theorem acc_zero (A m c : Nat) : acc A m 0 c = A := by simp [acc, S]
theorem acc_step (A a k c : Nat) : acc A (2 ^ a) k c ||| c / 2 ^ k % 2 * 2 ^ (3 * k + a) = acc A (2 ^ a) (k + 1) c := by
  unfold acc
  rw [Nat.or_assoc, S_top]
  congr 1
  have h1 : 2 ^ a * S k c < 2 ^ (3 * k + a) := by
    rw [Nat.pow_add, ← pow83, Nat.mul_comm]
    exact Nat.mul_lt_mul_of_pos_right (S_lt k c) (Nat.two_pow_pos a)
  rw [or_add _ _ _ h1, Nat.mul_add, Nat.pow_add, ← pow83]
  congr 1
  ac_rfl
theorem acc_lt (A a k c : Nat) (hA : A < 2 ^ 60) (ha : a ≤ 2) (hk : k ≤ 14) : acc A (2 ^ a) k c < 2 ^ 60 := by
  unfold acc
  have h1 : 2 ^ a * S k c < 2 ^ 2 * 8 ^ 14 := by
    have := S_lt k c
    have h8 : 8 ^ k ≤ 8 ^ 14 := Nat.pow_le_pow_right (by decide) hk
    have h2 : 2 ^ a ≤ 2 ^ 2 := Nat.pow_le_pow_right (by decide) ha
    calc 2 ^ a * S k c ≤ 2 ^ 2 * S k c := Nat.mul_le_mul_right _ h2
      _ < 2 ^ 2 * 8 ^ 14 := Nat.mul_lt_mul_of_pos_left (by omega) (by decide)
  exact Nat.or_lt_two_pow hA (by omega)
theorem acc3 (x y z : Nat) : acc (acc (acc 0 (2 ^ 0) 14 x) (2 ^ 1) 14 y) (2 ^ 2) 14 z = E 14 x y z := by
  rw [← S_or]
  simp [acc]

/-- the code of a point, as P5.1 says it -/
def enc (x y z : Int) : Int := if inB x y z then ((E 14 x.toNat y.toNat z.toNat : Nat) : Int) else -1
theorem enc_in {x y z : Int} (h : inB x y z = true) : enc x y z = ((E 14 x.toNat y.toNat z.toNat : Nat) : Int) := by unfold enc; rw [if_pos h]
theorem enc_out {x y z : Int} (h : inB x y z = false) : enc x y z = -1 := by unfold enc; rw [if_neg (by rw [h]; decide)]

/-- the program's loop over the bits of one coordinate of a code -/
theorem D_or (n a k : Nat) : D k (n / 2 ^ a) ||| n / 2 ^ (3 * k + a) % 2 * 2 ^ k = D (k + 1) (n / 2 ^ a) := by
  rw [D_top, or_add _ _ _ (D_lt _ _), pow83, Nat.div_div_eq_div_mul, ← Nat.pow_add, Nat.add_comm a]
/-- is it a code? -/
def okB (n : Int) : Bool := decide (0 ≤ n ∧ n < 4398046511104)
theorem okB_true {n : Int} : okB n = true ↔ 0 ≤ n ∧ n < 4398046511104 := by unfold okB; rw [decide_eq_true_eq]
theorem okB_false {n : Int} : okB n = false ↔ ¬ (0 ≤ n ∧ n < 4398046511104) := by unfold okB; rw [decide_eq_false_iff_not]
/-- the coordinate number a of the point with a code; 0 if there is none -/
def dec (a : Nat) (n : Int) : Int := if okB n then ((D 14 (n.toNat / 2 ^ a) : Nat) : Int) else 0
theorem dec_in {a : Nat} {n : Int} (h : okB n = true) : dec a n = ((D 14 (n.toNat / 2 ^ a) : Nat) : Int) := by unfold dec; rw [if_pos h]
theorem dec_out {a : Nat} {n : Int} (h : okB n = false) : dec a n = 0 := by unfold dec; rw [if_neg (by rw [h]; decide)]
end Go.Proofs.Ytmjjkloeipoefaa.Mo
