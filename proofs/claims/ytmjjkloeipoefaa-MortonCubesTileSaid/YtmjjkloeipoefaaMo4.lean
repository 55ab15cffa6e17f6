/-
  The least cube that contains two points. No program is mentioned here.
-/
import Derived.Test.YtmjjkloeipoefaaMo3
import Derived.Test.YtmjjkloeipoefaaMol0
namespace Go.Proofs.Ytmjjkloeipoefaa.Mo

theorem E_div : ∀ (L k x y z : Nat), E (k + L) x y z / 8 ^ L = E k (x / 2 ^ L) (y / 2 ^ L) (z / 2 ^ L)
  | 0, k, x, y, z => by simp
  | L + 1, k, x, y, z => by
    have h := E_div L k (x / 2) (y / 2) (z / 2)
    rw [← Nat.add_assoc, E_succ, pow8, ← Nat.div_div_eq_div_mul, show (8 * E (k + L) (x / 2) (y / 2) (z / 2) + (x % 2 + 2 * (y % 2) + 4 * (z % 2))) / 8 = E (k + L) (x / 2) (y / 2) (z / 2) by omega, h]
    simp only [Nat.div_div_eq_div_mul, pow2]
theorem E_mul : ∀ (L k x y z : Nat), E (k + L) (x * 2 ^ L) (y * 2 ^ L) (z * 2 ^ L) = E k x y z * 8 ^ L
  | 0, k, x, y, z => by simp
  | L + 1, k, x, y, z => by
    have h := E_mul L k x y z
    have e : ∀ c : Nat, c * 2 ^ (L + 1) = 2 * (c * 2 ^ L) := fun c => by rw [pow2, Nat.mul_left_comm]
    rw [← Nat.add_assoc, E_succ, e, e, e]
    simp only [Nat.mul_div_cancel_left _ (show 0 < 2 by omega), Nat.mul_mod_right, h]
    rw [pow8, Nat.mul_left_comm]; rfl
theorem E_corner (L x y z : Nat) (h : L ≤ 14) : E 14 (x / 2 ^ L * 2 ^ L) (y / 2 ^ L * 2 ^ L) (z / 2 ^ L * 2 ^ L) = E 14 x y z / 8 ^ L * 8 ^ L := by
  have e : 14 = (14 - L) + L := by omega
  rw [e, E_mul, E_div]
theorem E_inj {k x y z x' y' z' : Nat} (hx : x < 2 ^ k) (hy : y < 2 ^ k) (hz : z < 2 ^ k) (hx' : x' < 2 ^ k) (hy' : y' < 2 ^ k) (hz' : z' < 2 ^ k) (h : E k x y z = E k x' y' z') : x = x' ∧ y = y' ∧ z = z' := by
  have h0 := DE0 k x y z hx
  have h1 := DE1 k x y z hy
  have h2 := DE2 k x y z hz
  rw [h] at h0 h1 h2
  rw [DE0 k _ _ _ hx'] at h0
  rw [DE1 k _ _ _ hy'] at h1
  rw [DE2 k _ _ _ hz'] at h2
  exact ⟨h0.symm, h1.symm, h2.symm⟩

/-- the level of the least cube that contains two points -/
def lev (x y z x' y' z' : Nat) : Nat := (Lib.bitLen (E 14 x y z ^^^ E 14 x' y' z') + 2) / 3
theorem xor_zero {a b : Nat} : a ^^^ b = 0 ↔ a = b := by
  constructor
  · intro h
    have e : a = (a ^^^ b) ^^^ b := by rw [Nat.xor_assoc, Nat.xor_self, Nat.xor_zero]
    rw [h, Nat.zero_xor] at e
    exact e
  · intro h; rw [h, Nat.xor_self]
theorem xor_lt {a b l : Nat} : a ^^^ b < 2 ^ l ↔ a / 2 ^ l = b / 2 ^ l := by
  rw [← Nat.div_eq_zero_iff_lt (Nat.two_pow_pos l), Nat.xor_div_two_pow, xor_zero]
theorem code_xor_lt (x y z x' y' z' : Nat) : E 14 x y z ^^^ E 14 x' y' z' < 2 ^ 42 :=
  Nat.xor_lt_two_pow (by have := E_lt 14 x y z; omega) (by have := E_lt 14 x' y' z'; omega)
theorem lev_le {x y z x' y' z' l : Nat} (hl : l ≤ 14) (h : (x < 16384 ∧ y < 16384 ∧ z < 16384) ∧ (x' < 16384 ∧ y' < 16384 ∧ z' < 16384)) :
    lev x y z x' y' z' ≤ l ↔ (x / 2 ^ l = x' / 2 ^ l ∧ y / 2 ^ l = y' / 2 ^ l ∧ z / 2 ^ l = z' / 2 ^ l) := by
  have h1 : lev x y z x' y' z' ≤ l ↔ Lib.bitLen (E 14 x y z ^^^ E 14 x' y' z') ≤ 3 * l := by unfold lev; omega
  have h42 := code_xor_lt x y z x' y' z'
  have e : 14 = (14 - l) + l := by omega
  rw [h1, bitLen_le _ _ (by omega), xor_lt, ← pow83]
  have ea : E 14 x y z / 8 ^ l = E (14 - l) (x / 2 ^ l) (y / 2 ^ l) (z / 2 ^ l) := by conv => lhs; rw [e]
                                                                                      exact E_div l (14 - l) x y z
  have eb : E 14 x' y' z' / 8 ^ l = E (14 - l) (x' / 2 ^ l) (y' / 2 ^ l) (z' / 2 ^ l) := by conv => lhs; rw [e]
                                                                                            exact E_div l (14 - l) x' y' z'
  rw [ea, eb]
  have lt : ∀ c, c < 16384 → c / 2 ^ l < 2 ^ (14 - l) := fun c hc => by
    rw [Nat.div_lt_iff_lt_mul (Nat.two_pow_pos l), ← Nat.pow_add, show 14 - l + l = 14 by omega]; exact hc
  constructor
  · intro he
    exact E_inj (lt _ h.1.1) (lt _ h.1.2.1) (lt _ h.1.2.2) (lt _ h.2.1) (lt _ h.2.2.1) (lt _ h.2.2.2) he
  · rintro ⟨e1, e2, e3⟩
    rw [e1, e2, e3]
theorem lev_le14 {x y z x' y' z' : Nat} (h : (x < 16384 ∧ y < 16384 ∧ z < 16384) ∧ (x' < 16384 ∧ y' < 16384 ∧ z' < 16384)) : lev x y z x' y' z' ≤ 14 := by
  rw [lev_le (Nat.le_refl 14) h]; omega
/-- the corner of the cube at that level, as the code gives it -/
theorem D_corner {L x y z : Nat} (h : L ≤ 14) (hx : x < 16384 ∧ y < 16384 ∧ z < 16384) :
    D 14 (E 14 x y z / 8 ^ L * 8 ^ L) = x / 2 ^ L * 2 ^ L ∧ D 14 (E 14 x y z / 8 ^ L * 8 ^ L / 2) = y / 2 ^ L * 2 ^ L ∧ D 14 (E 14 x y z / 8 ^ L * 8 ^ L / 4) = z / 2 ^ L * 2 ^ L := by
  have lt : ∀ c, c < 16384 → c / 2 ^ L * 2 ^ L < 2 ^ 14 := fun c hc => Nat.lt_of_le_of_lt (Nat.div_mul_le_self _ _) hc
  rw [← E_corner L x y z h]
  exact ⟨DE0 14 _ _ _ (lt _ hx.1), DE1 14 _ _ _ (lt _ hx.2.1), DE2 14 _ _ _ (lt _ hx.2.2)⟩
/-- coordinate number i and level of the least common cube -/
def com (i : Nat) (a1 a2 a3 b1 b2 b3 : Int) : Int :=
  if inB a1 a2 a3 && inB b1 b2 b3 then
    let L := lev a1.toNat a2.toNat a3.toNat b1.toNat b2.toNat b3.toNat
    if i = 0 then ((a1.toNat / 2 ^ L * 2 ^ L : Nat) : Int) else if i = 1 then ((a2.toNat / 2 ^ L * 2 ^ L : Nat) : Int) else if i = 2 then ((a3.toNat / 2 ^ L * 2 ^ L : Nat) : Int) else (L : Int)
  else 0
theorem com_out {i : Nat} {a1 a2 a3 b1 b2 b3 : Int} (h : (inB a1 a2 a3 && inB b1 b2 b3) = false) : com i a1 a2 a3 b1 b2 b3 = 0 := by unfold com; rw [if_neg (by rw [h]; decide)]
theorem com_in {a1 a2 a3 b1 b2 b3 : Nat} (h : (inB a1 a2 a3 && inB b1 b2 b3) = true) :
    com 0 a1 a2 a3 b1 b2 b3 = ((a1 / 2 ^ lev a1 a2 a3 b1 b2 b3 * 2 ^ lev a1 a2 a3 b1 b2 b3 : Nat) : Int) ∧ com 1 a1 a2 a3 b1 b2 b3 = ((a2 / 2 ^ lev a1 a2 a3 b1 b2 b3 * 2 ^ lev a1 a2 a3 b1 b2 b3 : Nat) : Int) ∧
    com 2 a1 a2 a3 b1 b2 b3 = ((a3 / 2 ^ lev a1 a2 a3 b1 b2 b3 * 2 ^ lev a1 a2 a3 b1 b2 b3 : Nat) : Int) ∧ com 3 a1 a2 a3 b1 b2 b3 = (lev a1 a2 a3 b1 b2 b3 : Int) := by
  unfold com
  simp only [h, if_true, Int.toNat_natCast]
  refine ⟨?_, ?_, ?_, ?_⟩ <;> simp
end Go.Proofs.Ytmjjkloeipoefaa.Mo
