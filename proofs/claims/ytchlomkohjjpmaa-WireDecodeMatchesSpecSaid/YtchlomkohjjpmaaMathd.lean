/-
  Plain mathematics: how the reference decodes an integer.
-/
import Derived.Test.YtchlomkohjjpmaaMathb
namespace Go.Proofs.Ytchlomkohjjpmaa
namespace Wm

/-- the digits before number k, each less 128 -/
def val (l : List UInt8) : Nat → Nat
  | 0 => 0
  | k + 1 => val l k + ((l.getD k 0).toNat - 128) * 128 ^ k
/-- the lower seven bits of the digits before number k -/
def low (l : List UInt8) : Nat → Nat
  | 0 => 0
  | k + 1 => low l k + ((l.getD k 0).toNat % 128) * 128 ^ k

theorem getD_step {l : List UInt8} {k z : Nat} (hk : k < l.length) :
    gi k z (l.drop k) = if k = 9 ∧ 1 < (l.getD k 0).toNat then (0, 0, 6) else if 0 < k ∧ (l.getD k 0).toNat = 0 then (0, 0, 6)
      else if (l.getD k 0).toNat < 128 then (zag (z + (l.getD k 0).toNat * 128 ^ k), k + 1, 0) else gi (k + 1) (z + ((l.getD k 0).toNat - 128) * 128 ^ k) (l.drop (k + 1)) := by
  have h : l.drop k = l.getD k 0 :: l.drop (k + 1) := by
    rw [List.drop_eq_getElem_cons hk]
    congr 1
    rw [List.getD_eq_getElem?_getD, List.getElem?_eq_getElem hk]; rfl
  conv => lhs; rw [h, gi]

theorem gi_run (l : List UInt8) : ∀ k : Nat, k ≤ 9 → k ≤ l.length → (∀ j, j < k → 128 ≤ (l.getD j 0).toNat) → getI l = gi k (val l k) (l.drop k)
  | 0, _, _, _ => rfl
  | k + 1, h9, hl, h => by
    have ih := gi_run l k (by omega) (by omega) (fun j hj => h j (by omega))
    have hk := h k (by omega)
    rw [ih, getD_step (by omega), if_neg (by omega), if_neg (by omega), if_neg (by omega)]
    rfl

theorem val_low (l : List UInt8) : ∀ k : Nat, (∀ j, j < k → 128 ≤ (l.getD j 0).toNat) → val l k = low l k
  | 0, _ => rfl
  | k + 1, h => by
    have hk := h k (by omega)
    have h256 := (l.getD k 0).toNat_lt
    have e : (l.getD k 0).toNat - 128 = (l.getD k 0).toNat % 128 := by omega
    rw [val, low, val_low l k (fun j hj => h j (by omega)), e]
theorem low_lt (l : List UInt8) : ∀ k : Nat, low l k < 128 ^ k
  | 0 => by simp [low]
  | k + 1 => by
    have := low_lt l k
    rw [low, Nat.pow_succ, Nat.mul_comm (128 ^ k)]
    have h2 := Nat.mul_le_mul_right (128 ^ k) (show (l.getD k 0).toNat % 128 ≤ 127 by omega)
    omega

/-- ten digits that go on -/
theorem ref_ten (l : List UInt8) (hl : 10 ≤ l.length) (h : ∀ j, j < 10 → 128 ≤ (l.getD j 0).toNat) : getI l = (0, 0, 6) := by
  have h9 := h 9 (by omega)
  rw [gi_run l 9 (by omega) (by omega) (fun j hj => h j (by omega)), getD_step (by omega), if_pos ⟨rfl, by omega⟩]
/-- no digit ends it -/
theorem ref_cut (l : List UInt8) (hl : l.length ≤ 9) (h : ∀ j, j < l.length → 128 ≤ (l.getD j 0).toNat) : getI l = (0, 0, 5) := by
  rw [gi_run l l.length hl (Nat.le_refl _) h, List.drop_length, gi]
/-- digit k ends it, and is one too many -/
theorem ref_bad (l : List UInt8) (k : Nat) (hk : k < l.length) (hk9 : k ≤ 9) (h : ∀ j, j < k → 128 ≤ (l.getD j 0).toNat) (hb : k = 9 ∧ 1 < (l.getD k 0).toNat ∨ 0 < k ∧ (l.getD k 0).toNat = 0) : getI l = (0, 0, 6) := by
  rw [gi_run l k hk9 (by omega) h, getD_step hk]
  rcases hb with hb | hb
  · rw [if_pos hb]
  · by_cases h1 : k = 9 ∧ 1 < (l.getD k 0).toNat
    · rw [if_pos h1]
    · rw [if_neg h1, if_pos hb]
/-- digit k ends it -/
theorem ref_good (l : List UInt8) (k : Nat) (hk : k < l.length) (hk9 : k ≤ 9) (h : ∀ j, j < k → 128 ≤ (l.getD j 0).toNat) (hd : (l.getD k 0).toNat < 128) (h1 : ¬ (k = 9 ∧ 1 < (l.getD k 0).toNat)) (h2 : ¬ (0 < k ∧ (l.getD k 0).toNat = 0)) :
    getI l = (zag (low l (k + 1)), k + 1, 0) ∧ low l (k + 1) < 18446744073709551616 := by
  constructor
  · rw [gi_run l k hk9 (by omega) h, getD_step hk, if_neg h1, if_neg h2, if_pos hd, low, val_low l k h]
    rw [show (l.getD k 0).toNat % 128 = (l.getD k 0).toNat from Nat.mod_eq_of_lt hd]
  · have hl := low_lt l k
    rw [low]
    by_cases h9 : k = 9
    · subst h9
      rw [pow9] at hl ⊢
      have h3 : (l.getD 9 0).toNat % 128 ≤ 1 := by omega
      have := Nat.mul_le_mul_right 9223372036854775808 h3
      omega
    · have hp : 128 ^ k ≤ 128 ^ 8 := Nat.pow_le_pow_right (by decide) (by omega)
      have h8 : (128 : Nat) ^ 8 = 72057594037927936 := by decide
      have := Nat.mul_le_mul (show (l.getD k 0).toNat % 128 ≤ 127 by omega) hp
      omega

/-- one step of the sum from above -/
theorem low_step (l : List UInt8) (m z K : Nat) (h : z * 128 ^ (m + 1) + low l (m + 1) = K) : (z * 128 + (l.getD m 0).toNat % 128) * 128 ^ m + low l m = K := by
  rw [low, Nat.pow_succ] at h
  rw [Nat.add_mul, Nat.mul_assoc, Nat.mul_comm 128 (128 ^ m), ← h]
  omega
theorem low_bd (z m K x : Nat) (h : z * 128 ^ m + x = K) : z ≤ K := by
  have h1 : 0 < 128 ^ m := Nat.pow_pos (by decide)
  have := Nat.le_mul_of_pos_right z h1
  omega

end Wm
end Go.Proofs.Ytchlomkohjjpmaa
