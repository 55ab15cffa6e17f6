/-
  Numbers as bytes and as fields of so many bits. (No program.)
-/
namespace Go.Proofs.Ytfomieekdbkcnaa.Pl
set_option linter.unusedVariables false
/-- the number that bytes are, the least one first -/
def V : List UInt8 → Nat
  | [] => 0
  | b :: t => b.toNat + 256 * V t
/-- a number as so many bytes, the least one first -/
def le : Nat → Nat → List UInt8
  | 0, _ => []
  | n + 1, N => UInt8.ofNat (N % 256) :: le n (N / 256)
theorem le_len : ∀ (n N : Nat), (le n N).length = n
  | 0, _ => rfl
  | n + 1, N => by rw [le, List.length_cons, le_len]
theorem V_lt : ∀ t : List UInt8, V t < 256 ^ t.length
  | [] => by simp [V]
  | b :: t => by
    have h := V_lt t
    have hb : b.toNat < 256 := b.toNat_lt
    rw [V, List.length_cons, Nat.pow_succ]
    omega
theorem V_le : ∀ (n N : Nat), N < 256 ^ n → V (le n N) = N
  | 0, N, h => by simp at h; subst h; rfl
  | n + 1, N, h => by
    have h2 : N / 256 < 256 ^ n := by rw [Nat.div_lt_iff_lt_mul (by decide)]; rw [Nat.pow_succ] at h; exact h
    rw [le, V, V_le n _ h2, UInt8.toNat_ofNat']
    have : N % 256 % 2 ^ 8 = N % 256 := Nat.mod_eq_of_lt (by omega)
    rw [this]
    omega
theorem le_V : ∀ t : List UInt8, le t.length (V t) = t
  | [] => rfl
  | b :: t => by
    have hb : b.toNat < 256 := b.toNat_lt
    rw [List.length_cons, le, V, show (b.toNat + 256 * V t) % 256 = b.toNat by omega, show (b.toNat + 256 * V t) / 256 = V t by omega, le_V t, UInt8.ofNat_toNat]
theorem pow256 (k : Nat) : 256 ^ k = 2 ^ (8 * k) := by rw [Nat.pow_mul]
theorem le_at : ∀ (n N k : Nat), k < n → (le n N)[k]? = some (UInt8.ofNat (N / 2 ^ (8 * k) % 256))
  | 0, _, _, h => absurd h (Nat.not_lt_zero _)
  | n + 1, N, 0, _ => by simp [le]
  | n + 1, N, k + 1, h => by
    rw [le, List.getElem?_cons_succ, le_at n (N / 256) k (by omega), Nat.div_div_eq_div_mul, show 8 * (k + 1) = 8 + 8 * k by omega, Nat.pow_add]
theorem byte_of : ∀ (t : List UInt8) (k : Nat) (h : k < t.length), (t[k]'h).toNat = V t / 2 ^ (8 * k) % 256
  | [], _, h => absurd h (Nat.not_lt_zero _)
  | b :: t, 0, _ => by
    have hb : b.toNat < 256 := b.toNat_lt
    simp [V]
  | b :: t, k + 1, h => by
    have hb : b.toNat < 256 := b.toNat_lt
    have := byte_of t k (by simpa using h)
    rw [List.getElem_cons_succ, this, show 8 * (k + 1) = 8 + 8 * k by omega, Nat.pow_add, ← Nat.div_div_eq_div_mul, V, show (b.toNat + 256 * V t) / 2 ^ 8 = V t by omega]
theorem le_app : ∀ (n N : Nat), N < 256 ^ n → le (n + 1) N = le n N ++ [0]
  | 0, N, h => by simp at h; subst h; rfl
  | n + 1, N, h => by
    rw [le, le_app n (N / 256) (by rw [Nat.div_lt_iff_lt_mul (by decide)]; rw [Nat.pow_succ] at h; exact h)]; rfl
theorem le_pad : ∀ (n m N : Nat), N < 256 ^ n → le (n + m) N = le n N ++ List.replicate m 0
  | n, 0, N, h => by simp
  | n, m + 1, N, h => by
    rw [← Nat.add_assoc, le_app (n + m) N (Nat.lt_of_lt_of_le h (Nat.pow_le_pow_right (by decide) (by omega))), le_pad n m N h, List.append_assoc, ← List.replicate_succ']
/-- bytes k on get x more: a part of one byte -/
theorem le_add (n N k s x : Nat) (hk : k < n) (hN : N < 2 ^ (8 * k + s)) (hx : x * 2 ^ s + N / 2 ^ (8 * k) % 256 < 256) : le n (N + x * 2 ^ (8 * k + s)) = (le n N).set k (UInt8.ofNat (N / 2 ^ (8 * k) % 256 + x * 2 ^ s)) := by
  apply List.ext_getElem?
  intro j
  by_cases hj : j < n
  · rw [le_at _ _ _ hj]
    by_cases hjk : j = k
    · subst hjk
      rw [List.getElem?_set_self (by rw [le_len]; exact hj)]
      congr 2
      rw [show x * 2 ^ (8 * j + s) = (x * 2 ^ s) * 2 ^ (8 * j) by rw [Nat.pow_add, Nat.mul_assoc, Nat.mul_comm (2 ^ s)], Nat.add_mul_div_right _ _ (Nat.two_pow_pos _)]
      omega
    · rw [List.getElem?_set_ne (Ne.symm hjk), le_at _ _ _ hj]
      congr 2
      rcases Nat.lt_or_ge j k with h | h
      · have e : x * 2 ^ (8 * k + s) = (x * 2 ^ (8 * k + s - 8 * j - 8) * 256) * 2 ^ (8 * j) := by
          rw [show 8 * k + s = 8 * j + (8 + (8 * k + s - 8 * j - 8)) by omega]
          rw [show 8 * j + (8 + (8 * k + s - 8 * j - 8)) - 8 * j - 8 = 8 * k + s - 8 * j - 8 by omega, Nat.pow_add, Nat.pow_add, show (2 : Nat) ^ 8 = 256 from rfl, ← Nat.mul_assoc, ← Nat.mul_assoc]
          rw [Nat.mul_right_comm x (2 ^ (8 * j)) 256, Nat.mul_right_comm (x * 256), Nat.mul_right_comm x 256]
        rw [e, Nat.add_mul_div_right _ _ (Nat.two_pow_pos _)]
        omega
      · have h1 : 8 * k + s < 8 * j ∨ 8 * j ≤ 8 * k + s := by omega
        have hs : s ≤ 7 ∨ x = 0 := by
          by_cases h0 : x = 0
          · exact .inr h0
          · left
            by_cases hs : s ≤ 7
            · exact hs
            · exfalso
              have a1 : 2 ^ 8 ≤ 2 ^ s := Nat.pow_le_pow_right (by decide) (by omega)
              have a2 : 1 * 2 ^ s ≤ x * 2 ^ s := Nat.mul_le_mul_right _ (by omega)
              omega
        rcases hs with hs | rfl
        · have b1 : N + x * 2 ^ (8 * k + s) < 2 ^ (8 * j) := by
            have c1 : N / 2 ^ (8 * k) < 256 := by
              rw [Nat.div_lt_iff_lt_mul (Nat.two_pow_pos _)]
              refine Nat.lt_of_lt_of_le hN ?_
              rw [show (256 : Nat) = 2 ^ 8 from rfl, ← Nat.pow_add]
              exact Nat.pow_le_pow_right (by decide) (by omega)
            have c2 : N < (N / 2 ^ (8 * k) + 1) * 2 ^ (8 * k) := by
              have := Nat.lt_div_mul_add (a := N) (Nat.two_pow_pos (8 * k))
              rw [Nat.add_mul, Nat.one_mul]; exact this
            rw [show x * 2 ^ (8 * k + s) = (x * 2 ^ s) * 2 ^ (8 * k) by rw [Nat.pow_add, Nat.mul_assoc, Nat.mul_comm (2 ^ s)]]
            have c3 : (N / 2 ^ (8 * k) + 1 + x * 2 ^ s) * 2 ^ (8 * k) ≤ 256 * 2 ^ (8 * k) := Nat.mul_le_mul_right _ (by omega)
            rw [Nat.add_mul] at c3
            have c4 : 256 * 2 ^ (8 * k) ≤ 2 ^ (8 * j) := by
              rw [show (256 : Nat) = 2 ^ 8 from rfl, ← Nat.pow_add]; exact Nat.pow_le_pow_right (by decide) (by omega)
            omega
          have b2 : N < 2 ^ (8 * j) := by omega
          rw [Nat.div_eq_of_lt b1, Nat.div_eq_of_lt b2]
        · simp
  · rw [List.getElem?_eq_none (by rw [le_len]; omega), List.getElem?_eq_none (by rw [List.length_set, le_len]; omega)]
end Go.Proofs.Ytfomieekdbkcnaa.Pl
