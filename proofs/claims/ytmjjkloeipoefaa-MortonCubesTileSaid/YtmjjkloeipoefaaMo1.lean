/-
  The codes of cells as mathematics: interleaving of bits and its inverse. No program is mentioned here.
-/
namespace Go.Proofs.Ytmjjkloeipoefaa.Mo

/-- the lowest k bits of three numbers, interleaved -/
def E : Nat → Nat → Nat → Nat → Nat
  | 0, _, _, _ => 0
  | k + 1, x, y, z => 8 * E k (x / 2) (y / 2) (z / 2) + (x % 2 + 2 * (y % 2) + 4 * (z % 2))
/-- every third bit, k of them -/
def D : Nat → Nat → Nat
  | 0, _ => 0
  | k + 1, n => 2 * D k (n / 8) + n % 2
/-- the lowest k bits of a number, spread -/
def S : Nat → Nat → Nat
  | 0, _ => 0
  | k + 1, x => 8 * S k (x / 2) + x % 2

theorem E_succ (k x y z : Nat) : E (k + 1) x y z = 8 * E k (x / 2) (y / 2) (z / 2) + (x % 2 + 2 * (y % 2) + 4 * (z % 2)) := rfl
theorem D_succ (k n : Nat) : D (k + 1) n = 2 * D k (n / 8) + n % 2 := rfl
theorem pow8 (k : Nat) : (8 : Nat) ^ (k + 1) = 8 * 8 ^ k := by rw [Nat.pow_succ, Nat.mul_comm]
theorem pow2 (k : Nat) : (2 : Nat) ^ (k + 1) = 2 * 2 ^ k := by rw [Nat.pow_succ, Nat.mul_comm]
theorem pow83 (k : Nat) : (8 : Nat) ^ k = 2 ^ (3 * k) := by rw [Nat.pow_mul]

theorem E_lt : ∀ (k x y z : Nat), E k x y z < 8 ^ k
  | 0, _, _, _ => by simp [E]
  | k + 1, x, y, z => by
    have h := E_lt k (x / 2) (y / 2) (z / 2)
    rw [pow8]; unfold E; omega
theorem D_lt : ∀ (k n : Nat), D k n < 2 ^ k
  | 0, _ => by simp [D]
  | k + 1, n => by
    have h := D_lt k (n / 8)
    rw [pow2]; unfold D; omega
theorem S_lt : ∀ (k n : Nat), S k n < 8 ^ k
  | 0, _ => by simp [S]
  | k + 1, n => by
    have h := S_lt k (n / 2)
    rw [pow8]; unfold S; omega

theorem DE0 : ∀ (k x y z : Nat), x < 2 ^ k → D k (E k x y z) = x
  | 0, x, y, z, h => by simp at h; simp [D, h]
  | k + 1, x, y, z, h => by
    rw [pow2] at h
    have h1 := DE0 k (x / 2) (y / 2) (z / 2) (by omega)
    unfold D E
    rw [show (8 * E k (x / 2) (y / 2) (z / 2) + (x % 2 + 2 * (y % 2) + 4 * (z % 2))) / 8 = E k (x / 2) (y / 2) (z / 2) by omega, h1]
    omega
theorem DE1 : ∀ (k x y z : Nat), y < 2 ^ k → D k (E k x y z / 2) = y
  | 0, x, y, z, h => by simp at h; simp [D, h]
  | k + 1, x, y, z, h => by
    rw [pow2] at h
    have h1 := DE1 k (x / 2) (y / 2) (z / 2) (by omega)
    unfold D E
    rw [show (8 * E k (x / 2) (y / 2) (z / 2) + (x % 2 + 2 * (y % 2) + 4 * (z % 2))) / 2 / 8 = E k (x / 2) (y / 2) (z / 2) / 2 by omega, h1]
    omega
theorem DE2 : ∀ (k x y z : Nat), z < 2 ^ k → D k (E k x y z / 4) = z
  | 0, x, y, z, h => by simp at h; simp [D, h]
  | k + 1, x, y, z, h => by
    rw [pow2] at h
    have h1 := DE2 k (x / 2) (y / 2) (z / 2) (by omega)
    unfold D E
    rw [show (8 * E k (x / 2) (y / 2) (z / 2) + (x % 2 + 2 * (y % 2) + 4 * (z % 2))) / 4 / 8 = E k (x / 2) (y / 2) (z / 2) / 4 by omega, h1]
    omega
/-- one digit more at the upper end -/
theorem D_top : ∀ (k n : Nat), D (k + 1) n = D k n + n / 8 ^ k % 2 * 2 ^ k
  | 0, n => by simp [D]
  | k + 1, n => by
    have h := D_top k (n / 8)
    rw [show D (k + 1 + 1) n = 2 * D (k + 1) (n / 8) + n % 2 from rfl, h, show D (k + 1) n = 2 * D k (n / 8) + n % 2 from rfl, pow8, pow2, Nat.div_div_eq_div_mul]
    rw [Nat.mul_add, ← Nat.mul_assoc, Nat.mul_comm 2 (n / (8 * 8 ^ k) % 2), Nat.mul_assoc]; omega
theorem S_top : ∀ (k n : Nat), S (k + 1) n = S k n + n / 2 ^ k % 2 * 8 ^ k
  | 0, n => by simp [S]
  | k + 1, n => by
    have h := S_top k (n / 2)
    rw [show S (k + 1 + 1) n = 8 * S (k + 1) (n / 2) + n % 2 from rfl, h, show S (k + 1) n = 8 * S k (n / 2) + n % 2 from rfl, pow8, pow2, Nat.div_div_eq_div_mul]
    rw [Nat.mul_add, ← Nat.mul_assoc, Nat.mul_comm 8 (n / (2 * 2 ^ k) % 2), Nat.mul_assoc]; omega

theorem or_add (i n b : Nat) (h : n < 2 ^ i) : n ||| b * 2 ^ i = n + b * 2 ^ i := by
  have := Nat.two_pow_add_eq_or_of_lt h b
  rw [Nat.or_comm, Nat.mul_comm, ← this, Nat.add_comm]

theorem or8 (a b p q : Nat) (hp : p < 8) (hq : q < 8) : (8 * a + p) ||| (8 * b + q) = 8 * (a ||| b) + (p ||| q) := by
  have h1 := Nat.two_pow_add_eq_or_of_lt (i := 3) (show p < 2 ^ 3 by omega) a
  have h2 := Nat.two_pow_add_eq_or_of_lt (i := 3) (show q < 2 ^ 3 by omega) b
  have h4 : p ||| q < 2 ^ 3 := Nat.or_lt_two_pow (by omega) (by omega)
  have h3 := Nat.two_pow_add_eq_or_of_lt (i := 3) h4 (a ||| b)
  have e : (2 : Nat) ^ 3 = 8 := rfl
  rw [e] at h1 h2 h3
  have e2 : 8 * (a ||| b) = 8 * a ||| 8 * b := by
    have := Nat.shiftLeft_or_distrib (a := a) (b := b) (i := 3)
    simp only [Nat.shiftLeft_eq, e] at this
    rw [Nat.mul_comm 8, this, Nat.mul_comm a, Nat.mul_comm b]
  rw [h1, h2, h3, e2]
  ac_rfl

theorem or_bits : ∀ x y z : Fin 2, ((x.val ||| 2 * y.val) ||| 4 * z.val) = x.val + 2 * y.val + 4 * z.val := by decide

theorem S_or : ∀ (k x y z : Nat), ((S k x ||| 2 * S k y) ||| 4 * S k z) = E k x y z
  | 0, _, _, _ => by simp [S, E]
  | k + 1, x, y, z => by
    have h := S_or k (x / 2) (y / 2) (z / 2)
    have hb := or_bits ⟨x % 2, by omega⟩ ⟨y % 2, by omega⟩ ⟨z % 2, by omega⟩
    simp only at hb
    unfold S E
    rw [show 2 * (8 * S k (y / 2) + y % 2) = 8 * (2 * S k (y / 2)) + 2 * (y % 2) by omega, show 4 * (8 * S k (z / 2) + z % 2) = 8 * (4 * S k (z / 2)) + 4 * (z % 2) by omega]
    have hl : x % 2 ||| 2 * (y % 2) < 2 ^ 3 := Nat.or_lt_two_pow (by omega) (by omega)
    rw [or8 _ _ _ _ (by omega) (by omega), or8 _ _ _ _ (by omega) (by omega), h, hb]

end Go.Proofs.Ytmjjkloeipoefaa.Mo
