/-
  Plain mathematics: how long an encoding is; no encoding begins another.
-/
import Derived.Test.YtchlomkohjjpmaaMath
namespace Go.Proofs.Ytchlomkohjjpmaa
namespace Wm

theorem enc_mono : ∀ (n z y : Nat), y ≤ n → z ≤ y → (enc z).length ≤ (enc y).length := by
  intro n
  induction n with
  | zero =>
    intro z y hy hz
    obtain rfl : z = y := by omega
    exact Nat.le_refl _
  | succ n ih =>
    intro z y hy hz
    by_cases h1 : z < 128
    · rw [enc_lo h1]; exact enc_pos y
    · rw [enc_hi h1, enc_hi (show ¬ y < 128 by omega), List.length_cons, List.length_cons]
      have := ih (z / 128) (y / 128) (by omega) (Nat.div_le_div_right hz)
      omega
theorem enc_odd (i : Nat) : (enc (2 * i + 1)).length = (enc (2 * i)).length := by
  by_cases h : 2 * i < 128
  · rw [enc_lo h, enc_lo (show 2 * i + 1 < 128 by omega)]; rfl
  · rw [enc_hi h, enc_hi (show ¬ 2 * i + 1 < 128 by omega), List.length_cons, List.length_cons, show (2 * i + 1) / 128 = 2 * i / 128 by omega]
theorem enc_one (z : Nat) : (enc z).length = 1 ↔ z < 128 := by
  by_cases h : z < 128
  · rw [enc_lo h]; simp [h]
  · rw [enc_hi h, List.length_cons]
    have := enc_pos (z / 128)
    omega

/-- how far an integer is from -1/2, less 1/2 -/
def far (n : Int) : Nat := if 0 ≤ n then n.toNat else (-1 - n).toNat
theorem far_len (n : Int) : (encI n).length = (enc (2 * far n)).length := by
  unfold encI
  by_cases h : 0 ≤ n
  · rw [show zig n = 2 * far n from by unfold zig far; rw [if_pos h, if_pos h]; omega]
  · rw [show zig n = 2 * far n + 1 from by unfold zig far; rw [if_neg h, if_neg h]; omega, enc_odd]
theorem far_twin (n : Int) : far (-1 - n) = far n := by unfold far; split <;> split <;> omega
theorem len_twin (n : Int) : (encI (-1 - n)).length = (encI n).length := by rw [far_len, far_len, far_twin]
theorem len_mono {m n : Int} (h : far m ≤ far n) : (encI m).length ≤ (encI n).length := by
  rw [far_len, far_len]; exact enc_mono _ _ _ (Nat.le_refl _) (by omega)
theorem len_one (n : Int) : (encI n).length = 1 ↔ far n < 64 := by
  rw [far_len, enc_one]; omega
theorem encI_pos (n : Int) : 0 < (encI n).length := enc_pos _

theorem begins {m n : Int} (hm : -9223372036854775808 ≤ m ∧ m ≤ 9223372036854775807) (hn : -9223372036854775808 ≤ n ∧ n ≤ 9223372036854775807) (hl : (encI m).length ≤ (encI n).length) (h : encI m = (encI n).take (encI m).length) : m = n := by
  have e1 := getI_enc m [] hm.1 hm.2
  have e2 := getI_enc n [] hn.1 hn.2
  rw [List.append_nil] at e1 e2
  by_cases hlt : (encI m).length < (encI n).length
  · have h3 := getI_cut n (encI m).length hn.1 hn.2 hlt
    rw [← h, e1] at h3
    simp at h3
  · rw [List.take_of_length_le (by omega)] at h
    rw [h, e2] at e1
    exact (congrArg Prod.fst e1).symm

theorem same_head {m n : Int} (hm : -9223372036854775808 ≤ m ∧ m ≤ 9223372036854775807) (hn : -9223372036854775808 ≤ n ∧ n ≤ 9223372036854775807) {k : Nat} (hk : k = min (encI m).length (encI n).length) (h : (encI m).take k = (encI n).take k) : m = n := by
  rcases Nat.le_total (encI m).length (encI n).length with hl | hl
  · rw [hk, Nat.min_eq_left hl, List.take_of_length_le (Nat.le_refl _)] at h
    exact begins hm hn hl h
  · rw [hk, Nat.min_eq_right hl, List.take_of_length_le (Nat.le_refl (encI n).length)] at h
    exact (begins hn hm hl h.symm).symm

end Wm
end Go.Proofs.Ytchlomkohjjpmaa
