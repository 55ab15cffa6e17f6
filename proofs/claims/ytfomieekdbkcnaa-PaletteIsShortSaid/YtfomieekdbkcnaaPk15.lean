/-
  Steps of the specification's packing. (No program.)
-/
import Derived.Test.YtfomieekdbkcnaaPk14
namespace Go.Proofs.Ytfomieekdbkcnaa
open Go Go.RowKit
set_option linter.unusedVariables false
namespace Pl
theorem room_step {w i : Nat} (hw : w = 1 ∨ w = 2 ∨ w = 4 ∨ w = 8) : room (i + 1) w = i * w / 8 + 1 ∧ i * w % 8 + w ≤ 8 ∧ (i * w % 8 = 0 → room i w = i * w / 8) ∧ (¬ i * w % 8 = 0 → room i w = i * w / 8 + 1) := by
  unfold room
  rw [Nat.add_mul, Nat.one_mul]
  rcases hw with rfl | rfl | rfl | rfl <;> omega
/-- a byte gets an index more -/
theorem pack_step {w i : Nat} {f : Nat → Nat} (hw : w = 1 ∨ w = 2 ∨ w = 4 ∨ w = 8) (hf : ∀ j, j ≤ i → f j < 2 ^ w) :
    f i * 2 ^ (i * w % 8) < 256 ∧ S w f i / 2 ^ (8 * (i * w / 8)) % 256 + f i * 2 ^ (i * w % 8) < 256 ∧
    (le (room (i + 1) w) (S w f i)).set (i * w / 8) (UInt8.ofNat (S w f i / 2 ^ (8 * (i * w / 8)) % 256 + f i * 2 ^ (i * w % 8))) = le (room (i + 1) w) (S w f (i + 1)) := by
  obtain ⟨h1, h2, _, _⟩ := room_step (i := i) hw
  have hN : S w f i < 2 ^ (i * w) := by rw [Nat.mul_comm]; exact S_lt (fun j hj => hf j (by omega))
  have hfi := hf i (Nat.le_refl _)
  rw [h1]
  have he : S w f (i + 1) = S w f i + f i * 2 ^ (i * w) := by rw [S, Nat.mul_comm i w]
  rw [he]
  generalize S w f i = N at *
  generalize f i = y at *
  generalize i * w = a at *
  have hq : 8 * (a / 8) + a % 8 = a := Nat.div_add_mod _ _
  have hd : N / 2 ^ (8 * (a / 8)) < 2 ^ (a % 8) := by
    rw [Nat.div_lt_iff_lt_mul (Nat.two_pow_pos _), ← Nat.pow_add, Nat.add_comm (a % 8), hq]; exact hN
  have hm : N / 2 ^ (8 * (a / 8)) % 256 < 2 ^ (a % 8) := Nat.lt_of_le_of_lt (Nat.mod_le _ _) hd
  have h3 : (y + 1) * 2 ^ (a % 8) ≤ 2 ^ w * 2 ^ (a % 8) := Nat.mul_le_mul_right _ hfi
  have h4 : 2 ^ w * 2 ^ (a % 8) ≤ 2 ^ 8 := by rw [← Nat.pow_add]; exact Nat.pow_le_pow_right (by decide) (by omega)
  rw [Nat.add_mul, Nat.one_mul] at h3
  refine ⟨by omega, by omega, ?_⟩
  have h5 := le_add (a / 8 + 1) N (a / 8) (a % 8) y (by omega) (by rw [hq]; exact hN) (by omega)
  rw [hq] at h5
  exact h5.symm
/-- the packed form, i indices long -/
def tx (l : List Int) (w i : Nat) : List UInt8 := hd l (pal l).length ++ le (room i w) (S w (ix (pal l) l) i)
theorem hd_len {l : List Int} : (hd l (pal l).length).length = (pal l).length + 2 := by unfold hd; simp [bts]
theorem tx_zero (l : List Int) (w : Nat) : tx l w 0 = hd l (pal l).length := by unfold tx room; simp [le]
theorem tx_grow {l : List Int} {w i : Nat} (hl : l.length ≤ 64) (hi : i < l.length) (hw : w = wd (pal l).length) (hw2 : w = 1 ∨ w = 2 ∨ w = 4 ∨ w = 8) (h0 : i * w % 8 = 0) : tx l w i ++ [0] = hd l (pal l).length ++ le (room (i + 1) w) (S w (ix (pal l) l) i) := by
  obtain ⟨h1, h2, h3, _⟩ := room_step (i := i) hw2
  unfold tx
  rw [List.append_assoc, h1, h3 h0]
  congr 1
  refine (le_app _ _ ?_).symm
  have hN : S w (ix (pal l) l) i < 2 ^ (w * i) := S_lt (fun j hj => by rw [hw]; exact ix_pow hl (by omega))
  rw [pow256]
  refine Nat.lt_of_lt_of_le hN (Nat.pow_le_pow_right (by decide) ?_)
  rw [Nat.mul_comm]; omega
theorem tx_stay {l : List Int} {w i : Nat} (hw2 : w = 1 ∨ w = 2 ∨ w = 4 ∨ w = 8) (h0 : ¬ i * w % 8 = 0) : tx l w i = hd l (pal l).length ++ le (room (i + 1) w) (S w (ix (pal l) l) i) := by
  obtain ⟨h1, h2, _, h3⟩ := room_step (i := i) hw2
  unfold tx
  rw [h1, h3 h0]
theorem tx_put {l : List Int} {w i e y : Nat} (hl : l.length ≤ 64) (hi : i < l.length) (hw : w = wd (pal l).length) (hw2 : w = 1 ∨ w = 2 ∨ w = 4 ∨ w = 8) (he : e + 1 = (pal l).length + 2 + room (i + 1) w) (hy : y = S w (ix (pal l) l) i / 2 ^ (8 * (i * w / 8)) % 256 + ix (pal l) l i * 2 ^ (i * w % 8)) :
    (hd l (pal l).length ++ le (room (i + 1) w) (S w (ix (pal l) l) i)).set e (UInt8.ofNat y) = tx l w (i + 1) := by
  obtain ⟨h1, _⟩ := room_step (i := i) hw2
  obtain ⟨_, _, h3⟩ := pack_step (f := ix (pal l) l) hw2 (fun j (hj : j ≤ i) => by rw [hw]; exact ix_pow hl (by omega))
  have hl2 := hd_len (l := l)
  unfold tx
  rw [← h3, List.set_append, if_neg (by omega), hy]
  congr 2
  omega
theorem tx_cell {l : List Int} {w i e : Nat} (hw2 : w = 1 ∨ w = 2 ∨ w = 4 ∨ w = 8) (he : e + 1 = (pal l).length + 2 + room (i + 1) w) :
    (hd l (pal l).length ++ le (room (i + 1) w) (S w (ix (pal l) l) i))[e]? = some (UInt8.ofNat (S w (ix (pal l) l) i / 2 ^ (8 * (i * w / 8)) % 256)) := by
  obtain ⟨h1, _⟩ := room_step (i := i) hw2
  have hl2 := hd_len (l := l)
  rw [List.getElem?_append_right (by omega), show e - (hd l (pal l).length).length = i * w / 8 by omega]
  exact le_at _ _ _ (by omega)
theorem tx_all {l : List Int} {w i : Nat} (h : l ≠ []) (hw : w = wd (pal l).length) (hi : w = 0 ∨ i = l.length) : tx l w (if w = 0 then 0 else i) = pk l := by
  rw [pk_hd h rfl, ← hw]
  unfold tx
  rcases hi with hi | hi
  · rw [if_pos hi, hi]; unfold room; simp [le]
  · by_cases h0 : w = 0
    · rw [if_pos h0, h0]; unfold room; simp [le]
    · rw [if_neg h0, hi]
end Pl
end Go.Proofs.Ytfomieekdbkcnaa
