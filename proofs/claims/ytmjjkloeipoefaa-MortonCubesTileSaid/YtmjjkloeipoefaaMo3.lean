/-
  Orders, children and neighbours of codes. No program is mentioned here.
-/
import Derived.Test.YtmjjkloeipoefaaMo2
namespace Go.Proofs.Ytmjjkloeipoefaa.Mo

def cmpI (a b : Int) : Int := if a < b then -1 else if b < a then 1 else 0
theorem cmp_lt {a b : Int} (h : a < b) : cmpI a b = -1 := by unfold cmpI; rw [if_pos h]
theorem cmp_gt {a b : Int} (h : b < a) : cmpI a b = 1 := by unfold cmpI; rw [if_neg (by omega), if_pos h]
theorem cmp_eq {a b : Int} (h : a = b) : cmpI a b = 0 := by unfold cmpI; rw [if_neg (by omega), if_neg (by omega)]
/-- the number of the child in which a point lies -/
def oct (x y z l : Int) : Int := if inB x y z && decide (0 ≤ l ∧ l ≤ 13) then ((x.toNat / 2 ^ l.toNat % 2 + 2 * (y.toNat / 2 ^ l.toNat % 2) + 4 * (z.toNat / 2 ^ l.toNat % 2) : Nat) : Int) else -1
theorem oct_out {x y z l : Int} (h : inB x y z = false ∨ l < 0 ∨ 13 < l) : oct x y z l = -1 := by
  unfold oct; rw [if_neg]; rw [Bool.and_eq_true, decide_eq_true_eq]; rintro ⟨h1, h2⟩
  rcases h with h | h | h
  · rw [h] at h1; cases h1
  · omega
  · omega
theorem oct_in {x y z l : Nat} (h : inB x y z = true) (hl : l ≤ 13) : oct x y z l = ((x / 2 ^ l % 2 + 2 * (y / 2 ^ l % 2) + 4 * (z / 2 ^ l % 2) : Nat) : Int) := by
  unfold oct; rw [if_pos (by rw [h, Bool.true_and]; exact decide_eq_true (by omega))]; simp
theorem or_bits' {a b c : Nat} (ha : a < 2) (hb : b < 2) (hc : c < 2) : ((a ||| b * 2 ^ 1) ||| c * 2 ^ 2) = a + 2 * b + 4 * c := by
  have := or_bits ⟨a, ha⟩ ⟨b, hb⟩ ⟨c, hc⟩
  simp only at this
  rw [← this, Nat.mul_comm b, Nat.mul_comm c]
/-- the code of the cell beside a cell -/
def nb (n a : Int) (up : Bool) : Int := if okB n && decide (0 ≤ a ∧ a ≤ 2) then enc (if a = 0 then dec 0 n + (if up then 1 else -1) else dec 0 n) (if a = 1 then dec 1 n + (if up then 1 else -1) else dec 1 n) (if a = 2 then dec 2 n + (if up then 1 else -1) else dec 2 n) else -1
theorem nb_out {n a : Int} {up : Bool} (h : okB n = false ∨ a < 0 ∨ 2 < a) : nb n a up = -1 := by
  unfold nb; rw [if_neg]; rw [Bool.and_eq_true, decide_eq_true_eq]; rintro ⟨h1, h2⟩
  rcases h with h | h | h
  · rw [h] at h1; cases h1
  · omega
  · omega
theorem nb_in {n a : Int} {up : Bool} (h : okB n = true) (ha : 0 ≤ a ∧ a ≤ 2) : nb n a up = enc (if a = 0 then dec 0 n + (if up then 1 else -1) else dec 0 n) (if a = 1 then dec 1 n + (if up then 1 else -1) else dec 1 n) (if a = 2 then dec 2 n + (if up then 1 else -1) else dec 2 n) := by
  unfold nb; rw [if_pos (by rw [h, Bool.true_and]; exact decide_eq_true ha)]
theorem dec_bd (a : Nat) (n : Int) : 0 ≤ dec a n ∧ dec a n < 16384 := by
  cases h : okB n with
  | false => rw [dec_out h]; omega
  | true => rw [dec_in h]; have := D_lt 14 (n.toNat / 2 ^ a); omega
theorem enc_bd (x y z : Int) : -1 ≤ enc x y z ∧ enc x y z < 4398046511104 := by
  cases h : inB x y z with
  | false => rw [enc_out h]; omega
  | true => rw [enc_in h]; have := E_lt 14 x.toNat y.toNat z.toNat; omega
end Go.Proofs.Ytmjjkloeipoefaa.Mo
