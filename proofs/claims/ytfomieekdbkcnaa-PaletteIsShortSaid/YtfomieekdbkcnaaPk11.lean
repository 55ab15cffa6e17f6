/-
  Steps of unpacking: numbers read bit by bit, cells that have their turn. (No program.)
-/
import Derived.Test.YtfomieekdbkcnaaPk7
namespace Go.Proofs.Ytfomieekdbkcnaa
open Go Go.RowKit
set_option linter.unusedVariables false
namespace Pl
def tv (p : List Int) (U x : Nat) : Int := if x ≤ U ∧ x < p.length then p.getD x 0 else 0
def tu (p : List Int) (U x : Nat) : Nat := if x = U ∧ x < p.length then U + 1 else U
def tg (p : List Int) (U x : Nat) (N : Int) : Bool := decide (x ≤ U ∧ x < p.length ∧ (p.length : Int) - (tu p U x : Int) ≤ N - 1)
theorem tv_no {p : List Int} {U x : Nat} {N : Int} (h : ¬ (x ≤ U ∧ x < p.length)) : tv p U x = 0 ∧ tg p U x N = false ∧ tu p U x = U := by
  refine ⟨if_neg h, decide_eq_false (fun h2 => h ⟨h2.1, h2.2.1⟩), if_neg (fun h2 => h ⟨by omega, h2.2⟩)⟩
theorem tv_eq {p : List Int} {U x : Nat} {N : Int} (h : x < p.length) (he : x = U) : tv p U x = p.getD x 0 ∧ tg p U x N = decide ((p.length : Int) - ((U : Int) + 1) ≤ N - 1) ∧ tu p U x = U + 1 := by
  have e : tu p U x = U + 1 := if_pos ⟨he, h⟩
  refine ⟨if_pos ⟨by omega, h⟩, ?_, e⟩
  unfold tg; rw [e, decide_eq_decide]
  exact ⟨fun h => by have := h.2.2; omega, fun h2 => ⟨by omega, h, by omega⟩⟩
theorem tv_ne {p : List Int} {U x : Nat} {N : Int} (h : x < p.length) (hl : x ≤ U) (he : ¬ x = U) : tv p U x = p.getD x 0 ∧ tg p U x N = decide ((p.length : Int) - (U : Int) ≤ N - 1) ∧ tu p U x = U := by
  have e : tu p U x = U := if_neg (fun h2 => he h2.1)
  refine ⟨if_pos ⟨hl, h⟩, ?_, e⟩
  unfold tg; rw [e, decide_eq_decide]
  exact ⟨fun h => by have := h.2.2; omega, fun h2 => ⟨by omega, h, by omega⟩⟩
theorem num_step (N a b : Nat) : N / 2 ^ a % 2 ^ b + N / 2 ^ (a + b) % 2 * 2 ^ b = N / 2 ^ a % 2 ^ (b + 1) := by
  rw [Nat.pow_add, ← Nat.div_div_eq_div_mul, Nat.pow_succ, Nat.mod_mul, Nat.mul_comm (2 ^ b)]
/-- an index is taken -/
theorem turn_ok {p : List Int} {n i U : Nat} {f : Nat → Nat} {N : Int} (hi : i < n) (hU : U = sn f i) (hN : N = (n : Int) - (i : Int)) : (tg p U (f i) N = true ↔ okS p.length n f i) ∧ (tg p U (f i) N = true → tu p U (f i) = sn f (i + 1)) := by
  have key : f i < p.length → tu p U (f i) = sn f (i + 1) := by
    intro hl
    rw [sn, ← hU]
    unfold tu
    by_cases e : f i = U
    · rw [if_pos ⟨e, hl⟩, if_pos e]
    · rw [if_neg (fun h => e h.1), if_neg e]
  refine ⟨?_, ?_⟩
  · unfold tg okS
    rw [decide_eq_true_iff, ← hU]
    constructor
    · rintro ⟨h1, h2, h3⟩
      rw [key h2] at h3
      exact ⟨h1, h2, by omega⟩
    · rintro ⟨h1, h2, h3⟩
      refine ⟨h1, h2, ?_⟩
      rw [key h2]
      omega
  · intro h
    unfold tg at h
    exact key (of_decide_eq_true h).2.1
theorem turn_cells {p : List Int} {i U : Nat} {f : Nat → Nat} {N : Int} (h : tg p U (f i) N = true) : cellsOf p f (i + 1) = cellsOf p f i ++ [tv p U (f i)] := by
  unfold tg at h
  obtain ⟨h1, h2, _⟩ := of_decide_eq_true h
  unfold cellsOf tv
  rw [List.range_succ, List.map_append, if_pos ⟨h1, h2⟩]; rfl
/-- what gather answers -/
def gok (m n k : Nat) (x : List UInt8) : Bool := !((List.range n).any fun i => decide (bad m n k x i)) && decide (V x < 2 ^ (k * n))
theorem gok_bad {m n k i : Nat} {x : List UInt8} (hi : i < n) (ha : (i + 1) * k ≤ x.length * 8) (hb : ¬ okS m n (fld k (V x)) i) : gok m n k x = false := by
  unfold gok
  rw [any_range.2 ⟨i, hi, decide_eq_true ⟨ha, hb⟩⟩]; rfl
theorem gok_yes {m n k i : Nat} {x : List UInt8} (hin : i ≤ n) (hc : i < n → ¬ (i + 1) * k ≤ x.length * 8) (hok : ∀ j, j < i → okS m n (fld k (V x)) j ∧ (j + 1) * k ≤ x.length * 8) (hv : V x < 2 ^ (k * n)) : gok m n k x = true := by
  unfold gok
  rw [decide_eq_true hv, Bool.and_true, Bool.not_eq_true', ← Bool.not_eq_true, any_range]
  rintro ⟨j, hj, hb⟩
  obtain ⟨h1, h2⟩ := of_decide_eq_true hb
  rcases Nat.lt_or_ge j i with h | h
  · exact h2 (hok j h).1
  · refine hc (by omega) (Nat.le_trans (Nat.mul_le_mul_right _ (by omega)) h1)
theorem gok_tail {m n k a : Nat} {x : List UInt8} (ha : n * k ≤ a) (hb : V x / 2 ^ a % 2 = 1) : gok m n k x = false := by
  unfold gok
  rw [decide_eq_false, Bool.and_false]
  intro hv
  have h1 : 2 ^ (k * n) ≤ 2 ^ a := Nat.pow_le_pow_right (by decide) (by rw [Nat.mul_comm]; exact ha)
  rw [Nat.div_eq_of_lt (by omega)] at hb
  exact absurd hb (by decide)
theorem tail_none {N a b : Nat} (hN : N < 2 ^ b) (h : ∀ j, a ≤ j → j < b → N / 2 ^ j % 2 = 0) : N < 2 ^ a := by
  by_cases hab : a ≤ b
  · obtain ⟨d, rfl⟩ : ∃ d, b = a + d := ⟨b - a, by omega⟩
    clear hab
    induction d with
    | zero => exact hN
    | succ d ih =>
      apply ih
      · have h1 := h (a + d) (by omega) (by omega)
        have h2 : N / 2 ^ (a + d) < 2 := by
          rw [Nat.div_lt_iff_lt_mul (Nat.two_pow_pos _), Nat.mul_comm, ← Nat.pow_succ]; exact hN
        have h3 : N / 2 ^ (a + d) = 0 := by rw [Nat.mod_eq_of_lt h2] at h1; exact h1
        rcases Nat.div_eq_zero_iff.1 h3 with h4 | h4
        · have := Nat.two_pow_pos (a + d); omega
        · exact h4
      · intro j h1 h2; exact h j h1 (by omega)
  · exact Nat.lt_of_lt_of_le hN (Nat.pow_le_pow_right (by decide) (by omega))
theorem V_bits (x : List UInt8) : V x < 2 ^ (x.length * 8) := by
  have := V_lt x
  rwa [pow256, Nat.mul_comm] at this
def mbs (x : List UInt8) (k : Nat) : List Bool := (List.range k).map (mb x)
theorem mbs_len (x : List UInt8) (k : Nat) : (mbs x k).length = k := by simp [mbs]
theorem mb_fld (x : List UInt8) (i : Nat) : decide (((fld 1 (V x) i : Nat) : Int) = 1) = mb x i := by unfold fld mb; rw [Nat.one_mul, Nat.pow_one, decide_eq_decide]; omega
theorem mbs_succ (x : List UInt8) (k : Nat) : mbs x (k + 1) = mbs x k ++ [mb x k] := by unfold mbs; rw [List.range_succ, List.map_append]; rfl
end Pl
theorem St.dropAllF {w0 w : World} {F : Nat → Prop} {L : List HP} (h : St w0 F L w) : St w0 F [] w := h.dropAll
end Go.Proofs.Ytfomieekdbkcnaa
