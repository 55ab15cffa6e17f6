/-
  The least index at which something fails. (No program.)
-/
namespace Go.Proofs.Ytfomieekdbkcnaa.Ff
set_option linter.unusedVariables false
/-- the least index below n at which p fails, else n -/
def ff (p : Nat → Bool) (n : Nat) : Nat := (List.range n).findIdx (fun i => !p i)
section
variable {p : Nat → Bool} {n k : Nat}
theorem ff_le : ff p n ≤ n := by have := List.findIdx_le_length (p := fun i => !p i) (xs := List.range n); simpa [ff] using this
theorem ff_before {j : Nat} (h : j < ff p n) : p j = true := by
  have := List.not_of_lt_findIdx (p := fun i => !p i) (xs := List.range n) h
  simpa using this
theorem ff_at (h : ff p n < n) : p (ff p n) = false := by
  have h1 : ff p n < (List.range n).length := by simpa using h
  have := List.findIdx_getElem (p := fun i => !p i) (xs := List.range n) (w := h1)
  have e : (List.range n)[ff p n]'h1 = ff p n := by simp
  change (!p ((List.range n)[ff p n]'h1)) = true at this
  rw [e] at this
  simpa using this
theorem ff_hit (h : k ≤ ff p n) (hk : k < n) (hp : p k = false) : ff p n = k := by
  rcases Nat.lt_or_ge k (ff p n) with h1 | h1
  · rw [ff_before h1] at hp; cases hp
  · omega
theorem ff_step (h : k ≤ ff p n) (hk : k < n) (hp : p k = true) : k + 1 ≤ ff p n := by
  rcases Nat.lt_or_ge k (ff p n) with h1 | h1
  · exact h1
  · have e : ff p n = k := by omega
    have := ff_at (p := p) (n := n) (by omega)
    rw [e, hp] at this; cases this
theorem ff_end (h : n ≤ ff p n) : ff p n = n := Nat.le_antisymm ff_le h
theorem ff_all : ff p n = n ↔ ∀ i, i < n → p i = true := by
  constructor
  · intro h i hi; exact ff_before (n := n) (by omega)
  · intro h
    rcases Nat.lt_or_ge (ff p n) n with h1 | h1
    · have := ff_at h1
      rw [h _ h1] at this; cases this
    · exact ff_end h1
/-- all below n -/
def al (p : Nat → Bool) (n : Nat) : Bool := decide (ff p n = n)
theorem al_yes (h : n ≤ ff p n) : al p n = true := decide_eq_true (ff_end h)
theorem al_no (hk : k ≤ ff p n) (h : k < n) (hp : p k = false) : al p n = false := by
  unfold al; rw [ff_hit hk h hp]; exact decide_eq_false (by omega)
theorem al_iff : al p n = true ↔ ∀ i, i < n → p i = true := by unfold al; rw [decide_eq_true_iff]; exact ff_all
end
end Go.Proofs.Ytfomieekdbkcnaa.Ff
