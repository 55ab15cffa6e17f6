/-
  What the search for the next code finds; how many codes a box has. No program is mentioned here.
-/
import Derived.Test.YtmjjkloeipoefaaMo11
namespace Go.Proofs.Ytmjjkloeipoefaa.Mo

/-- is c the code of a cell of the box? -/
def pc (b1 b2 b3 b4 b5 b6 : Int) (c : Nat) : Bool := okB c && cellB b1 b2 b3 b4 b5 b6 (dec 0 c) (dec 1 c) (dec 2 c)
section
variable {b1 b2 b3 b4 b5 b6 : Int}
theorem cellB_true {x y z : Int} : cellB b1 b2 b3 b4 b5 b6 x y z = true ↔ inB x y z = true ∧ (b1 ≤ x ∧ x < b4) ∧ (b2 ≤ y ∧ y < b5) ∧ (b3 ≤ z ∧ z < b6) := by
  unfold cellB
  simp only [Bool.and_eq_true, decide_eq_true_eq]
  constructor
  · rintro ⟨⟨⟨⟨⟨⟨h, h1⟩, h2⟩, h3⟩, h4⟩, h5⟩, h6⟩; exact ⟨h, ⟨h1, h4⟩, ⟨h2, h5⟩, ⟨h3, h6⟩⟩
  · rintro ⟨h, ⟨h1, h4⟩, ⟨h2, h5⟩, ⟨h3, h6⟩⟩; exact ⟨⟨⟨⟨⟨⟨h, h1⟩, h2⟩, h3⟩, h4⟩, h5⟩, h6⟩
theorem pc_out {x y z : Int} {l : Nat} (ha : al x y z l) (hm : meets b1 b2 b3 b4 b5 b6 x y z l = false) {c : Nat} (h1 : enc x y z ≤ (c : Int)) (h2 : (c : Int) < enc x y z + pw (3 * l)) : pc b1 b2 b3 b4 b5 b6 c = false := by
  have hc := al_cell ha h1 h2
  cases h : pc b1 b2 b3 b4 b5 b6 c with
  | false => rfl
  | true =>
    exfalso
    unfold pc at h
    rw [Bool.and_eq_true, cellB_true] at h
    unfold meets at hm
    rw [Bool.and_eq_false_iff, Bool.and_eq_false_iff, decide_eq_false_iff_not, decide_eq_false_iff_not, decide_eq_false_iff_not] at hm
    omega
theorem pc_in {x y z : Int} {l : Nat} (ha : al x y z l) (hw : within b1 b2 b3 b4 b5 b6 x y z l = true) {c : Nat} (h1 : enc x y z ≤ (c : Int)) (h2 : (c : Int) < enc x y z + pw (3 * l)) : pc b1 b2 b3 b4 b5 b6 c = true := by
  have hc := al_cell ha h1 h2
  unfold within at hw
  simp only [Bool.and_eq_true, decide_eq_true_eq] at hw
  unfold pc
  rw [hc.2.2.2, Bool.true_and, cellB_true]
  exact ⟨inB_dec _, by omega, by omega, by omega⟩

/-- r is the least code from n on that is the code of a cell, among those from lo to hi; or there is none -/
def Fnd (b1 b2 b3 b4 b5 b6 lo hi n r : Int) : Prop :=
  (r = -1 ∧ ∀ c : Nat, lo ≤ c → c < hi → n ≤ c → pc b1 b2 b3 b4 b5 b6 c = false) ∨
  (∃ v : Nat, r = v ∧ n ≤ v ∧ lo ≤ v ∧ v < hi ∧ pc b1 b2 b3 b4 b5 b6 v = true ∧ ∀ c : Nat, lo ≤ c → n ≤ c → c < v → pc b1 b2 b3 b4 b5 b6 c = false)
/-- how many of the k numbers from s on -/
def cntR (P : Nat → Bool) (s : Nat) : Nat → Nat
  | 0 => 0
  | k + 1 => cntR P s k + (if P (s + k) then 1 else 0)
/-- the overlap in one direction -/
def ov (x : Int) (l : Nat) (lo hi : Int) : Nat := (min (x + pw l) hi - max x lo).toNat
end
end Go.Proofs.Ytmjjkloeipoefaa.Mo
