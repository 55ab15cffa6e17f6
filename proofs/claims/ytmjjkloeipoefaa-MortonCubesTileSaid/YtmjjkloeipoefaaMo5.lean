/-
  Cells of boxes and cubes. No program is mentioned here.
-/
import Derived.Test.YtmjjkloeipoefaaMo4
namespace Go.Proofs.Ytmjjkloeipoefaa.Mo
/-- is a point a cell of a box? -/
def cellB (b1 b2 b3 b4 b5 b6 x y z : Int) : Bool := inB x y z && decide (x ≥ b1) && decide (y ≥ b2) && decide (z ≥ b3) && decide (x < b4) && decide (y < b5) && decide (z < b6)
/-- the side of a cube -/
def pw (l : Nat) : Int := ((2 ^ l : Nat) : Int)
theorem pw_pos (l : Nat) : 1 ≤ pw l := by unfold pw; have := Nat.two_pow_pos l; omega
theorem pw_succ (l : Nat) : pw (l + 1) = 2 * pw l := by unfold pw; rw [pow2]; omega
theorem pw_mono {a b : Nat} (h : a ≤ b) : pw a ≤ pw b := by unfold pw; have := Nat.pow_le_pow_right (n := 2) (by decide) h; omega
theorem pw14 {l : Nat} (h : l ≤ 14) : pw l ≤ 16384 := pw_mono h
theorem pw42 {l : Nat} (h : l ≤ 14) : pw (3 * l) ≤ 4398046511104 := pw_mono (show 3 * l ≤ 42 by omega)
def apartB (b1 b2 b3 b4 b5 b6 x y z : Int) (l : Nat) : Bool := decide (x + (pw l - 1) < b1) || decide (y + (pw l - 1) < b2) || decide (z + (pw l - 1) < b3) || decide (x ≥ b4) || decide (y ≥ b5) || decide (z ≥ b6)
def meets (b1 b2 b3 b4 b5 b6 x y z : Int) (l : Nat) : Bool := decide (max x b1 < min (x + pw l) b4) && decide (max y b2 < min (y + pw l) b5) && decide (max z b3 < min (z + pw l) b6)
def within (b1 b2 b3 b4 b5 b6 x y z : Int) (l : Nat) : Bool := decide (b1 ≤ x) && decide (x + pw l ≤ b4) && decide (b2 ≤ y) && decide (y + pw l ≤ b5) && decide (b3 ≤ z) && decide (z + pw l ≤ b6)
/-- how far the child number o lies from the corner in one direction -/
def cx (i o l : Nat) : Int := ((o / 2 ^ i % 2 : Nat) : Int) * pw l
theorem cx_bd (i o : Nat) {l : Nat} (h : l ≤ 13) : 0 ≤ cx i o l ∧ cx i o l ≤ 8192 := by
  unfold cx
  have h1 : o / 2 ^ i % 2 = 0 ∨ o / 2 ^ i % 2 = 1 := by omega
  have h2 : pw l ≤ 8192 := pw_mono h
  have h3 := pw_pos l
  rcases h1 with e | e <;> rw [e] <;> omega
end Go.Proofs.Ytmjjkloeipoefaa.Mo
