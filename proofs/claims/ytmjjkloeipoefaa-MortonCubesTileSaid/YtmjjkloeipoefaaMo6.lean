/-
  The least code of a cell of a box: the search over the cubes. No program is mentioned here.
-/
import Derived.Test.YtmjjkloeipoefaaMo5
namespace Go.Proofs.Ytmjjkloeipoefaa.Mo
/-- the first of k answers, from number o on, that is no -1 -/
def fn (g : Nat → Int) : Nat → Nat → Int
  | 0, _ => -1
  | k + 1, o => if 0 ≤ g o then g o else fn g k (o + 1)
theorem fn_yes2 {g : Nat → Int} {k o : Nat} {v : Int} (e : v = g o) (h : 0 ≤ v) : fn g (k + 1) o = v := by rw [fn, if_pos (by rw [← e]; exact h), ← e]
theorem fn_no2 {g : Nat → Int} {k o : Nat} {v : Int} (e : v = g o) (h : ¬ 0 ≤ v) : fn g (k + 1) o = fn g k (o + 1) := by rw [fn, if_neg (by rw [← e]; exact h)]
def stepN (m v : Bool) (e last n r : Int) : Int := bif m then (if last < n then -1 else bif v then max e n else r) else -1
theorem stepN_b {v : Bool} {e last n r : Int} (h : last < n) : stepN true v e last n r = -1 := by unfold stepN; rw [cond_true, if_pos h]
theorem stepN_c {e last n r : Int} (h : ¬ last < n) : stepN true true e last n r = max e n := by unfold stepN; rw [cond_true, if_neg h, cond_true]
theorem stepN_d {e last n r : Int} (h : ¬ last < n) : stepN true false e last n r = r := by unfold stepN; rw [cond_true, if_neg h, cond_false]
/-- the least code, at least n, of a cell of a box in a cube; -1 if there is none -/
def nx (b1 b2 b3 b4 b5 b6 n : Int) : Nat → Int → Int → Int → Int
  | 0, x, y, z => stepN (meets b1 b2 b3 b4 b5 b6 x y z 0) (within b1 b2 b3 b4 b5 b6 x y z 0) (enc x y z) (enc x y z + pw (3 * 0) - 1) n (-1)
  | l + 1, x, y, z => stepN (meets b1 b2 b3 b4 b5 b6 x y z (l + 1)) (within b1 b2 b3 b4 b5 b6 x y z (l + 1)) (enc x y z) (enc x y z + pw (3 * (l + 1)) - 1) n
      (fn (fun o => nx b1 b2 b3 b4 b5 b6 n l (x + cx 0 o l) (y + cx 1 o l) (z + cx 2 o l)) 8 0)
theorem pw0 : pw 0 = 1 := rfl
/-- a cube of one cell has both or none -/
theorem within0 {b1 b2 b3 b4 b5 b6 x y z : Int} (h : meets b1 b2 b3 b4 b5 b6 x y z 0 = true) : within b1 b2 b3 b4 b5 b6 x y z 0 = true := by
  unfold meets at h
  unfold within
  simp only [Bool.and_eq_true, decide_eq_true_eq] at h ⊢
  have e := pw0
  omega
/-- what lies in the world, with room for its children -/
def sits (x y z : Int) (l : Nat) : Prop := (0 ≤ x ∧ x + pw l ≤ 16384) ∧ (0 ≤ y ∧ y + pw l ≤ 16384) ∧ (0 ≤ z ∧ z + pw l ≤ 16384) ∧ l ≤ 14
theorem sits_child {x y z : Int} {l : Nat} (h : sits x y z (l + 1)) (o : Nat) : sits (x + cx 0 o l) (y + cx 1 o l) (z + cx 2 o l) l := by
  unfold sits at *
  rw [pw_succ] at h
  have hp := pw_pos l
  have c : ∀ i, cx i o l = 0 ∨ cx i o l = pw l := fun i => by
    unfold cx
    have h1 : o / 2 ^ i % 2 = 0 ∨ o / 2 ^ i % 2 = 1 := by omega
    rcases h1 with e | e <;> rw [e] <;> omega
  have c0 := c 0; have c1 := c 1; have c2 := c 2
  omega
theorem sits_bd {x y z : Int} {l : Nat} (h : sits x y z l) : (-1 ≤ x ∧ x ≤ 32768) ∧ (-1 ≤ y ∧ y ≤ 32768) ∧ (-1 ≤ z ∧ z ≤ 32768) := by
  unfold sits at h
  have := pw_pos l
  omega
theorem sits_in {x y z : Int} {l : Nat} (h : sits x y z l) : inB x y z = true := by
  unfold sits at h
  have := pw_pos l
  exact inB_true.2 (by omega)
end Go.Proofs.Ytmjjkloeipoefaa.Mo
