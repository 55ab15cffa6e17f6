/-
  The cubes of a box, as a list. No program is mentioned here.
-/
import Derived.Test.YtmjjkloeipoefaaMo6
namespace Go.Proofs.Ytmjjkloeipoefaa.Mo
abbrev Cb : Type := Int × Int × Int × Int
/-- k lists, from number o on, one after the other -/
def ffl {α : Type} (g : Nat → List α) : Nat → Nat → List α
  | 0, _ => []
  | k + 1, o => g o ++ ffl g k (o + 1)
def stepC (m v : Bool) (c : Cb) (r : List Cb) : List Cb := bif m then (bif v then [c] else r) else []
/-- the greatest cubes of a box in a cube -/
def cub (b1 b2 b3 b4 b5 b6 : Int) : Nat → Int → Int → Int → List Cb
  | 0, x, y, z => stepC (meets b1 b2 b3 b4 b5 b6 x y z 0) (within b1 b2 b3 b4 b5 b6 x y z 0) (x, y, z, ((0 : Nat) : Int)) []
  | l + 1, x, y, z => stepC (meets b1 b2 b3 b4 b5 b6 x y z (l + 1)) (within b1 b2 b3 b4 b5 b6 x y z (l + 1)) (x, y, z, ((l + 1 : Nat) : Int))
      (ffl (fun o => cub b1 b2 b3 b4 b5 b6 l (x + cx 0 o l) (y + cx 1 o l) (z + cx 2 o l)) 8 0)
/-- so much of it as is kept: one more than the limit -/
def cut (l : List Cb) : List Cb := l.take 4097
theorem cut_small {l : List Cb} (h : l.length ≤ 4097) : cut l = l := by unfold cut; exact List.take_of_length_le h
/-- a part that is too long hides the rest -/
theorem cut_stop {cl g r : List Cb} (h : ¬ (cut (cl ++ g)).length ≤ 4096) : cut (cl ++ (g ++ r)) = cut (cl ++ g) := by
  unfold cut at *
  rw [List.length_take] at h
  rw [← List.append_assoc, List.take_append_of_le_length (by omega)]
/-- what comes first may be cut first -/
theorem cut_cut (a b : List Cb) : cut (cut a ++ b) = cut (a ++ b) := by
  unfold cut
  by_cases h : a.length ≤ 4097
  · rw [List.take_of_length_le h]
  · rw [List.take_append_of_le_length (by rw [List.length_take]; omega), List.take_append_of_le_length (by omega), List.take_take, Nat.min_self]
def cubesL (b1 b2 b3 b4 b5 b6 : Int) : List Cb := cub b1 b2 b3 b4 b5 b6 14 0 0 0
/-- the answer of Cubes: the list, or none and the error -/
def cubesA (b1 b2 b3 b4 b5 b6 : Int) : List Cb := if (cubesL b1 b2 b3 b4 b5 b6).length ≤ 4096 then cubesL b1 b2 b3 b4 b5 b6 else []
def cubesE (b1 b2 b3 b4 b5 b6 : Int) : Int := if (cubesL b1 b2 b3 b4 b5 b6).length ≤ 4096 then 0 else 2
end Go.Proofs.Ytmjjkloeipoefaa.Mo
