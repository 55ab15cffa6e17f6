/-
  Turned points and boxes: distances, cells, volumes.
-/
import Derived.Test.YthadlgjobjnhcaaDoorPtm
import Derived.Test.YthadlgjobjnhcaaDoorPtn
namespace Go.Proofs.YthadlgjobjnhcaaDoor.Pt

theorem tc_abs (less : Int) (s i : Nat) (x1 x2 x3 y1 y2 y3 : Int) :
    max (tc less s i x1 x2 x3 - tc less s i y1 y2 y3) (tc less s i y1 y2 y3 - tc less s i x1 x2 x3) = max (pick (axis (s / 8) i) x1 x2 x3 - pick (axis (s / 8) i) y1 y2 y3) (pick (axis (s / 8) i) y1 y2 y3 - pick (axis (s / 8) i) x1 x2 x3) := by
  unfold tc
  cases bit s i
  · rfl
  · simp only [cond_true]; omega
theorem six {s : Nat} (h : s < 48) : s / 8 = 0 ∨ s / 8 = 1 ∨ s / 8 = 2 ∨ s / 8 = 3 ∨ s / 8 = 4 ∨ s / 8 = 5 := by omega
theorem dist_turn (less : Int) (s : Nat) (hs : s < 48) (x1 x2 x3 y1 y2 y3 : Int) :
    dist (tc less s 0 x1 x2 x3) (tc less s 1 x1 x2 x3) (tc less s 2 x1 x2 x3) (tc less s 0 y1 y2 y3) (tc less s 1 y1 y2 y3) (tc less s 2 y1 y2 y3) = dist x1 x2 x3 y1 y2 y3 := by
  unfold dist
  rw [tc_abs, tc_abs, tc_abs]
  rcases six hs with h | h | h | h | h | h <;> rw [h] <;> simp only [axis, pick] <;>
    generalize max (x1 - y1) (y1 - x1) = p1 <;> generalize max (x2 - y2) (y2 - x2) = p2 <;> generalize max (x3 - y3) (y3 - x3) = p3 <;> omega
/-- the corners of a turned box -/
def lo (s i : Nat) (a b c d e f : Int) : Int := min (tc 0 s i a b c) (tc 0 s i d e f)
def hi (s i : Nat) (a b c d e f : Int) : Int := max (tc 0 s i a b c) (tc 0 s i d e f)
theorem tc_in {s i : Nat} {x1 x2 x3 a b c d e f : Int} (h : pick (axis (s / 8) i) a b c < pick (axis (s / 8) i) d e f) :
    (min (tc 0 s i a b c) (tc 0 s i d e f) ≤ tc 1 s i x1 x2 x3 ∧ tc 1 s i x1 x2 x3 < max (tc 0 s i a b c) (tc 0 s i d e f)) ↔ (pick (axis (s / 8) i) a b c ≤ pick (axis (s / 8) i) x1 x2 x3 ∧ pick (axis (s / 8) i) x1 x2 x3 < pick (axis (s / 8) i) d e f) := by
  unfold tc
  cases bit s i
  · simp only [cond_false]; omega
  · simp only [cond_true]; omega
theorem tc_len {s i : Nat} {a b c d e f : Int} (h : pick (axis (s / 8) i) a b c < pick (axis (s / 8) i) d e f) :
    max (tc 0 s i a b c) (tc 0 s i d e f) - min (tc 0 s i a b c) (tc 0 s i d e f) = pick (axis (s / 8) i) d e f - pick (axis (s / 8) i) a b c := by
  unfold tc
  cases bit s i
  · simp only [cond_false]; omega
  · simp only [cond_true]; omega
theorem pick_lt (k i : Nat) {a b c d e f : Int} (h : a < d ∧ b < e ∧ c < f) : pick (axis k i) a b c < pick (axis k i) d e f := by
  unfold pick; split <;> omega
theorem in_turn (s : Nat) (hs : s < 48) (x1 x2 x3 a b c d e f : Int) (h : emp a b c d e f = false) :
    inB (tc 1 s 0 x1 x2 x3) (tc 1 s 1 x1 x2 x3) (tc 1 s 2 x1 x2 x3) (min (tc 0 s 0 a b c) (tc 0 s 0 d e f)) (min (tc 0 s 1 a b c) (tc 0 s 1 d e f)) (min (tc 0 s 2 a b c) (tc 0 s 2 d e f)) (max (tc 0 s 0 a b c) (tc 0 s 0 d e f)) (max (tc 0 s 1 a b c) (tc 0 s 1 d e f)) (max (tc 0 s 2 a b c) (tc 0 s 2 d e f)) = inB x1 x2 x3 a b c d e f := by
  have hz := emp_false.1 h
  unfold inB
  apply decide_eq_decide.2
  rw [tc_in (pick_lt _ _ hz), tc_in (pick_lt _ _ hz), tc_in (pick_lt _ _ hz)]
  rcases six hs with h | h | h | h | h | h <;> rw [h] <;> simp only [axis, pick] <;> omega
theorem vol_turn (s : Nat) (hs : s < 48) (a b c d e f : Int) (h : emp a b c d e f = false) :
    vol (min (tc 0 s 0 a b c) (tc 0 s 0 d e f)) (min (tc 0 s 1 a b c) (tc 0 s 1 d e f)) (min (tc 0 s 2 a b c) (tc 0 s 2 d e f)) (max (tc 0 s 0 a b c) (tc 0 s 0 d e f)) (max (tc 0 s 1 a b c) (tc 0 s 1 d e f)) (max (tc 0 s 2 a b c) (tc 0 s 2 d e f)) = vol a b c d e f := by
  have hz := emp_false.1 h
  have l0 := tc_len (s := s) (i := 0) (pick_lt (s / 8) 0 hz)
  have l1 := tc_len (s := s) (i := 1) (pick_lt (s / 8) 1 hz)
  have l2 := tc_len (s := s) (i := 2) (pick_lt (s / 8) 2 hz)
  have p0 := pick_lt (s / 8) 0 hz
  have p1 := pick_lt (s / 8) 1 hz
  have p2 := pick_lt (s / 8) 2 hz
  rw [vol_full h, vol_full (emp_false.2 (by omega)), l0, l1, l2]
  clear l0 l1 l2 p0 p1 p2
  generalize hp : d - a = p
  generalize hq : e - b = q
  generalize hr : f - c = r
  rcases six hs with h | h | h | h | h | h <;> rw [h] <;> simp only [axis, pick, hp, hq, hr]
  · rw [Int.mul_assoc, Int.mul_comm r q, ← Int.mul_assoc]
  · rw [Int.mul_comm q p]
  · rw [Int.mul_comm (q * r) p, Int.mul_assoc]
  · rw [Int.mul_comm r p, Int.mul_assoc, Int.mul_comm r q, ← Int.mul_assoc]
  · rw [Int.mul_comm r q, Int.mul_comm (q * r) p, Int.mul_assoc]
end Go.Proofs.YthadlgjobjnhcaaDoor.Pt
