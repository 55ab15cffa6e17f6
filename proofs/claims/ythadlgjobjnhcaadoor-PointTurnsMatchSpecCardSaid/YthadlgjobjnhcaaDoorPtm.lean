/-
  Points, boxes and symmetries as mathematics.
-/
namespace Go.Proofs.YthadlgjobjnhcaaDoor.Pt

/-- the Chebyshev distance -/
def dist (x y z a b c : Int) : Int := max (max (max (x - a) (a - x)) (max (y - b) (b - y))) (max (z - c) (c - z))
/-- is a cell in a box -/
def inB (x y z a b c d e f : Int) : Bool := decide ((a ≤ x ∧ x < d) ∧ (b ≤ y ∧ y < e) ∧ (c ≤ z ∧ z < f))
/-- is a box empty -/
def emp (a b c d e f : Int) : Bool := decide (d ≤ a ∨ e ≤ b ∨ f ≤ c)
/-- the sizes of a box -/
def sz (n : Bool) (a d : Int) : Int := if n = true then 0 else d - a
def vol (a b c d e f : Int) : Int := sz (emp a b c d e f) a d * sz (emp a b c d e f) b e * sz (emp a b c d e f) c f
/-- the distance from a closed box that is not empty -/
def near (x y z a b c d e f : Int) : Int := max (max (max 0 (max (a - x) (x - d))) (max (b - y) (y - e))) (max (c - z) (z - f))
/-- the number of a cell -/
def idx (x y z a b c d e : Int) : Int := ((z - c) * (e - b) + (y - b)) * (d - a) + (x - a)

theorem emp_in (a b c d e f : Int) : emp a b c d e f = !(inB a b c a b c d e f) := by
  unfold emp inB
  by_cases h1 : a < d <;> by_cases h2 : b < e <;> by_cases h3 : c < f <;>
    simp [h1, h2, h3, Int.not_le.2, Int.not_lt.1] <;> omega

theorem inB_true {x y z a b c d e f : Int} : inB x y z a b c d e f = true ↔ (a ≤ x ∧ x < d) ∧ (b ≤ y ∧ y < e) ∧ (c ≤ z ∧ z < f) := by
  unfold inB; exact decide_eq_true_iff
theorem emp_true {a b c d e f : Int} : emp a b c d e f = true ↔ d ≤ a ∨ e ≤ b ∨ f ≤ c := by
  unfold emp; exact decide_eq_true_iff
theorem emp_false {a b c d e f : Int} : emp a b c d e f = false ↔ a < d ∧ b < e ∧ c < f := by
  unfold emp; rw [decide_eq_false_iff_not]; omega
theorem inB_false {x y z a b c d e f : Int} : inB x y z a b c d e f = false ↔ ¬ ((a ≤ x ∧ x < d) ∧ (b ≤ y ∧ y < e) ∧ (c ≤ z ∧ z < f)) := by
  unfold inB; exact decide_eq_false_iff_not

theorem vol_emp {a b c d e f : Int} (h : emp a b c d e f = true) : vol a b c d e f = 0 := by
  unfold vol sz; rw [h]; simp
theorem vol_full {a b c d e f : Int} (h : emp a b c d e f = false) : vol a b c d e f = (d - a) * (e - b) * (f - c) := by
  unfold vol sz; rw [h]; simp

theorem mul3_pos {a b c : Int} (h1 : 0 < a) (h2 : 0 < b) (h3 : 0 < c) : 0 < a * b * c := Int.mul_pos (Int.mul_pos h1 h2) h3
theorem mul3_le {a b c x y z : Int} (h1 : 0 ≤ a) (h2 : 0 ≤ b) (h3 : 0 ≤ c) (k1 : a ≤ x) (k2 : b ≤ y) (k3 : c ≤ z) : a * b * c ≤ x * y * z := by
  have e1 : a * b ≤ x * y := Int.mul_le_mul k1 k2 h2 (by omega)
  exact Int.mul_le_mul e1 k3 h3 (Int.mul_nonneg (by omega) (by omega))
theorem mul3_eq {a b c x y z : Int} (h1 : 0 < a) (h2 : 0 < b) (h3 : 0 < c) (k1 : a ≤ x) (k2 : b ≤ y) (k3 : c ≤ z) (h : a * b * c = x * y * z) : a = x ∧ b = y ∧ c = z := by
  have hx : a = x := by
    rcases Int.lt_or_eq_of_le k1 with l | l
    · exfalso
      have e1 : a * b < x * b := Int.mul_lt_mul_of_pos_right l h2
      have e2 : a * b * c < x * b * c := Int.mul_lt_mul_of_pos_right e1 h3
      have e3 : x * b * c ≤ x * y * z := mul3_le (by omega) (by omega) (by omega) (Int.le_refl _) k2 k3
      omega
    · exact l
  subst hx
  have hy : b = y := by
    rcases Int.lt_or_eq_of_le k2 with l | l
    · exfalso
      have e1 : a * b < a * y := Int.mul_lt_mul_of_pos_left l h1
      have e2 : a * b * c < a * y * c := Int.mul_lt_mul_of_pos_right e1 h3
      have e3 : a * y * c ≤ a * y * z := mul3_le (by omega) (by omega) (by omega) (Int.le_refl _) (Int.le_refl _) k3
      omega
    · exact l
  subst hy
  have hz : c = z := by
    rcases Int.lt_or_eq_of_le k3 with l | l
    · exfalso
      have e2 : a * b * c < a * b * z := Int.mul_lt_mul_of_pos_left l (Int.mul_pos h1 h2)
      omega
    · exact l
  exact ⟨rfl, rfl, hz⟩

theorem vol_pos {a b c d e f : Int} (h : emp a b c d e f = false) : 0 < vol a b c d e f := by
  rw [vol_full h]
  have := emp_false.1 h
  exact mul3_pos (by omega) (by omega) (by omega)
theorem vol_nonneg (a b c d e f : Int) : 0 ≤ vol a b c d e f := by
  cases h : emp a b c d e f with
  | true => rw [vol_emp h]; decide
  | false => exact Int.le_of_lt (vol_pos h)
theorem vol_zero {a b c d e f : Int} : vol a b c d e f = 0 ↔ emp a b c d e f = true := by
  constructor
  · intro h
    cases hh : emp a b c d e f with
    | true => rfl
    | false => have := vol_pos hh; omega
  · exact vol_emp

/-- the box of what is in both -/
def meet (a b c d e f a' b' c' d' e' f' : Int) : Bool := emp (max a a') (max b b') (max c c') (min d d') (min e e') (min f f')

theorem sub_vol {a b c d e f a' b' c' d' e' f' : Int} (h : emp a b c d e f = false) (k1 : a' ≤ a) (k2 : b' ≤ b) (k3 : c' ≤ c) (k4 : d ≤ d') (k5 : e ≤ e') (k6 : f ≤ f') : vol a b c d e f ≤ vol a' b' c' d' e' f' := by
  have h1 := emp_false.1 h
  have h2 : emp a' b' c' d' e' f' = false := emp_false.2 (by omega)
  rw [vol_full h, vol_full h2]
  exact mul3_le (by omega) (by omega) (by omega) (by omega) (by omega) (by omega)
theorem sub_vol_eq {a b c d e f a' b' c' d' e' f' : Int} (h : emp a b c d e f = false) (k1 : a' ≤ a) (k2 : b' ≤ b) (k3 : c' ≤ c) (k4 : d ≤ d') (k5 : e ≤ e') (k6 : f ≤ f') (hv : vol a b c d e f = vol a' b' c' d' e' f') : a = a' ∧ b = b' ∧ c = c' ∧ d = d' ∧ e = e' ∧ f = f' := by
  have h1 := emp_false.1 h
  have h2 : emp a' b' c' d' e' f' = false := emp_false.2 (by omega)
  rw [vol_full h, vol_full h2] at hv
  have := mul3_eq (by omega) (by omega) (by omega) (by omega) (by omega) (by omega) hv
  omega

/-- numbers of cells: bounds -/
theorem pair_bd {x y n m : Int} (hx : 0 ≤ x ∧ x < n) (hy : 0 ≤ y ∧ y < m) : 0 ≤ y * n + x ∧ y * n + x < m * n := by
  have h1 : 0 ≤ y * n := Int.mul_nonneg hy.1 (by omega)
  have h2 : (y + 1) * n ≤ m * n := Int.mul_le_mul_of_nonneg_right (by omega) (by omega)
  rw [Int.add_mul, Int.one_mul] at h2
  omega
theorem pair_div {x y n : Int} (hx : 0 ≤ x ∧ x < n) : (y * n + x) / n = y ∧ (y * n + x) % n = x := by
  have hn : n ≠ 0 := by omega
  rw [Int.add_comm, Int.add_mul_ediv_right _ _ hn, Int.add_mul_emod_self_right, Int.ediv_eq_zero_of_lt hx.1 hx.2, Int.emod_eq_of_lt hx.1 hx.2]
  exact ⟨Int.zero_add _, rfl⟩
theorem pair_back {i n : Int} : (i / n) * n + i % n = i := by
  rw [Int.mul_comm]; exact Int.mul_ediv_add_emod i n

theorem idx_bd {x y z a b c d e f : Int} (h : inB x y z a b c d e f = true) : 0 ≤ (z - c) * (e - b) + (y - b) ∧ 0 ≤ idx x y z a b c d e ∧ idx x y z a b c d e < vol a b c d e f ∧ emp a b c d e f = false := by
  have h1 := inB_true.1 h
  have h2 : emp a b c d e f = false := emp_false.2 (by omega)
  have e1 := pair_bd (x := y - b) (y := z - c) (n := e - b) (m := f - c) (by omega) (by omega)
  have e2 := pair_bd (x := x - a) (n := d - a) (by omega) e1
  refine ⟨e1.1, e2.1, ?_, h2⟩
  rw [vol_full h2]
  have : (d - a) * (e - b) * (f - c) = (f - c) * (e - b) * (d - a) := by
    rw [Int.mul_comm (d - a) (e - b), Int.mul_comm _ (f - c), Int.mul_assoc, ← Int.mul_assoc]
  rw [this]
  exact e2.2

/-- the parts of a number -/
theorem at_idx {x y z a b c d e f : Int} (h : inB x y z a b c d e f = true) :
    idx x y z a b c d e % (d - a) = x - a ∧ idx x y z a b c d e / (d - a) % (e - b) = y - b ∧ idx x y z a b c d e / (d - a) / (e - b) = z - c := by
  have h1 := inB_true.1 h
  unfold idx
  have e2 := pair_div (x := x - a) (y := (z - c) * (e - b) + (y - b)) (n := d - a) (by omega)
  have e1 := pair_div (x := y - b) (y := z - c) (n := e - b) (by omega)
  rw [e2.1, e2.2]
  exact ⟨rfl, e1.2, e1.1⟩
theorem at_bd {a b c d e f i : Int} (h : emp a b c d e f = false) (hi : 0 ≤ i ∧ i < vol a b c d e f) :
    (0 ≤ i % (d - a) ∧ i % (d - a) < d - a) ∧ (0 ≤ i / (d - a) % (e - b) ∧ i / (d - a) % (e - b) < e - b) ∧ (0 ≤ i / (d - a) / (e - b) ∧ i / (d - a) / (e - b) < f - c) ∧ 0 ≤ i / (d - a) := by
  have h1 := emp_false.1 h
  rw [vol_full h] at hi
  have p1 : 0 < d - a := by omega
  have p2 : 0 < e - b := by omega
  have q0 : 0 ≤ i / (d - a) := Int.ediv_nonneg hi.1 (by omega)
  refine ⟨⟨Int.emod_nonneg _ (by omega), Int.emod_lt_of_pos _ p1⟩, ⟨Int.emod_nonneg _ (by omega), Int.emod_lt_of_pos _ p2⟩, ⟨Int.ediv_nonneg q0 (by omega), ?_⟩, q0⟩
  rw [Int.ediv_lt_iff_lt_mul p2, Int.ediv_lt_iff_lt_mul p1]
  have : (f - c) * (e - b) * (d - a) = (d - a) * (e - b) * (f - c) := by
    rw [Int.mul_comm (d - a) (e - b), Int.mul_comm _ (f - c), Int.mul_assoc, ← Int.mul_assoc]
  omega
theorem idx_at {a b c d e f i : Int} (h : emp a b c d e f = false) (hi : 0 ≤ i ∧ i < vol a b c d e f) :
    inB (a + i % (d - a)) (b + i / (d - a) % (e - b)) (c + i / (d - a) / (e - b)) a b c d e f = true ∧ idx (a + i % (d - a)) (b + i / (d - a) % (e - b)) (c + i / (d - a) / (e - b)) a b c d e = i := by
  have h1 := at_bd h hi
  refine ⟨inB_true.2 (by omega), ?_⟩
  unfold idx
  rw [show c + i / (d - a) / (e - b) - c = i / (d - a) / (e - b) by omega, show b + i / (d - a) % (e - b) - b = i / (d - a) % (e - b) by omega, show a + i % (d - a) - a = i % (d - a) by omega, pair_back, pair_back]
/-- the next number -/
theorem succ_div {i n : Int} (hn : 0 < n) : (i % n + 1 < n → (i + 1) / n = i / n ∧ (i + 1) % n = i % n + 1) ∧ (i % n + 1 = n → (i + 1) / n = i / n + 1 ∧ (i + 1) % n = 0) := by
  have hb := pair_back (i := i) (n := n)
  have h0 := Int.emod_nonneg i (show n ≠ 0 by omega)
  constructor
  · intro h
    have := pair_div (x := i % n + 1) (y := i / n) (n := n) (by omega)
    rw [show i / n * n + (i % n + 1) = i + 1 by omega] at this
    exact this
  · intro h
    have := pair_div (x := 0) (y := i / n + 1) (n := n) (by omega)
    rw [show (i / n + 1) * n + 0 = i + 1 by rw [Int.add_mul, Int.one_mul]; omega] at this
    exact this
theorem vol_iff {a b c d e f i : Int} (h : emp a b c d e f = false) : i < vol a b c d e f ↔ i / (d - a) / (e - b) < f - c := by
  have h1 := emp_false.1 h
  rw [vol_full h, Int.ediv_lt_iff_lt_mul (by omega), Int.ediv_lt_iff_lt_mul (by omega)]
  have : (f - c) * (e - b) * (d - a) = (d - a) * (e - b) * (f - c) := by
    rw [Int.mul_comm (d - a) (e - b), Int.mul_comm _ (f - c), Int.mul_assoc, ← Int.mul_assoc]
  omega
end Go.Proofs.YthadlgjobjnhcaaDoor.Pt
