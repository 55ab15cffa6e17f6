/-
  Contracts of the specification of package point: those without calls.
-/
import Derived.Test.YthadlgjobjnhcaaDoorPtg
import Derived.Handy
namespace Go.Proofs.YthadlgjobjnhcaaDoor
open Go.RowKit
set_option linter.unusedVariables false
set_option maxRecDepth 1000000 in
theorem radd_any (x1 x2 x3 y1 y2 y3 : Int) (w : World) (h : (-2097152 ≤ x1 ∧ x1 ≤ 2097152) ∧ (-2097152 ≤ x2 ∧ x2 ≤ 2097152) ∧ (-2097152 ≤ x3 ∧ x3 ≤ 2097152) ∧ (-2097152 ≤ y1 ∧ y1 ≤ 2097152) ∧ (-2097152 ≤ y2 ∧ y2 ≤ 2097152) ∧ (-2097152 ≤ y3 ∧ y3 ≤ 2097152)) :
    Calls Tryd.prog 14 #[.agg #[.int .i64 x1, .int .i64 x2, .int .i64 x3], .agg #[.int .i64 y1, .int .i64 y2, .int .i64 y3]] w fun e w' => e = .returned (.agg #[.int .i64 (x1 + y1), .int .i64 (x2 + y2), .int .i64 (x3 + y3)]) ∧ Below w.heap.size w w' := by
  go_enter Tryd.func14, Tryd.ntmps14
  go_wp2_with fail
  go_returns
  exact ⟨rfl, by go_grown⟩
set_option maxRecDepth 1000000 in
theorem rsub_any (x1 x2 x3 y1 y2 y3 : Int) (w : World) (h : (-2097152 ≤ x1 ∧ x1 ≤ 2097152) ∧ (-2097152 ≤ x2 ∧ x2 ≤ 2097152) ∧ (-2097152 ≤ x3 ∧ x3 ≤ 2097152) ∧ (-2097152 ≤ y1 ∧ y1 ≤ 2097152) ∧ (-2097152 ≤ y2 ∧ y2 ≤ 2097152) ∧ (-2097152 ≤ y3 ∧ y3 ≤ 2097152)) :
    Calls Tryd.prog 16 #[.agg #[.int .i64 x1, .int .i64 x2, .int .i64 x3], .agg #[.int .i64 y1, .int .i64 y2, .int .i64 y3]] w fun e w' => e = .returned (.agg #[.int .i64 (x1 - y1), .int .i64 (x2 - y2), .int .i64 (x3 - y3)]) ∧ Below w.heap.size w w' := by
  go_enter Tryd.func16, Tryd.ntmps16
  go_wp2_with fail
  go_returns
  exact ⟨rfl, by go_grown⟩
set_option maxRecDepth 1000000 in
theorem rsub_zero (x1 x2 x3 : Int) (w : World) (h : (-9223372036854775808 ≤ x1 ∧ x1 ≤ 9223372036854775807) ∧ (-9223372036854775808 ≤ x2 ∧ x2 ≤ 9223372036854775807) ∧ (-9223372036854775808 ≤ x3 ∧ x3 ≤ 9223372036854775807)) :
    Calls Tryd.prog 16 #[.agg #[.int .i64 x1, .int .i64 x2, .int .i64 x3], .agg #[.int .i64 0, .int .i64 0, .int .i64 0]] w fun e w' => e = .returned (.agg #[.int .i64 x1, .int .i64 x2, .int .i64 x3]) ∧ Below w.heap.size w w' := by
  go_enter Tryd.func16, Tryd.ntmps16
  go_wp2_with fail
  go_returns
  exact ⟨by simp, by go_grown⟩
theorem prod2_bd {x n : Int} (hx : -2097152 ≤ x ∧ x ≤ 2097152) (hn : -2097152 ≤ n ∧ n ≤ 2097152) : -4398046511104 ≤ x * n ∧ x * n ≤ 4398046511104 := by
  have h1 : (x * n).natAbs ≤ 2097152 * 2097152 := by rw [Int.natAbs_mul]; exact Nat.mul_le_mul (by omega) (by omega)
  omega
set_option maxRecDepth 1000000 in
theorem rscale_any (x1 x2 x3 n : Int) (w : World) (h : (-2097152 ≤ x1 ∧ x1 ≤ 2097152) ∧ (-2097152 ≤ x2 ∧ x2 ≤ 2097152) ∧ (-2097152 ≤ x3 ∧ x3 ≤ 2097152) ∧ (-2097152 ≤ n ∧ n ≤ 2097152)) :
    Calls Tryd.prog 18 #[.agg #[.int .i64 x1, .int .i64 x2, .int .i64 x3], .int .i64 n] w fun e w' => e = .returned (.agg #[.int .i64 (x1 * n), .int .i64 (x2 * n), .int .i64 (x3 * n)]) ∧ Below w.heap.size w w' := by
  have m1 := prod2_bd (x := x1) (n := n) (by omega) (by omega)
  have m2 := prod2_bd (x := x2) (n := n) (by omega) (by omega)
  have m3 := prod2_bd (x := x3) (n := n) (by omega) (by omega)
  go_enter Tryd.func18, Tryd.ntmps18
  go_wp2_with fail
  go_returns
  exact ⟨rfl, by go_grown⟩
set_option maxRecDepth 1000000 in
theorem rcube_any (n : Int) (w : World) :
    Calls Tryd.prog 32 #[.int .i64 n] w fun e w' => e = .returned (.agg #[.int .i64 0, .int .i64 0, .int .i64 0, .int .i64 n, .int .i64 n, .int .i64 n]) ∧ Below w.heap.size w w' := by
  go_enter Tryd.func32, Tryd.ntmps32
  go_wp2_with fail
  go_returns
  exact ⟨rfl, by go_grown⟩
set_option maxRecDepth 1000000 in
theorem rlist_any (x1 x2 x3 : Int) (w : World) :
    Calls Tryd.prog 70 #[.agg #[.int .i64 x1, .int .i64 x2, .int .i64 x3]] w fun e w' => e = .returned (.agg #[.int .i64 x1, .int .i64 x2, .int .i64 x3]) ∧ Below w.heap.size w w' := by
  go_enter Tryd.func70, Tryd.ntmps70
  go_wp2_with fail
  go_returns
  exact ⟨rfl, by go_grown⟩
set_option maxRecDepth 1000000 in
theorem rof_any (x1 x2 x3 : Int) (w : World) :
    Calls Tryd.prog 73 #[.agg #[.int .i64 x1, .int .i64 x2, .int .i64 x3]] w fun e w' => e = .returned (.agg #[.int .i64 x1, .int .i64 x2, .int .i64 x3]) ∧ Below w.heap.size w w' := by
  go_enter Tryd.func73, Tryd.ntmps73
  go_wp2_with fail
  go_returns
  exact ⟨rfl, by go_grown⟩
set_option maxRecDepth 1000000 in
theorem rempty_any (a1 a2 a3 a4 a5 a6 : Int) (r : Bool) (w : World) (h : Pt.emp a1 a2 a3 a4 a5 a6 = r) :
    Calls Tryd.prog 24 #[.agg #[.int .i64 a1, .int .i64 a2, .int .i64 a3, .int .i64 a4, .int .i64 a5, .int .i64 a6]] w fun e w' => e = .returned (.bool r) ∧ Below w.heap.size w w' := by
  have H := Lib.hid h
  clear h
  go_enter Tryd.func24, Tryd.ntmps24
  go_wp2_with fail
  all_goals (go_ret; exact ⟨ret_bool (by rw [← H.out]; unfold Pt.emp; first | (symm; apply decide_eq_true; omega) | (symm; apply decide_eq_false; omega) | (apply decide_eq_decide.2; omega) | (simp; omega) | (rw [Bool.eq_iff_iff]; simp; omega)), by go_grown⟩)
set_option maxRecDepth 1000000 in
theorem rin_any (x1 x2 x3 a1 a2 a3 a4 a5 a6 : Int) (r : Bool) (w : World) (h : Pt.inB x1 x2 x3 a1 a2 a3 a4 a5 a6 = r) :
    Calls Tryd.prog 26 #[.agg #[.int .i64 x1, .int .i64 x2, .int .i64 x3], .agg #[.int .i64 a1, .int .i64 a2, .int .i64 a3, .int .i64 a4, .int .i64 a5, .int .i64 a6]] w fun e w' => e = .returned (.bool r) ∧ Below w.heap.size w w' := by
  have H := Lib.hid h
  clear h
  go_enter Tryd.func26, Tryd.ntmps26
  go_wp2_with fail
  all_goals (go_ret; exact ⟨ret_bool (by rw [← H.out]; unfold Pt.inB; first | (symm; apply decide_eq_true; omega) | (symm; apply decide_eq_false; omega) | (apply decide_eq_decide.2; omega) | (simp; omega) | (rw [Bool.eq_iff_iff]; simp; omega)), by go_grown⟩)

end Go.Proofs.YthadlgjobjnhcaaDoor
