/-
  Points and boxes compared.
-/
import Derived.Test.YthadlgjobjnhcaaDoorRow
import Derived.Laws.StructEq
namespace Go.Proofs.YthadlgjobjnhcaaDoor
open Go.RowKit
set_option linter.unusedVariables false

theorem eq3 (d : Nat) (W : World) (x1 x2 x3 y1 y2 y3 : Int) : (Op.equalIn (d + 3) 23 (.agg #[.int .i64 x1, .int .i64 x2, .int .i64 x3]) (.agg #[.int .i64 y1, .int .i64 y2, .int .i64 y3])).run Tryd.prog W = .ok (decide (x1 = y1 ∧ x2 = y2 ∧ x3 = y3)) W := by
  rw [run_equalIn_struct W (d + 2) 23 _ _ (by kernel_rfl) (by kernel_rfl)]
  simp only [Program.fieldsOf, Tryd.underlying23]
  go_simp
  by_cases h1 : x1 = y1 <;> by_cases h2 : x2 = y2 <;> by_cases h3 : x3 = y3 <;> simp [h1, h2, h3]
theorem eq6 (d : Nat) (W : World) (x1 x2 x3 x4 x5 x6 y1 y2 y3 y4 y5 y6 : Int) : (Op.equalIn (d + 5) 31 (.agg #[.int .i64 x1, .int .i64 x2, .int .i64 x3, .int .i64 x4, .int .i64 x5, .int .i64 x6]) (.agg #[.int .i64 y1, .int .i64 y2, .int .i64 y3, .int .i64 y4, .int .i64 y5, .int .i64 y6])).run Tryd.prog W = .ok (decide (x1 = y1 ∧ x2 = y2 ∧ x3 = y3 ∧ x4 = y4 ∧ x5 = y5 ∧ x6 = y6)) W := by
  rw [run_equalIn_struct W (d + 4) 31 _ _ (by kernel_rfl) (by kernel_rfl)]
  simp only [Program.fieldsOf, Tryd.underlying31]
  have q1 := eq3 (d + 1) W x1 x2 x3 y1 y2 y3
  have q2 := eq3 (d + 1) W x4 x5 x6 y4 y5 y6
  go_simp
  by_cases h1 : x1 = y1 <;> by_cases h2 : x2 = y2 <;> by_cases h3 : x3 = y3 <;> by_cases h4 : x4 = y4 <;> by_cases h5 : x5 = y5 <;> by_cases h6 : x6 = y6 <;> simp [h1, h2, h3, h4, h5, h6]
theorem eq3k (W : World) (x1 x2 x3 y1 y2 y3 : Int) : (Op.equalIn 10000 23 (.agg #[.int .i64 x1, .int .i64 x2, .int .i64 x3]) (.agg #[.int .i64 y1, .int .i64 y2, .int .i64 y3])).run Tryd.prog W = .ok (decide (x1 = y1 ∧ x2 = y2 ∧ x3 = y3)) W := eq3 9997 W x1 x2 x3 y1 y2 y3
theorem eq6k (W : World) (x1 x2 x3 x4 x5 x6 y1 y2 y3 y4 y5 y6 : Int) : (Op.equalIn 10000 31 (.agg #[.int .i64 x1, .int .i64 x2, .int .i64 x3, .int .i64 x4, .int .i64 x5, .int .i64 x6]) (.agg #[.int .i64 y1, .int .i64 y2, .int .i64 y3, .int .i64 y4, .int .i64 y5, .int .i64 y6])).run Tryd.prog W = .ok (decide (x1 = y1 ∧ x2 = y2 ∧ x3 = y3 ∧ x4 = y4 ∧ x5 = y5 ∧ x6 = y6)) W := eq6 9995 W x1 x2 x3 x4 x5 x6 y1 y2 y3 y4 y5 y6
end Go.Proofs.YthadlgjobjnhcaaDoor
