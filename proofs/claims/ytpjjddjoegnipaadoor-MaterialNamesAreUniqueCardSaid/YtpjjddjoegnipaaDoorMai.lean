/-
  Equal strings and arrays compared; how long a printed table is.
-/
import Derived.Test.YtpjjddjoegnipaaDoorMa7
import Derived.Test.YtpjjddjoegnipaaDoorMsan
import Derived.Test.YtpjjddjoegnipaaDoorMc16
namespace Go.Proofs.YtpjjddjoegnipaaDoor
open Go Go.RowKit
set_option linter.unusedVariables false
section
variable {ev : Operand → Value} {o : Oper} {x y : Operand} {t t' : TypeId} (W : World)
theorem op_str_same (a : List UInt8) (ho : o.op = .binOp .eql t x y t') (hx : ev x = .string (bstr a)) (hy : ev y = .string (bstr a)) (ht : Tryd.prog.underlying t = some .string) : (execOp ev o).run Tryd.prog W = .ok (.value (.bool true)) W := by
  have h := op_str_eql (ev := ev) (o := o) W a a ho hx hy ht
  rwa [decide_eq_true (rfl : a = a)] at h
theorem op_i3_same (a b c : Int) (ho : o.op = .binOp .eql 33 x y t') (hx : ev x = .agg #[.int .i64 a, .int .i64 b, .int .i64 c]) (hy : ev y = .agg #[.int .i64 a, .int .i64 b, .int .i64 c]) :
    (execOp ev o).run Tryd.prog W = .ok (.value (.bool true)) W := by
  have h := op_i3_eql (ev := ev) (o := o) W a b c a b c ho hx hy
  rwa [decide_eq_true (⟨rfl, rfl, rfl⟩ : a = a ∧ b = b ∧ c = c)] at h
end
theorem Ma.print_le (ms : List Ma.Mt) : (Ma.print ms).1.length ≤ 25856 := by
  by_cases h : (Ma.check ms).2 = 0
  · rw [Ma.print_good h]
    obtain ⟨h1, _, _, h4, _⟩ := Ma.check_of h
    have := Ma.lines_le (fun i hi => (h4 i hi).1) ms.length (Nat.le_refl _)
    rw [List.take_length] at this
    simp only
    omega
  · rw [Ma.print_no h]; simp
end Go.Proofs.YtpjjddjoegnipaaDoor
