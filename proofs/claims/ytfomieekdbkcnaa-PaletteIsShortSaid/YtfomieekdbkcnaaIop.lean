/-
  Operations on integers.
-/
import Derived.Test.YtfomieekdbkcnaaSxb
import Derived.Handy
namespace Go.Proofs.Ytfomieekdbkcnaa
open Go Go.RowKit
set_option linter.unusedVariables false
set_option linter.unusedSimpArgs false
theorem bnt {x : Bool} (h : true = !x) : x = false := by cases x <;> simp_all
theorem bnf {x : Bool} (h : false = !x) : x = true := by cases x <;> simp_all
theorem rb_t {x : Bool} (h : x = true) : Ending.returned (Value.bool true) = Ending.returned (Value.bool x) := by rw [h]
theorem rb_f {x : Bool} (h : x = false) : Ending.returned (Value.bool false) = Ending.returned (Value.bool x) := by rw [h]
section
variable {ev : Operand → Value} {o : Oper} {x y : Operand} {t t' : TypeId} {k : IntKind} (W : World)
theorem op_int_eql (a b : Int) (ho : o.op = .binOp .eql t x y t') (hx : ev x = .int k a) (hy : ev y = .int k b) (ht : Try.prog.underlying t = some (.int k)) : (execOp ev o).run Try.prog W = .ok (.value (.bool (decide (a = b)))) W := by
  unfold execOp
  rw [ho]
  simp only [hx, hy]
  first | (go_simp; done) | (go_simp <;> (by_cases h : a = b <;> simp [h]))
theorem op_int_neq (a b : Int) (ho : o.op = .binOp .neq t x y t') (hx : ev x = .int k a) (hy : ev y = .int k b) (ht : Try.prog.underlying t = some (.int k)) : (execOp ev o).run Try.prog W = .ok (.value (.bool (decide (a ≠ b)))) W := by
  unfold execOp
  rw [ho]
  simp only [hx, hy]
  first | (go_simp; done) | (go_simp <;> (by_cases h : a = b <;> simp [h]))
theorem op_int_lss (a b : Int) (ho : o.op = .binOp .lss t x y t') (hx : ev x = .int k a) (hy : ev y = .int k b) (ht : Try.prog.underlying t = some (.int k)) : (execOp ev o).run Try.prog W = .ok (.value (.bool (decide (a < b)))) W := by
  unfold execOp
  rw [ho]
  simp only [hx, hy]
  first | (go_simp; done) | (go_simp <;> (by_cases h : a = b <;> simp [h]))
theorem op_int_leq (a b : Int) (ho : o.op = .binOp .leq t x y t') (hx : ev x = .int k a) (hy : ev y = .int k b) (ht : Try.prog.underlying t = some (.int k)) : (execOp ev o).run Try.prog W = .ok (.value (.bool (decide (a ≤ b)))) W := by
  unfold execOp
  rw [ho]
  simp only [hx, hy]
  first | (go_simp; done) | (go_simp <;> (by_cases h : a = b <;> simp [h]))
theorem op_int_gtr (a b : Int) (ho : o.op = .binOp .gtr t x y t') (hx : ev x = .int k a) (hy : ev y = .int k b) (ht : Try.prog.underlying t = some (.int k)) : (execOp ev o).run Try.prog W = .ok (.value (.bool (decide (a > b)))) W := by
  unfold execOp
  rw [ho]
  simp only [hx, hy]
  first | (go_simp; done) | (go_simp <;> (by_cases h : a = b <;> simp [h]))
theorem op_int_geq (a b : Int) (ho : o.op = .binOp .geq t x y t') (hx : ev x = .int k a) (hy : ev y = .int k b) (ht : Try.prog.underlying t = some (.int k)) : (execOp ev o).run Try.prog W = .ok (.value (.bool (decide (a ≥ b)))) W := by
  unfold execOp
  rw [ho]
  simp only [hx, hy]
  first | (go_simp; done) | (go_simp <;> (by_cases h : a = b <;> simp [h]))
theorem op_conv_i64 (a : Int) {t2 : TypeId} (h : -9223372036854775808 ≤ a ∧ a ≤ 9223372036854775807) (ho : o.op = .convert t t2 x) (hx : ev x = .int k a) (hs : Try.prog.underlying t = some (.int k)) (ht : Try.prog.underlying t2 = some (.int .i64)) : (execOp ev o).run Try.prog W = .ok (.value (.int .i64 a)) W := by
  unfold execOp
  rw [ho]
  simp only [hx]
  go_simp
  rw [IntWalk.i64_in _ h]
theorem op_i_add (a b : Int) (h : -9223372036854775808 ≤ a + b ∧ a + b ≤ 9223372036854775807) (ho : o.op = .binOp .add t x y t') (hx : ev x = .int .i64 a) (hy : ev y = .int .i64 b) (ht : Try.prog.underlying t = some (.int .i64)) : (execOp ev o).run Try.prog W = .ok (.value (.int .i64 (a + b))) W := by
  unfold execOp
  rw [ho]
  simp only [hx, hy]
  go_simp
  rw [IntWalk.i64_in _ h]
theorem op_i_sub (a b : Int) (h : -9223372036854775808 ≤ a - b ∧ a - b ≤ 9223372036854775807) (ho : o.op = .binOp .sub t x y t') (hx : ev x = .int .i64 a) (hy : ev y = .int .i64 b) (ht : Try.prog.underlying t = some (.int .i64)) : (execOp ev o).run Try.prog W = .ok (.value (.int .i64 (a - b))) W := by
  unfold execOp
  rw [ho]
  simp only [hx, hy]
  go_simp
  rw [IntWalk.i64_in _ h]
theorem op_i_mul (a b : Int) (h : -9223372036854775808 ≤ a * b ∧ a * b ≤ 9223372036854775807) (ho : o.op = .binOp .mul t x y t') (hx : ev x = .int .i64 a) (hy : ev y = .int .i64 b) (ht : Try.prog.underlying t = some (.int .i64)) : (execOp ev o).run Try.prog W = .ok (.value (.int .i64 (a * b))) W := by
  unfold execOp
  rw [ho]
  simp only [hx, hy]
  go_simp
  rw [IntWalk.i64_in _ h]
end
end Go.Proofs.Ytfomieekdbkcnaa
