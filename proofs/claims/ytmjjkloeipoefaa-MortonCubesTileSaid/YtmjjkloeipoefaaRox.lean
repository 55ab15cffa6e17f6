/-
  A part of a block, read; ends of functions.
-/
import Derived.Test.YtmjjkloeipoefaaRow
import Derived.Test.YtmjjkloeipoefaaRoz
import Derived.KernelRfl
namespace Go.Proofs.Ytmjjkloeipoefaa
open Go.RowKit

theorem Row.part {g : Nat} {cs ds : List Value} {w : World} (h : Row g cs w) (o n : Nat) (e : (cs.drop o).take n = ds) : w.rangeAt g o ds := fun j v hj => by
  refine (h (o + j) v ?_).1
  rw [← e, List.getElem?_take] at hj
  split at hj
  · rwa [List.getElem?_drop] at hj
  · cases hj
/-- what a way returns is what was to be returned, by another name -/
theorem rename {P : Program} {f : FuncId} {vs : Array Value} {w : World} {a b : Value} (h : Calls P f vs w fun e w' => e = .returned a ∧ Below w.heap.size w w') (e : a = b) :
    Calls P f vs w fun e w' => e = .returned b ∧ Below w.heap.size w w' := e ▸ h
theorem idx3_0 (W : World) (a b c : Int) : (Instr.index 57 (.agg #[.int .i64 a, .int .i64 b, .int .i64 c]) (.int .i64 0)).run Try.prog W = .ok (.int .i64 a) W := by kernel_rfl
theorem idx3_1 (W : World) (a b c : Int) : (Instr.index 57 (.agg #[.int .i64 a, .int .i64 b, .int .i64 c]) (.int .i64 1)).run Try.prog W = .ok (.int .i64 b) W := by kernel_rfl
theorem idx3_2 (W : World) (a b c : Int) : (Instr.index 57 (.agg #[.int .i64 a, .int .i64 b, .int .i64 c]) (.int .i64 2)).run Try.prog W = .ok (.int .i64 c) W := by kernel_rfl
end Go.Proofs.Ytmjjkloeipoefaa
