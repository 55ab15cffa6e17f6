/-
  A part of a block, read; ends of functions.
-/
import Derived.Test.YtpjjddjoegnipaaDoorRo4
import Derived.Test.YtpjjddjoegnipaaDoorRoz
import Derived.KernelRfl
namespace Go.Proofs.YtpjjddjoegnipaaDoor
open Go.RowKit

theorem Row.part {g : Nat} {cs ds : List Value} {w : World} (h : Row g cs w) (o n : Nat) (e : (cs.drop o).take n = ds) : w.rangeAt g o ds := fun j v hj => by
  refine (h (o + j) v ?_).1
  rw [← e, List.getElem?_take] at hj
  split at hj
  · rwa [List.getElem?_drop] at hj
  · cases hj
theorem Row.at_ {g : Nat} {cs : List Value} {w : World} (h : Row g cs w) (j : Nat) (v : Value) (e : cs[j]? = some v) : w.cell? ⟨g, j, none⟩ = some v := (h j v e).1
/-- what a way returns is what was to be returned, by another name -/
theorem rename {P : Program} {f : FuncId} {vs : Array Value} {w : World} {a b : Value} (h : Calls P f vs w fun e w' => e = .returned a ∧ Below w.heap.size w w') (e : a = b) :
    Calls P f vs w fun e w' => e = .returned b ∧ Below w.heap.size w w' := e ▸ h
theorem idx3_0 (W : World) (a b c : Int) : (Instr.index 33 (.agg #[.int .i64 a, .int .i64 b, .int .i64 c]) (.int .i64 0)).run Tryd.prog W = .ok (.int .i64 a) W := by kernel_rfl
theorem idx3_1 (W : World) (a b c : Int) : (Instr.index 33 (.agg #[.int .i64 a, .int .i64 b, .int .i64 c]) (.int .i64 1)).run Tryd.prog W = .ok (.int .i64 b) W := by kernel_rfl
theorem idx3_2 (W : World) (a b c : Int) : (Instr.index 33 (.agg #[.int .i64 a, .int .i64 b, .int .i64 c]) (.int .i64 2)).run Tryd.prog W = .ok (.int .i64 c) W := by kernel_rfl
end Go.Proofs.YtpjjddjoegnipaaDoor
