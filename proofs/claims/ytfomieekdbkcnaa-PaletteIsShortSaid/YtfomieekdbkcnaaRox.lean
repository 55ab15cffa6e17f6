/-
  A part of a block, read; ends of functions.
-/
import Derived.Test.YtfomieekdbkcnaaRo4
import Derived.Test.YtfomieekdbkcnaaRoz
import Derived.KernelRfl
namespace Go.Proofs.Ytfomieekdbkcnaa
open Go.RowKit

theorem Row.part {g : Nat} {cs ds : List Value} {w : World} (h : Row g cs w) (o n : Nat) (e : (cs.drop o).take n = ds) : w.rangeAt g o ds := fun j v hj => by
  refine (h (o + j) v ?_).1
  rw [← e, List.getElem?_take] at hj
  split at hj
  · rwa [List.getElem?_drop] at hj
  · cases hj
theorem Row.at_ {g : Nat} {cs : List Value} {w : World} (h : Row g cs w) (j : Nat) (v : Value) (e : cs[j]? = some v) : w.cell? ⟨g, j, none⟩ = some v := (h j v e).1
/-- what a way returns is what was to be returned, by another name -/
theorem rename {P : Program} {f : FuncId} {vs : Array Value} {w : World} {a b : Value} (h : Calls P f vs w fun e w' => e = .returned a ∧ Below w.heap.size w w') (e : a = b) :
    Calls P f vs w fun e w' => e = .returned b ∧ Below w.heap.size w w' := e ▸ h
end Go.Proofs.Ytfomieekdbkcnaa
