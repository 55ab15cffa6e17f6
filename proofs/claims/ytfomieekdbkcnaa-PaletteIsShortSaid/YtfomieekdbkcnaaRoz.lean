/-
  One cell of a block written.
-/
import Derived.Test.YtfomieekdbkcnaaRow
namespace Go.Proofs.Ytfomieekdbkcnaa
open Go.RowKit

theorem Row.cellx {g : Nat} {cs : List Value} {w : World} (h : Row g cs w) (j : Nat) (v : Value) (hj : cs[j]? = some v) : w.cell? ⟨g, j, none⟩ = some v := (h j v hj).1
theorem Row.softx {g : Nat} {cs : List Value} {w : World} (h : Row g cs w) (j : Nat) (v : Value) (hj : cs[j]? = some v) : w.frozen? ⟨g, j, none⟩ = false := (h j v hj).2
/-- a cell of a block of the call's own, written -/
theorem Gr.put1 {w u W C : World} {q k : Nat} {v : Value} (h : Below w.heap.size w u) (g1 : Gr u W) (hq : w.heap.size ≤ q) (g2 : Gr (W.setCell ⟨q, k, none⟩ v) C) : Below w.heap.size w C := by
  have h1 : Below w.heap.size w (W.setCell ⟨q, k, none⟩ v) := below_setCells hq [v] k w W (Gr.to h g1)
  exact Below.trans h1 (Below.mono g2 h1.size)
end Go.Proofs.Ytfomieekdbkcnaa
