/-
  Contract of the specification: the corner of a cube.
-/
import Derived.Test.YtmjjkloeipoefaaMon
import Derived.Test.YtmjjkloeipoefaaMol
import Derived.Handy
namespace Go.Proofs.Ytmjjkloeipoefaa
open Go.RowKit
set_option linter.unusedVariables false
theorem wrap_pow (l : Nat) (h : l ≤ 62) : IntKind.i64.wrap ((2 : Int) ^ l) = ((2 ^ l : Nat) : Int) := by
  have h1 : 2 ^ l ≤ 2 ^ 62 := Nat.pow_le_pow_right (by decide) h
  rw [show ((2 : Int) ^ l) = ((2 ^ l : Nat) : Int) by simp]
  exact wrap_nat _ (by omega)
end Go.Proofs.Ytmjjkloeipoefaa
