/-
  How many cells three loops count; small boxes; the visits of the search. No program is mentioned here.
-/
import Derived.Test.YtmjjkloeipoefaaMo12
import Derived.Handy
namespace Go.Proofs.Ytmjjkloeipoefaa.Mo
def iv (a z : Int) : Int := max 0 (min z 16384 - max a 0)
def fX (x : Int) : Bool := decide (0 ≤ x ∧ x < 16384)
def gb (f : Bool) (v : Int) : Int := if f then v else 0
def smallB (b1 b2 b3 b4 b5 b6 : Int) : Bool := decide (b1 ≥ -100000) && decide (b2 ≥ -100000) && decide (b3 ≥ -100000) && decide (b4 ≤ 100000) && decide (b5 ≤ 100000) && decide (b6 ≤ 100000) &&
  decide (IntKind.i64.wrap (b4 - b1) ≤ 20) && decide (IntKind.i64.wrap (b5 - b2) ≤ 20) && decide (IntKind.i64.wrap (b6 - b3) ≤ 20)
/-- how many cells a box has -/
def total (b1 b2 b3 b4 b5 b6 : Int) : Nat := cntR (pc b1 b2 b3 b4 b5 b6) 0 (8 ^ 14)
section
variable {b1 b2 b3 b4 b5 b6 : Int}
end
end Go.Proofs.Ytmjjkloeipoefaa.Mo
