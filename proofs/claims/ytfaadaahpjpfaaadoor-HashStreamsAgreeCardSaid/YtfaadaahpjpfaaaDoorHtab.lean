/-
  The table of the specification of package hash.
-/
import Derived.Test.YtfaadaahpjpfaaaDoorHse
namespace Go.Proofs.YtfaadaahpjpfaaaDoor
open Go.RowKit

/-- the specification's table lies as it was laid -/
def TabR (w : World) : Prop := w.rangeAt 0 0 (Sha.consts.map Sha.wv)
theorem TabR.below {w w' : World} (h : TabR w) (hb : Below w.heap.size w w') : TabR w' :=
  fun j v hj => (hb.cell (World.block_lt_of_cell? w _ (h j v hj))).trans (h j v hj)

end Go.Proofs.YtfaadaahpjpfaaaDoor
