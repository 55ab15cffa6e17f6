/-
  voxellaw05.MortonCubesTile, its walk.
-/
import Derived.Test.YtmjjkloeipoefaaMol4
import Derived.Handy
namespace Go.Proofs.Ytmjjkloeipoefaa
open Go.RowKit
set_option linter.unusedVariables false
set_option maxRecDepth 1000000 in
set_option maxHeartbeats 4000000 in
theorem law4 (b1 b2 b3 b4 b5 b6 p q r : Int) (w : World) :
    Calls Try.prog 6 #[.agg #[.int .i64 b1, .int .i64 b2, .int .i64 b3, .int .i64 b4, .int .i64 b5, .int .i64 b6], .agg #[.int .i64 p, .int .i64 q, .int .i64 r]] w fun e w' => e = .returned (.bool true) ∧ Below w.heap.size w w' := by
  rcases Mo.cubes_cases b1 b2 b3 b4 b5 b6 with he | ⟨he, _⟩ <;> cases hs : Mo.smallB b1 b2 b3 b4 b5 b6
  · exact law4_s0 b1 b2 b3 b4 b5 b6 p q r w hs he
  · exact law4_m b1 b2 b3 b4 b5 b6 p q r w hs he
  · exact law4_s2 b1 b2 b3 b4 b5 b6 p q r w hs he
  · exact law4_e b1 b2 b3 b4 b5 b6 p q r w hs he

end Go.Proofs.Ytmjjkloeipoefaa
