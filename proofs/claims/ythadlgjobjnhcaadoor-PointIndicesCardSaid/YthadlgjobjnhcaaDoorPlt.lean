/-
  voxellaw04.PointIndices, its walk.
-/
import Derived.Test.YthadlgjobjnhcaaDoorPlta
import Derived.Test.YthadlgjobjnhcaaDoorPltb
import Derived.Test.YthadlgjobjnhcaaDoorPltc
import Derived.Test.YthadlgjobjnhcaaDoorPltd
import Derived.Handy
namespace Go.Proofs.YthadlgjobjnhcaaDoor
open Go.RowKit
set_option linter.unusedVariables false
theorem law10 (a1 a2 a3 a4 a5 a6 x1 x2 x3 i : Int) (w : World) (hT : Tab w) (i1 : In64 (a1, a2, a3)) (i2 : In64 (a4, a5, a6)) (i3 : In64 (x1, x2, x3)) (hi : -9223372036854775808 ≤ i ∧ i ≤ 9223372036854775807) :
    Calls Tryd.prog 10 #[.agg #[.int .i64 a1, .int .i64 a2, .int .i64 a3, .int .i64 a4, .int .i64 a5, .int .i64 a6], .agg #[.int .i64 x1, .int .i64 x2, .int .i64 x3], .int .i64 i] w fun e w' => e = .returned (.bool true) ∧ Below w.heap.size w w' := by
  cases hs : [(a1, a2, a3), (a4, a5, a6), (x1, x2, x3)].all inR with
  | false => exact law10_s _ _ _ _ _ _ _ _ _ _ w hT i1 i2 i3 hi hs
  | true =>
    by_cases h0 : i < 0
    · cases hx : Pt.inB x1 x2 x3 a1 a2 a3 a4 a5 a6 with
      | true => exact law10_tneg _ _ _ _ _ _ _ _ _ _ w hT i1 i2 i3 hi hs hx h0
      | false => exact law10_fneg _ _ _ _ _ _ _ _ _ _ w hT i1 i2 i3 hi hs hx h0
    · by_cases h1 : Pt.vol a1 a2 a3 a4 a5 a6 ≤ i
      · cases hx : Pt.inB x1 x2 x3 a1 a2 a3 a4 a5 a6 with
        | true => exact law10_tbig _ _ _ _ _ _ _ _ _ _ w hT i1 i2 i3 hi hs hx (by omega) h1
        | false => exact law10_fbig _ _ _ _ _ _ _ _ _ _ w hT i1 i2 i3 hi hs hx (by omega) h1
      · have he : Pt.emp a1 a2 a3 a4 a5 a6 = false := by
          cases h : Pt.emp a1 a2 a3 a4 a5 a6 with
          | false => rfl
          | true => have := Pt.vol_emp h; omega
        have hz := Pt.emp_false.1 he
        have hat := Pt.at_bd he (i := i) ⟨by omega, by omega⟩
        have sx := Pt.succ_div (i := i) (n := a4 - a1) (by omega)
        have sy := Pt.succ_div (i := i / (a4 - a1)) (n := a5 - a2) (by omega)
        have hv := Pt.vol_iff (i := i + 1) he
        by_cases w1 : i % (a4 - a1) + 1 = a4 - a1
        · have sx2 := sx.2 w1
          rw [sx2.1] at hv
          by_cases w2 : i / (a4 - a1) % (a5 - a2) + 1 = a5 - a2
          · have sy2 := sy.2 w2
            rw [sy2.1] at hv
            by_cases w3 : i + 1 < Pt.vol a1 a2 a3 a4 a5 a6
            · cases hx : Pt.inB x1 x2 x3 a1 a2 a3 a4 a5 a6 with
              | true => exact law10_tok111 _ _ _ _ _ _ _ _ _ _ w hT i1 i2 i3 hi hs hx he (by omega) (by omega) _ _ _ _ _ _ rfl rfl rfl rfl rfl rfl w3 (by omega) (by rw [sx2.1, sx2.2, sy2.1, sy2.2]; have := hv.1 w3; omega)
              | false => exact law10_fok111 _ _ _ _ _ _ _ _ _ _ w hT i1 i2 i3 hi hs hx he (by omega) (by omega) _ _ _ _ _ _ rfl rfl rfl rfl rfl rfl w3 (by omega) (by rw [sx2.1, sx2.2, sy2.1, sy2.2]; have := hv.1 w3; omega)
            · have h3 : ¬ (i / (a4 - a1) / (a5 - a2) + 1 < a6 - a3) := fun h => w3 (hv.2 h)
              cases hx : Pt.inB x1 x2 x3 a1 a2 a3 a4 a5 a6 with
              | true => exact law10_tok110 _ _ _ _ _ _ _ _ _ _ w hT i1 i2 i3 hi hs hx he (by omega) (by omega) _ _ _ 0 0 0 rfl rfl rfl (by omega) (by omega) (by omega)
              | false => exact law10_fok110 _ _ _ _ _ _ _ _ _ _ w hT i1 i2 i3 hi hs hx he (by omega) (by omega) _ _ _ 0 0 0 rfl rfl rfl (by omega) (by omega) (by omega)
          · have sy1 := sy.1 (by omega)
            rw [sy1.1] at hv
            have w3 := hv.2 (by omega)
            cases hx : Pt.inB x1 x2 x3 a1 a2 a3 a4 a5 a6 with
            | true => exact law10_tok101 _ _ _ _ _ _ _ _ _ _ w hT i1 i2 i3 hi hs hx he (by omega) (by omega) _ _ _ _ _ _ rfl rfl rfl rfl rfl rfl w3 (by omega) (by rw [sx2.1, sx2.2, sy1.1, sy1.2]; omega)
            | false => exact law10_fok101 _ _ _ _ _ _ _ _ _ _ w hT i1 i2 i3 hi hs hx he (by omega) (by omega) _ _ _ _ _ _ rfl rfl rfl rfl rfl rfl w3 (by omega) (by rw [sx2.1, sx2.2, sy1.1, sy1.2]; omega)
        · have sx1 := sx.1 (by omega)
          rw [sx1.1] at hv
          have w3 := hv.2 (by omega)
          cases hx : Pt.inB x1 x2 x3 a1 a2 a3 a4 a5 a6 with
          | true => exact law10_tok001 _ _ _ _ _ _ _ _ _ _ w hT i1 i2 i3 hi hs hx he (by omega) (by omega) _ _ _ _ _ _ rfl rfl rfl rfl rfl rfl w3 (by omega) (by rw [sx1.1, sx1.2]; omega)
          | false => exact law10_fok001 _ _ _ _ _ _ _ _ _ _ w hT i1 i2 i3 hi hs hx he (by omega) (by omega) _ _ _ _ _ _ rfl rfl rfl rfl rfl rfl w3 (by omega) (by rw [sx1.1, sx1.2]; omega)

end Go.Proofs.YthadlgjobjnhcaaDoor
