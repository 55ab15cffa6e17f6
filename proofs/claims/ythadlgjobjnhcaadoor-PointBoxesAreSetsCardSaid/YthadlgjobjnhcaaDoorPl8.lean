/-
  voxellaw04.PointBoxesAreSets, its walk.
-/
import Derived.Test.YthadlgjobjnhcaaDoorPl8a
import Derived.Test.YthadlgjobjnhcaaDoorPl8b
import Derived.Test.YthadlgjobjnhcaaDoorPl8c
import Derived.Test.YthadlgjobjnhcaaDoorPl8d
import Derived.Test.YthadlgjobjnhcaaDoorPl8e
import Derived.Handy
namespace Go.Proofs.YthadlgjobjnhcaaDoor
open Go.RowKit
set_option linter.unusedVariables false
theorem law8 (a1 a2 a3 a4 a5 a6 b1 b2 b3 b4 b5 b6 x1 x2 x3 y1 y2 y3 : Int) (w : World) (hT : Tab w) (i1 : In64 (a1, a2, a3)) (i2 : In64 (a4, a5, a6)) (i3 : In64 (b1, b2, b3)) (i4 : In64 (b4, b5, b6)) (i5 : In64 (x1, x2, x3)) (i6 : In64 (y1, y2, y3)) :
    Calls Tryd.prog 8 #[.agg #[.int .i64 a1, .int .i64 a2, .int .i64 a3, .int .i64 a4, .int .i64 a5, .int .i64 a6], .agg #[.int .i64 b1, .int .i64 b2, .int .i64 b3, .int .i64 b4, .int .i64 b5, .int .i64 b6], .agg #[.int .i64 x1, .int .i64 x2, .int .i64 x3], .agg #[.int .i64 y1, .int .i64 y2, .int .i64 y3]] w fun e w' => e = .returned (.bool true) ∧ Below w.heap.size w w' := by
  cases hs : [(a1, a2, a3), (a4, a5, a6), (b1, b2, b3), (b4, b5, b6), (x1, x2, x3), (y1, y2, y3)].all inI with
  | false => exact law8_s _ _ _ _ _ _ _ _ _ _ _ _ _ _ _ _ _ _ w hT i1 i2 i3 i4 i5 i6 hs
  | true =>
    have fe1 : Pt.emp a1 a2 a3 a4 a5 a6 = true → Pt.meet a1 a2 a3 a4 a5 a6 b1 b2 b3 b4 b5 b6 = true := fun h => by have := Pt.emp_true.1 h; unfold Pt.meet; exact Pt.emp_true.2 (by omega)
    have fe2 : Pt.emp b1 b2 b3 b4 b5 b6 = true → Pt.meet a1 a2 a3 a4 a5 a6 b1 b2 b3 b4 b5 b6 = true := fun h => by have := Pt.emp_true.1 h; unfold Pt.meet; exact Pt.emp_true.2 (by omega)
    have g1 : Pt.inB x1 x2 x3 a1 a2 a3 a4 a5 a6 = true → Pt.emp a1 a2 a3 a4 a5 a6 = false := fun h => by have := Pt.inB_true.1 h; exact Pt.emp_false.2 (by omega)
    have g2 : Pt.inB x1 x2 x3 b1 b2 b3 b4 b5 b6 = true → Pt.emp b1 b2 b3 b4 b5 b6 = false := fun h => by have := Pt.inB_true.1 h; exact Pt.emp_false.2 (by omega)
    have g3 : Pt.inB x1 x2 x3 a1 a2 a3 a4 a5 a6 = true → Pt.inB x1 x2 x3 b1 b2 b3 b4 b5 b6 = true → Pt.meet a1 a2 a3 a4 a5 a6 b1 b2 b3 b4 b5 b6 = false := fun h k => by have := Pt.inB_true.1 h; have := Pt.inB_true.1 k; unfold Pt.meet; exact Pt.emp_false.2 (by omega)
    have g4 : (max a1 b1 = b1 ∧ max a2 b2 = b2 ∧ max a3 b3 = b3 ∧ min a4 b4 = b4 ∧ min a5 b5 = b5 ∧ min a6 b6 = b6) → Pt.inB x1 x2 x3 b1 b2 b3 b4 b5 b6 = true → Pt.inB x1 x2 x3 a1 a2 a3 a4 a5 a6 = true := fun hc h => by have := Pt.inB_true.1 h; exact Pt.inB_true.2 (by omega)
    cases ha : Pt.emp a1 a2 a3 a4 a5 a6 <;> cases hb : Pt.emp b1 b2 b3 b4 b5 b6 <;> cases hm : Pt.meet a1 a2 a3 a4 a5 a6 b1 b2 b3 b4 b5 b6 <;> cases hia : Pt.inB x1 x2 x3 a1 a2 a3 a4 a5 a6 <;> cases hib : Pt.inB x1 x2 x3 b1 b2 b3 b4 b5 b6
    all_goals first
      | exact law8_ttteff _ _ _ _ _ _ _ _ _ _ _ _ _ _ _ _ _ _ w hT i1 i2 i3 i4 i5 i6 hs ha hb hm hia hib
      | exact law8_tftmft _ _ _ _ _ _ _ _ _ _ _ _ _ _ _ _ _ _ w hT i1 i2 i3 i4 i5 i6 hs ha hb hm hia hib
      | exact law8_tftmff _ _ _ _ _ _ _ _ _ _ _ _ _ _ _ _ _ _ w hT i1 i2 i3 i4 i5 i6 hs ha hb hm hia hib
      | exact law8_fttetf _ _ _ _ _ _ _ _ _ _ _ _ _ _ _ _ _ _ w hT i1 i2 i3 i4 i5 i6 hs ha hb hm hia hib
      | exact law8_ftteff _ _ _ _ _ _ _ _ _ _ _ _ _ _ _ _ _ _ w hT i1 i2 i3 i4 i5 i6 hs ha hb hm hia hib
      | exact law8_fftmtf _ _ _ _ _ _ _ _ _ _ _ _ _ _ _ _ _ _ w hT i1 i2 i3 i4 i5 i6 hs ha hb hm hia hib
      | exact law8_fftmft _ _ _ _ _ _ _ _ _ _ _ _ _ _ _ _ _ _ w hT i1 i2 i3 i4 i5 i6 hs ha hb hm hia hib
      | exact law8_fftmff _ _ _ _ _ _ _ _ _ _ _ _ _ _ _ _ _ _ w hT i1 i2 i3 i4 i5 i6 hs ha hb hm hia hib
      | exact absurd (fe1 ha) (by rw [hm]; decide)
      | exact absurd (fe2 hb) (by rw [hm]; decide)
      | exact absurd (g1 hia) (by rw [ha]; decide)
      | exact absurd (g2 hib) (by rw [hb]; decide)
      | exact absurd (g3 hia hib) (by rw [hm]; decide)
      | (by_cases hc : max a1 b1 = b1 ∧ max a2 b2 = b2 ∧ max a3 b3 = b3 ∧ min a4 b4 = b4 ∧ min a5 b5 = b5 ∧ min a6 b6 = b6
         · first
           | exact law8_fffytt _ _ _ _ _ _ _ _ _ _ _ _ _ _ _ _ _ _ w hT i1 i2 i3 i4 i5 i6 hs ha hb hm hc hia hib
           | exact law8_fffytf _ _ _ _ _ _ _ _ _ _ _ _ _ _ _ _ _ _ w hT i1 i2 i3 i4 i5 i6 hs ha hb hm hc hia hib
           | exact law8_fffyff _ _ _ _ _ _ _ _ _ _ _ _ _ _ _ _ _ _ w hT i1 i2 i3 i4 i5 i6 hs ha hb hm hc hia hib
           | exact absurd (g4 hc hib) (by rw [hia]; decide)
         · first
           | exact law8_fffntt _ _ _ _ _ _ _ _ _ _ _ _ _ _ _ _ _ _ w hT i1 i2 i3 i4 i5 i6 hs ha hb hm hc hia hib
           | exact law8_fffntf _ _ _ _ _ _ _ _ _ _ _ _ _ _ _ _ _ _ w hT i1 i2 i3 i4 i5 i6 hs ha hb hm hc hia hib
           | exact law8_fffnft _ _ _ _ _ _ _ _ _ _ _ _ _ _ _ _ _ _ w hT i1 i2 i3 i4 i5 i6 hs ha hb hm hc hia hib
           | exact law8_fffnff _ _ _ _ _ _ _ _ _ _ _ _ _ _ _ _ _ _ w hT i1 i2 i3 i4 i5 i6 hs ha hb hm hc hia hib)

end Go.Proofs.YthadlgjobjnhcaaDoor
