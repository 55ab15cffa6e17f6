/-
  The functions of boxes, and those of their specification, with one answer each.
-/
import Derived.Test.YthadlgjobjnhcaaDoorPtf
import Derived.Test.YthadlgjobjnhcaaDoorPth
import Derived.Test.YthadlgjobjnhcaaDoorPrd
import Derived.Test.YthadlgjobjnhcaaDoorPrf
import Derived.Test.YthadlgjobjnhcaaDoorPrg
import Derived.Test.YthadlgjobjnhcaaDoorPrh
import Derived.Handy
namespace Go.Proofs.YthadlgjobjnhcaaDoor
open Go.RowKit
set_option linter.unusedVariables false
def iv : Bool → Int → Int
  | true, _ => 0
  | false, x => x
def hl : Bool → Bool → Int → Int → Int → Int
  | true, true, _, _, _ => 0
  | true, false, _, b, _ => b
  | false, true, a, _, _ => a
  | false, false, _, _, m => m
def nv : Bool → Int → Int
  | true, _ => -1
  | false, x => x
def xv : Bool → Int → Int
  | true, x => x
  | false, _ => -1
def qv : Bool → Int → Int
  | true, x => x
  | false, _ => 0
def conB (a1 a2 a3 a4 a5 a6 b1 b2 b3 b4 b5 b6 : Int) : Bool := Pt.emp b1 b2 b3 b4 b5 b6 || (!(Pt.meet a1 a2 a3 a4 a5 a6 b1 b2 b3 b4 b5 b6) && decide (max a1 b1 = b1 ∧ max a2 b2 = b2 ∧ max a3 b3 = b3 ∧ min a4 b4 = b4 ∧ min a5 b5 = b5 ∧ min a6 b6 = b6))
def okAt (a1 a2 a3 a4 a5 a6 i : Int) : Bool := decide (0 ≤ i ∧ i < Pt.vol a1 a2 a3 a4 a5 a6)
theorem inter_s (a1 a2 a3 a4 a5 a6 b1 b2 b3 b4 b5 b6 : Int) (w : World) (b : (-2097152 ≤ a1 ∧ a1 ≤ 2097152) ∧ (-2097152 ≤ a2 ∧ a2 ≤ 2097152) ∧ (-2097152 ≤ a3 ∧ a3 ≤ 2097152) ∧ (-2097152 ≤ a4 ∧ a4 ≤ 2097152) ∧ (-2097152 ≤ a5 ∧ a5 ≤ 2097152) ∧ (-2097152 ≤ a6 ∧ a6 ≤ 2097152) ∧ (-2097152 ≤ b1 ∧ b1 ≤ 2097152) ∧ (-2097152 ≤ b2 ∧ b2 ≤ 2097152) ∧ (-2097152 ≤ b3 ∧ b3 ≤ 2097152) ∧ (-2097152 ≤ b4 ∧ b4 ≤ 2097152) ∧ (-2097152 ≤ b5 ∧ b5 ≤ 2097152) ∧ (-2097152 ≤ b6 ∧ b6 ≤ 2097152)) :
    Calls Tryd.prog 35 #[.agg #[.int .i64 a1, .int .i64 a2, .int .i64 a3, .int .i64 a4, .int .i64 a5, .int .i64 a6], .agg #[.int .i64 b1, .int .i64 b2, .int .i64 b3, .int .i64 b4, .int .i64 b5, .int .i64 b6]] w fun e w' => e = .returned (.agg #[.int .i64 (iv (Pt.meet a1 a2 a3 a4 a5 a6 b1 b2 b3 b4 b5 b6) (max a1 b1)), .int .i64 (iv (Pt.meet a1 a2 a3 a4 a5 a6 b1 b2 b3 b4 b5 b6) (max a2 b2)), .int .i64 (iv (Pt.meet a1 a2 a3 a4 a5 a6 b1 b2 b3 b4 b5 b6) (max a3 b3)), .int .i64 (iv (Pt.meet a1 a2 a3 a4 a5 a6 b1 b2 b3 b4 b5 b6) (min a4 b4)), .int .i64 (iv (Pt.meet a1 a2 a3 a4 a5 a6 b1 b2 b3 b4 b5 b6) (min a5 b5)), .int .i64 (iv (Pt.meet a1 a2 a3 a4 a5 a6 b1 b2 b3 b4 b5 b6) (min a6 b6))]) ∧ Below w.heap.size w w' := by
  cases h : Pt.meet a1 a2 a3 a4 a5 a6 b1 b2 b3 b4 b5 b6 with
  | true => exact inter_t _ _ _ _ _ _ _ _ _ _ _ _ w b h
  | false => exact inter_f _ _ _ _ _ _ _ _ _ _ _ _ w b h
theorem hull_s (a1 a2 a3 a4 a5 a6 b1 b2 b3 b4 b5 b6 : Int) (w : World) (b : (-2097152 ≤ a1 ∧ a1 ≤ 2097152) ∧ (-2097152 ≤ a2 ∧ a2 ≤ 2097152) ∧ (-2097152 ≤ a3 ∧ a3 ≤ 2097152) ∧ (-2097152 ≤ a4 ∧ a4 ≤ 2097152) ∧ (-2097152 ≤ a5 ∧ a5 ≤ 2097152) ∧ (-2097152 ≤ a6 ∧ a6 ≤ 2097152) ∧ (-2097152 ≤ b1 ∧ b1 ≤ 2097152) ∧ (-2097152 ≤ b2 ∧ b2 ≤ 2097152) ∧ (-2097152 ≤ b3 ∧ b3 ≤ 2097152) ∧ (-2097152 ≤ b4 ∧ b4 ≤ 2097152) ∧ (-2097152 ≤ b5 ∧ b5 ≤ 2097152) ∧ (-2097152 ≤ b6 ∧ b6 ≤ 2097152)) :
    Calls Tryd.prog 37 #[.agg #[.int .i64 a1, .int .i64 a2, .int .i64 a3, .int .i64 a4, .int .i64 a5, .int .i64 a6], .agg #[.int .i64 b1, .int .i64 b2, .int .i64 b3, .int .i64 b4, .int .i64 b5, .int .i64 b6]] w fun e w' => e = .returned (.agg #[.int .i64 (hl (Pt.emp a1 a2 a3 a4 a5 a6) (Pt.emp b1 b2 b3 b4 b5 b6) a1 b1 (min a1 b1)), .int .i64 (hl (Pt.emp a1 a2 a3 a4 a5 a6) (Pt.emp b1 b2 b3 b4 b5 b6) a2 b2 (min a2 b2)), .int .i64 (hl (Pt.emp a1 a2 a3 a4 a5 a6) (Pt.emp b1 b2 b3 b4 b5 b6) a3 b3 (min a3 b3)), .int .i64 (hl (Pt.emp a1 a2 a3 a4 a5 a6) (Pt.emp b1 b2 b3 b4 b5 b6) a4 b4 (max a4 b4)), .int .i64 (hl (Pt.emp a1 a2 a3 a4 a5 a6) (Pt.emp b1 b2 b3 b4 b5 b6) a5 b5 (max a5 b5)), .int .i64 (hl (Pt.emp a1 a2 a3 a4 a5 a6) (Pt.emp b1 b2 b3 b4 b5 b6) a6 b6 (max a6 b6))]) ∧ Below w.heap.size w w' := by
  cases h : Pt.emp a1 a2 a3 a4 a5 a6 <;> cases k : Pt.emp b1 b2 b3 b4 b5 b6
  · exact hull_ff _ _ _ _ _ _ _ _ _ _ _ _ w b h k
  · exact hull_ft _ _ _ _ _ _ _ _ _ _ _ _ w b h k
  · exact hull_tf _ _ _ _ _ _ _ _ _ _ _ _ w b h k
  · exact hull_tt _ _ _ _ _ _ _ _ _ _ _ _ w b h k
theorem size_s (a1 a2 a3 a4 a5 a6 : Int) (w : World) (b : (-2097152 ≤ a1 ∧ a1 ≤ 2097152) ∧ (-2097152 ≤ a2 ∧ a2 ≤ 2097152) ∧ (-2097152 ≤ a3 ∧ a3 ≤ 2097152) ∧ (-2097152 ≤ a4 ∧ a4 ≤ 2097152) ∧ (-2097152 ≤ a5 ∧ a5 ≤ 2097152) ∧ (-2097152 ≤ a6 ∧ a6 ≤ 2097152)) :
    Calls Tryd.prog 27 #[.agg #[.int .i64 a1, .int .i64 a2, .int .i64 a3, .int .i64 a4, .int .i64 a5, .int .i64 a6]] w fun e w' => e = .returned (.agg #[.int .i64 (Pt.sz (Pt.emp a1 a2 a3 a4 a5 a6) a1 a4), .int .i64 (Pt.sz (Pt.emp a1 a2 a3 a4 a5 a6) a2 a5), .int .i64 (Pt.sz (Pt.emp a1 a2 a3 a4 a5 a6) a3 a6)]) ∧ Below w.heap.size w w' := by
  cases h : Pt.emp a1 a2 a3 a4 a5 a6 with
  | true => exact size_t _ _ _ _ _ _ w h
  | false => exact size_f _ _ _ _ _ _ w b h
theorem index_s (a1 a2 a3 a4 a5 a6 x1 x2 x3 : Int) (w : World) (b : (-1048575 ≤ a1 ∧ a1 ≤ 1048575) ∧ (-1048575 ≤ a2 ∧ a2 ≤ 1048575) ∧ (-1048575 ≤ a3 ∧ a3 ≤ 1048575) ∧ (-1048575 ≤ a4 ∧ a4 ≤ 1048575) ∧ (-1048575 ≤ a5 ∧ a5 ≤ 1048575) ∧ (-1048575 ≤ a6 ∧ a6 ≤ 1048575) ∧ (-1048575 ≤ x1 ∧ x1 ≤ 1048575) ∧ (-1048575 ≤ x2 ∧ x2 ≤ 1048575) ∧ (-1048575 ≤ x3 ∧ x3 ≤ 1048575)) :
    Calls Tryd.prog 43 #[.agg #[.int .i64 a1, .int .i64 a2, .int .i64 a3, .int .i64 a4, .int .i64 a5, .int .i64 a6], .agg #[.int .i64 x1, .int .i64 x2, .int .i64 x3]] w fun e w' => e = .returned (.int .i64 (xv (Pt.inB x1 x2 x3 a1 a2 a3 a4 a5 a6) (Pt.idx x1 x2 x3 a1 a2 a3 a4 a5))) ∧ Below w.heap.size w w' := by
  cases h : Pt.inB x1 x2 x3 a1 a2 a3 a4 a5 a6 with
  | true => exact index_t _ _ _ _ _ _ _ _ _ w b h
  | false => exact index_f _ _ _ _ _ _ _ _ _ w h
theorem at_s (a1 a2 a3 a4 a5 a6 i : Int) (w : World) (b : (-1048575 ≤ a1 ∧ a1 ≤ 1048575) ∧ (-1048575 ≤ a2 ∧ a2 ≤ 1048575) ∧ (-1048575 ≤ a3 ∧ a3 ≤ 1048575) ∧ (-1048575 ≤ a4 ∧ a4 ≤ 1048575) ∧ (-1048575 ≤ a5 ∧ a5 ≤ 1048575) ∧ (-1048575 ≤ a6 ∧ a6 ≤ 1048575)) :
    Calls Tryd.prog 21 #[.agg #[.int .i64 a1, .int .i64 a2, .int .i64 a3, .int .i64 a4, .int .i64 a5, .int .i64 a6], .int .i64 i] w fun e w' => e = .returned (.tuple #[.agg #[.int .i64 (qv (okAt a1 a2 a3 a4 a5 a6 i) (a1 + i % (a4 - a1))), .int .i64 (qv (okAt a1 a2 a3 a4 a5 a6 i) (a2 + i / (a4 - a1) % (a5 - a2))), .int .i64 (qv (okAt a1 a2 a3 a4 a5 a6 i) (a3 + i / (a4 - a1) / (a5 - a2)))], .bool (okAt a1 a2 a3 a4 a5 a6 i)]) ∧ Below w.heap.size w w' := by
  by_cases h0 : i < 0
  · have h : okAt a1 a2 a3 a4 a5 a6 i = false := decide_eq_false (by omega)
    rw [h]; exact at_neg _ _ _ _ _ _ _ w h0
  · by_cases h1 : Pt.vol a1 a2 a3 a4 a5 a6 ≤ i
    · have h : okAt a1 a2 a3 a4 a5 a6 i = false := decide_eq_false (by omega)
      rw [h]; exact at_big _ _ _ _ _ _ _ w b (by omega) h1
    · have h : okAt a1 a2 a3 a4 a5 a6 i = true := decide_eq_true (by omega)
      have he : Pt.emp a1 a2 a3 a4 a5 a6 = false := by
        cases k : Pt.emp a1 a2 a3 a4 a5 a6 with
        | false => rfl
        | true => have := Pt.vol_emp k; omega
      rw [h]; exact at_ok _ _ _ _ _ _ _ w b (by omega) (by omega) he
theorem rinter_s (a1 a2 a3 a4 a5 a6 b1 b2 b3 b4 b5 b6 : Int) (w : World) (b : (-2097152 ≤ a1 ∧ a1 ≤ 2097152) ∧ (-2097152 ≤ a2 ∧ a2 ≤ 2097152) ∧ (-2097152 ≤ a3 ∧ a3 ≤ 2097152) ∧ (-2097152 ≤ a4 ∧ a4 ≤ 2097152) ∧ (-2097152 ≤ a5 ∧ a5 ≤ 2097152) ∧ (-2097152 ≤ a6 ∧ a6 ≤ 2097152) ∧ (-2097152 ≤ b1 ∧ b1 ≤ 2097152) ∧ (-2097152 ≤ b2 ∧ b2 ≤ 2097152) ∧ (-2097152 ≤ b3 ∧ b3 ≤ 2097152) ∧ (-2097152 ≤ b4 ∧ b4 ≤ 2097152) ∧ (-2097152 ≤ b5 ∧ b5 ≤ 2097152) ∧ (-2097152 ≤ b6 ∧ b6 ≤ 2097152)) :
    Calls Tryd.prog 36 #[.agg #[.int .i64 a1, .int .i64 a2, .int .i64 a3, .int .i64 a4, .int .i64 a5, .int .i64 a6], .agg #[.int .i64 b1, .int .i64 b2, .int .i64 b3, .int .i64 b4, .int .i64 b5, .int .i64 b6]] w fun e w' => e = .returned (.agg #[.int .i64 (iv (Pt.meet a1 a2 a3 a4 a5 a6 b1 b2 b3 b4 b5 b6) (max a1 b1)), .int .i64 (iv (Pt.meet a1 a2 a3 a4 a5 a6 b1 b2 b3 b4 b5 b6) (max a2 b2)), .int .i64 (iv (Pt.meet a1 a2 a3 a4 a5 a6 b1 b2 b3 b4 b5 b6) (max a3 b3)), .int .i64 (iv (Pt.meet a1 a2 a3 a4 a5 a6 b1 b2 b3 b4 b5 b6) (min a4 b4)), .int .i64 (iv (Pt.meet a1 a2 a3 a4 a5 a6 b1 b2 b3 b4 b5 b6) (min a5 b5)), .int .i64 (iv (Pt.meet a1 a2 a3 a4 a5 a6 b1 b2 b3 b4 b5 b6) (min a6 b6))]) ∧ Below w.heap.size w w' := by
  cases h : Pt.meet a1 a2 a3 a4 a5 a6 b1 b2 b3 b4 b5 b6 with
  | true => exact rinter_t _ _ _ _ _ _ _ _ _ _ _ _ w b h
  | false => exact rinter_f _ _ _ _ _ _ _ _ _ _ _ _ w b h
theorem rhull_s (a1 a2 a3 a4 a5 a6 b1 b2 b3 b4 b5 b6 : Int) (w : World) (b : (-2097152 ≤ a1 ∧ a1 ≤ 2097152) ∧ (-2097152 ≤ a2 ∧ a2 ≤ 2097152) ∧ (-2097152 ≤ a3 ∧ a3 ≤ 2097152) ∧ (-2097152 ≤ a4 ∧ a4 ≤ 2097152) ∧ (-2097152 ≤ a5 ∧ a5 ≤ 2097152) ∧ (-2097152 ≤ a6 ∧ a6 ≤ 2097152) ∧ (-2097152 ≤ b1 ∧ b1 ≤ 2097152) ∧ (-2097152 ≤ b2 ∧ b2 ≤ 2097152) ∧ (-2097152 ≤ b3 ∧ b3 ≤ 2097152) ∧ (-2097152 ≤ b4 ∧ b4 ≤ 2097152) ∧ (-2097152 ≤ b5 ∧ b5 ≤ 2097152) ∧ (-2097152 ≤ b6 ∧ b6 ≤ 2097152)) :
    Calls Tryd.prog 38 #[.agg #[.int .i64 a1, .int .i64 a2, .int .i64 a3, .int .i64 a4, .int .i64 a5, .int .i64 a6], .agg #[.int .i64 b1, .int .i64 b2, .int .i64 b3, .int .i64 b4, .int .i64 b5, .int .i64 b6]] w fun e w' => e = .returned (.agg #[.int .i64 (hl (Pt.emp a1 a2 a3 a4 a5 a6) (Pt.emp b1 b2 b3 b4 b5 b6) a1 b1 (min a1 b1)), .int .i64 (hl (Pt.emp a1 a2 a3 a4 a5 a6) (Pt.emp b1 b2 b3 b4 b5 b6) a2 b2 (min a2 b2)), .int .i64 (hl (Pt.emp a1 a2 a3 a4 a5 a6) (Pt.emp b1 b2 b3 b4 b5 b6) a3 b3 (min a3 b3)), .int .i64 (hl (Pt.emp a1 a2 a3 a4 a5 a6) (Pt.emp b1 b2 b3 b4 b5 b6) a4 b4 (max a4 b4)), .int .i64 (hl (Pt.emp a1 a2 a3 a4 a5 a6) (Pt.emp b1 b2 b3 b4 b5 b6) a5 b5 (max a5 b5)), .int .i64 (hl (Pt.emp a1 a2 a3 a4 a5 a6) (Pt.emp b1 b2 b3 b4 b5 b6) a6 b6 (max a6 b6))]) ∧ Below w.heap.size w w' := by
  cases h : Pt.emp a1 a2 a3 a4 a5 a6 <;> cases k : Pt.emp b1 b2 b3 b4 b5 b6
  · exact rhull_ff _ _ _ _ _ _ _ _ _ _ _ _ w b h k
  · exact rhull_ft _ _ _ _ _ _ _ _ _ _ _ _ w b h k
  · exact rhull_tf _ _ _ _ _ _ _ _ _ _ _ _ w b h k
  · exact rhull_tt _ _ _ _ _ _ _ _ _ _ _ _ w b h k
theorem rsize_s (a1 a2 a3 a4 a5 a6 : Int) (w : World) (b : (-2097152 ≤ a1 ∧ a1 ≤ 2097152) ∧ (-2097152 ≤ a2 ∧ a2 ≤ 2097152) ∧ (-2097152 ≤ a3 ∧ a3 ≤ 2097152) ∧ (-2097152 ≤ a4 ∧ a4 ≤ 2097152) ∧ (-2097152 ≤ a5 ∧ a5 ≤ 2097152) ∧ (-2097152 ≤ a6 ∧ a6 ≤ 2097152)) :
    Calls Tryd.prog 28 #[.agg #[.int .i64 a1, .int .i64 a2, .int .i64 a3, .int .i64 a4, .int .i64 a5, .int .i64 a6]] w fun e w' => e = .returned (.agg #[.int .i64 (Pt.sz (Pt.emp a1 a2 a3 a4 a5 a6) a1 a4), .int .i64 (Pt.sz (Pt.emp a1 a2 a3 a4 a5 a6) a2 a5), .int .i64 (Pt.sz (Pt.emp a1 a2 a3 a4 a5 a6) a3 a6)]) ∧ Below w.heap.size w w' := by
  cases h : Pt.emp a1 a2 a3 a4 a5 a6 with
  | true => exact rsize_t _ _ _ _ _ _ w h
  | false => exact rsize_f _ _ _ _ _ _ w b h
theorem rindex_s (a1 a2 a3 a4 a5 a6 x1 x2 x3 : Int) (w : World) (b : (-1048575 ≤ a1 ∧ a1 ≤ 1048575) ∧ (-1048575 ≤ a2 ∧ a2 ≤ 1048575) ∧ (-1048575 ≤ a3 ∧ a3 ≤ 1048575) ∧ (-1048575 ≤ a4 ∧ a4 ≤ 1048575) ∧ (-1048575 ≤ a5 ∧ a5 ≤ 1048575) ∧ (-1048575 ≤ a6 ∧ a6 ≤ 1048575) ∧ (-1048575 ≤ x1 ∧ x1 ≤ 1048575) ∧ (-1048575 ≤ x2 ∧ x2 ≤ 1048575) ∧ (-1048575 ≤ x3 ∧ x3 ≤ 1048575)) :
    Calls Tryd.prog 44 #[.agg #[.int .i64 a1, .int .i64 a2, .int .i64 a3, .int .i64 a4, .int .i64 a5, .int .i64 a6], .agg #[.int .i64 x1, .int .i64 x2, .int .i64 x3]] w fun e w' => e = .returned (.int .i64 (xv (Pt.inB x1 x2 x3 a1 a2 a3 a4 a5 a6) (Pt.idx x1 x2 x3 a1 a2 a3 a4 a5))) ∧ Below w.heap.size w w' := by
  cases h : Pt.inB x1 x2 x3 a1 a2 a3 a4 a5 a6 with
  | true => exact rindex_t _ _ _ _ _ _ _ _ _ w b h
  | false => exact rindex_f _ _ _ _ _ _ _ _ _ w h
theorem rat_s (a1 a2 a3 a4 a5 a6 i : Int) (w : World) (b : (-1048575 ≤ a1 ∧ a1 ≤ 1048575) ∧ (-1048575 ≤ a2 ∧ a2 ≤ 1048575) ∧ (-1048575 ≤ a3 ∧ a3 ≤ 1048575) ∧ (-1048575 ≤ a4 ∧ a4 ≤ 1048575) ∧ (-1048575 ≤ a5 ∧ a5 ≤ 1048575) ∧ (-1048575 ≤ a6 ∧ a6 ≤ 1048575)) :
    Calls Tryd.prog 22 #[.agg #[.int .i64 a1, .int .i64 a2, .int .i64 a3, .int .i64 a4, .int .i64 a5, .int .i64 a6], .int .i64 i] w fun e w' => e = .returned (.tuple #[.agg #[.int .i64 (qv (okAt a1 a2 a3 a4 a5 a6 i) (a1 + i % (a4 - a1))), .int .i64 (qv (okAt a1 a2 a3 a4 a5 a6 i) (a2 + i / (a4 - a1) % (a5 - a2))), .int .i64 (qv (okAt a1 a2 a3 a4 a5 a6 i) (a3 + i / (a4 - a1) / (a5 - a2)))], .bool (okAt a1 a2 a3 a4 a5 a6 i)]) ∧ Below w.heap.size w w' := by
  by_cases h0 : i < 0
  · have h : okAt a1 a2 a3 a4 a5 a6 i = false := decide_eq_false (by omega)
    rw [h]; exact rat_neg _ _ _ _ _ _ _ w h0
  · by_cases h1 : Pt.vol a1 a2 a3 a4 a5 a6 ≤ i
    · have h : okAt a1 a2 a3 a4 a5 a6 i = false := decide_eq_false (by omega)
      rw [h]; exact rat_big _ _ _ _ _ _ _ w b (by omega) h1
    · have h : okAt a1 a2 a3 a4 a5 a6 i = true := decide_eq_true (by omega)
      have he : Pt.emp a1 a2 a3 a4 a5 a6 = false := by
        cases k : Pt.emp a1 a2 a3 a4 a5 a6 with
        | false => rfl
        | true => have := Pt.vol_emp k; omega
      rw [h]; exact rat_ok _ _ _ _ _ _ _ w b (by omega) (by omega) he
theorem near_s (x1 x2 x3 a1 a2 a3 a4 a5 a6 : Int) (w : World) (b : (-2097152 ≤ x1 ∧ x1 ≤ 2097152) ∧ (-2097152 ≤ x2 ∧ x2 ≤ 2097152) ∧ (-2097152 ≤ x3 ∧ x3 ≤ 2097152) ∧ (-2097152 ≤ a1 ∧ a1 ≤ 2097152) ∧ (-2097152 ≤ a2 ∧ a2 ≤ 2097152) ∧ (-2097152 ≤ a3 ∧ a3 ≤ 2097152) ∧ (-2097152 ≤ a4 ∧ a4 ≤ 2097152) ∧ (-2097152 ≤ a5 ∧ a5 ≤ 2097152) ∧ (-2097152 ≤ a6 ∧ a6 ≤ 2097152)) :
    Calls Tryd.prog 41 #[.agg #[.int .i64 x1, .int .i64 x2, .int .i64 x3], .agg #[.int .i64 a1, .int .i64 a2, .int .i64 a3, .int .i64 a4, .int .i64 a5, .int .i64 a6]] w fun e w' => e = .returned (.int .i64 (nv (Pt.emp a1 a2 a3 a4 a5 a6) (Pt.near x1 x2 x3 a1 a2 a3 a4 a5 a6))) ∧ Below w.heap.size w w' := by
  cases h : Pt.emp a1 a2 a3 a4 a5 a6 with
  | true => exact near_t _ _ _ _ _ _ _ _ _ w b h
  | false => have c := near_f x1 x2 x3 a1 a2 a3 a4 a5 a6 w b h; rw [near_dist h] at c; exact c
theorem rnear_s (x1 x2 x3 a1 a2 a3 a4 a5 a6 : Int) (w : World) (b : (-2097152 ≤ x1 ∧ x1 ≤ 2097152) ∧ (-2097152 ≤ x2 ∧ x2 ≤ 2097152) ∧ (-2097152 ≤ x3 ∧ x3 ≤ 2097152) ∧ (-2097152 ≤ a1 ∧ a1 ≤ 2097152) ∧ (-2097152 ≤ a2 ∧ a2 ≤ 2097152) ∧ (-2097152 ≤ a3 ∧ a3 ≤ 2097152) ∧ (-2097152 ≤ a4 ∧ a4 ≤ 2097152) ∧ (-2097152 ≤ a5 ∧ a5 ≤ 2097152) ∧ (-2097152 ≤ a6 ∧ a6 ≤ 2097152)) :
    Calls Tryd.prog 42 #[.agg #[.int .i64 x1, .int .i64 x2, .int .i64 x3], .agg #[.int .i64 a1, .int .i64 a2, .int .i64 a3, .int .i64 a4, .int .i64 a5, .int .i64 a6]] w fun e w' => e = .returned (.int .i64 (nv (Pt.emp a1 a2 a3 a4 a5 a6) (Pt.near x1 x2 x3 a1 a2 a3 a4 a5 a6))) ∧ Below w.heap.size w w' := by
  cases h : Pt.emp a1 a2 a3 a4 a5 a6 with
  | true => exact rnear_t _ _ _ _ _ _ _ _ _ w b h
  | false => exact rnear_f _ _ _ _ _ _ _ _ _ w b h
theorem contains_s (a1 a2 a3 a4 a5 a6 b1 b2 b3 b4 b5 b6 : Int) (w : World) (b : (-2097152 ≤ a1 ∧ a1 ≤ 2097152) ∧ (-2097152 ≤ a2 ∧ a2 ≤ 2097152) ∧ (-2097152 ≤ a3 ∧ a3 ≤ 2097152) ∧ (-2097152 ≤ a4 ∧ a4 ≤ 2097152) ∧ (-2097152 ≤ a5 ∧ a5 ≤ 2097152) ∧ (-2097152 ≤ a6 ∧ a6 ≤ 2097152) ∧ (-2097152 ≤ b1 ∧ b1 ≤ 2097152) ∧ (-2097152 ≤ b2 ∧ b2 ≤ 2097152) ∧ (-2097152 ≤ b3 ∧ b3 ≤ 2097152) ∧ (-2097152 ≤ b4 ∧ b4 ≤ 2097152) ∧ (-2097152 ≤ b5 ∧ b5 ≤ 2097152) ∧ (-2097152 ≤ b6 ∧ b6 ≤ 2097152)) :
    Calls Tryd.prog 39 #[.agg #[.int .i64 a1, .int .i64 a2, .int .i64 a3, .int .i64 a4, .int .i64 a5, .int .i64 a6], .agg #[.int .i64 b1, .int .i64 b2, .int .i64 b3, .int .i64 b4, .int .i64 b5, .int .i64 b6]] w fun e w' => e = .returned (.bool (conB a1 a2 a3 a4 a5 a6 b1 b2 b3 b4 b5 b6)) ∧ Below w.heap.size w w' := by
  unfold conB
  cases h : Pt.emp b1 b2 b3 b4 b5 b6 with
  | true => exact contains_e _ _ _ _ _ _ _ _ _ _ _ _ w b h
  | false =>
    cases k : Pt.meet a1 a2 a3 a4 a5 a6 b1 b2 b3 b4 b5 b6 with
    | true => exact contains_m _ _ _ _ _ _ _ _ _ _ _ _ w b h k
    | false =>
      by_cases hq : max a1 b1 = b1 ∧ max a2 b2 = b2 ∧ max a3 b3 = b3 ∧ min a4 b4 = b4 ∧ min a5 b5 = b5 ∧ min a6 b6 = b6
      · rw [decide_eq_true hq]; exact contains_y _ _ _ _ _ _ _ _ _ _ _ _ w b h k hq
      · rw [decide_eq_false hq]; exact contains_n _ _ _ _ _ _ _ _ _ _ _ _ w b h k hq
theorem rcontains_s (a1 a2 a3 a4 a5 a6 b1 b2 b3 b4 b5 b6 : Int) (w : World) (b : (-1048575 ≤ a1 ∧ a1 ≤ 1048575) ∧ (-1048575 ≤ a2 ∧ a2 ≤ 1048575) ∧ (-1048575 ≤ a3 ∧ a3 ≤ 1048575) ∧ (-1048575 ≤ a4 ∧ a4 ≤ 1048575) ∧ (-1048575 ≤ a5 ∧ a5 ≤ 1048575) ∧ (-1048575 ≤ a6 ∧ a6 ≤ 1048575) ∧ (-1048575 ≤ b1 ∧ b1 ≤ 1048575) ∧ (-1048575 ≤ b2 ∧ b2 ≤ 1048575) ∧ (-1048575 ≤ b3 ∧ b3 ≤ 1048575) ∧ (-1048575 ≤ b4 ∧ b4 ≤ 1048575) ∧ (-1048575 ≤ b5 ∧ b5 ≤ 1048575) ∧ (-1048575 ≤ b6 ∧ b6 ≤ 1048575)) :
    Calls Tryd.prog 40 #[.agg #[.int .i64 a1, .int .i64 a2, .int .i64 a3, .int .i64 a4, .int .i64 a5, .int .i64 a6], .agg #[.int .i64 b1, .int .i64 b2, .int .i64 b3, .int .i64 b4, .int .i64 b5, .int .i64 b6]] w fun e w' => e = .returned (.bool (conB a1 a2 a3 a4 a5 a6 b1 b2 b3 b4 b5 b6)) ∧ Below w.heap.size w w' := by
  unfold conB
  cases h : Pt.emp b1 b2 b3 b4 b5 b6 with
  | true =>
    have h1 := Pt.emp_true.1 h
    have k : Pt.meet a1 a2 a3 a4 a5 a6 b1 b2 b3 b4 b5 b6 = true := by unfold Pt.meet; exact Pt.emp_true.2 (by omega)
    exact rcontains_tt _ _ _ _ _ _ _ _ _ _ _ _ w b k (by rw [Pt.vol_emp h]; decide)
  | false =>
    cases k : Pt.meet a1 a2 a3 a4 a5 a6 b1 b2 b3 b4 b5 b6 with
    | true => exact rcontains_tf _ _ _ _ _ _ _ _ _ _ _ _ w b k (fun e => by have := Pt.vol_pos h; rw [← e] at this; exact absurd this (by decide))
    | false =>
      by_cases hq : max a1 b1 = b1 ∧ max a2 b2 = b2 ∧ max a3 b3 = b3 ∧ min a4 b4 = b4 ∧ min a5 b5 = b5 ∧ min a6 b6 = b6
      · rw [decide_eq_true hq]; exact rcontains_ft _ _ _ _ _ _ _ _ _ _ _ _ w b k (by rw [hq.1, hq.2.1, hq.2.2.1, hq.2.2.2.1, hq.2.2.2.2.1, hq.2.2.2.2.2])
      · rw [decide_eq_false hq]; exact rcontains_ff _ _ _ _ _ _ _ _ _ _ _ _ w b k (fun e => hq (Pt.sub_vol_eq k (by omega) (by omega) (by omega) (by omega) (by omega) (by omega) e))

end Go.Proofs.YthadlgjobjnhcaaDoor
