/-
  Materials that come in, read as a table; from the row's condition to the tables that lie.
-/
import Derived.Test.YtpjjddjoegnipaaDoorRows
import Derived.Test.YtpjjddjoegnipaaDoorOrow
import Derived.Test.YtpjjddjoegnipaaDoorMab
import Derived.Test.YtpjjddjoegnipaaDoorMae
namespace Go.Proofs.YtpjjddjoegnipaaDoor
open Go.ChangeShapes Go.WideShapes Go.ChangeAt Go.RowKit
set_option linter.unusedVariables false
set_option linter.unusedSimpArgs false
section
variable {H : Type} {enc : TypeId × Value → H} {W : World} {base : Nat} {sp : Nat → Bool} {held : Bool} {fuel : Nat} {cs : List Value}
theorem list3 {cs : List Value} (h : cs.length = 3) : ∃ c0 c1 c2, cs = [c0, c1, c2] := by
  match cs, h with
  | [c0, c1, c2], _ => exact ⟨c0, c1, c2, rfl⟩
theorem i3_cells {x : DataW H × List MemPlace} (h : DataW.trod enc Tryd.prog W base sp held fuel 33 cs = some x) : ∃ (v0 : Int) (v1 : Int) (v2 : Int), cs = [.int .i64 v0, .int .i64 v1, .int .i64 v2] ∧ x.1 = .agg [.lit (.int .i64 v0), .lit (.int .i64 v1), .lit (.int .i64 v2)] ∧ (Lit.int .i64 v0).wf = true ∧ (Lit.int .i64 v1).wf = true ∧ (Lit.int .i64 v2).wf = true := by
  obtain ⟨xs, m, _, hx, hl, hxl, hall⟩ := DataW.trod_array Tryd.underlying33 h
  rw [show Tryd.prog.cellsOf 33 = 3 by kernel_rfl] at hl
  obtain ⟨c0, c1, c2, rfl⟩ := list3 hl
  have hx2 : xs.length = 3 := hxl
  rw [show Tryd.prog.cellsOf 3 = 1 by kernel_rfl] at hall
  have h0 := hall 0 (by decide)
  rw [List.getElem?_eq_getElem (by omega)] at h0
  have h1 := hall 1 (by decide)
  rw [List.getElem?_eq_getElem (by omega)] at h1
  have h2 := hall 2 (by decide)
  rw [List.getElem?_eq_getElem (by omega)] at h2
  obtain ⟨y0, y1, y2, rfl⟩ : ∃ y0 y1 y2, xs = [y0, y1, y2] := by
    match xs, hx2 with
    | [y0, y1, y2], _ => exact ⟨y0, y1, y2, rfl⟩
  obtain ⟨s0, e0, d0, w0⟩ := DataW.trod_int Tryd.underlying3 h0
  simp at e0 d0
  obtain ⟨s1, e1, d1, w1⟩ := DataW.trod_int Tryd.underlying3 h1
  simp at e1 d1
  obtain ⟨s2, e2, d2, w2⟩ := DataW.trod_int Tryd.underlying3 h2
  simp at e2 d2
  refine ⟨s0, s1, s2, by rw [e0, e1, e2]; try rfl, ?_, w0, w1, w2⟩
  rw [hx]
  show DataW.agg [y0.1, y1.1, y2.1] = _
  rw [d0, d1, d2]
theorem list8 {cs : List Value} (h : cs.length = 8) : ∃ c0 c1 c2 c3 c4 c5 c6 c7, cs = [c0, c1, c2, c3, c4, c5, c6, c7] := by
  match cs, h with
  | [c0, c1, c2, c3, c4, c5, c6, c7], _ => exact ⟨c0, c1, c2, c3, c4, c5, c6, c7, rfl⟩
theorem mat_cells {x : DataW H × List MemPlace} (h : DataW.trod enc Tryd.prog W base sp held fuel 35 cs = some x) : ∃ (v0 : List UInt8) (v1 : Bool) (v2 : Bool) (v3 : Bool) (v4 : Int) (v50 : Int) (v51 : Int) (v52 : Int), cs = [.string (bstr v0), .bool v1, .bool v2, .bool v3, .int .i64 v4, .int .i64 v50, .int .i64 v51, .int .i64 v52] ∧ x.1 = .agg [.lit (.string v0), .lit (.bool v1), .lit (.bool v2), .lit (.bool v3), .lit (.int .i64 v4), .agg [.lit (.int .i64 v50), .lit (.int .i64 v51), .lit (.int .i64 v52)]] ∧ (Lit.int .i64 v4).wf = true ∧ (Lit.int .i64 v50).wf = true ∧ (Lit.int .i64 v51).wf = true ∧ (Lit.int .i64 v52).wf = true := by
  obtain ⟨xs, m, _, hx, hl, hxl, hall⟩ := DataW.trod_struct Tryd.underlying35 h
  rw [show Tryd.prog.cellsOf 35 = 8 by kernel_rfl] at hl
  obtain ⟨c0, c1, c2, c3, c4, c5, c6, c7, rfl⟩ := list8 hl
  have hx2 : xs.length = 6 := hxl
  have h0 : DataW.trod enc Tryd.prog W base sp held m 9 (List.take (Tryd.prog.cellsOf 9) (List.drop 0 [c0, c1, c2, c3, c4, c5, c6, c7])) = xs[0]? := hall 0 _ rfl
  rw [show Tryd.prog.cellsOf 9 = 1 by kernel_rfl] at h0
  rw [List.getElem?_eq_getElem (by omega)] at h0
  have h1 : DataW.trod enc Tryd.prog W base sp held m 4 (List.take (Tryd.prog.cellsOf 4) (List.drop 1 [c0, c1, c2, c3, c4, c5, c6, c7])) = xs[1]? := hall 1 _ rfl
  rw [show Tryd.prog.cellsOf 4 = 1 by kernel_rfl] at h1
  rw [List.getElem?_eq_getElem (by omega)] at h1
  have h2 : DataW.trod enc Tryd.prog W base sp held m 4 (List.take (Tryd.prog.cellsOf 4) (List.drop 2 [c0, c1, c2, c3, c4, c5, c6, c7])) = xs[2]? := hall 2 _ rfl
  rw [show Tryd.prog.cellsOf 4 = 1 by kernel_rfl] at h2
  rw [List.getElem?_eq_getElem (by omega)] at h2
  have h3 : DataW.trod enc Tryd.prog W base sp held m 4 (List.take (Tryd.prog.cellsOf 4) (List.drop 3 [c0, c1, c2, c3, c4, c5, c6, c7])) = xs[3]? := hall 3 _ rfl
  rw [show Tryd.prog.cellsOf 4 = 1 by kernel_rfl] at h3
  rw [List.getElem?_eq_getElem (by omega)] at h3
  have h4 : DataW.trod enc Tryd.prog W base sp held m 3 (List.take (Tryd.prog.cellsOf 3) (List.drop 4 [c0, c1, c2, c3, c4, c5, c6, c7])) = xs[4]? := hall 4 _ rfl
  rw [show Tryd.prog.cellsOf 3 = 1 by kernel_rfl] at h4
  rw [List.getElem?_eq_getElem (by omega)] at h4
  have h5 : DataW.trod enc Tryd.prog W base sp held m 33 (List.take (Tryd.prog.cellsOf 33) (List.drop 5 [c0, c1, c2, c3, c4, c5, c6, c7])) = xs[5]? := hall 5 _ rfl
  rw [show Tryd.prog.cellsOf 33 = 3 by kernel_rfl] at h5
  rw [List.getElem?_eq_getElem (by omega)] at h5
  obtain ⟨y0, y1, y2, y3, y4, y5, rfl⟩ : ∃ y0 y1 y2 y3 y4 y5, xs = [y0, y1, y2, y3, y4, y5] := by
    match xs, hx2 with
    | [y0, y1, y2, y3, y4, y5], _ => exact ⟨y0, y1, y2, y3, y4, y5, rfl⟩
  obtain ⟨s0, e0, d0, _⟩ := DataW.trod_string Tryd.underlying9 h0
  simp at e0 d0
  obtain ⟨s1, e1, d1⟩ := DataW.trod_bool Tryd.underlying4 h1
  simp at e1 d1
  obtain ⟨s2, e2, d2⟩ := DataW.trod_bool Tryd.underlying4 h2
  simp at e2 d2
  obtain ⟨s3, e3, d3⟩ := DataW.trod_bool Tryd.underlying4 h3
  simp at e3 d3
  obtain ⟨s4, e4, d4, w4⟩ := DataW.trod_int Tryd.underlying3 h4
  simp at e4 d4
  obtain ⟨s5_0, s5_1, s5_2, e5, d5, w5_0, w5_1, w5_2⟩ := i3_cells h5
  simp at e5
  simp only [List.getElem_cons_zero, List.getElem_cons_succ] at d5
  refine ⟨s0.data.toList, s1, s2, s3, s4, s5_0, s5_1, s5_2, by rw [e0, e1, e2, e3, e4, e5.1, e5.2.1, e5.2.2]; try rfl, ?_, w4, w5_0, w5_1, w5_2⟩
  rw [hx]
  show DataW.agg [y0.1, y1.1, y2.1, y3.1, y4.1, y5.1] = _
  rw [d0, d1, d2, d3, d4, d5]
theorem list4 {cs : List Value} (h : cs.length = 4) : ∃ c0 c1 c2 c3, cs = [c0, c1, c2, c3] := by
  match cs, h with
  | [c0, c1, c2, c3], _ => exact ⟨c0, c1, c2, c3, rfl⟩
theorem kind_cells {x : DataW H × List MemPlace} (h : DataW.trod enc Tryd.prog W base sp held fuel 75 cs = some x) : ∃ (v0 : List UInt8) (v1 : Bool) (v2 : Bool) (v3 : Bool), cs = [.string (bstr v0), .bool v1, .bool v2, .bool v3] ∧ x.1 = .agg [.lit (.string v0), .lit (.bool v1), .lit (.bool v2), .lit (.bool v3)] := by
  obtain ⟨xs, m, _, hx, hl, hxl, hall⟩ := DataW.trod_struct Tryd.underlying75 h
  rw [show Tryd.prog.cellsOf 75 = 4 by kernel_rfl] at hl
  obtain ⟨c0, c1, c2, c3, rfl⟩ := list4 hl
  have hx2 : xs.length = 4 := hxl
  have h0 : DataW.trod enc Tryd.prog W base sp held m 9 (List.take (Tryd.prog.cellsOf 9) (List.drop 0 [c0, c1, c2, c3])) = xs[0]? := hall 0 _ rfl
  rw [show Tryd.prog.cellsOf 9 = 1 by kernel_rfl] at h0
  rw [List.getElem?_eq_getElem (by omega)] at h0
  have h1 : DataW.trod enc Tryd.prog W base sp held m 4 (List.take (Tryd.prog.cellsOf 4) (List.drop 1 [c0, c1, c2, c3])) = xs[1]? := hall 1 _ rfl
  rw [show Tryd.prog.cellsOf 4 = 1 by kernel_rfl] at h1
  rw [List.getElem?_eq_getElem (by omega)] at h1
  have h2 : DataW.trod enc Tryd.prog W base sp held m 4 (List.take (Tryd.prog.cellsOf 4) (List.drop 2 [c0, c1, c2, c3])) = xs[2]? := hall 2 _ rfl
  rw [show Tryd.prog.cellsOf 4 = 1 by kernel_rfl] at h2
  rw [List.getElem?_eq_getElem (by omega)] at h2
  have h3 : DataW.trod enc Tryd.prog W base sp held m 4 (List.take (Tryd.prog.cellsOf 4) (List.drop 3 [c0, c1, c2, c3])) = xs[3]? := hall 3 _ rfl
  rw [show Tryd.prog.cellsOf 4 = 1 by kernel_rfl] at h3
  rw [List.getElem?_eq_getElem (by omega)] at h3
  obtain ⟨y0, y1, y2, y3, rfl⟩ : ∃ y0 y1 y2 y3, xs = [y0, y1, y2, y3] := by
    match xs, hx2 with
    | [y0, y1, y2, y3], _ => exact ⟨y0, y1, y2, y3, rfl⟩
  obtain ⟨s0, e0, d0, _⟩ := DataW.trod_string Tryd.underlying9 h0
  simp at e0 d0
  obtain ⟨s1, e1, d1⟩ := DataW.trod_bool Tryd.underlying4 h1
  simp at e1 d1
  obtain ⟨s2, e2, d2⟩ := DataW.trod_bool Tryd.underlying4 h2
  simp at e2 d2
  obtain ⟨s3, e3, d3⟩ := DataW.trod_bool Tryd.underlying4 h3
  simp at e3 d3
  refine ⟨s0.data.toList, s1, s2, s3, by rw [e0, e1, e2, e3]; try rfl, ?_⟩
  rw [hx]
  show DataW.agg [y0.1, y1.1, y2.1, y3.1] = _
  rw [d0, d1, d2, d3]
theorem list16 {cs : List Value} (h : cs.length = 16) : ∃ c0 c1 c2 c3 c4 c5 c6 c7 c8 c9 c10 c11 c12 c13 c14 c15, cs = [c0, c1, c2, c3, c4, c5, c6, c7, c8, c9, c10, c11, c12, c13, c14, c15] := by
  match cs, h with
  | [c0, c1, c2, c3, c4, c5, c6, c7, c8, c9, c10, c11, c12, c13, c14, c15], _ => exact ⟨c0, c1, c2, c3, c4, c5, c6, c7, c8, c9, c10, c11, c12, c13, c14, c15, rfl⟩
theorem kinds_cells {x : DataW H × List MemPlace} (h : DataW.trod enc Tryd.prog W base sp held fuel 84 cs = some x) : ∃ (v00 : List UInt8) (v01 : Bool) (v02 : Bool) (v03 : Bool) (v10 : List UInt8) (v11 : Bool) (v12 : Bool) (v13 : Bool) (v20 : List UInt8) (v21 : Bool) (v22 : Bool) (v23 : Bool) (v30 : List UInt8) (v31 : Bool) (v32 : Bool) (v33 : Bool), cs = [.string (bstr v00), .bool v01, .bool v02, .bool v03, .string (bstr v10), .bool v11, .bool v12, .bool v13, .string (bstr v20), .bool v21, .bool v22, .bool v23, .string (bstr v30), .bool v31, .bool v32, .bool v33] ∧ x.1 = .agg [.agg [.lit (.string v00), .lit (.bool v01), .lit (.bool v02), .lit (.bool v03)], .agg [.lit (.string v10), .lit (.bool v11), .lit (.bool v12), .lit (.bool v13)], .agg [.lit (.string v20), .lit (.bool v21), .lit (.bool v22), .lit (.bool v23)], .agg [.lit (.string v30), .lit (.bool v31), .lit (.bool v32), .lit (.bool v33)]] := by
  obtain ⟨xs, m, _, hx, hl, hxl, hall⟩ := DataW.trod_array Tryd.underlying84 h
  rw [show Tryd.prog.cellsOf 84 = 16 by kernel_rfl] at hl
  obtain ⟨c0, c1, c2, c3, c4, c5, c6, c7, c8, c9, c10, c11, c12, c13, c14, c15, rfl⟩ := list16 hl
  have hx2 : xs.length = 4 := hxl
  rw [show Tryd.prog.cellsOf 75 = 4 by kernel_rfl] at hall
  have h0 := hall 0 (by decide)
  rw [List.getElem?_eq_getElem (by omega)] at h0
  have h1 := hall 1 (by decide)
  rw [List.getElem?_eq_getElem (by omega)] at h1
  have h2 := hall 2 (by decide)
  rw [List.getElem?_eq_getElem (by omega)] at h2
  have h3 := hall 3 (by decide)
  rw [List.getElem?_eq_getElem (by omega)] at h3
  obtain ⟨y0, y1, y2, y3, rfl⟩ : ∃ y0 y1 y2 y3, xs = [y0, y1, y2, y3] := by
    match xs, hx2 with
    | [y0, y1, y2, y3], _ => exact ⟨y0, y1, y2, y3, rfl⟩
  obtain ⟨s0_0, s0_1, s0_2, s0_3, e0, d0⟩ := kind_cells h0
  simp at e0
  simp only [List.getElem_cons_zero, List.getElem_cons_succ] at d0
  obtain ⟨s1_0, s1_1, s1_2, s1_3, e1, d1⟩ := kind_cells h1
  simp at e1
  simp only [List.getElem_cons_zero, List.getElem_cons_succ] at d1
  obtain ⟨s2_0, s2_1, s2_2, s2_3, e2, d2⟩ := kind_cells h2
  simp at e2
  simp only [List.getElem_cons_zero, List.getElem_cons_succ] at d2
  obtain ⟨s3_0, s3_1, s3_2, s3_3, e3, d3⟩ := kind_cells h3
  simp at e3
  simp only [List.getElem_cons_zero, List.getElem_cons_succ] at d3
  refine ⟨s0_0, s0_1, s0_2, s0_3, s1_0, s1_1, s1_2, s1_3, s2_0, s2_1, s2_2, s2_3, s3_0, s3_1, s3_2, s3_3, by rw [e0.1, e0.2.1, e0.2.2.1, e0.2.2.2, e1.1, e1.2.1, e1.2.2.1, e1.2.2.2, e2.1, e2.2.1, e2.2.2.1, e2.2.2.2, e3.1, e3.2.1, e3.2.2.1, e3.2.2.2]; try rfl, ?_⟩
  rw [hx]
  show DataW.agg [y0.1, y1.1, y2.1, y3.1] = _
  rw [d0, d1, d2, d3]
end
theorem opened_mats {H : Type} {enc : TypeId × Value → H} {W : World} {a : Option Addr} {len cap : Nat} {d : DataW H} {ps : List MemPlace} (hd : DataW.Trod enc Tryd.prog W 0 (fun _ => true) true 22 (.slice a len cap) d ps) : ∃ ms : List Ma.Mt, Tbl W a len cap ms := by
  obtain ⟨l, h1, h2, h3, h4⟩ := opened_rows mc 8 (by decide) hd Tryd.underlying22 (by kernel_rfl) mc_len (fun fuel cs x h => by
    obtain ⟨v0, v1, v2, v3, v4, v50, v51, v52, hcs, _⟩ := mat_cells h
    exact ⟨⟨v0, v1, v2, v3, v4, v50, v51, v52⟩, hcs⟩)
  exact ⟨l, h1, h2, h3, Nat.le_trans h4 (by simp [maxLen])⟩
theorem pow_data : Rows.laid_internal_strconv_uint64pow10 (H := Unit) = Lib.tabData .u64 Lib.pow10Tab := by kernel_rfl
theorem gK : Tryd.prog.globalNamed "voxel/material.kinds" = some 0 := by kernel_rfl
theorem gP : Tryd.prog.globalNamed "internal/strconv.uint64pow10" = some 2 := by kernel_rfl
theorem gE : Tryd.prog.globalNamed "strconv.ErrSyntax" = some 3 := by kernel_rfl
theorem kt_of {W : World} {r : List (String × DataW Unit)} (h : laidMet Tryd.prog (("voxel/material.kinds", Rows.laid_voxel_material_kinds) :: r) W) : Kt W := by
  obtain ⟨ps, ⟨g', t', cs, fuel, p, q, hg', ht', hvar, hd, _, _⟩, _⟩ := h
  obtain rfl := Option.some.inj (gK.symm.trans hg')
  obtain rfl := Option.some.inj ((show (Tryd.prog.globals[0]?).map (·.type) = some 84 by kernel_rfl).symm.trans ht')
  obtain ⟨v00, v01, v02, v03, v10, v11, v12, v13, v20, v21, v22, v23, v30, v31, v32, v33, hcs, hdat⟩ := kinds_cells hd
  have hdat2 : (Rows.laid_voxel_material_kinds : DataW Unit) = _ := hdat
  simp only [Rows.laid_voxel_material_kinds, DataW.agg.injEq, List.cons.injEq, DataW.lit.injEq, Lit.string.injEq, Lit.bool.injEq, and_true, true_and] at hdat2
  obtain ⟨⟨rfl, rfl, rfl, rfl⟩, ⟨rfl, rfl, rfl, rfl⟩, ⟨rfl, rfl, rfl, rfl⟩, rfl, rfl, rfl, rfl⟩ := hdat2
  intro j v hj
  rw [Nat.zero_add]
  have h1 := World.var?_cell gK hvar j
  rw [h1, ← Array.getElem?_toList, hcs]
  exact hj
theorem star : "*" ++ "errors.errorString" = "*errors.errorString" := by decide
theorem rowES (u : TypeId) (h : Tryd.prog.typeName? 3 u = some "*errors.errorString") : u = 127 :=
  typeName_ptr_named (nm := "errors.errorString") (by rw [star]; kernel_rfl) (by kernel_rfl) (by decide) u (by rw [star]; exact h)
theorem es_of {W : World} {r : List (String × DataW Unit)} (h : laidMet Tryd.prog (("strconv.ErrSyntax", Rows.laid_strconv_ErrSyntax) :: r) W) : Es W := by
  obtain ⟨a, s, hv, _⟩ := laid_sentinel (tp := 127) (te := 129) (ts := 9) h gE (by kernel_rfl) Tryd.underlying56 rowES Tryd.underlying127 Tryd.underlying129 rfl rfl Tryd.underlying9 (by kernel_rfl) (by kernel_rfl)
  exact ⟨_, by have h1 := World.var?_cell gE hv 0; rw [h1]; rfl, .inr ⟨_, _, rfl⟩⟩
theorem ev_of {W : World} (h : laidMetH Tryd.prog [("math/bits.deBruijn32tab", Rows.laid_math_bits_deBruijn32tab), ("math/bits.deBruijn64tab", Rows.laid_math_bits_deBruijn64tab), ("internal/strconv.uint64pow10", Rows.laid_internal_strconv_uint64pow10), ("strconv.ErrRange", Rows.laid_strconv_ErrRange), ("strconv.ErrSyntax", Rows.laid_strconv_ErrSyntax), ("voxel/material.kinds", Rows.laid_voxel_material_kinds)] W) : Ev W := by
  rw [MakeChecks.laidMetH_plain _ _ _ (by kernel_rfl)] at h
  have h2 := h.tail.tail
  have h4 := h.tail.tail.tail.tail
  have h5 := h.tail.tail.tail.tail.tail
  rw [pow_data] at h2
  exact ⟨kt_of h5, Lib.tabIs_of_head gP (t := 108) (by kernel_rfl) Tryd.underlying108 Tryd.underlying97 (by kernel_rfl) (by kernel_rfl) h2, es_of h4⟩
end Go.Proofs.YtpjjddjoegnipaaDoor
