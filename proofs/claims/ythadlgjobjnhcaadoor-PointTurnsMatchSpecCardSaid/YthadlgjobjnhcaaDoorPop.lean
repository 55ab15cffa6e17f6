/-
  From the row's condition to the table of orders; points and boxes that come in, opened.
-/
import Derived.Test.YthadlgjobjnhcaaDoorRows
import Derived.Test.YthadlgjobjnhcaaDoorBased
import Derived.Test.YthadlgjobjnhcaaDoorPsm
import Derived.Test.YthadlgjobjnhcaaDoorPto
import Derived.ProofKit
import Derived.OpenShut
import Derived.ShutString
import Derived.ChangeOld
import Derived.SizedLaws
import Derived.LaidMore
import Derived.Stop.Joined
import Derived.Lib.LaidTab
import Derived.Stop.LaidErr
namespace Go.Proofs.YthadlgjobjnhcaaDoor
open Go.ChangeShapes Go.WideShapes Go.ChangeAt Go.RowKit
set_option linter.unusedVariables false

section
variable {H : Type} {enc : TypeId × Value → H} {W : World} {base : Nat} {sp : Nat → Bool} {held : Bool} {fuel : Nat} {cs : List Value} {x : DataW H × List MemPlace} {v : Value} {d : DataW H} {ps : List MemPlace}

theorem list3 {cs : List Value} (h : cs.length = 3) : ∃ a b c, cs = [a, b, c] := by
  match cs, h with
  | [a, b, c], _ => exact ⟨a, b, c, rfl⟩
theorem list6 {cs : List Value} (h : cs.length = 6) : ∃ a b c d e f, cs = [a, b, c, d, e, f] := by
  match cs, h with
  | [a, b, c, d, e, f], _ => exact ⟨a, b, c, d, e, f, rfl⟩
theorem pt_cells (h : DataW.trod enc Tryd.prog W base sp held fuel 23 cs = some x) : ∃ a b c : Int, cs = [.int .i64 a, .int .i64 b, .int .i64 c] ∧ In64 (a, b, c) := by
  obtain ⟨xs, m, _, _, hl, hxl, hall⟩ := DataW.trod_struct Tryd.underlying23 h
  rw [show Tryd.prog.cellsOf 23 = 3 by kernel_rfl] at hl
  obtain ⟨c0, c1, c2, rfl⟩ := list3 hl
  have h0 : DataW.trod enc Tryd.prog W base sp held m 3 (List.take (Tryd.prog.cellsOf 3) (List.drop 0 [c0, c1, c2])) = xs[0]? := hall 0 _ rfl
  have h1 : DataW.trod enc Tryd.prog W base sp held m 3 (List.take (Tryd.prog.cellsOf 3) (List.drop 1 [c0, c1, c2])) = xs[1]? := hall 1 _ rfl
  have h2 : DataW.trod enc Tryd.prog W base sp held m 3 (List.take (Tryd.prog.cellsOf 3) (List.drop 2 [c0, c1, c2])) = xs[2]? := hall 2 _ rfl
  rw [show Tryd.prog.cellsOf 3 = 1 by kernel_rfl] at h0 h1 h2
  have hx : xs.length = 3 := hxl
  rw [List.getElem?_eq_getElem (by omega)] at h0 h1 h2
  obtain ⟨a, ha, _, wa⟩ := DataW.trod_int Tryd.underlying3 h0
  obtain ⟨b, hb, _, wb⟩ := DataW.trod_int Tryd.underlying3 h1
  obtain ⟨c, hc, _, wc⟩ := DataW.trod_int Tryd.underlying3 h2
  simp at ha hb hc
  exact ⟨a, b, c, by rw [ha, hb, hc], i64_wf wa, i64_wf wb, i64_wf wc⟩
theorem box_cells (h : DataW.trod enc Tryd.prog W base sp held fuel 31 cs = some x) : ∃ a b c d e f : Int, cs = [.int .i64 a, .int .i64 b, .int .i64 c, .int .i64 d, .int .i64 e, .int .i64 f] ∧ In64 (a, b, c) ∧ In64 (d, e, f) := by
  obtain ⟨xs, m, _, _, hl, hxl, hall⟩ := DataW.trod_struct Tryd.underlying31 h
  rw [show Tryd.prog.cellsOf 31 = 6 by kernel_rfl] at hl
  obtain ⟨c0, c1, c2, c3, c4, c5, rfl⟩ := list6 hl
  have h0 : DataW.trod enc Tryd.prog W base sp held m 23 (List.take (Tryd.prog.cellsOf 23) (List.drop 0 [c0, c1, c2, c3, c4, c5])) = xs[0]? := hall 0 _ rfl
  have h1 : DataW.trod enc Tryd.prog W base sp held m 23 (List.take (Tryd.prog.cellsOf 23) (List.drop 3 [c0, c1, c2, c3, c4, c5])) = xs[1]? := hall 1 _ rfl
  rw [show Tryd.prog.cellsOf 23 = 3 by kernel_rfl] at h0 h1
  have hx : xs.length = 2 := hxl
  rw [List.getElem?_eq_getElem (by omega)] at h0 h1
  obtain ⟨a, b, c, h1c, i1⟩ := pt_cells h0
  obtain ⟨d, e, f, h2c, i2⟩ := pt_cells h1
  simp at h1c h2c
  exact ⟨a, b, c, d, e, f, by rw [h1c.1, h1c.2.1, h1c.2.2, h2c.1, h2c.2.1, h2c.2.2], i1, i2⟩
theorem agg_of_cells {v : Value} {l : List Value} (h : v.cells.toList = l) (hl : 2 ≤ l.length) : v = .agg l.toArray := by
  cases v with
  | agg cs =>
    have h2 : cs.toList = l := h
    congr 1
    exact Array.ext' (by simpa using h2)
  | _ => rw [← h] at hl; simp [Value.cells] at hl
theorem open_pt (hd : DataW.Trod enc Tryd.prog W 0 (fun _ => true) true 23 v d ps) : ∃ a b c : Int, v = .agg #[.int .i64 a, .int .i64 b, .int .i64 c] ∧ In64 (a, b, c) := by
  obtain ⟨fuel, hf⟩ := hd
  obtain ⟨a, b, c, hcs, hi⟩ := pt_cells hf
  exact ⟨a, b, c, agg_of_cells hcs (by simp), hi⟩
theorem open_box (hd : DataW.Trod enc Tryd.prog W 0 (fun _ => true) true 31 v d ps) : ∃ a b c d e f : Int, v = .agg #[.int .i64 a, .int .i64 b, .int .i64 c, .int .i64 d, .int .i64 e, .int .i64 f] ∧ In64 (a, b, c) ∧ In64 (d, e, f) := by
  obtain ⟨fuel, hf⟩ := hd
  obtain ⟨a, b, c, d, e, f, hcs, hi⟩ := box_cells hf
  exact ⟨a, b, c, d, e, f, agg_of_cells hcs (by simp), hi⟩

/-- an array of strings, read -/
def strData {H : Type} (l : List (List UInt8)) : DataW H := .agg (l.map fun z => .lit (.string z))
theorem str_cells {t e : TypeId} {n : Nat} {l : List (List UInt8)} {p : List MemPlace} (ht : Tryd.prog.underlying t = some (.array n e)) (he : Tryd.prog.underlying e = some .string) (hce : Tryd.prog.cellsOf e = 1) (hct : Tryd.prog.cellsOf t = n)
    (h : DataW.trod enc Tryd.prog W base sp held fuel t cs = some (strData l, p)) : cs = l.map fun z => Value.string (bstr z) := by
  obtain ⟨xs, m, _, hx, hl, hxl, hall⟩ := DataW.trod_array ht h
  rw [hct] at hl
  have hxs : xs.map (·.1) = l.map fun z => (DataW.lit (.string z) : DataW H) := by
    have := congrArg Prod.fst hx
    simpa [strData] using this.symm
  have hll : l.length = n := by
    have := congrArg List.length hxs
    simp at this
    omega
  apply List.ext_getElem?
  intro i
  by_cases hi : i < n
  · have h0 := hall i hi
    rw [hce, Nat.mul_one] at h0
    obtain ⟨y, hy⟩ : ∃ y, xs[i]? = some y := ⟨xs[i], List.getElem?_eq_getElem (by omega)⟩
    rw [hy] at h0
    obtain ⟨s, hs, hys, _⟩ := DataW.trod_string he h0
    have h2 : ((cs.drop i).take 1)[0]? = some (.string s) := by rw [hs]; rfl
    rw [List.getElem?_take_of_lt (by omega), List.getElem?_drop, Nat.add_zero] at h2
    have h3 : (xs.map (·.1))[i]? = some y.1 := by rw [List.getElem?_map, hy]; rfl
    rw [hxs, List.getElem?_map] at h3
    cases hz : l[i]? with
    | none => rw [hz] at h3; cases h3
    | some z =>
      rw [hz] at h3
      simp only [Option.map_some, Option.some.injEq] at h3
      rw [h2, List.getElem?_map, hz]
      simp only [Option.map_some, Option.some.injEq]
      have h4 : (DataW.lit (.string z) : DataW H) = .lit (.string s.data.toList) := by rw [h3, hys]
      injection h4 with h5
      injection h5 with h6
      rw [h6]
      rfl
  · rw [List.getElem?_eq_none (by omega), List.getElem?_eq_none (by rw [List.length_map]; omega)]
end

def ordZ : List (List UInt8) := [[120, 121, 122], [120, 122, 121], [121, 120, 122], [121, 122, 120], [122, 120, 121], [122, 121, 120]]
theorem ord_data : Rows.laid_voxel_point_orders (H := Unit) = strData ordZ := by kernel_rfl
theorem gO : Tryd.prog.globalNamed "voxel/point.orders" = some 0 := by kernel_rfl
theorem tab_of_laid {W : World} (h : laidMetH Tryd.prog [("voxel/point.orders", Rows.laid_voxel_point_orders)] W) : Tab W := by
  rw [MakeChecks.laidMetH_plain _ _ _ (by kernel_rfl)] at h
  rw [ord_data] at h
  obtain ⟨ps, ⟨g', t', cs, fuel, p, q, hg', ht', hvar, hd, _, _⟩, _⟩ := h
  obtain rfl := Option.some.inj (gO.symm.trans hg')
  obtain rfl := Option.some.inj ((show (Tryd.prog.globals[0]?).map (·.type) = some 73 by kernel_rfl).symm.trans ht')
  have hc := str_cells Tryd.underlying73 Tryd.underlying9 (by kernel_rfl) (by kernel_rfl) hd
  intro j v hj
  rw [Nat.zero_add]
  have h1 := World.var?_cell gO hvar j
  rw [h1, ← Array.getElem?_toList, hc]
  exact hj
end Go.Proofs.YthadlgjobjnhcaaDoor
