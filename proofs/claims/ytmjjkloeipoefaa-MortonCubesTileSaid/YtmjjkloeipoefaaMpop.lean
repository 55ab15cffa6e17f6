/-
  Points, boxes and bools that come in, opened.
-/
import Derived.Test.YtmjjkloeipoefaaRows
import Derived.Test.YtmjjkloeipoefaaBased
import Derived.ProofKit
import Derived.OpenShut
import Derived.ShutString
import Derived.ChangeOld
import Derived.SizedLaws
namespace Go.Proofs.Ytmjjkloeipoefaa
open Go.ChangeShapes Go.WideShapes Go.ChangeAt Go.RowKit
set_option linter.unusedVariables false

/-- three numbers of 64 bits -/
def In64 (p : Int × Int × Int) : Prop := (-9223372036854775808 ≤ p.1 ∧ p.1 ≤ 9223372036854775807) ∧ (-9223372036854775808 ≤ p.2.1 ∧ p.2.1 ≤ 9223372036854775807) ∧ (-9223372036854775808 ≤ p.2.2 ∧ p.2.2 ≤ 9223372036854775807)

section
variable {H : Type} {enc : TypeId × Value → H} {W : World} {base : Nat} {sp : Nat → Bool} {held : Bool} {fuel : Nat} {cs : List Value} {x : DataW H × List MemPlace} {v : Value} {d : DataW H} {ps : List MemPlace}

theorem list3 {cs : List Value} (h : cs.length = 3) : ∃ a b c, cs = [a, b, c] := by
  match cs, h with
  | [a, b, c], _ => exact ⟨a, b, c, rfl⟩
theorem list6 {cs : List Value} (h : cs.length = 6) : ∃ a b c d e f, cs = [a, b, c, d, e, f] := by
  match cs, h with
  | [a, b, c, d, e, f], _ => exact ⟨a, b, c, d, e, f, rfl⟩
theorem pt_cells (h : DataW.trod enc Try.prog W base sp held fuel 23 cs = some x) : ∃ a b c : Int, cs = [.int .i64 a, .int .i64 b, .int .i64 c] ∧ In64 (a, b, c) := by
  obtain ⟨xs, m, _, _, hl, hxl, hall⟩ := DataW.trod_struct Try.underlying23 h
  rw [show Try.prog.cellsOf 23 = 3 by kernel_rfl] at hl
  obtain ⟨c0, c1, c2, rfl⟩ := list3 hl
  have h0 : DataW.trod enc Try.prog W base sp held m 3 (List.take (Try.prog.cellsOf 3) (List.drop 0 [c0, c1, c2])) = xs[0]? := hall 0 _ rfl
  have h1 : DataW.trod enc Try.prog W base sp held m 3 (List.take (Try.prog.cellsOf 3) (List.drop 1 [c0, c1, c2])) = xs[1]? := hall 1 _ rfl
  have h2 : DataW.trod enc Try.prog W base sp held m 3 (List.take (Try.prog.cellsOf 3) (List.drop 2 [c0, c1, c2])) = xs[2]? := hall 2 _ rfl
  rw [show Try.prog.cellsOf 3 = 1 by kernel_rfl] at h0 h1 h2
  have hx : xs.length = 3 := hxl
  rw [List.getElem?_eq_getElem (by omega)] at h0 h1 h2
  obtain ⟨a, ha, _, wa⟩ := DataW.trod_int Try.underlying3 h0
  obtain ⟨b, hb, _, wb⟩ := DataW.trod_int Try.underlying3 h1
  obtain ⟨c, hc, _, wc⟩ := DataW.trod_int Try.underlying3 h2
  simp at ha hb hc
  exact ⟨a, b, c, by rw [ha, hb, hc], ⟨i64_wf wa, i64_wf wb, i64_wf wc⟩⟩
theorem box_cells (h : DataW.trod enc Try.prog W base sp held fuel 37 cs = some x) : ∃ a b c d e f : Int, cs = [.int .i64 a, .int .i64 b, .int .i64 c, .int .i64 d, .int .i64 e, .int .i64 f] ∧ In64 (a, b, c) ∧ In64 (d, e, f) := by
  obtain ⟨xs, m, _, _, hl, hxl, hall⟩ := DataW.trod_struct Try.underlying37 h
  rw [show Try.prog.cellsOf 37 = 6 by kernel_rfl] at hl
  obtain ⟨c0, c1, c2, c3, c4, c5, rfl⟩ := list6 hl
  have h0 : DataW.trod enc Try.prog W base sp held m 23 (List.take (Try.prog.cellsOf 23) (List.drop 0 [c0, c1, c2, c3, c4, c5])) = xs[0]? := hall 0 _ rfl
  have h1 : DataW.trod enc Try.prog W base sp held m 23 (List.take (Try.prog.cellsOf 23) (List.drop 3 [c0, c1, c2, c3, c4, c5])) = xs[1]? := hall 1 _ rfl
  rw [show Try.prog.cellsOf 23 = 3 by kernel_rfl] at h0 h1
  have hx : xs.length = 2 := hxl
  rw [List.getElem?_eq_getElem (by omega)] at h0 h1
  obtain ⟨a, b, c, h1c, i1⟩ := pt_cells h0
  obtain ⟨d, e, f, h2c, i2⟩ := pt_cells h1
  simp at h1c h2c
  exact ⟨a, b, c, d, e, f, by rw [h1c.1, h1c.2.1, h1c.2.2, h2c.1, h2c.2.1, h2c.2.2], i1, i2⟩
theorem agg_of_cells {v : Value} {l : List Value} (h : v.cells.toList = l) (hl : 2 ≤ l.length) : v = .agg l.toArray := by
  cases v with
  | agg cs =>
    have h2 : cs.toList = l := h
    congr 1
    exact Array.ext' (by simpa using h2)
  | _ => rw [← h] at hl; simp [Value.cells] at hl
theorem open_pt (hd : DataW.Trod enc Try.prog W 0 (fun _ => true) true 23 v d ps) : ∃ a b c : Int, v = .agg #[.int .i64 a, .int .i64 b, .int .i64 c] ∧ In64 (a, b, c) := by
  obtain ⟨fuel, hf⟩ := hd
  obtain ⟨a, b, c, hcs, hi⟩ := pt_cells hf
  exact ⟨a, b, c, agg_of_cells hcs (by simp), hi⟩
theorem open_box (hd : DataW.Trod enc Try.prog W 0 (fun _ => true) true 37 v d ps) : ∃ a b c d e f : Int, v = .agg #[.int .i64 a, .int .i64 b, .int .i64 c, .int .i64 d, .int .i64 e, .int .i64 f] ∧ In64 (a, b, c) ∧ In64 (d, e, f) := by
  obtain ⟨fuel, hf⟩ := hd
  obtain ⟨a, b, c, d, e, f, hcs, hi⟩ := box_cells hf
  exact ⟨a, b, c, d, e, f, agg_of_cells hcs (by simp), hi⟩

end
end Go.Proofs.Ytmjjkloeipoefaa
