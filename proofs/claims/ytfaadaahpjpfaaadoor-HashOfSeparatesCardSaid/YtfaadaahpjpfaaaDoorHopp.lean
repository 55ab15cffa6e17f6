/-
  A pair of bytes that comes in, opened.
-/
import Derived.Test.YtfaadaahpjpfaaaDoorHopn
namespace Go.Proofs.YtfaadaahpjpfaaaDoor
open Go.ChangeShapes Go.WideShapes Go.ChangeAt Go.RowKit Go.Deep

section
variable {H : Type} {enc : TypeId × Value → H} {P : Program} {W : World} {T E : TypeId} {v : Value} {d : DataW H} {ps : List MemPlace}

theorem open_pair (hd : DataW.Trod enc P W 0 (fun _ => true) true T v d ps) (hT : P.underlying T = some (.array 2 E)) (hE : P.underlying E = some (.int .u8)) (hc : P.cellsOf E = 1) (hc2 : P.cellsOf T = 2) :
    ∃ a b : Int, v = .agg #[.int .u8 a, .int .u8 b] ∧ (Lit.int .u8 a).wf = true ∧ (Lit.int .u8 b).wf = true := by
  obtain ⟨fuel, hf⟩ := hd
  obtain ⟨xs, m, _, _, hl, hxl, hall⟩ := DataW.trod_array hT hf
  rw [hc2] at hl
  obtain ⟨y0, hy0⟩ : ∃ y, xs[0]? = some y := ⟨xs[0], List.getElem?_eq_getElem (by omega)⟩
  obtain ⟨y1, hy1⟩ : ∃ y, xs[1]? = some y := ⟨xs[1], List.getElem?_eq_getElem (by omega)⟩
  have h0 := hall 0 (by omega)
  have h1 := hall 1 (by omega)
  rw [hc, hy0] at h0
  rw [hc, hy1] at h1
  obtain ⟨a, ha, _, wa⟩ := DataW.trod_int hE h0
  obtain ⟨b, hb, _, wb⟩ := DataW.trod_int hE h1
  refine ⟨a, b, ?_, wa, wb⟩
  have hcells : v.cells.toList = [.int .u8 a, .int .u8 b] := by
    match hq : v.cells.toList, hl with
    | [x, y], _ =>
      rw [hq] at ha hb
      simp at ha hb
      rw [ha, hb]
  cases v with
  | agg cs =>
    have h2 : cs.toList = [.int .u8 a, .int .u8 b] := hcells
    congr 1
    exact Array.ext' (by simpa using h2)
  | _ => simp [Value.cells] at hcells
end

end Go.Proofs.YtfaadaahpjpfaaaDoor
