/-
  What comes in, as lists: slices of bytes and of strings, out of the row's own reading (a part of stage 1's text, for package hash).
-/
import Derived.Test.YtfaadaahpjpfaaaDoorRows
import Derived.Test.YtfaadaahpjpfaaaDoorBased
import Derived.Test.YtfaadaahpjpfaaaDoorHof
import Derived.ProofKit
import Derived.OpenShut
import Derived.ShutString
import Derived.ChangeOld
import Derived.SizedLaws
import Derived.SliceStrings
import Derived.Deep.Slices
namespace Go.Proofs.YtfaadaahpjpfaaaDoor
open Go.ChangeShapes Go.WideShapes Go.ChangeAt Go.RowKit Go.Deep

section
variable {H : Type} {enc : TypeId × Value → H} {P : Program} {W : World} {a : Option Addr} {len cap : Nat} {T E : TypeId} {d : DataW H} {ps : List MemPlace}

theorem opened_bytes (hd : DataW.Trod enc P W 0 (fun _ => true) true T (.slice a len cap) d ps) (hT : P.underlying T = some (.slice E)) (hE : P.underlying E = some (.int .u8)) (hc : P.cellsOf E = 1) (hby : P.bytesOf E = 1)
    (hz : ∀ elems spare, d = .slice elems spare → (elems.length + spare.length) * P.bytesOf E ≤ reachBytes) :
    ∃ l : List UInt8, l.length = len ∧ Lies W a (l.map bv) ∧ (a = none → len = 0) ∧ len ≤ cap ∧ cap ≤ 140737488351232 := by
  obtain ⟨fuel, hf⟩ := hd
  rcases open_ints hT hE hc hf with ⟨hcs, _⟩ | ⟨x, l, c, zs, hcs, _, hl, hm, hzl, hx, hcell, hwz⟩
  · simp [Value.cells] at hcs
    obtain ⟨rfl, rfl, rfl⟩ := hcs
    exact ⟨[], rfl, Lies.nil _ _, fun _ => rfl, Nat.le_refl _, by omega⟩
  · simp [Value.cells] at hcs
    obtain ⟨rfl, rfl, rfl⟩ := hcs
    simp only [if_true] at hzl
    obtain ⟨bs, h1, h2⟩ := bytes_row (len := len) (by omega) hcell hwz
    have h3 := hz _ _ (Prod.mk.inj hx).1
    simp only [lits, List.length_map, List.length_take, List.length_drop, hby, reachBytes] at h3
    exact ⟨bs, h1, h2, (fun h => by cases h), hl, by omega⟩

theorem opened_strs (hd : DataW.Trod enc P W 0 (fun _ => true) true T (.slice a len cap) d ps) (hT : P.underlying T = some (.slice E)) (hE : P.underlying E = some .string) (hc : P.cellsOf E = 1) (hby : P.bytesOf E = 16)
    (hz : ∀ elems spare, d = .slice elems spare → (elems.length + spare.length) * P.bytesOf E ≤ reachBytes) :
    ∃ l : List (List UInt8), l.length = len ∧ Lies W a (l.map sv) ∧ len ≤ cap ∧ cap * 16 ≤ 140737488351232 ∧ (d = .nil ∧ l = [] ∨ ∃ spare, d = .slice (l.map fun s => .lit (.string s)) spare) := by
  obtain ⟨fuel, hf⟩ := hd
  rcases open_strings hT hE hc hf with ⟨hcs, hx⟩ | ⟨x, l, c, ss, hcs, _, hl, hm, hzl, hx, hcell, hwz⟩
  · simp [Value.cells] at hcs
    obtain ⟨rfl, rfl, rfl⟩ := hcs
    exact ⟨[], rfl, Lies.nil _ _, Nat.le_refl _, by omega, .inl ⟨(Prod.mk.inj hx).1, rfl⟩⟩
  · simp [Value.cells] at hcs
    obtain ⟨rfl, rfl, rfl⟩ := hcs
    simp only [if_true] at hzl
    have h3 := hz _ _ (Prod.mk.inj hx).1
    simp only [strs, List.length_map, List.length_take, List.length_drop, hby, reachBytes] at h3
    refine ⟨(ss.take len).map fun s => s.data.toList, by rw [List.length_map, List.length_take]; omega, ?_, hl, by omega, .inr ⟨strs (ss.drop len), ?_⟩⟩
    · refine lies_of_cells (len := len) (by rw [List.length_map, List.length_map, List.length_take]; omega) ?_
      intro i u hu
      rw [List.getElem?_map, List.getElem?_map, List.getElem?_take] at hu
      split at hu
      · have hi : i < ss.length := by omega
        rw [List.getElem?_eq_getElem hi] at hu
        simp only [Option.map_some, Option.some.injEq] at hu
        rw [hcell i hi, ← hu, List.getD_eq_getElem?_getD, List.getElem?_eq_getElem hi]; rfl
      · cases hu
    · rw [(Prod.mk.inj hx).1]
      simp only [strs, List.map_map]
      rfl
end

section
variable {H : Type} {P : Program} {ts : List TypeId} {ds : List (DataW H)}

/-- each string of a list that comes in is of a length that can be reached -/
theorem sized_strs (h : (DataW.weightsEach P ts ds).all (· ≤ reachBytes) = true) {j : Nat} {t e : TypeId} {l : List (List UInt8)} {spare : List (DataW H)} (ht : ts[j]? = some t) (hd : ds[j]? = some (.slice (l.map fun s => .lit (.string s)) spare)) (hu : P.underlying t = some (.slice e)) :
    ∀ s ∈ l, s.length ≤ 140737488351232 := by
  intro s hs
  have hin : ∀ l : List (List UInt8), s ∈ l → s.length ∈ DataW.weightsAll P e (l.map fun s => (.lit (.string s) : DataW H)) := by
    intro l
    induction l with
    | nil => intro h; simp at h
    | cons x r ih =>
      intro h
      rcases List.mem_cons.1 h with rfl | h
      · simp [DataW.weightsAll, DataW.weights]
      · simp only [List.map_cons, DataW.weightsAll, List.mem_append]; exact .inr (ih h)
  have := List.all_eq_true.1 h _ (DataW.weights_mem_each ht hd s.length (by simp only [DataW.weights, hu, List.mem_cons, List.mem_append]; exact .inr (.inl (hin l hs))))
  exact of_decide_eq_true this
end

end Go.Proofs.YtfaadaahpjpfaaaDoor
