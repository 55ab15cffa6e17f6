/-
  A slice that comes in, whose elements take several cells each, read as a list. (No program.)
-/
import Derived.Test.YtfomieekdbkcnaaBased
import Derived.ProofKit
import Derived.OpenShut
import Derived.ShutString
import Derived.ChangeOld
import Derived.SizedLaws
import Derived.LaidMore
import Derived.Stop.Joined
import Derived.Lib.LaidTab
import Derived.Stop.LaidErr
namespace Go.Proofs.Ytfomieekdbkcnaa
open Go.ChangeShapes Go.WideShapes Go.ChangeAt Go.RowKit
set_option linter.unusedVariables false
theorem flatMap_at {α β : Type} {f : α → List β} {sz : Nat} (hf : ∀ a, (f a).length = sz) (h0 : 0 < sz) : ∀ (l : List α) (t : Nat), (l.flatMap f)[t]? = (l[t / sz]?).bind fun a => (f a)[t % sz]?
  | [], t => by simp
  | a :: r, t => by
    rw [List.flatMap_cons]
    rcases Nat.lt_or_ge t sz with h | h
    · rw [List.getElem?_append_left (by rw [hf]; exact h), Nat.div_eq_of_lt h, Nat.mod_eq_of_lt h]; rfl
    · rw [List.getElem?_append_right (by rw [hf]; exact h), hf, flatMap_at hf h0 r (t - sz)]
      have e1 : t / sz = (t - sz) / sz + 1 := Nat.div_eq_sub_div h0 h
      have e2 : (t - sz) % sz = t % sz := by rw [← Nat.mod_eq_sub_mod h]
      rw [e1, e2]; rfl
section
variable {H : Type} {enc : TypeId × Value → H} {P : Program} {W : World} {a : Option Addr} {len cap : Nat} {T E : TypeId} {d : DataW H} {ps : List MemPlace}
theorem pick_list {α : Type} {p : Nat → α → Prop} : ∀ n : Nat, (∀ i, i < n → ∃ x, p i x) → ∃ l : List α, l.length = n ∧ ∀ i x, l[i]? = some x → p i x
  | 0, _ => ⟨[], rfl, fun i x h => by simp at h⟩
  | n + 1, h => by
    obtain ⟨l, hl, hp⟩ := pick_list n (fun i hi => h i (by omega))
    obtain ⟨x, hx⟩ := h n (by omega)
    refine ⟨l ++ [x], by simp [hl], fun i y hy => ?_⟩
    rcases Nat.lt_or_ge i l.length with hi | hi
    · rw [List.getElem?_append_left hi] at hy; exact hp i y hy
    · rw [List.getElem?_append_right hi] at hy
      have h0 : i - l.length = 0 := by
        have := (List.getElem?_eq_some_iff.1 hy).1
        simp at this; omega
      rw [h0] at hy
      simp at hy
      subst hy
      rw [show i = n by omega]; exact hx
theorem opened_rows {α : Type} (cells : α → List Value) (sz : Nat) (h0 : 0 < sz)
    (hd : DataW.Trod enc P W 0 (fun _ => true) true T (.slice a len cap) d ps) (hT : P.underlying T = some (.slice E)) (hc : P.cellsOf E = sz) (hcl : ∀ m, (cells m).length = sz)
    (hel : ∀ fuel cs x, DataW.trod enc P W 0 (fun _ => true) true fuel E cs = some x → ∃ m, cs = cells m) :
    ∃ l : List α, l.length = len ∧ Lies W a (l.flatMap cells) ∧ len ≤ cap ∧ cap ≤ maxLen := by
  obtain ⟨fuel, hf⟩ := hd
  rcases DataW.trod_slice hT hf with ⟨hcs, _⟩ | ⟨x, l, c, elems, rest, n, _, hcs, _, _, hl, hm, hlen, hE, _⟩
  · simp [Value.cells] at hcs
    obtain ⟨rfl, rfl, rfl⟩ := hcs
    exact ⟨[], rfl, Lies.nil _ _, Nat.le_refl _, Nat.zero_le _⟩
  · simp [Value.cells] at hcs
    obtain ⟨rfl, rfl, rfl⟩ := hcs
    have each : ∀ i, i < len → ∃ m : α, ∀ j u, (cells m)[j]? = some u → W.cell? (x.add (i * sz + j)) = some u := by
      intro i hi
      have h1 := hE i hi
      rw [hc, List.getElem?_eq_getElem (by omega)] at h1
      obtain ⟨cs, hcs, ht⟩ := Option.bind_eq_some_iff.1 h1
      obtain ⟨m, rfl⟩ := hel _ _ _ ht
      refine ⟨m, fun j u hu => ?_⟩
      have hj : j < sz := by
        have := (List.getElem?_eq_some_iff.1 hu).1
        rw [hcl] at this; exact this
      have h2 := (World.cells?_some hcs).2.2 j hj
      rw [hu] at h2
      rw [← h2]
      exact congrArg W.cell? (Addr.add_add x (i * sz) j).symm
    obtain ⟨ls, hll, hlp⟩ := pick_list len each
    refine ⟨ls, hll, ?_, hl, hm⟩
    refine lies_of_cells (len := (ls.flatMap cells).length) rfl ?_
    intro t u hu
    rw [flatMap_at hcl h0] at hu
    obtain ⟨m, hm1, hm2⟩ := Option.bind_eq_some_iff.1 hu
    have h3 := hlp (t / sz) m hm1 (t % sz) u hm2
    rwa [show t / sz * sz + t % sz = t by rw [Nat.mul_comm]; exact Nat.div_add_mod t sz] at h3
end
end Go.Proofs.Ytfomieekdbkcnaa
