/-
  The inputs of digests differ where tags or parts differ.
-/
import Derived.Test.YtfaadaahpjpfaaaDoorMathc
import Derived.Test.YtfaadaahpjpfaaaDoorHrh
namespace Go.Proofs.YtfaadaahpjpfaaaDoor
open Go.RowKit

theorem encS_ne (s t : List UInt8) : Wm.encS s ++ t ≠ [] := by
  intro h1
  have h3 : Wm.encS s = [] := (List.append_eq_nil_iff.1 h1).1
  have h4 := congrArg List.length h3
  unfold Wm.encS at h4
  rw [List.length_append] at h4
  have h5 : 0 < (Wm.encI (s.length : Int)).length := Wm.enc_pos _
  rw [List.length_nil] at h4
  omega
theorem flat_inj : ∀ (l m : List (List UInt8)), (∀ s ∈ l, s.length ≤ 400) → (∀ s ∈ m, s.length ≤ 400) → l.flatMap Wm.encS = m.flatMap Wm.encS → l = m
  | [], [], _, _, _ => rfl
  | [], s :: r, _, hm, h => by
    rw [List.flatMap_nil, List.flatMap_cons] at h
    exact absurd h.symm (encS_ne s _)
  | s :: r, [], hl, _, h => by
    rw [List.flatMap_nil, List.flatMap_cons] at h
    exact absurd h (encS_ne s _)
  | s :: r, t :: q, hl, hm, h => by
    rw [List.flatMap_cons, List.flatMap_cons] at h
    have h1 := Wm.getS_enc s (r.flatMap Wm.encS) (by have := hl s (by simp); omega)
    have h2 := Wm.getS_enc t (q.flatMap Wm.encS) (by have := hm t (by simp); omega)
    rw [h, h2] at h1
    have e : t = s := congrArg Prod.fst h1
    subst e
    have h3 := List.append_cancel_left h
    rw [flat_inj r q (fun x hx => hl x (by simp [hx])) (fun x hx => hm x (by simp [hx])) h3]
theorem inOf_inj {p q : Int} {l m : List (List UInt8)} (hp : 0 ≤ p ∧ p < 256) (hq : 0 ≤ q ∧ q < 256) (hl : Few l) (hm : Few m) : inOf p l = inOf q m ↔ p = q ∧ l = m := by
  constructor
  · intro h
    unfold inOf at h
    injection h with h1 h2
    refine ⟨?_, flat_inj l m hl.2 hm.2 h2⟩
    have h3 := congrArg UInt8.toNat h1
    simp at h3
    omega
  · rintro ⟨rfl, rfl⟩; rfl
theorem ba_list (s : ByteArray) : s.toList = s.data.toList := ByteArray.toList_eq s
theorem beq_bstr (u v : List UInt8) : ((bstr u).toList == (bstr v).toList) = decide (u = v) := by
  rw [ba_list, ba_list, bstr_data, bstr_data]
  by_cases h : u = v
  · rw [h]; simp
  · simp [h]
theorem take_step {α : Type} [DecidableEq α] (l m : List α) (k : Nat) (hl : k < l.length) (hm : k < m.length) : (l.take (k + 1) = m.take (k + 1)) ↔ (l.take k = m.take k ∧ l[k] = m[k]) := by
  rw [List.take_succ_eq_append_getElem hl, List.take_succ_eq_append_getElem hm]
  constructor
  · intro h
    have h1 := List.append_inj h (by rw [List.length_take, List.length_take]; omega)
    exact ⟨h1.1, by simpa using h1.2⟩
  · rintro ⟨h1, h2⟩; rw [h1, h2]

end Go.Proofs.YtfaadaahpjpfaaaDoor
