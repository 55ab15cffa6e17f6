/-
  What the laws of package palette rest on. (No program.)
-/
import Derived.Test.YtfomieekdbkcnaaPk26
namespace Go.Proofs.Ytfomieekdbkcnaa
open Go Go.RowKit
set_option linter.unusedVariables false
namespace Pl
theorem pE_0 {l : List Int} (h : pE l = 0) : l.length ≤ 64 ∧ (∀ c ∈ l, cell c) ∧ pS l = pk l := by
  unfold pE at h
  have e : pO l = true := by
    by_cases h2 : pO l = true
    · exact h2
    · rw [if_neg h2] at h; cases h
  have e2 := e
  unfold pO at e2
  rw [Bool.and_eq_true, decide_eq_true_eq] at e2
  refine ⟨e2.1, vc_iff.1 e2.2, ?_⟩
  unfold pS; rw [if_pos e]
theorem pE_cases (l : List Int) : pE l = 0 ∨ pE l = 1 := by unfold pE; split <;> simp
theorem un_ps {l : List Int} (h : pE l = 0) (x : List UInt8) : un (pS l ++ x) = (l, (pS l).length, 0) := by
  obtain ⟨h1, h2, h3⟩ := pE_0 h
  rw [h3]
  by_cases h0 : l = []
  · rw [h0]; exact un_pk0 x
  · exact un_pk h0 h2 h1 x
theorem un_psk {l : List Int} (h : pE l = 0) {k : Nat} (hk : k < (pS l).length) : un ((pS l).take k) = ([], 0, 5) := by
  obtain ⟨h1, h2, h3⟩ := pE_0 h
  rw [h3] at hk ⊢
  exact un_take h2 h1 hk
theorem pS_pos {l : List Int} (h : pE l = 0) : 0 < (pS l).length := by
  obtain ⟨_, _, h3⟩ := pE_0 h
  rw [h3]
  unfold pk
  split <;> simp
theorem pS_len2 (l : List Int) : (pS l).length ≤ 130 := by
  rcases pE_cases l with h | h
  · obtain ⟨h1, _, h3⟩ := pE_0 h
    rw [h3]
    by_cases h0 : l = []
    · rw [h0]; simp [pk]
    · rw [pk_len h0]
      have h2 := pal_len l
      have h4 : room l.length (wd (pal l).length) ≤ 64 := room_le h1 (by rcases wd_cases (pal l).length with e | e | e | e | e <;> omega)
      omega
  · unfold pS
    unfold pE at h
    rw [if_neg]
    · simp
    · intro h2; rw [if_pos h2] at h; cases h
theorem pS_un {x : List UInt8} (h : (un x).2.2 = 0) : pS (un x).1 = x.take (un x).2.1 ∧ pE (un x).1 = 0 := by
  obtain ⟨h1, h2, _, _, h5⟩ := pk_un h
  obtain ⟨e1, e2⟩ := p_ok h1 (vc_iff.2 h2)
  exact ⟨e1.trans h5, e2⟩
theorem un_e {x : List UInt8} (h : (un x).2.2 ≠ 0) : (un x).1 = [] ∧ (un x).2.1 = 0 := by rw [un_err h]; exact ⟨rfl, rfl⟩
theorem dE_0 {a b : List Int} (h : dE a b = 0) : bk a = true ∧ bk b = true ∧ dS a b = dl a b := by
  unfold dE at h
  have e : dO a b = true := by
    by_cases h2 : dO a b = true
    · exact h2
    · rw [if_neg h2] at h; cases h
  have e2 := e
  unfold dO at e2
  rw [Bool.and_eq_true] at e2
  exact ⟨e2.1, e2.2, by unfold dS; rw [if_pos e]⟩
theorem pP_dS {a b : List Int} (h : dE a b = 0) : pP a (dS a b) = (b, 0) := by
  obtain ⟨h1, h2, h3⟩ := dE_0 h
  rw [pP_yes h1, h3]
  exact pt_dl (bk_iff.1 h2)
theorem dS_len (a b : List Int) : (dS a b).length ≤ 200 := by
  by_cases h : dE a b = 0
  · obtain ⟨_, h2, h3⟩ := dE_0 h
    rw [h3]
    unfold dl
    rw [List.length_append, le_len, ← (pS_dc (a := a) h2).1]
    have := pS_len2 (dc a b 64)
    omega
  · unfold dE at h
    unfold dS
    split
    · rename_i h2; rw [if_pos h2] at h; exact absurd rfl h
    · simp
theorem dS_pP {a : List Int} {x : List UInt8} (h : (pP a x).2 = 0) : dS a (pP a x).1 = x ∧ dE a (pP a x).1 = 0 ∧ (pP a x).1.length = 64 := by
  cases hb : bk a with
  | false => rw [pP_no hb] at h; cases h
  | true =>
    rw [pP_yes hb] at h ⊢
    obtain ⟨h1, h2⟩ := dl_pt (bk_iff.1 hb) h
    obtain ⟨e1, e2⟩ := d_ok hb (bk_iff.2 h1)
    exact ⟨e1.trans h2, e2, h1.1⟩
theorem pP_e {a : List Int} {x : List UInt8} (h : (pP a x).2 ≠ 0) : (pP a x).1 = [] := by
  cases hb : bk a with
  | false => rw [pP_no hb]
  | true => rw [pP_yes hb] at h ⊢; exact pt_e h
end Pl
end Go.Proofs.Ytfomieekdbkcnaa
