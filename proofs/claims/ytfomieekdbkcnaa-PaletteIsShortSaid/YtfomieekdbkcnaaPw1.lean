/-
  How long encodings are. (No program.)
-/
import Derived.Test.YtfomieekdbkcnaaPw0
namespace Go.Proofs.Ytfomieekdbkcnaa
open Go Go.RowKit
set_option linter.unusedVariables false
namespace Pl
theorem pal_rep (a : Int) : ∀ k, pal (List.replicate (k + 1) a) = [a]
  | 0 => rfl
  | k + 1 => by rw [List.replicate_succ', pal_app, pal_rep a k, if_pos (by simp)]
theorem e_len {l : List Int} {m L : Nat} (h1 : l.length = 64) (hc : ∀ c ∈ l, cell c) (hm : (pal l).length = m) (hL : 2 + m + room 64 (wd m) = L) : eE l = 0 ∧ (eS l).length = L := by
  obtain ⟨e1, e2⟩ := p_ok (l := l) (by omega) (vc_iff.2 hc)
  unfold eE eS
  rw [if_pos h1, if_pos h1, e1, e2]
  refine ⟨rfl, ?_⟩
  rw [pk_len (by intro e; rw [e] at h1; simp at h1), hm, h1, hL]
theorem sh1 {a : Int} (h : cell a) : eE (List.replicate 64 a) = 0 ∧ (eS (List.replicate 64 a)).length = 3 :=
  e_len (m := 1) (by simp) (fun c hc => by rw [List.eq_of_mem_replicate hc]; exact h) (by rw [pal_rep a 63]; rfl) (by decide)
theorem sh3 {a b : Int} (h : cell a) (hb : cell b) {q : Nat} (hq : q < 64) : eE ((List.replicate 64 a).set q b) = 0 ∧ (eS ((List.replicate 64 a).set q b)).length = if a = b then 3 else 12 := by
  by_cases e : a = b
  · subst e
    rw [if_pos rfl]
    have : (List.replicate 64 a).set q a = List.replicate 64 a := by
      apply List.ext_getElem
      · simp
      · intro i h1 h2; rw [List.getElem_set, List.getElem_replicate]; split <;> rfl
    rw [this]; exact sh1 h
  · rw [if_neg e]
    generalize hl : (List.replicate 64 a).set q b = l
    have hlen : l.length = 64 := by rw [← hl]; simp
    have hmem : ∀ c ∈ l, c = a ∨ c = b := by
      intro c hc
      obtain ⟨i, hi, rfl⟩ := List.getElem_of_mem hc
      subst hl
      rw [List.getElem_set]
      split
      · right; rfl
      · left; rw [List.getElem_replicate]
    have hb2 : b ∈ l := by rw [← hl]; exact List.mem_set (by simpa using hq) _
    have ha2 : a ∈ l := by
      rw [← hl]
      by_cases hq0 : q = 0
      · have h1 : ((List.replicate 64 a).set q b)[1]'(by simp) = a := by rw [List.getElem_set, if_neg (by omega), List.getElem_replicate]
        exact List.mem_of_getElem h1
      · have h1 : ((List.replicate 64 a).set q b)[0]'(by simp) = a := by rw [List.getElem_set, if_neg (by omega), List.getElem_replicate]
        exact List.mem_of_getElem h1
    have hn := pal_nodup l
    have hpa := (mem_pal l a).2 ha2
    have hpb := (mem_pal l b).2 hb2
    have hp : ∀ c ∈ pal l, c = a ∨ c = b := fun c hc => hmem c ((mem_pal _ _).1 hc)
    have hm : (pal l).length = 2 := by
      generalize pal l = p at *
      match p, hn, hp, hpa, hpb with
      | [], _, _, hpa, _ => simp at hpa
      | [x], _, _, hpa, hpb => simp at hpa hpb; exact absurd (hpa.trans hpb.symm) e
      | [x, y], _, _, _, _ => rfl
      | x :: y :: z :: r, hn, hp, _, _ =>
        exfalso
        have h1 := hp x (by simp)
        have h2 := hp y (by simp)
        have h3 := hp z (by simp)
        simp at hn
        rcases h1 with h1 | h1 <;> rcases h2 with h2 | h2 <;> rcases h3 with h3 | h3 <;> simp_all
    exact e_len (m := 2) hlen (fun c hc => by rcases hmem c hc with h1 | h1 <;> rw [h1] <;> assumption) hm (by decide)
theorem dc_same (a : List Int) : ∀ k, dc a a k = []
  | 0 => rfl
  | k + 1 => by rw [dc, if_neg (by unfold df; simp), dc_same a k]
theorem sh2 {a : Int} (h : cell a) : dE (List.replicate 64 a) (List.replicate 64 a) = 0 ∧ (dS (List.replicate 64 a) (List.replicate 64 a)).length = 9 := by
  have hb : bk (List.replicate 64 a) = true := bk_iff.2 ⟨by simp, fun c hc => by rw [List.eq_of_mem_replicate hc]; exact h⟩
  obtain ⟨e1, e2⟩ := d_ok hb hb
  refine ⟨e2, ?_⟩
  rw [e1]; unfold dl
  rw [List.length_append, le_len, dc_same]; rfl
theorem eS_len (l : List Int) : (eS l).length ≤ 130 := by
  unfold eS; split
  · exact pS_len2 l
  · simp
end Pl
end Go.Proofs.Ytfomieekdbkcnaa
