/-
  Tables as mathematics: what the checks find; validity, way by way. (No program.)
-/
import Derived.Test.YtpjjddjoegnipaaDoorMac
namespace Go.Proofs.YtpjjddjoegnipaaDoor.Ma
open Go
set_option linter.unusedVariables false
theorem vld_kind {m : Mt} (h : (kd m.s m.l m.f).isSome = false) : vld m = false := by unfold vld; rw [h]; rfl
theorem light_no {x : Int} (h : ¬ (0 ≤ x ∧ x ≤ 15)) : lightOk x = false := by
  unfold lightOk
  rcases Classical.em (0 ≤ x) with h1 | h1
  · rw [decide_eq_false (fun h2 => h ⟨h1, h2⟩)]; simp
  · rw [decide_eq_false h1]; rfl
theorem light_yes {x : Int} (h : 0 ≤ x) (h2 : x ≤ 15) : lightOk x = true := by unfold lightOk; rw [decide_eq_true h, decide_eq_true h2]; rfl
theorem vld_light {m : Mt} (h : ¬ (0 ≤ m.a ∧ m.a ≤ 15) ∨ ¬ (0 ≤ m.b ∧ m.b ≤ 15) ∨ ¬ (0 ≤ m.c ∧ m.c ≤ 15)) : vld m = false := by
  unfold vld
  rcases h with h | h | h
  · rw [light_no h]; simp
  · rw [light_no h]; simp
  · rw [light_no h]; simp
theorem vld_name {m : Mt} (h : nameOk m.n = false) : vld m = false := by unfold vld; rw [h]; simp
theorem vld_fade {m : Mt} (h : ¬ (1 ≤ m.fd ∧ m.fd ≤ 16)) : vld m = false := by
  unfold vld
  rcases Classical.em (1 ≤ m.fd) with h1 | h1
  · rw [decide_eq_false (show ¬ m.fd ≤ 16 from fun h2 => h ⟨h1, h2⟩)]; simp
  · rw [decide_eq_false h1]; simp
theorem vld_yes {m : Mt} (h : (kd m.s m.l m.f).isSome = true) (ha : 0 ≤ m.a ∧ m.a ≤ 15) (hb : 0 ≤ m.b ∧ m.b ≤ 15) (hc : 0 ≤ m.c ∧ m.c ≤ 15) (hn : nameOk m.n = true) (hf : 1 ≤ m.fd ∧ m.fd ≤ 16) : vld m = true := by
  unfold vld
  rw [h, light_yes ha.1 ha.2, light_yes hb.1 hb.2, light_yes hc.1 hc.2, hn, decide_eq_true hf.1, decide_eq_true hf.2]; rfl
theorem vld_of {m : Mt} (h : vld m = true) : (kd m.s m.l m.f).isSome = true ∧ (0 ≤ m.a ∧ m.a ≤ 15) ∧ (0 ≤ m.b ∧ m.b ≤ 15) ∧ (0 ≤ m.c ∧ m.c ≤ 15) ∧ nameOk m.n = true ∧ (1 ≤ m.fd ∧ m.fd ≤ 16) := by
  unfold vld lightOk at h
  simp only [Bool.and_eq_true, decide_eq_true_eq] at h
  obtain ⟨⟨h1, ⟨h2, h3⟩, h4⟩, ⟨h5, h6⟩, h7⟩ := h
  exact ⟨h1, h2, h3, h4, h5, h6, h7⟩
section
variable {ms : List Mt} {x : By} {k : Nat}
theorem fnd_hit (hk : k ≤ fnd ms x) (h : k < ms.length) (he : (tat ms k).n = x) : find ms x = ((k : Int), true) := by
  have e : fnd ms x = k := ff_hit hk h (by rw [decide_eq_true he]; rfl)
  unfold find; rw [e, if_pos h]
theorem fnd_step (hk : k ≤ fnd ms x) (h : k < ms.length) (he : ¬ (tat ms k).n = x) : k + 1 ≤ fnd ms x := ff_step hk h (by rw [decide_eq_false he]; rfl)
theorem fnd_none (hk : ms.length ≤ fnd ms x) : find ms x = (0, false) := by unfold find; rw [if_neg (by omega)]
theorem fnd_le (h : k < ms.length) : fnd ms (tat ms k).n ≤ k := by
  rcases Nat.lt_or_ge k (fnd ms (tat ms k).n) with h1 | h1
  · have := ff_before h1; simp at this
  · exact h1
theorem find_self (h : k < ms.length) : find ms (tat ms k).n = ((fnd ms (tat ms k).n : Int), true) := by
  unfold find; rw [if_pos (Nat.lt_of_le_of_lt (fnd_le h) h)]
theorem check_limit (h : 256 < ms.length) : check ms = (-1, 2) := by unfold check; rw [if_pos h]
theorem check_empty (h : ms.length = 0) : check ms = (-1, 1) := by unfold check; rw [if_neg (by omega), if_pos h]
theorem check_air (h : ¬ 256 < ms.length) (h0 : ms.length ≠ 0) (ha : tat ms 0 ≠ air) : check ms = (0, 1) := by unfold check; rw [if_neg h, if_neg h0, if_pos ha]
theorem check_bad (h : ¬ 256 < ms.length) (h0 : ms.length ≠ 0) (ha : tat ms 0 = air) (hk : k ≤ ff (okAt ms) ms.length) (hl : k < ms.length) (hv : vld (tat ms k) = false) : check ms = ((k : Int), 1) := by
  have e : ff (okAt ms) ms.length = k := ff_hit hk hl (by unfold okAt; rw [hv]; rfl)
  unfold check; rw [if_neg h, if_neg h0, if_neg (by simpa using ha), e, if_neg (by omega), if_neg (by rw [hv]; simp)]
theorem check_twice (h : ¬ 256 < ms.length) (h0 : ms.length ≠ 0) (ha : tat ms 0 = air) (hk : k ≤ ff (okAt ms) ms.length) (hl : k < ms.length) (hv : vld (tat ms k) = true) (hf : (find ms (tat ms k).n).1 < (k : Int)) : check ms = ((k : Int), 10) := by
  rw [find_self hl] at hf
  have hf2 : ¬ fnd ms (tat ms k).n = k := by simp only at hf; omega
  have e : ff (okAt ms) ms.length = k := ff_hit hk hl (by unfold okAt; rw [hv, decide_eq_false hf2]; rfl)
  unfold check; rw [if_neg h, if_neg h0, if_neg (by simpa using ha), e, if_neg (by omega), if_pos hv]
theorem check_step (hk : k ≤ ff (okAt ms) ms.length) (hl : k < ms.length) (hv : vld (tat ms k) = true) (hf : ¬ (find ms (tat ms k).n).1 < (k : Int)) : k + 1 ≤ ff (okAt ms) ms.length := by
  rw [find_self hl] at hf
  have h1 := fnd_le hl
  have hf2 : fnd ms (tat ms k).n = k := by simp only at hf; omega
  exact ff_step hk hl (by unfold okAt; rw [hv, decide_eq_true hf2]; rfl)
theorem check_good (h : ¬ 256 < ms.length) (h0 : ms.length ≠ 0) (ha : tat ms 0 = air) (hk : ms.length ≤ ff (okAt ms) ms.length) : check ms = (0, 0) := by
  unfold check; rw [if_neg h, if_neg h0, if_neg (by simpa using ha), if_pos (ff_end hk)]
theorem check_of (h : (check ms).2 = 0) : ¬ 256 < ms.length ∧ ms.length ≠ 0 ∧ tat ms 0 = air ∧ (∀ i, i < ms.length → vld (tat ms i) = true ∧ fnd ms (tat ms i).n = i) ∧ check ms = (0, 0) := by
  unfold check at h ⊢
  split at h
  · simp at h
  split at h
  · simp at h
  split at h
  · simp at h
  split at h
  · next h1 h2 h3 h4 =>
    refine ⟨h1, h2, by simpa using h3, ?_, by rw [if_neg h1, if_neg h2, if_neg h3, if_pos h4]⟩
    intro i hi
    have := ff_all.1 h4 i hi
    unfold okAt at this
    simpa using this
  split at h <;> simp at h
theorem mat_in {k : Int} (h0 : 0 ≤ k) (h1 : k < (ms.length : Int)) : mat_of ms k = tat ms k.toNat := by unfold mat_of; rw [if_neg (by omega)]
theorem mat_out {k : Int} (h : k < 0 ∨ (ms.length : Int) ≤ k) : mat_of ms k = dark := by unfold mat_of; rw [if_pos h]
theorem tat_ext {a b : List Mt} (hl : a.length = b.length) (h : ∀ i, i < a.length → tat a i = tat b i) : a = b := by
  apply List.ext_getElem hl
  intro i h1 h2
  have := h i h1
  unfold tat at this
  rw [List.getD_eq_getElem?_getD, List.getD_eq_getElem?_getD, List.getElem?_eq_getElem h1, List.getElem?_eq_getElem h2] at this
  exact this
end
/-- few materials, with names that are not long -/
def few (ms : List Mt) : Bool := decide (ms.length ≤ 300) && decide (ff (fun i => decide ((tat ms i).n.length ≤ 60)) ms.length = ms.length)
section
variable {ms a b : List Mt} {k : Nat}
theorem few_long (h : ¬ ms.length ≤ 300) : few ms = false := by unfold few; rw [decide_eq_false h]; rfl
theorem few_no (hk : k ≤ ff (fun i => decide ((tat ms i).n.length ≤ 60)) ms.length) (hl : k < ms.length) (h : ¬ (tat ms k).n.length ≤ 60) : few ms = false := by
  have e := ff_hit hk hl (decide_eq_false h)
  unfold few; rw [e, decide_eq_false (show ¬ k = ms.length by omega)]; simp
theorem few_step (hk : k ≤ ff (fun i => decide ((tat ms i).n.length ≤ 60)) ms.length) (hl : k < ms.length) (h : (tat ms k).n.length ≤ 60) : k + 1 ≤ ff (fun i => decide ((tat ms i).n.length ≤ 60)) ms.length := ff_step hk hl (decide_eq_true h)
theorem few_yes (h : ms.length ≤ 300) (hk : ms.length ≤ ff (fun i => decide ((tat ms i).n.length ≤ 60)) ms.length) : few ms = true := by
  unfold few; rw [ff_end hk, decide_eq_true h]; simp
theorem few_of (h : few ms = true) : ms.length ≤ 300 ∧ ∀ i, i < ms.length → (tat ms i).n.length ≤ 60 := by
  unfold few at h
  simp only [Bool.and_eq_true, decide_eq_true_eq] at h
  exact ⟨h.1, fun i hi => by simpa using ff_all.1 h.2 i hi⟩
def same (a b : List Mt) : Bool := decide (a = b)
def eqAt (a b : List Mt) (i : Nat) : Bool := decide (tat a i = tat b i)
theorem same_len (h : ¬ a.length = b.length) : same a b = false := decide_eq_false (fun e => h (by rw [e]))
theorem same_no (h : ¬ tat a k = tat b k) : same a b = false := decide_eq_false (fun e => h (by rw [e]))
theorem same_step (hk : k ≤ ff (eqAt a b) a.length) (hl : k < a.length) (h : tat a k = tat b k) : k + 1 ≤ ff (eqAt a b) a.length := ff_step hk hl (decide_eq_true h)
theorem same_yes (hl : a.length = b.length) (hk : a.length ≤ ff (eqAt a b) a.length) : same a b = true :=
  decide_eq_true (tat_ext hl fun i hi => by simpa [eqAt] using ff_all.1 (ff_end hk) i hi)
end
end Go.Proofs.YtpjjddjoegnipaaDoor.Ma
