/-
  Texts divided at their newlines: what reading line by line finds; printed tables. (No program.)
-/
import Derived.Test.YtpjjddjoegnipaaDoorMa5
namespace Go.Proofs.YtpjjddjoegnipaaDoor.Ma
open Go
set_option linter.unusedVariables false
theorem linesOf_cut : ∀ x : By, linesOf x = if (cut 10 x).2.2 then ((cut 10 x).1 :: (linesOf (cut 10 x).2.1).1, (linesOf (cut 10 x).2.1).2) else ([], x)
  | [] => rfl
  | b :: r => by
    by_cases h : b = 10
    · subst h; rfl
    · have ih := linesOf_cut r
      have e : cut 10 (b :: r) = (b :: (cut 10 r).1, (cut 10 r).2.1, (cut 10 r).2.2) := by conv => lhs; unfold cut; rw [if_neg h]
      rw [e]
      conv => lhs; unfold linesOf
      rw [if_neg h]
      cases hc : (cut 10 r).2.2
      · rw [hc] at ih; rw [ih]; rfl
      · rw [hc] at ih; rw [ih]; rfl
theorem ff_ge {p : Nat → Bool} {n k : Nat} (hk : k ≤ n) (h : ∀ i, i < k → p i = true) : k ≤ ff p n := by
  rcases Nat.lt_or_ge (ff p n) k with h1 | h1
  · have := ff_at (p := p) (n := n) (by omega)
    rw [h _ h1] at this; cases this
  · exact h1
/-- the state of a reading: ls are the lines done, all of them good, and x is left -/
def PInv (t : By) (ls : List By) (x : By) : Prop := linesOf t = (ls ++ (linesOf x).1, (linesOf x).2) ∧ (∀ l ∈ ls, (mat l).isSome = true) ∧ ls.length + x.length ≤ t.length
theorem pinit (t : By) : PInv t [] t := ⟨rfl, fun _ h => by simp at h, by simp⟩
section
variable {t x : By} {ls : List By}
theorem plen (h : PInv t ls x) : ls.length + x.length ≤ t.length := h.2.2
theorem pgood (h : PInv t ls x) (L : List By) (hL : ∃ r, L = ls ++ r) : ls.length ≤ ff (good L) L.length := by
  obtain ⟨r, rfl⟩ := hL
  refine ff_ge (by simp) fun i hi => ?_
  unfold good
  rw [List.getD_eq_getElem?_getD, List.getElem?_append_left hi, List.getElem?_eq_getElem hi]
  exact h.2.1 _ (List.getElem_mem hi)
theorem pstep (h : PInv t ls x) (hc : (cut 10 x).2.2 = true) (hm : (mat (cut 10 x).1).isSome = true) : PInv t (ls ++ [(cut 10 x).1]) (cut 10 x).2.1 := by
  obtain ⟨h1, h2, h3⟩ := h
  refine ⟨?_, ?_, ?_⟩
  · rw [h1, linesOf_cut x, if_pos hc]; simp
  · intro l hl
    rcases List.mem_append.1 hl with h4 | h4
    · exact h2 l h4
    · rw [List.mem_singleton.1 h4]; exact hm
  · have := cut_lt 10 x hc
    simp; omega
theorem pbad_end (h : PInv t ls x) (hx : ¬ x = []) (hc : (cut 10 x).2.2 = false) : parse t = ([], (ls.length : Int) + 1, 3) := by
  have hg := fun L hL => pgood h L hL
  obtain ⟨h1, _, _⟩ := h
  have e : linesOf x = ([], x) := by rw [linesOf_cut x, hc]; rfl
  rw [e] at h1
  simp only [List.append_nil] at h1
  have hf : ff (good ls) ls.length = ls.length := ff_end (hg ls ⟨[], by simp⟩)
  unfold parse
  rw [h1]
  simp only
  rw [if_pos (Or.inr hx), hf]
theorem pbad_line (h : PInv t ls x) (hc : (cut 10 x).2.2 = true) (hm : (mat (cut 10 x).1).isSome = false) : parse t = ([], (ls.length : Int) + 1, 3) := by
  have hg := fun L hL => pgood h L hL
  obtain ⟨h1, _, _⟩ := h
  rw [linesOf_cut x, if_pos hc] at h1
  have hf : ff (good (linesOf t).1) (linesOf t).1.length = ls.length := by
    rw [h1]
    refine ff_hit (hg _ ⟨_, rfl⟩) (by simp) ?_
    unfold good
    rw [List.getD_eq_getElem?_getD, List.getElem?_append_right (Nat.le_refl _), Nat.sub_self]
    exact hm
  have hl : ls.length < (linesOf t).1.length := by rw [h1]; simp
  unfold parse
  rw [hf, if_pos (Or.inl hl)]
theorem pdone (h : PInv t ls []) : (linesOf t) = (ls, []) ∧ ff (good (linesOf t).1) (linesOf t).1.length = (linesOf t).1.length := by
  have hg := fun L hL => pgood h L hL
  obtain ⟨h1, _, _⟩ := h
  have e : linesOf t = (ls, []) := by rw [h1]; simp [linesOf]
  refine ⟨e, ?_⟩
  rw [e]
  exact ff_end (hg ls ⟨[], by simp⟩)
theorem pdone_bad (h : PInv t ls []) (hk : ¬ (check (mats ls)).2 = 0) : parse t = ([], (check (mats ls)).1 + 1, (check (mats ls)).2) := by
  obtain ⟨h1, h2⟩ := pdone h
  unfold parse
  rw [h2]
  rw [h1]
  simp only
  rw [if_neg (by simp), if_pos hk]
theorem pdone_good (h : PInv t ls []) (hk : (check (mats ls)).2 = 0) : parse t = (mats ls, 0, 0) := by
  obtain ⟨h1, h2⟩ := pdone h
  unfold parse
  rw [h2]
  rw [h1]
  simp only
  rw [if_neg (by simp), if_neg (by simpa using hk)]
end
section
variable {ls : List By} {l : By} {m : Mt}
theorem mats_snoc (hm : mat l = some m) : mats (ls ++ [l]) = mats ls ++ [m] := by unfold mats; rw [List.filterMap_append]; simp [hm]
/-- what the program keeps: one too many at most -/
def tab (ls : List By) : List Mt := (mats ls).take 257
theorem tab_le : (tab ls).length ≤ 257 := by unfold tab; rw [List.length_take]; omega
theorem tab_more (h : (tab ls).length ≤ 256) (hm : mat l = some m) : tab (ls ++ [l]) = tab ls ++ [m] := by
  unfold tab at h ⊢
  rw [List.length_take] at h
  have h1 : (mats ls).length ≤ 256 := by omega
  rw [mats_snoc hm, List.take_of_length_le (by simp; omega), List.take_of_length_le (by omega)]
theorem tab_full (h : ¬ (tab ls).length ≤ 256) (hm : mat l = some m) : tab (ls ++ [l]) = tab ls := by
  unfold tab at h ⊢
  rw [List.length_take] at h
  rw [mats_snoc hm, List.take_append_of_le_length (by omega)]
theorem tab_check : check (tab ls) = check (mats ls) := by
  rcases Nat.lt_or_ge 256 (mats ls).length with h | h
  · rw [check_limit h, check_limit (by unfold tab; rw [List.length_take]; omega)]
  · unfold tab; rw [List.take_of_length_le (by omega)]
theorem tab_good (h : (check (tab ls)).2 = 0) : tab ls = mats ls := by
  obtain ⟨h1, _⟩ := check_of h
  unfold tab at h1 ⊢
  rw [List.length_take] at h1
  rw [List.take_of_length_le (by omega)]
theorem tab_nil : tab [] = [] := rfl
end
section
variable {t : By} {ls : List By} {x : By}
theorem qdone_bad (h : PInv t ls []) (hk : ¬ (check (tab ls)).2 = 0) : parse t = ([], (check (tab ls)).1 + 1, (check (tab ls)).2) := by
  rw [tab_check] at hk ⊢; exact pdone_bad h hk
theorem qdone_good (h : PInv t ls []) (hk : (check (tab ls)).2 = 0) : parse t = (tab ls, 0, 0) := by
  rw [tab_good hk]; rw [tab_check] at hk; exact pdone_good h hk
/-- byte by byte: the present line begins at f, i is next -/
def RInv (t : By) (ls : List By) (f i : Nat) : Prop := PInv t ls (t.drop f) ∧ f ≤ i ∧ i ≤ t.length ∧ ls.length ≤ f ∧ ∀ j, f ≤ j → j < i → byt t j ≠ 10
theorem rinit (t : By) : RInv t [] 0 0 := ⟨pinit t, Nat.le_refl _, Nat.zero_le _, Nat.zero_le _, fun j _ h => absurd h (Nat.not_lt_zero _)⟩
variable {f i : Nat}
theorem rle (h : RInv t ls f i) : f ≤ i ∧ i ≤ t.length ∧ ls.length ≤ f := ⟨h.2.1, h.2.2.1, h.2.2.2.1⟩
theorem rcut (h : RInv t ls f i) (hi : i < t.length) (hb : byt t i = 10) : cut 10 (t.drop f) = ((t.take i).drop f, t.drop (i + 1), true) := by
  obtain ⟨_, h1, _, _, h4⟩ := h
  have hc := cut_at 10 (t.drop f) (i - f) (by rw [List.length_drop]; omega) (by rw [byt_drop, show f + (i - f) = i by omega]; exact hb) (fun j hj => by rw [byt_drop]; exact h4 _ (by omega) (by omega))
  rw [hc]
  have e1 : (t.drop f).take (i - f) = (t.take i).drop f := by rw [List.drop_take]
  have e2 : (t.drop f).drop (i - f + 1) = t.drop (i + 1) := by rw [List.drop_drop]; congr 1; omega
  rw [e1, e2]
theorem rstep_no (h : RInv t ls f i) (hi : i < t.length) (hb : ¬ byt t i = 10) : RInv t ls f (i + 1) := by
  obtain ⟨h0, h1, h2, h3, h4⟩ := h
  refine ⟨h0, by omega, by omega, h3, fun j hj hji => ?_⟩
  rcases Nat.lt_or_ge j i with h5 | h5
  · exact h4 j hj h5
  · rw [show j = i by omega]; exact hb
theorem rstep_line (h : RInv t ls f i) (hi : i < t.length) (hb : byt t i = 10) (hm : (mat ((t.take i).drop f)).isSome = true) : RInv t (ls ++ [(t.take i).drop f]) (i + 1) (i + 1) := by
  have hc := rcut h hi hb
  have hp := pstep h.1 (by rw [hc]) (by rw [hc]; exact hm)
  rw [hc] at hp
  refine ⟨hp, Nat.le_refl _, by omega, ?_, fun j hj hji => by omega⟩
  have h1 := h.2.1
  have h2 := h.2.2.2.1
  rw [List.length_append, List.length_singleton]; omega
theorem rbad_line (h : RInv t ls f i) (hi : i < t.length) (hb : byt t i = 10) (hm : (mat ((t.take i).drop f)).isSome = false) : parse t = ([], (ls.length : Int) + 1, 3) := by
  have hc := rcut h hi hb
  exact pbad_line h.1 (by rw [hc]) (by rw [hc]; exact hm)
theorem rbad_end (h : RInv t ls f i) (hi : ¬ i < t.length) (hf : f < t.length) : parse t = ([], (ls.length : Int) + 1, 3) := by
  obtain ⟨h0, h1, h2, h3, h4⟩ := h
  have hc := cut_none 10 (t.drop f) (fun j hj => by rw [byt_drop]; rw [List.length_drop] at hj; exact h4 _ (by omega) (by omega))
  refine pbad_end h0 (fun e => ?_) (by rw [hc])
  have := congrArg List.length e
  rw [List.length_drop] at this
  simp at this; omega
theorem rend (h : RInv t ls f i) (hf : ¬ f < t.length) : PInv t ls [] := by
  have h0 := h.1
  rw [List.drop_of_length_le (by omega)] at h0
  exact h0
end
theorem lines_le {ms : List Mt} (h : ∀ i, i < ms.length → vld (tat ms i) = true) : ∀ k, k ≤ ms.length → (lines (ms.take k)).length ≤ 101 * k
  | 0, _ => by simp [lines]
  | k + 1, hk => by
    have ih := lines_le h k (by omega)
    have h1 := line_le (h k (by omega))
    rw [lines_succ (by omega)]
    simp only [List.length_append, List.length_singleton]
    omega
end Go.Proofs.YtpjjddjoegnipaaDoor.Ma
