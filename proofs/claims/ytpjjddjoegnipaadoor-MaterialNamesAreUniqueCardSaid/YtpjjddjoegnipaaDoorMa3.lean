/-
  A line read word by word, and a line divided at its blanks: the same material. (No program.)
-/
import Derived.Test.YtpjjddjoegnipaaDoorMa2
namespace Go.Proofs.YtpjjddjoegnipaaDoor.Ma
open Go
set_option linter.unusedVariables false
/-- the next word, what stands behind it, and whether a blank stood there -/
def wd (x : By) : By := (cut 32 x).1
def nx (x : By) : By := (cut 32 x).2.1
def mo (x : By) : Bool := (cut 32 x).2.2
theorem words_wd (x : By) : words x = wd x :: (if mo x then words (nx x) else []) := by
  rw [words_cut]; unfold wd mo nx; cases (cut 32 x).2.2 <;> rfl
theorem nx_no {x : By} (h : mo x = false) : nx x = [] := (cut_no 32 x h).2
theorem nx_le (x : By) : (nx x).length ≤ x.length := (cut_le 32 x).2
theorem wd_le (x : By) : (wd x).length ≤ x.length := (cut_le 32 x).1
/-- a number's value -/
def nv (w : By) : Int := (((num w).getD 0 : Nat) : Int)
/-- the word fade and a number: the number, whether it is one, and what is left -/
def fadeR (x : By) : Int × Bool × By × Bool :=
  if wd x = wFade then (nv (wd (nx x)), (num (wd (nx x))).isSome, nx (nx x), mo (nx x)) else (0, false, nx x, mo x)
/-- the word emit and three numbers -/
def emitR (x : By) : Int × Int × Int × Bool × By × Bool :=
  if ¬ wd x = wEmit then (0, 0, 0, false, nx x, mo x) else
  if (num (wd (nx x))).isSome = false then (0, 0, 0, false, nx (nx x), mo (nx x)) else
  if (num (wd (nx (nx x)))).isSome = false then (0, 0, 0, false, nx (nx (nx x)), mo (nx (nx x))) else
  if (num (wd (nx (nx (nx x))))).isSome = false then (0, 0, 0, false, nx (nx (nx (nx x))), mo (nx (nx (nx x)))) else
  (nv (wd (nx x)), nv (wd (nx (nx x))), nv (wd (nx (nx (nx x)))), !decide (nv (wd (nx x)) = 0 ∧ nv (wd (nx (nx x))) = 0 ∧ nv (wd (nx (nx (nx x)))) = 0), nx (nx (nx (nx x))), mo (nx (nx (nx x))))
theorem emitR_1 {x : By} (h : ¬ wd x = wEmit) : emitR x = (0, 0, 0, false, nx x, mo x) := by unfold emitR; rw [if_pos h]
theorem emitR_2 {x : By} (h : wd x = wEmit) (h1 : (num (wd (nx x))).isSome = false) : emitR x = (0, 0, 0, false, nx (nx x), mo (nx x)) := by unfold emitR; rw [if_neg (by simpa using h), if_pos h1]
theorem emitR_3 {x : By} (h : wd x = wEmit) (h1 : (num (wd (nx x))).isSome = true) (h2 : (num (wd (nx (nx x)))).isSome = false) : emitR x = (0, 0, 0, false, nx (nx (nx x)), mo (nx (nx x))) := by
  unfold emitR; rw [if_neg (by simpa using h), if_neg (by rw [h1]; simp), if_pos h2]
theorem emitR_4 {x : By} (h : wd x = wEmit) (h1 : (num (wd (nx x))).isSome = true) (h2 : (num (wd (nx (nx x)))).isSome = true) (h3 : (num (wd (nx (nx (nx x))))).isSome = false) : emitR x = (0, 0, 0, false, nx (nx (nx (nx x))), mo (nx (nx (nx x)))) := by
  unfold emitR; rw [if_neg (by simpa using h), if_neg (by rw [h1]; simp), if_neg (by rw [h2]; simp), if_pos h3]
theorem emitR_5 {x : By} (h : wd x = wEmit) (h1 : (num (wd (nx x))).isSome = true) (h2 : (num (wd (nx (nx x)))).isSome = true) (h3 : (num (wd (nx (nx (nx x))))).isSome = true) :
    emitR x = (nv (wd (nx x)), nv (wd (nx (nx x))), nv (wd (nx (nx (nx x)))), !decide (nv (wd (nx x)) = 0 ∧ nv (wd (nx (nx x))) = 0 ∧ nv (wd (nx (nx (nx x)))) = 0), nx (nx (nx (nx x))), mo (nx (nx (nx x)))) := by
  unfold emitR; rw [if_neg (by simpa using h), if_neg (by rw [h1]; simp), if_neg (by rw [h2]; simp), if_neg (by rw [h3]; simp)]
theorem fadeR_1 {x : By} (h : ¬ wd x = wFade) : fadeR x = (0, false, nx x, mo x) := by unfold fadeR; rw [if_neg h]
theorem fadeR_2 {x : By} (h : wd x = wFade) : fadeR x = (nv (wd (nx x)), (num (wd (nx x))).isSome, nx (nx x), mo (nx x)) := by unfold fadeR; rw [if_pos h]

theorem fade_le (x : By) : (fadeR x).2.2.1.length ≤ x.length := by
  unfold fadeR; split
  · exact Nat.le_trans (nx_le _) (nx_le _)
  · exact nx_le _
theorem mat4_nil (k f d : By) : mat4 [] k f d = none := by unfold mat4; split <;> simp
theorem mat4_kind {n k f d : By} (h : kn k = none) : mat4 n k f d = none := by unfold mat4; rw [h]
theorem matw_0 (L : List By) : matw ([] :: L) = none := by
  rcases L with _ | ⟨k, _ | ⟨f, _ | ⟨d, _ | ⟨e, _ | ⟨x, _ | ⟨y, _ | ⟨z, _ | _⟩⟩⟩⟩⟩⟩⟩ <;> simp [matw, mat4_nil]
theorem matw_1 {n k : By} (h : kn k = none) (L : List By) : matw (n :: k :: L) = none := by
  rcases L with _ | ⟨f, _ | ⟨d, _ | ⟨e, _ | ⟨x, _ | ⟨y, _ | ⟨z, _ | _⟩⟩⟩⟩⟩⟩ <;> simp [matw, mat4_kind h]
theorem mat4_fade {n k f d : By} (h : ¬ f = wFade) : mat4 n k f d = none := by unfold mat4; split <;> simp [h]
theorem mat4_num {n k f d : By} (h : num d = none) : mat4 n k f d = none := by unfold mat4; rw [h]; split <;> simp_all
theorem matw_4 {n k f d : By} (h : mat4 n k f d = none) (L : List By) : matw (n :: k :: f :: d :: L) = none := by
  rcases L with _ | ⟨e, _ | ⟨x, _ | ⟨y, _ | ⟨z, _ | _⟩⟩⟩⟩ <;> simp [matw, h]
theorem mat4_yes {n k f d : By} {s l x : Bool} {v : Nat} (hk : kn k = some (s, l, x)) (hd : num d = some v) (hn : n ≠ []) (hf : f = wFade) : mat4 n k f d = some ⟨n, s, l, x, (v : Int), 0, 0, 0⟩ := by
  unfold mat4; rw [hk, hd]; simp [hn, hf]
theorem nv_some {w : By} {v : Nat} (h : num w = some v) : nv w = (v : Int) := by unfold nv; rw [h]; rfl
theorem some_of {α : Type} {o : Option α} (h : o.isSome = true) : ∃ v, o = some v := Option.isSome_iff_exists.1 h
theorem none_of {α : Type} {o : Option α} (h : o.isSome = false) : o = none := by cases o <;> simp_all

section
variable {x : By}
theorem pl_0 (h : wd x = []) : mat x = none := by unfold mat; rw [words_wd, h]; exact matw_0 _
theorem pl_1 (h : kn (wd (nx x)) = none) : mat x = none := by
  unfold mat; rw [words_wd]
  cases mo x
  · rfl
  · rw [if_pos rfl, words_wd (nx x)]; exact matw_1 h _
/-- where the fourth word is a number, there are four words -/
theorem four (h : (fadeR (nx (nx x))).2.1 = true) : wd (nx (nx x)) = wFade ∧ (num (wd (nx (nx (nx x))))).isSome = true ∧ words x = wd x :: wd (nx x) :: wd (nx (nx x)) :: wd (nx (nx (nx x))) :: (if mo (nx (nx (nx x))) then words (nx (nx (nx (nx x)))) else []) := by
  by_cases hf : wd (nx (nx x)) = wFade
  · rw [fadeR_2 hf] at h
    have h3 : mo (nx (nx x)) = true := by
      cases hm : mo (nx (nx x))
      · rw [nx_no hm] at h; cases h
      · rfl
    have h2 : mo (nx x) = true := by
      cases hm : mo (nx x)
      · rw [nx_no hm] at hf; cases hf
      · rfl
    have h1 : mo x = true := by
      cases hm : mo x
      · rw [nx_no hm] at hf; cases hf
      · rfl
    exact ⟨hf, h, by rw [words_wd, h1, if_pos rfl, words_wd (nx x), h2, if_pos rfl, words_wd (nx (nx x)), h3, if_pos rfl, words_wd (nx (nx (nx x)))]⟩
  · rw [fadeR_1 hf] at h; cases h
theorem pl_2 (h : (fadeR (nx (nx x))).2.1 = false) : mat x = none := by
  unfold mat; rw [words_wd]
  cases mo x
  · rfl
  rw [if_pos rfl, words_wd (nx x)]
  cases mo (nx x)
  · rfl
  rw [if_pos rfl, words_wd (nx (nx x))]
  cases hm : mo (nx (nx x))
  · rfl
  rw [if_pos rfl, words_wd (nx (nx (nx x)))]
  refine matw_4 ?_ _
  by_cases hf : wd (nx (nx x)) = wFade
  · rw [fadeR_2 hf] at h; exact mat4_num (none_of h)
  · exact mat4_fade hf
theorem fade_of (h : (fadeR (nx (nx x))).2.1 = true) : fadeR (nx (nx x)) = (nv (wd (nx (nx (nx x)))), true, nx (nx (nx (nx x))), mo (nx (nx (nx x)))) := by
  obtain ⟨hf, hn, _⟩ := four h
  rw [fadeR_2 hf, hn]
theorem pl_four {s l f : Bool} (h0 : ¬ wd x = []) (h1 : kn (wd (nx x)) = some (s, l, f)) (h2 : (fadeR (nx (nx x))).2.1 = true) (h3 : (fadeR (nx (nx x))).2.2.2 = false) : mat x = some ⟨wd x, s, l, f, (fadeR (nx (nx x))).1, 0, 0, 0⟩ := by
  obtain ⟨hf, hn, hw⟩ := four h2
  rw [fade_of h2] at h3 ⊢
  obtain ⟨v, hv⟩ := some_of hn
  unfold mat
  simp only at h3
  rw [hw, h3]
  show mat4 _ _ _ _ = _
  rw [mat4_yes h1 hv h0 hf, nv_some hv]
theorem pl_more (h2 : (fadeR (nx (nx x))).2.1 = true) (h3 : (fadeR (nx (nx x))).2.2.2 = true) : words x = wd x :: wd (nx x) :: wd (nx (nx x)) :: wd (nx (nx (nx x))) :: words (fadeR (nx (nx x))).2.2.1 := by
  obtain ⟨hf, hn, hw⟩ := four h2
  rw [fade_of h2] at h3 ⊢
  simp only at h3
  rw [hw, h3]; rfl
theorem words4 {r e y1 y2 y3 : By} (h : words r = [e, y1, y2, y3]) : e = wd r ∧ y1 = wd (nx r) ∧ y2 = wd (nx (nx r)) ∧ y3 = wd (nx (nx (nx r))) ∧ mo (nx (nx (nx r))) = false := by
  rw [words_wd] at h
  cases hm : mo r
  · rw [hm] at h; simp at h
  rw [hm, if_pos rfl, words_wd (nx r)] at h
  cases hm1 : mo (nx r)
  · rw [hm1] at h; simp at h
  rw [hm1, if_pos rfl, words_wd (nx (nx r))] at h
  cases hm2 : mo (nx (nx r))
  · rw [hm2] at h; simp at h
  rw [hm2, if_pos rfl, words_wd (nx (nx (nx r)))] at h
  cases hm3 : mo (nx (nx (nx r)))
  · rw [hm3] at h
    simp at h
    exact ⟨h.1.symm, h.2.1.symm, h.2.2.1.symm, h.2.2.2.symm, rfl⟩
  · rw [hm3, if_pos rfl] at h
    simp at h
    exact absurd h.2.2.2.2 (words_ne _)
theorem matw_tail {n k f d : By} {L : List By} (hne : L ≠ []) (h : ∀ e y1 y2 y3, L = [e, y1, y2, y3] → emit3 e y1 y2 y3 = none) : matw (n :: k :: f :: d :: L) = none := by
  rcases L with _ | ⟨e, _ | ⟨x, _ | ⟨y, _ | ⟨z, _ | _⟩⟩⟩⟩ <;> simp [matw]
  · exact absurd rfl hne
  · rw [h e x y z rfl]
    cases mat4 n k f d <;> rfl
theorem emit3_no {r : By} (h : (emitR r).2.2.2.1 = false) : emit3 (wd r) (wd (nx r)) (wd (nx (nx r))) (wd (nx (nx (nx r)))) = none := by
  by_cases he : wd r = wEmit
  · cases h1 : (num (wd (nx r))).isSome
    · unfold emit3; rw [none_of h1]
    cases h2 : (num (wd (nx (nx r)))).isSome
    · unfold emit3; rw [none_of h2]; split <;> simp_all
    cases h3 : (num (wd (nx (nx (nx r))))).isSome
    · unfold emit3; rw [none_of h3]; split <;> simp_all
    rw [emitR_5 he h1 h2 h3] at h
    obtain ⟨a, ha⟩ := some_of h1
    obtain ⟨b, hb⟩ := some_of h2
    obtain ⟨c, hc⟩ := some_of h3
    simp only [nv_some ha, nv_some hb, nv_some hc] at h
    unfold emit3
    rw [ha, hb, hc]
    simp only
    rw [if_neg]
    rintro ⟨_, h5⟩
    apply h5
    simp at h
    omega
  · unfold emit3
    split
    · rw [if_neg (fun h5 => he h5.1)]
    · rfl
theorem pl_emit_no (h2 : (fadeR (nx (nx x))).2.1 = true) (h3 : (fadeR (nx (nx x))).2.2.2 = true) (h4 : (emitR (fadeR (nx (nx x))).2.2.1).2.2.2.1 = false) : mat x = none := by
  unfold mat; rw [pl_more h2 h3]
  refine matw_tail (words_ne _) ?_
  intro e y1 y2 y3 hL
  obtain ⟨rfl, rfl, rfl, rfl, _⟩ := words4 hL
  exact emit3_no h4
theorem emit_of {r : By} (h : (emitR r).2.2.2.1 = true) : wd r = wEmit ∧ (num (wd (nx r))).isSome = true ∧ (num (wd (nx (nx r)))).isSome = true ∧ (num (wd (nx (nx (nx r))))).isSome = true := by
  by_cases he : wd r = wEmit
  · cases h1 : (num (wd (nx r))).isSome
    · rw [emitR_2 he h1] at h; cases h
    cases h2 : (num (wd (nx (nx r)))).isSome
    · rw [emitR_3 he h1 h2] at h; cases h
    cases h3 : (num (wd (nx (nx (nx r))))).isSome
    · rw [emitR_4 he h1 h2 h3] at h; cases h
    exact ⟨he, rfl, rfl, rfl⟩
  · rw [emitR_1 he] at h; cases h
theorem pl_emit_more (h2 : (fadeR (nx (nx x))).2.1 = true) (h3 : (fadeR (nx (nx x))).2.2.2 = true) (h4 : (emitR (fadeR (nx (nx x))).2.2.1).2.2.2.1 = true) (h5 : (emitR (fadeR (nx (nx x))).2.2.1).2.2.2.2.2 = true) : mat x = none := by
  unfold mat; rw [pl_more h2 h3]
  refine matw_tail (words_ne _) ?_
  intro e y1 y2 y3 hL
  obtain ⟨_, _, _, _, hm⟩ := words4 hL
  obtain ⟨he, n1, n2, n3⟩ := emit_of h4
  rw [emitR_5 he n1 n2 n3] at h5
  rw [hm] at h5; cases h5
theorem words_four {r : By} (h : (emitR r).2.2.2.1 = true) (h5 : (emitR r).2.2.2.2.2 = false) : words r = [wd r, wd (nx r), wd (nx (nx r)), wd (nx (nx (nx r)))] := by
  obtain ⟨he, n1, n2, n3⟩ := emit_of h
  rw [emitR_5 he n1 n2 n3] at h5
  have m1 : mo r = true := by
    cases hm : mo r
    · rw [nx_no hm] at n1; cases n1
    · rfl
  have m2 : mo (nx r) = true := by
    cases hm : mo (nx r)
    · rw [nx_no hm] at n2; cases n2
    · rfl
  have m3 : mo (nx (nx r)) = true := by
    cases hm : mo (nx (nx r))
    · rw [nx_no hm] at n3; cases n3
    · rfl
  simp only at h5
  rw [words_wd, m1, if_pos rfl, words_wd (nx r), m2, if_pos rfl, words_wd (nx (nx r)), m3, if_pos rfl, words_wd (nx (nx (nx r))), h5]
  rfl
theorem pl_eight {s l f : Bool} (h0 : ¬ wd x = []) (h1 : kn (wd (nx x)) = some (s, l, f)) (h2 : (fadeR (nx (nx x))).2.1 = true) (h3 : (fadeR (nx (nx x))).2.2.2 = true)
    (h4 : (emitR (fadeR (nx (nx x))).2.2.1).2.2.2.1 = true) (h5 : (emitR (fadeR (nx (nx x))).2.2.1).2.2.2.2.2 = false) :
    mat x = some ⟨wd x, s, l, f, (fadeR (nx (nx x))).1, (emitR (fadeR (nx (nx x))).2.2.1).1, (emitR (fadeR (nx (nx x))).2.2.1).2.1, (emitR (fadeR (nx (nx x))).2.2.1).2.2.1⟩ := by
  obtain ⟨hf, hn, _⟩ := four h2
  obtain ⟨v, hv⟩ := some_of hn
  have hfe := fade_of h2
  generalize hr : (fadeR (nx (nx x))).2.2.1 = r at *
  obtain ⟨he, n1, n2, n3⟩ := emit_of h4
  obtain ⟨a, ha⟩ := some_of n1
  obtain ⟨b, hb⟩ := some_of n2
  obtain ⟨c, hc⟩ := some_of n3
  have hm := h4
  rw [emitR_5 he n1 n2 n3] at hm ⊢
  simp only [nv_some ha, nv_some hb, nv_some hc] at hm ⊢
  unfold mat
  rw [pl_more h2 h3, hr, words_four h4 h5]
  show (match mat4 _ _ _ _, emit3 _ _ _ _ with | some m, some (a, b, c) => _ | _, _ => none) = _
  rw [mat4_yes h1 hv h0 hf]
  have e3 : emit3 (wd r) (wd (nx r)) (wd (nx (nx r))) (wd (nx (nx (nx r)))) = some (a, b, c) := by
    unfold emit3; rw [ha, hb, hc]
    simp only
    rw [if_pos]
    refine ⟨he, ?_⟩
    simp at hm
    omega
  rw [e3, hfe, nv_some hv]
end
end Go.Proofs.YtpjjddjoegnipaaDoor.Ma
