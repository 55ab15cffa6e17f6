/-
  Plain mathematics: what the encodings of strings and lists decode to.
-/
import Derived.Test.YtfaadaahpjpfaaaDoorMathb
namespace Go.Proofs.YtfaadaahpjpfaaaDoor
namespace Wm

theorem getLen_enc (size N : Nat) (tail : List UInt8) (hN : N ≤ 1099511627776) (h : N ≤ tail.length / size) :
    getLen size (encI (N : Int) ++ tail) = ((N : Int), (encI (N : Int)).length, 0) := by
  unfold getLen
  rw [getI_enc (N : Int) tail (by omega) (by omega)]
  have e : (encI (N : Int) ++ tail).length - (encI (N : Int)).length = tail.length := by rw [List.length_append]; omega
  simp only [e]
  rw [if_neg (by simp), if_neg (by omega), if_neg (by omega)]

theorem getLen_short (size N : Nat) (tail : List UInt8) (hN : N ≤ 1099511627776) (h : tail.length / size < N) :
    getLen size (encI (N : Int) ++ tail) = (0, 0, 5) := by
  unfold getLen
  rw [getI_enc (N : Int) tail (by omega) (by omega)]
  have e : (encI (N : Int) ++ tail).length - (encI (N : Int)).length = tail.length := by rw [List.length_append]; omega
  simp only [e]
  rw [if_neg (by simp), if_neg (by omega), if_pos (by omega)]

theorem getLen_cut (size N j : Nat) (hN : N ≤ 1099511627776) (h : j < (encI (N : Int)).length) :
    getLen size ((encI (N : Int)).take j) = (0, 0, 5) := by
  unfold getLen
  rw [getI_cut (N : Int) j (by omega) (by omega) h]
  rw [if_pos (by simp)]

theorem getS_enc (s tail : List UInt8) (hs : s.length ≤ 1099511627776) : getS (encS s ++ tail) = (s, (encS s).length, 0) := by
  unfold getS encS
  rw [List.append_assoc, getLen_enc 1 s.length (s ++ tail) hs (by rw [Nat.div_one, List.length_append]; omega)]
  rw [if_neg (by simp)]
  simp only [Int.toNat_natCast]
  rw [List.drop_append_of_le_length (Nat.le_refl _), List.drop_length, List.nil_append, List.take_left, List.length_append]

theorem getS_cut (s : List UInt8) (j : Nat) (hs : s.length ≤ 1099511627776) (h : j < (encS s).length) : getS ((encS s).take j) = ([], 0, 5) := by
  unfold encS at h ⊢
  unfold getS
  by_cases hj : j < (encI (s.length : Int)).length
  · rw [List.take_append_of_le_length (by omega), getLen_cut 1 s.length j hs hj, if_pos (by simp)]
  · rw [List.length_append] at h
    rw [List.take_append, List.take_of_length_le (by omega), getLen_short 1 s.length _ hs (by rw [Nat.div_one, List.length_take]; omega), if_pos (by simp)]

theorem getLen_ok {size : Nat} {l : List UInt8} (h : (getLen size l).2.2 = 0) :
    ∃ (N : Nat) (tail : List UInt8), l = encI (N : Int) ++ tail ∧ getLen size l = ((N : Int), (encI (N : Int)).length, 0) ∧ N ≤ tail.length / size := by
  unfold getLen at h ⊢
  by_cases h1 : (getI l).2.2 ≠ 0
  · rw [if_pos h1] at h; exact absurd h h1
  · rw [if_neg h1] at h ⊢
    obtain ⟨n, tail, hl, e, b1, b2⟩ := getI_ok (by simpa using h1)
    have hlen : l.length - (encI n).length = tail.length := by rw [hl, List.length_append]; omega
    rw [e] at h ⊢
    simp only [hlen] at h ⊢
    by_cases h2 : n < 0
    · rw [if_pos h2] at h; simp at h
    · rw [if_neg h2] at h ⊢
      by_cases h3 : ((tail.length / size : Nat) : Int) < n
      · rw [if_pos h3] at h; simp at h
      · rw [if_neg h3]
        obtain ⟨N, rfl⟩ := Int.eq_ofNat_of_zero_le (show 0 ≤ n by omega)
        exact ⟨N, tail, hl, rfl, by omega⟩

theorem getS_ok {l : List UInt8} (h : (getS l).2.2 = 0) : ∃ s tail, l = encS s ++ tail ∧ getS l = (s, (encS s).length, 0) := by
  unfold getS at h ⊢
  by_cases h1 : (getLen 1 l).2.2 ≠ 0
  · rw [if_pos h1] at h; exact absurd h h1
  · rw [if_neg h1]
    obtain ⟨N, tail, hl, e, hN⟩ := getLen_ok (by simpa using h1)
    rw [Nat.div_one] at hN
    have ht : (tail.take N).length = N := by rw [List.length_take]; omega
    refine ⟨tail.take N, tail.drop N, ?_, ?_⟩
    · unfold encS; rw [ht, List.append_assoc, List.take_append_drop]; exact hl
    · rw [e, hl]
      simp only [Int.toNat_natCast]
      unfold encS
      rw [ht, List.length_append, ht, List.drop_append_of_le_length (Nat.le_refl _), List.drop_length, List.nil_append]

section
variable {α : Type} {g : List UInt8 → α × Nat × Int} {f : α → List UInt8}

theorem elems_enc : ∀ (l : List α) (acc : List α) (used : Nat) (tail : List UInt8), (∀ x ∈ l, ∀ t, g (f x ++ t) = (x, (f x).length, 0)) →
    elems g l.length acc used (l.flatMap f ++ tail) = (acc ++ l, used + (l.flatMap f).length, 0)
  | [], acc, used, tail, _ => by simp [elems]
  | x :: r, acc, used, tail, h => by
    have hx := h x (by simp) (r.flatMap f ++ tail)
    rw [List.length_cons, elems, List.flatMap_cons, List.append_assoc, hx, if_neg (by simp)]
    simp only
    rw [List.drop_append_of_le_length (Nat.le_refl _), List.drop_length, List.nil_append, elems_enc r _ _ tail (fun y hy => h y (by simp [hy]))]
    simp [Nat.add_assoc]

theorem elems_cut : ∀ (l : List α) (acc : List α) (used j : Nat), (∀ x ∈ l, ∀ t, g (f x ++ t) = (x, (f x).length, 0)) → (∀ x ∈ l, ∀ j, j < (f x).length → (g ((f x).take j)).2.2 = 5) →
    j < (l.flatMap f).length → elems g l.length acc used ((l.flatMap f).take j) = ([], 0, 5)
  | [], acc, used, j, _, _, hj => by simp at hj
  | x :: r, acc, used, j, h, hc, hj => by
    rw [List.length_cons, elems, List.flatMap_cons]
    rw [List.flatMap_cons, List.length_append] at hj
    by_cases h1 : j < (f x).length
    · have h2 := hc x (by simp) j h1
      rw [List.take_append_of_le_length (by omega), if_pos (by rw [h2]; simp), h2]
    · have hx := h x (by simp) ((r.flatMap f).take (j - (f x).length))
      rw [List.take_append, List.take_of_length_le (by omega), hx, if_neg (by simp)]
      simp only
      rw [List.drop_append_of_le_length (Nat.le_refl _), List.drop_length, List.nil_append]
      exact elems_cut r _ _ _ (fun y hy => h y (by simp [hy])) (fun y hy => hc y (by simp [hy])) (by omega)

theorem elems_ok (p : α → Prop) : ∀ (n : Nat) (acc : List α) (used : Nat) (r : List UInt8), (∀ r, (g r).2.2 = 0 → ∃ x t, r = f x ++ t ∧ g r = (x, (f x).length, 0) ∧ p x) → (elems g n acc used r).2.2 = 0 →
    ∃ xs t, r = xs.flatMap f ++ t ∧ xs.length = n ∧ elems g n acc used r = (acc ++ xs, used + (xs.flatMap f).length, 0) ∧ ∀ x ∈ xs, p x
  | 0, acc, used, r, _, _ => ⟨[], r, by simp, rfl, by simp [elems], by simp⟩
  | n + 1, acc, used, r, h, he => by
    rw [elems] at he ⊢
    by_cases h1 : (g r).2.2 ≠ 0
    · rw [if_pos h1] at he; exact absurd he h1
    · rw [if_neg h1] at he ⊢
      obtain ⟨x, t, hr, e, hp⟩ := h r (by simpa using h1)
      rw [e] at he ⊢
      simp only at he ⊢
      have hd : r.drop (f x).length = t := by rw [hr, List.drop_append_of_le_length (Nat.le_refl _), List.drop_length, List.nil_append]
      rw [hd] at he ⊢
      obtain ⟨xs, t2, ht, hl, e2, hp2⟩ := elems_ok p n _ _ t h he
      refine ⟨x :: xs, t2, by rw [List.flatMap_cons, List.append_assoc, ← ht]; exact hr, by simp [hl], ?_, ?_⟩
      · rw [e2]; simp [Nat.add_assoc]
      · intro y hy
        rcases List.mem_cons.1 hy with rfl | hy
        · exact hp
        · exact hp2 y hy

theorem flat_ge {size : Nat} : ∀ (l : List α), (∀ x ∈ l, size ≤ (f x).length) → l.length * size ≤ (l.flatMap f).length
  | [], _ => by simp
  | x :: r, h => by
    have h1 := h x (by simp)
    have h2 := flat_ge r (fun y hy => h y (by simp [hy]))
    rw [List.length_cons, List.flatMap_cons, List.length_append, Nat.succ_mul]; omega

theorem getL_enc {size : Nat} (hz : 0 < size) (l : List α) (tail : List UInt8) (hl : l.length ≤ 1099511627776) (h : ∀ x ∈ l, ∀ t, g (f x ++ t) = (x, (f x).length, 0)) (hs : ∀ x ∈ l, size ≤ (f x).length) :
    getL size g (encI (l.length : Int) ++ l.flatMap f ++ tail) = (l, (encI (l.length : Int) ++ l.flatMap f).length, 0) := by
  unfold getL
  have hg := flat_ge l hs
  rw [List.append_assoc, getLen_enc size l.length (l.flatMap f ++ tail) hl (by rw [Nat.le_div_iff_mul_le hz, List.length_append]; omega)]
  rw [if_neg (by simp)]
  simp only [Int.toNat_natCast]
  rw [List.drop_append_of_le_length (Nat.le_refl _), List.drop_length, List.nil_append, elems_enc l [] _ tail h, List.length_append]
  simp

theorem getL_cut {size : Nat} (l : List α) (j : Nat) (hl : l.length ≤ 1099511627776) (h : ∀ x ∈ l, ∀ t, g (f x ++ t) = (x, (f x).length, 0)) (hc : ∀ x ∈ l, ∀ j, j < (f x).length → (g ((f x).take j)).2.2 = 5)
    (hj : j < (encI (l.length : Int) ++ l.flatMap f).length) : (getL size g ((encI (l.length : Int) ++ l.flatMap f).take j)).2.2 = 5 := by
  unfold getL
  by_cases h1 : j < (encI (l.length : Int)).length
  · rw [List.take_append_of_le_length (by omega), getLen_cut size l.length j hl h1, if_pos (by simp)]
  · rw [List.length_append] at hj
    rw [List.take_append, List.take_of_length_le (by omega)]
    generalize hb : (l.flatMap f).take (j - (encI (l.length : Int)).length) = body
    by_cases h2 : body.length / size < l.length
    · rw [getLen_short size l.length body hl h2, if_pos (by simp)]
    · rw [getLen_enc size l.length body hl (by omega), if_neg (by simp)]
      simp only [Int.toNat_natCast]
      rw [List.drop_append_of_le_length (Nat.le_refl _), List.drop_length, List.nil_append, ← hb, elems_cut l [] _ _ h hc (by omega)]

theorem getL_ok {size : Nat} (p : α → Prop) {l : List UInt8} (h : ∀ r, (g r).2.2 = 0 → ∃ x t, r = f x ++ t ∧ g r = (x, (f x).length, 0) ∧ p x) (he : (getL size g l).2.2 = 0) :
    ∃ xs t, l = (encI (xs.length : Int) ++ xs.flatMap f) ++ t ∧ getL size g l = (xs, (encI (xs.length : Int) ++ xs.flatMap f).length, 0) ∧ ∀ x ∈ xs, p x := by
  unfold getL at he ⊢
  by_cases h1 : (getLen size l).2.2 ≠ 0
  · rw [if_pos h1] at he; exact absurd he h1
  · rw [if_neg h1] at he ⊢
    obtain ⟨N, tail, hl, e, hN⟩ := getLen_ok (by simpa using h1)
    rw [e] at he ⊢
    simp only [Int.toNat_natCast] at he ⊢
    have hd : l.drop (encI (N : Int)).length = tail := by rw [hl, List.drop_append_of_le_length (Nat.le_refl _), List.drop_length, List.nil_append]
    rw [hd] at he ⊢
    obtain ⟨xs, t, ht, hx, e2, hp⟩ := elems_ok p N [] _ tail h he
    subst hx
    exact ⟨xs, t, by rw [List.append_assoc, ← ht]; exact hl, by rw [e2, List.length_append]; simp, hp⟩
end

theorem encS_pos (s : List UInt8) : 1 ≤ (encS s).length := by
  unfold encS; rw [List.length_append]
  have := enc_pos (zig (s.length : Int))
  unfold encI; omega

theorem getIs_enc (l : List Int) (tail : List UInt8) (hl : l.length ≤ 1099511627776) (h : ∀ n ∈ l, -9223372036854775808 ≤ n ∧ n ≤ 9223372036854775807) : getL 1 getI (encIs l ++ tail) = (l, (encIs l).length, 0) :=
  getL_enc (by decide) l tail hl (fun x hx t => getI_enc x t (h x hx).1 (h x hx).2) (fun x _ => enc_pos _)
theorem getIs_cut (l : List Int) (j : Nat) (hl : l.length ≤ 1099511627776) (h : ∀ n ∈ l, -9223372036854775808 ≤ n ∧ n ≤ 9223372036854775807) (hj : j < (encIs l).length) : (getL 1 getI ((encIs l).take j)).2.2 = 5 :=
  getL_cut l j hl (fun x hx t => getI_enc x t (h x hx).1 (h x hx).2) (fun x hx j hj => by rw [getI_cut x j (h x hx).1 (h x hx).2 hj]) hj
theorem getIs_ok {l : List UInt8} (he : (getL 1 getI l).2.2 = 0) : ∃ xs t, l = encIs xs ++ t ∧ getL 1 getI l = (xs, (encIs xs).length, 0) ∧ ∀ n ∈ xs, -9223372036854775808 ≤ n ∧ n ≤ 9223372036854775807 :=
  getL_ok (fun n : Int => -9223372036854775808 ≤ n ∧ n ≤ 9223372036854775807) (fun r hr => by
    obtain ⟨n, t, h1, h2, h3, h4⟩ := getI_ok hr
    exact ⟨n, t, h1, h2, h3, h4⟩) he

theorem getSs_enc (l : List (List UInt8)) (tail : List UInt8) (hl : l.length ≤ 1099511627776) (h : ∀ s ∈ l, s.length ≤ 1099511627776) : getL 1 getS (encSs l ++ tail) = (l, (encSs l).length, 0) :=
  getL_enc (by decide) l tail hl (fun x hx t => getS_enc x t (h x hx)) (fun x _ => encS_pos x)
theorem getSs_cut (l : List (List UInt8)) (j : Nat) (hl : l.length ≤ 1099511627776) (h : ∀ s ∈ l, s.length ≤ 1099511627776) (hj : j < (encSs l).length) : (getL 1 getS ((encSs l).take j)).2.2 = 5 :=
  getL_cut l j hl (fun x hx t => getS_enc x t (h x hx)) (fun x hx j hj => by rw [getS_cut x j (h x hx) hj]) hj
theorem getSs_ok {l : List UInt8} (he : (getL 1 getS l).2.2 = 0) : ∃ xs t, l = encSs xs ++ t ∧ getL 1 getS l = (xs, (encSs xs).length, 0) := by
  obtain ⟨xs, t, h1, h2, _⟩ := getL_ok (fun _ : List UInt8 => True) (fun r hr => by
    obtain ⟨n, t, h1, h2⟩ := getS_ok hr
    exact ⟨n, t, h1, h2, trivial⟩) he
  exact ⟨xs, t, h1, h2⟩

theorem flatMap_id (l : List (List UInt8)) : l.flatMap (fun x => x) = l.flatten := by
  induction l with
  | nil => rfl
  | cons x r ih => rw [List.flatMap_cons, ih, List.flatten_cons]
theorem getDs_enc (l : List (List UInt8)) (tail : List UInt8) (hl : l.length ≤ 1099511627776) (h : ∀ d ∈ l, d.length = 16) : getL 16 getD (encDs l ++ tail) = (l, (encDs l).length, 0) := by
  have := getL_enc (g := getD) (f := fun x => x) (size := 16) (by decide) l tail hl (fun x hx t => by unfold getD; rw [List.take_left' (h x hx), h x hx]) (fun x hx => by rw [h x hx]; exact Nat.le_refl _)
  rw [flatMap_id] at this
  exact this
theorem getDs_cut (l : List (List UInt8)) (j : Nat) (hl : l.length ≤ 1099511627776) (h : ∀ d ∈ l, d.length = 16) (hj : j < (encDs l).length) : (getL 16 getD ((encDs l).take j)).2.2 = 5 := by
  have hfl : l.flatten.length = l.length * 16 := by
    clear hj hl
    induction l with
    | nil => rfl
    | cons d r ih => rw [List.flatten_cons, List.length_append, h d (by simp), ih (fun x hx => h x (by simp [hx])), List.length_cons]; omega
  unfold encDs at hj ⊢
  unfold getL
  by_cases h1 : j < (encI (l.length : Int)).length
  · rw [List.take_append_of_le_length (by omega), getLen_cut 16 l.length j hl h1, if_pos (by simp)]
  · rw [List.length_append] at hj
    rw [List.take_append, List.take_of_length_le (by omega), getLen_short 16 l.length _ hl (by
      rw [List.length_take]
      have : min (j - (encI (l.length : Int)).length) l.flatten.length < l.length * 16 := by omega
      omega), if_pos (by simp)]
theorem elemsD : ∀ (n : Nat) (acc : List (List UInt8)) (used : Nat) (r : List UInt8), n * 16 ≤ r.length →
    ∃ xs t, r = xs.flatten ++ t ∧ xs.length = n ∧ elems getD n acc used r = (acc ++ xs, used + xs.flatten.length, 0) ∧ ∀ d ∈ xs, d.length = 16
  | 0, acc, used, r, _ => ⟨[], r, by simp, rfl, by simp [elems], by simp⟩
  | n + 1, acc, used, r, h => by
    obtain ⟨xs, t, h1, h2, h3, h4⟩ := elemsD n (acc ++ [r.take 16]) (used + 16) (r.drop 16) (by rw [List.length_drop]; omega)
    have h16 : (r.take 16).length = 16 := by rw [List.length_take]; omega
    refine ⟨r.take 16 :: xs, t, ?_, by simp [h2], ?_, ?_⟩
    · rw [List.flatten_cons, List.append_assoc, ← h1, List.take_append_drop]
    · rw [elems, if_neg (by simp [getD])]
      simp only [getD]
      rw [h3, List.flatten_cons, List.length_append, h16]
      simp [Nat.add_assoc]
    · intro d hd
      rcases List.mem_cons.1 hd with rfl | hd
      · exact h16
      · exact h4 d hd
theorem getDs_ok {l : List UInt8} (he : (getL 16 getD l).2.2 = 0) : ∃ xs t, l = encDs xs ++ t ∧ getL 16 getD l = (xs, (encDs xs).length, 0) ∧ ∀ d ∈ xs, d.length = 16 := by
  unfold getL at he ⊢
  by_cases h1 : (getLen 16 l).2.2 ≠ 0
  · rw [if_pos h1] at he; exact absurd he h1
  · rw [if_neg h1]
    obtain ⟨N, tail, hl, e, hN⟩ := getLen_ok (by simpa using h1)
    rw [e]
    simp only [Int.toNat_natCast]
    have hd : l.drop (encI (N : Int)).length = tail := by rw [hl, List.drop_append_of_le_length (Nat.le_refl _), List.drop_length, List.nil_append]
    rw [hd]
    obtain ⟨xs, t, ht, hx, e2, hp⟩ := elemsD N [] (encI (N : Int)).length tail (by omega)
    subst hx
    exact ⟨xs, t, by unfold encDs; rw [List.append_assoc, ← ht]; exact hl, by rw [e2]; unfold encDs; rw [List.length_append]; simp, hp⟩

theorem encIs_len (l : List Int) (h : ∀ n ∈ l, -9223372036854775808 ≤ n ∧ n ≤ 9223372036854775807) (hl : l.length ≤ 1099511627776) : (encIs l).length ≤ 10 + 10 * l.length := by
  unfold encIs
  rw [List.length_append]
  have h1 := encI_len (l.length : Int) (by omega) (by omega)
  have h2 : (l.flatMap encI).length ≤ 10 * l.length := by
    clear h1 hl
    induction l with
    | nil => simp
    | cons x r ih =>
      have h3 := encI_len x (h x (by simp)).1 (h x (by simp)).2
      have h4 := ih (fun y hy => h y (by simp [hy]))
      rw [List.flatMap_cons, List.length_append, List.length_cons]; omega
  omega

end Wm
end Go.Proofs.YtfaadaahpjpfaaaDoor
