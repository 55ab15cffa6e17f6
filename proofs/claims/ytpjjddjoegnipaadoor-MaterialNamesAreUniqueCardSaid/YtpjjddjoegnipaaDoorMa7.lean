/-
  Tables and texts are inverse to each other. (No program.)
-/
import Derived.Test.YtpjjddjoegnipaaDoorMag
namespace Go.Proofs.YtpjjddjoegnipaaDoor.Ma
open Go
set_option linter.unusedVariables false
theorem same_self (a : List Mt) : same a a = true := decide_eq_true rfl
/-- words joined by single blanks -/
def unw : List By → By
  | [] => []
  | [w] => w
  | w :: v :: r => w ++ 32 :: unw (v :: r)
theorem unw_cons (b : UInt8) (w : By) (ws : List By) : unw ((b :: w) :: ws) = b :: unw (w :: ws) := by cases ws <;> rfl
theorem unw_words : ∀ l : By, unw (words l) = l
  | [] => rfl
  | b :: r => by
    have ih := unw_words r
    have hne := words_ne r
    unfold words
    split
    · next h =>
      subst h
      cases hw : words r with
      | nil => exact absurd hw hne
      | cons v ws => rw [hw] at ih; show ([] : By) ++ 32 :: unw (v :: ws) = _; rw [ih]; rfl
    · cases hw : words r with
      | nil => exact absurd hw hne
      | cons v ws => rw [hw] at ih; simp only; rw [unw_cons, ih]
theorem words_word : ∀ w : By, (∀ b ∈ w, b ≠ 32) → words w = [w]
  | [], _ => rfl
  | b :: r, h => by
    have ih := words_word r (fun c hc => h c (List.mem_cons_of_mem _ hc))
    unfold words
    rw [if_neg (h b (List.mem_cons_self ..)), ih]
theorem words_app : ∀ (w r : By), (∀ b ∈ w, b ≠ 32) → words (w ++ 32 :: r) = w :: words r
  | [], r, _ => rfl
  | b :: t, r, h => by
    have ih := words_app t r (fun c hc => h c (List.mem_cons_of_mem _ hc))
    show words (b :: (t ++ 32 :: r)) = _
    conv => lhs; unfold words
    rw [if_neg (h b (List.mem_cons_self ..)), ih]
theorem words_unw : ∀ ws : List By, ws ≠ [] → (∀ w ∈ ws, ∀ b ∈ w, b ≠ 32) → words (unw ws) = ws
  | [], h, _ => absurd rfl h
  | [w], _, h => words_word w (h w (List.mem_cons_self ..))
  | w :: v :: r, _, h => by
    show words (w ++ 32 :: unw (v :: r)) = _
    rw [words_app w _ (h w (List.mem_cons_self ..)), words_unw (v :: r) (by simp) (fun u hu => h u (List.mem_cons_of_mem _ hu))]
theorem kn_kw {m : Mt} {k : By} (h : kn k = some (m.s, m.l, m.f)) : kw m = k := by
  have h1 := (kn_kd m.s m.l m.f k).1 h
  have h2 := kd_kw (m := m) (by rw [h1]; rfl)
  rw [h1] at h2; injection h2 with h2; exact h2.symm
theorem kn_of {m : Mt} (h : (kd m.s m.l m.f).isSome = true) : kn (kw m) = some (m.s, m.l, m.f) := (kn_kd m.s m.l m.f _).2 (kd_kw h)
theorem mat4_of {n k f d : By} {m : Mt} (h : mat4 n k f d = some m) : ∃ v, kn k = some (m.s, m.l, m.f) ∧ num d = some v ∧ n ≠ [] ∧ f = wFade ∧ m = ⟨n, m.s, m.l, m.f, (v : Int), 0, 0, 0⟩ := by
  unfold mat4 at h
  split at h
  · next s l x v hk hd =>
    split at h
    · next hc => injection h with h; subst h; exact ⟨v, hk, hd, hc.1, hc.2, rfl⟩
    · cases h
  · cases h
theorem emit3_of {e x y z : By} {a b c : Nat} (h : emit3 e x y z = some (a, b, c)) : e = wEmit ∧ num x = some a ∧ num y = some b ∧ num z = some c ∧ ¬ (a = 0 ∧ b = 0 ∧ c = 0) := by
  unfold emit3 at h
  split at h
  · next hx hy hz =>
    split at h
    · next hc => injection h with h; injection h with h1 h2; injection h2 with h2 h3; subst h1; subst h2; subst h3; exact ⟨hc.1, hx, hy, hz, hc.2⟩
    · cases h
  · cases h
/-- what is read is printed as it was -/
theorem line_of {l : By} {m : Mt} (h : mat l = some m) : line m = l := by
  have hu := unw_words l
  unfold mat at h
  match hw : words l with
  | [n, k, f, d] =>
    rw [hw] at h hu
    obtain ⟨v, hk, hd, hn, hf, hm⟩ := mat4_of h
    have hkw := kn_kw hk
    have hz : m.a = 0 ∧ m.b = 0 ∧ m.c = 0 := by rw [hm]; exact ⟨rfl, rfl, rfl⟩
    rw [line_dark hz, hkw, show m.n = n by rw [hm], show m.fd = (v : Int) by rw [hm], itoa_num hd, ← hf, ← hu]
    simp [unw]
  | [n, k, f, d, e, x, y, z] =>
    rw [hw] at h hu
    have h' : (match mat4 n k f d, emit3 e x y z with | some m, some (a, b, c) => some { m with a := (a : Int), b := (b : Int), c := (c : Int) } | _, _ => none) = some m := h
    cases h4 : mat4 n k f d with
    | none => rw [h4] at h'; cases h'
    | some m4 =>
      cases h3 : emit3 e x y z with
      | none => rw [h4, h3] at h'; cases h'
      | some t =>
        obtain ⟨a, b, c⟩ := t
        rw [h4, h3] at h'
        injection h' with h'
        obtain ⟨v, hk, hd, hn, hf, hm⟩ := mat4_of h4
        obtain ⟨he, hx, hy, hz, hnz⟩ := emit3_of h3
        have hkw : kw m = k := by
          rw [← h']; exact kn_kw (m := { m4 with a := (a : Int), b := (b : Int), c := (c : Int) }) hk
        have hn0 : ¬ (m.a = 0 ∧ m.b = 0 ∧ m.c = 0) := by rw [← h']; simp only; omega
        rw [line_light hn0, hkw, show m.n = n by rw [← h', hm], show m.fd = (v : Int) by rw [← h', hm], show m.a = (a : Int) by rw [← h'], show m.b = (b : Int) by rw [← h'], show m.c = (c : Int) by rw [← h'], itoa_num hd, itoa_num hx, itoa_num hy, itoa_num hz, ← hf, ← he, ← hu]
        simp [unw]
  | [] => exact absurd hw (words_ne l)
  | [_] => rw [hw] at h; cases h
  | [_, _] => rw [hw] at h; cases h
  | [_, _, _] => rw [hw] at h; cases h
  | [_, _, _, _, _] => rw [hw] at h; cases h
  | [_, _, _, _, _, _] => rw [hw] at h; cases h
  | [_, _, _, _, _, _, _] => rw [hw] at h; cases h
  | _ :: _ :: _ :: _ :: _ :: _ :: _ :: _ :: _ :: _ => rw [hw] at h; cases h
theorem itoa_clean : ∀ i : Fin 100, (Lib.itoa (i.val : Int)).all (fun b => b != 32 && b != 10) = true := by decide +kernel
theorem clean_itoa {n : Int} (h : 0 ≤ n) (h2 : n < 100) : ∀ b ∈ Lib.itoa n, b ≠ 32 ∧ b ≠ 10 := by
  obtain ⟨i, rfl⟩ : ∃ i : Nat, n = (i : Int) := ⟨n.toNat, by omega⟩
  have := itoa_clean ⟨i, by omega⟩
  intro b hb
  simpa using List.all_eq_true.1 this b hb
theorem clean_kw (m : Mt) : ∀ b ∈ kw m, b ≠ 32 ∧ b ≠ 10 := by
  have h : (kw m).all (fun b => b != 32 && b != 10) = true := by
    unfold kw; split
    · decide
    split
    · decide
    split <;> decide
  intro b hb
  simpa using List.all_eq_true.1 h b hb
theorem clean_name {x : By} (h : nameOk x = true) : ∀ b ∈ x, b ≠ 32 ∧ b ≠ 10 := by
  unfold nameOk at h
  simp only [Bool.and_eq_true, decide_eq_true_eq] at h
  intro b hb
  obtain ⟨i, hi, rfl⟩ := List.getElem_of_mem hb
  have h1 := ff_all.1 h.2 i hi
  have e : byt x i = x[i] := by unfold byt; rw [List.getD_eq_getElem?_getD, List.getElem?_eq_getElem hi]; rfl
  unfold okc at h1
  rw [e] at h1
  constructor
  · intro h2; rw [h2] at h1; revert h1; simp [letter]
  · intro h2; rw [h2] at h1; revert h1; simp [letter]
theorem clean_f : ∀ b ∈ wFade, b ≠ 32 ∧ b ≠ 10 := by decide
theorem clean_e : ∀ b ∈ wEmit, b ≠ 32 ∧ b ≠ 10 := by decide
theorem num_of {n : Int} (h : 0 ≤ n) (h2 : n < 100) : num (Lib.itoa n) = some n.toNat := by
  have := num_itoa (v := n.toNat) (by omega)
  rwa [show ((n.toNat : Nat) : Int) = n by omega] at this
/-- what is printed of a valid material is read again -/
theorem mat_line {m : Mt} (h : vld m = true) : mat (line m) = some m := by
  obtain ⟨hk, ha, hb, hc, hn, hf⟩ := vld_of h
  have hne : m.n ≠ [] := by intro e; have := (name_le hn).1; rw [e] at this; simp at this
  have h4 := mat4_yes (kn_of hk) (num_of (n := m.fd) (by omega) (by omega)) hne (rfl : wFade = wFade)
  have c1 := clean_name hn
  have c2 := clean_kw m
  have c4 := clean_itoa (n := m.fd) (by omega) (by omega)
  have e1 : ((m.fd.toNat : Nat) : Int) = m.fd := by omega
  by_cases hz : m.a = 0 ∧ m.b = 0 ∧ m.c = 0
  · have e : line m = unw [m.n, kw m, wFade, Lib.itoa m.fd] := by rw [line_dark hz]; simp [unw]
    rw [mat_w (ws := [m.n, kw m, wFade, Lib.itoa m.fd]) (by
      rw [e]
      refine words_unw _ (by simp) ?_
      intro w hw
      simp only [List.mem_cons, List.not_mem_nil, or_false] at hw
      rcases hw with rfl | rfl | rfl | rfl
      · exact fun b hb => (c1 b hb).1
      · exact fun b hb => (c2 b hb).1
      · exact fun b hb => (clean_f b hb).1
      · exact fun b hb => (c4 b hb).1)]
    show mat4 _ _ _ _ = _
    rw [h4, e1]
    obtain ⟨n, s, l, f, fd, a, b, c⟩ := m
    obtain ⟨h1, h2, h3⟩ := hz
    simp only at h1 h2 h3
    subst h1; subst h2; subst h3; rfl
  · have c5 := clean_itoa (n := m.a) (by omega) (by omega)
    have c6 := clean_itoa (n := m.b) (by omega) (by omega)
    have c7 := clean_itoa (n := m.c) (by omega) (by omega)
    have e : line m = unw [m.n, kw m, wFade, Lib.itoa m.fd, wEmit, Lib.itoa m.a, Lib.itoa m.b, Lib.itoa m.c] := by rw [line_light hz]; simp [unw]
    rw [mat_w (ws := [m.n, kw m, wFade, Lib.itoa m.fd, wEmit, Lib.itoa m.a, Lib.itoa m.b, Lib.itoa m.c]) (by
      rw [e]
      refine words_unw _ (by simp) ?_
      intro w hw
      simp only [List.mem_cons, List.not_mem_nil, or_false] at hw
      rcases hw with rfl | rfl | rfl | rfl | rfl | rfl | rfl | rfl
      · exact fun b hb => (c1 b hb).1
      · exact fun b hb => (c2 b hb).1
      · exact fun b hb => (clean_f b hb).1
      · exact fun b hb => (c4 b hb).1
      · exact fun b hb => (clean_e b hb).1
      · exact fun b hb => (c5 b hb).1
      · exact fun b hb => (c6 b hb).1
      · exact fun b hb => (c7 b hb).1)]
    have ea : ((m.a.toNat : Nat) : Int) = m.a := by omega
    have eb : ((m.b.toNat : Nat) : Int) = m.b := by omega
    have ec : ((m.c.toNat : Nat) : Int) = m.c := by omega
    rw [m8_yes h4 (e3_yes (rfl : wEmit = wEmit) (num_of (n := m.a) (by omega) (by omega)) (num_of (n := m.b) (by omega) (by omega)) (num_of (n := m.c) (by omega) (by omega)) (by omega)), e1, ea, eb, ec]
theorem clean_line {m : Mt} (h : vld m = true) : ∀ b ∈ line m, b ≠ 10 := by
  obtain ⟨hk, ha, hb, hc, hn, hf⟩ := vld_of h
  have c1 := clean_name hn
  have c2 := clean_kw m
  have c4 := clean_itoa (n := m.fd) (by omega) (by omega)
  have c5 := clean_itoa (n := m.a) (by omega) (by omega)
  have c6 := clean_itoa (n := m.b) (by omega) (by omega)
  have c7 := clean_itoa (n := m.c) (by omega) (by omega)
  intro b hb
  by_cases hz : m.a = 0 ∧ m.b = 0 ∧ m.c = 0
  · rw [line_dark hz] at hb
    simp only [List.mem_append, List.mem_singleton] at hb
    rcases hb with (((((hb | rfl) | hb) | rfl) | hb) | rfl) | hb
    · exact (c1 b hb).2
    · decide
    · exact (c2 b hb).2
    · decide
    · exact (clean_f b hb).2
    · decide
    · exact (c4 b hb).2
  · rw [line_light hz] at hb
    simp only [List.mem_append, List.mem_singleton] at hb
    rcases hb with ((((((hb | rfl) | hb) | rfl) | hb) | rfl) | hb) | (((((((rfl | hb) | rfl) | hb) | rfl) | hb) | rfl) | hb)
    · exact (c1 b hb).2
    · decide
    · exact (c2 b hb).2
    · decide
    · exact (clean_f b hb).2
    · decide
    · exact (c4 b hb).2
    · decide
    · exact (clean_e b hb).2
    · decide
    · exact (c5 b hb).2
    · decide
    · exact (c6 b hb).2
    · decide
    · exact (c7 b hb).2
/-- lines, each with its newline -/
def unl (ls : List By) : By := ls.flatMap (· ++ [10])
theorem linesOf_app : ∀ (w r : By), (∀ b ∈ w, b ≠ 10) → linesOf (w ++ 10 :: r) = (w :: (linesOf r).1, (linesOf r).2)
  | [], r, _ => rfl
  | b :: t, r, h => by
    have ih := linesOf_app t r (fun c hc => h c (List.mem_cons_of_mem _ hc))
    show linesOf (b :: (t ++ 10 :: r)) = _
    conv => lhs; unfold linesOf
    rw [if_neg (h b (List.mem_cons_self ..)), ih]
theorem linesOf_unl : ∀ ls : List By, (∀ l ∈ ls, ∀ b ∈ l, b ≠ 10) → linesOf (unl ls) = (ls, [])
  | [], _ => rfl
  | l :: ls, h => by
    have ih := linesOf_unl ls (fun u hu => h u (List.mem_cons_of_mem _ hu))
    have e : unl (l :: ls) = l ++ 10 :: unl ls := by simp [unl]
    rw [e, linesOf_app l _ (h l (List.mem_cons_self ..)), ih]
theorem unl_linesOf : ∀ t : By, unl (linesOf t).1 ++ (linesOf t).2 = t
  | [] => rfl
  | b :: r => by
    have ih := unl_linesOf r
    unfold linesOf
    split
    · next h => subst h; show (10 : UInt8) :: (unl (linesOf r).1 ++ (linesOf r).2) = 10 :: r; rw [ih]
    · cases hl : (linesOf r).1 with
      | nil => rw [hl] at ih; simp only [unl, List.flatMap_nil, List.nil_append] at ih ⊢; rw [ih]
      | cons l ls => rw [hl] at ih; simp [unl] at ih ⊢; exact ih
theorem lines_unl (ms : List Mt) : lines ms = unl (ms.map line) := by
  unfold lines unl
  rw [List.flatMap_map]
theorem mats_line : ∀ ms : List Mt, (∀ m ∈ ms, vld m = true) → mats (ms.map line) = ms
  | [], _ => rfl
  | m :: ms, h => by
    have ih := mats_line ms (fun u hu => h u (List.mem_cons_of_mem _ hu))
    unfold mats at ih ⊢
    rw [List.map_cons, List.filterMap_cons, mat_line (h m (List.mem_cons_self ..))]
    simp only
    rw [ih]
theorem vld_mem {ms : List Mt} (h : (check ms).2 = 0) : ∀ m ∈ ms, vld m = true := by
  intro m hm
  obtain ⟨i, hi, rfl⟩ := List.getElem_of_mem hm
  have := ((check_of h).2.2.2.1 i hi).1
  unfold tat at this
  rwa [List.getD_eq_getElem?_getD, List.getElem?_eq_getElem hi] at this
theorem round_trip {ms : List Mt} (h : (check ms).2 = 0) : parse (print ms).1 = (ms, 0, 0) := by
  have hv := vld_mem h
  rw [print_good h]
  show parse (lines ms) = _
  have e : linesOf (lines ms) = (ms.map line, []) := by
    rw [lines_unl]
    refine linesOf_unl _ ?_
    intro l hl
    obtain ⟨m, hm, rfl⟩ := List.mem_map.1 hl
    exact clean_line (hv m hm)
  have hg : ff (good (ms.map line)) (ms.map line).length = (ms.map line).length := by
    refine ff_all.2 ?_
    intro i hi
    unfold good
    rw [List.getD_eq_getElem?_getD, List.getElem?_eq_getElem hi]
    have hi2 : i < ms.length := by simpa using hi
    rw [List.getElem_map]
    simp only [Option.getD_some]
    rw [mat_line (hv _ (List.getElem_mem hi2))]; rfl
  unfold parse
  rw [e]
  simp only
  rw [hg, mats_line ms hv, if_neg (by simp), if_neg (by simpa using h)]
theorem print_e (ms : List Mt) : (print ms).2 = (check ms).2 := by
  by_cases h : (check ms).2 = 0
  · rw [print_good h, h]
  · rw [print_bad h]
theorem print_no {ms : List Mt} (h : ¬ (check ms).2 = 0) : (print ms).1 = [] := by rw [print_bad h]
theorem lines_mats : ∀ ls : List By, (∀ l ∈ ls, (mat l).isSome = true) → lines (mats ls) = unl ls
  | [], _ => rfl
  | l :: ls, h => by
    have ih := lines_mats ls (fun u hu => h u (List.mem_cons_of_mem _ hu))
    obtain ⟨m, hm⟩ := some_of (h l (List.mem_cons_self ..))
    unfold mats lines unl at ih ⊢
    rw [List.filterMap_cons, hm]
    simp only [List.flatMap_cons]
    rw [ih, line_of hm]
theorem parse_bad {t : By} (h : ¬ (parse t).2.2 = 0) : (parse t).1 = [] := by
  unfold parse at h ⊢
  split
  · rfl
  · split
    · rfl
    · next h1 h2 => rw [if_neg h1, if_neg h2] at h; exact absurd rfl h
theorem canon {t : By} (h : (parse t).2.2 = 0) : (check (parse t).1).2 = 0 ∧ print (parse t).1 = (t, 0) := by
  unfold parse at h ⊢
  split at h
  · simp at h
  · next h1 =>
    rw [if_neg h1]
    split at h
    · next h2 => exact absurd h h2
    · next h2 =>
      rw [if_neg h2]
      have h3 : (check (mats (linesOf t).1)).2 = 0 := by simpa using h2
      refine ⟨h3, ?_⟩
      have hf := Nat.le_antisymm (ff_le) (Nat.le_of_not_lt (fun hc => h1 (.inl hc)))
      have hr : (linesOf t).2 = [] := Classical.byContradiction (fun hc => h1 (.inr hc))
      have hg : ∀ l ∈ (linesOf t).1, (mat l).isSome = true := by
        intro l hl
        obtain ⟨i, hi, rfl⟩ := List.getElem_of_mem hl
        have := ff_all.1 hf i hi
        unfold good at this
        rwa [List.getD_eq_getElem?_getD, List.getElem?_eq_getElem hi] at this
      rw [print_good h3, lines_mats _ hg]
      have hu := unl_linesOf t
      rw [hr, List.append_nil] at hu
      rw [hu]
theorem names_k {ms : List Mt} {k : Nat} (h : (check ms).2 = 0) (hk : k < ms.length) :
    ¬ ((mat_of ms (k : Int)).s = true ∧ (mat_of ms (k : Int)).l = true) ∧ ((mat_of ms (k : Int)).f = true → (mat_of ms (k : Int)).s = true) ∧ (1 ≤ (mat_of ms (k : Int)).fd ∧ (mat_of ms (k : Int)).fd ≤ 16) ∧ find ms (tat ms k).n = ((k : Int), true) := by
  obtain ⟨hv, hf⟩ := (check_of h).2.2.2.1 k hk
  have e : mat_of ms (k : Int) = tat ms k := mat_in (by omega) (by omega)
  rw [e]
  obtain ⟨hkd, _, _, _, _, hfd⟩ := vld_of hv
  refine ⟨?_, ?_, hfd, ?_⟩
  · rintro ⟨h1, h2⟩
    rw [h1, h2] at hkd
    cases (tat ms k).f <;> simp [kd] at hkd
  · intro h1
    cases h2 : (tat ms k).s
    · rw [h1, h2] at hkd
      cases (tat ms k).l <;> simp [kd] at hkd
    · rfl
  · rw [find_self hk, hf]
theorem names_0 {ms : List Mt} (h : (check ms).2 = 0) : 0 < ms.length ∧ (mat_of ms 0).s = false ∧ (mat_of ms 0).l = false := by
  obtain ⟨_, h0, ha, _⟩ := check_of h
  have e : mat_of ms 0 = tat ms 0 := mat_in (by omega) (by omega)
  rw [e, ha]
  exact ⟨by omega, rfl, rfl⟩
theorem find_form (ms : List Mt) (x : By) : ∃ (q : Nat) (b : Bool), find ms x = ((q : Int), b) ∧ (b = true → q < ms.length ∧ (tat ms q).n = x) := by
  unfold find
  split
  · next h =>
    refine ⟨fnd ms x, true, rfl, fun _ => ⟨h, ?_⟩⟩
    have := ff_at h
    unfold fnd
    simpa using this
  · exact ⟨0, false, rfl, fun h => by cases h⟩
end Go.Proofs.YtpjjddjoegnipaaDoor.Ma
