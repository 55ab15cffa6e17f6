/-
  Strings cut and divided, numbers of at most three digits. (No program.)
-/
import Derived.Test.YtpjjddjoegnipaaDoorMad
import Derived.Lib.Bytealg
import Derived.Lib.JoinLaws
namespace Go.Proofs.YtpjjddjoegnipaaDoor.Ma
open Go
set_option linter.unusedVariables false
theorem idx_cut (c : UInt8) : ∀ x : By, (Lib.indexByte x c = -1 ∧ cut c x = (x, [], false)) ∨ ∃ k : Nat, k < x.length ∧ Lib.indexByte x c = (k : Int) ∧ cut c x = (x.take k, x.drop (k + 1), true)
  | [] => .inl ⟨rfl, rfl⟩
  | b :: r => by
    by_cases h : b = c
    · subst h
      exact .inr ⟨0, by simp, by simp [Lib.indexByte], by simp [cut]⟩
    · have hb : (b == c) = false := by simpa using h
      rcases idx_cut c r with ⟨h1, h2⟩ | ⟨k, hk, h1, h2⟩
      · refine .inl ⟨by simp [Lib.indexByte, hb, h1], ?_⟩
        unfold cut
        rw [if_neg h, h2]
      · refine .inr ⟨k + 1, by simp; omega, ?_, ?_⟩
        · have : ¬ ((k : Int) == -1) = true := by simp
          simp only [Lib.indexByte, hb, h1]
          rw [if_neg (by simp), if_neg this]
          (try omega)
        · unfold cut
          rw [if_neg h, h2]
          rfl
theorem cut_le (c : UInt8) : ∀ x : By, (cut c x).1.length ≤ x.length ∧ (cut c x).2.1.length ≤ x.length
  | [] => ⟨Nat.le_refl _, Nat.le_refl _⟩
  | b :: r => by
    have h := cut_le c r
    unfold cut
    split
    · simp
    · simp; omega
theorem cut_lt (c : UInt8) : ∀ x : By, (cut c x).2.2 = true → (cut c x).2.1.length < x.length
  | [], h => by simp [cut] at h
  | b :: r, h => by
    unfold cut at h ⊢
    split
    · simp
    · next hb =>
      rw [if_neg hb] at h
      have := cut_lt c r h
      simp; omega
theorem cut_no (c : UInt8) : ∀ x : By, (cut c x).2.2 = false → (cut c x).1 = x ∧ (cut c x).2.1 = []
  | [], h => ⟨rfl, rfl⟩
  | b :: r, h => by
    unfold cut at h ⊢
    split
    · next hb => rw [if_pos hb] at h; cases h
    · next hb =>
      rw [if_neg hb] at h
      have := cut_no c r h
      exact ⟨by rw [this.1], this.2⟩
theorem words_cut : ∀ x : By, words x = if (cut 32 x).2.2 then (cut 32 x).1 :: words (cut 32 x).2.1 else [(cut 32 x).1]
  | [] => rfl
  | b :: r => by
    by_cases h : b = 32
    · subst h; rfl
    · have ih := words_cut r
      conv => lhs; unfold words
      rw [if_neg h]
      have e : cut 32 (b :: r) = (b :: (cut 32 r).1, (cut 32 r).2.1, (cut 32 r).2.2) := by conv => lhs; unfold cut; rw [if_neg h]
      rw [e]
      cases hc : (cut 32 r).2.2
      · rw [hc] at ih; rw [ih]; rfl
      · rw [hc] at ih; rw [ih]; rfl
theorem words_ne (x : By) : words x ≠ [] := by rw [words_cut]; split <;> simp

/-! numbers -/
theorem decFrom3 : ∀ (w : By) (acc v : Nat), Lib.decFrom acc w = some v → ∀ b ∈ w, 48 ≤ b.toNat ∧ b.toNat ≤ 57
  | [], _, _, _, b, hb => by simp at hb
  | c :: r, acc, v, h, b, hb => by
    unfold Lib.decFrom at h
    split at h
    · next d hd =>
      have hc : 48 ≤ c.toNat ∧ c.toNat ≤ 57 := by
        unfold Lib.digitVal at hd
        split at hd
        · assumption
        · cases hd
      rcases List.mem_cons.1 hb with rfl | hb
      · exact hc
      · exact decFrom3 r _ v h b hb
    · cases h
theorem digit_of {b : UInt8} (h : 48 ≤ b.toNat ∧ b.toNat ≤ 57) : ∃ i : Fin 10, b = UInt8.ofNat (48 + i.val) :=
  ⟨⟨b.toNat - 48, by omega⟩, by
    apply UInt8.toNat_inj.1
    simp only [UInt8.toNat_ofNat', Nat.reducePow]
    omega⟩
theorem trip1 : ∀ i : Fin 10, Lib.itoa (((Lib.decFrom 0 [UInt8.ofNat (48 + i.val)]).getD 0 : Nat) : Int) = [UInt8.ofNat (48 + i.val)] := by decide +kernel
theorem trip2 : ∀ i j : Fin 10, i.val ≠ 0 → Lib.itoa (((Lib.decFrom 0 [UInt8.ofNat (48 + i.val), UInt8.ofNat (48 + j.val)]).getD 0 : Nat) : Int) = [UInt8.ofNat (48 + i.val), UInt8.ofNat (48 + j.val)] := by decide +kernel
theorem trip3 : ∀ i j k : Fin 10, i.val ≠ 0 → Lib.itoa (((Lib.decFrom 0 [UInt8.ofNat (48 + i.val), UInt8.ofNat (48 + j.val), UInt8.ofNat (48 + k.val)]).getD 0 : Nat) : Int) = [UInt8.ofNat (48 + i.val), UInt8.ofNat (48 + j.val), UInt8.ofNat (48 + k.val)] := by decide +kernel
theorem trips : ∀ v : Fin 1000, num (Lib.itoa (v.val : Int)) = some v.val ∧ Lib.atoi (Lib.itoa (v.val : Int)) = some (v.val : Int) ∧ (Lib.itoa (v.val : Int)).length ≤ 3 := by decide +kernel
theorem num_itoa {v : Nat} (h : v < 1000) : num (Lib.itoa (v : Int)) = some v := (trips ⟨v, h⟩).1
theorem atoi_itoa {v : Nat} (h : v < 1000) : Lib.atoi (Lib.itoa (v : Int)) = some (v : Int) := (trips ⟨v, h⟩).2.1
theorem itoa_short {v : Nat} (h : v < 1000) : (Lib.itoa (v : Int)).length ≤ 3 := (trips ⟨v, h⟩).2.2
theorem nz {i : Fin 10} (h : ¬ UInt8.ofNat (48 + i.val) = 48) : i.val ≠ 0 := fun e => h (by rw [e]; rfl)
theorem itoa_num {w : By} {v : Nat} (h : num w = some v) : Lib.itoa (v : Int) = w := by
  unfold num at h
  split at h
  · next hc =>
    obtain ⟨h1, h2, h3⟩ := hc
    have hd := decFrom3 w 0 v h
    match w, h1, h2, h3, h, hd with
    | [a], _, _, _, h, hd =>
      obtain ⟨i, rfl⟩ := digit_of (hd a (by simp))
      have := trip1 i; rw [h] at this; exact this
    | [a, b], _, _, h3, h, hd =>
      obtain ⟨i, rfl⟩ := digit_of (hd a (by simp))
      obtain ⟨j, rfl⟩ := digit_of (hd b (by simp))
      have := trip2 i j (nz (by simpa using h3)); rw [h] at this; exact this
    | [a, b, c], _, _, h3, h, hd =>
      obtain ⟨i, rfl⟩ := digit_of (hd a (by simp))
      obtain ⟨j, rfl⟩ := digit_of (hd b (by simp))
      obtain ⟨k, rfl⟩ := digit_of (hd c (by simp))
      have := trip3 i j k (nz (by simpa using h3)); rw [h] at this; exact this
  · cases h
theorem decFrom_lt : ∀ (w : By) (acc v : Nat), Lib.decFrom acc w = some v → v < (acc + 1) * 10 ^ w.length
  | [], acc, v, h => by simp [Lib.decFrom] at h; subst h; simp
  | c :: r, acc, v, h => by
    unfold Lib.decFrom at h
    split at h
    · next d hd =>
      have hc : d ≤ 9 := by
        unfold Lib.digitVal at hd
        split at hd
        · injection hd with hd; omega
        · cases hd
      have := decFrom_lt r _ v h
      rw [List.length_cons, Nat.pow_succ, Nat.mul_comm (10 ^ r.length) 10, ← Nat.mul_assoc]
      exact Nat.lt_of_lt_of_le this (Nat.mul_le_mul_right _ (by omega))
    · cases h
theorem num_lt {w : By} {v : Nat} (h : num w = some v) : v < 1000 := by
  unfold num at h
  split at h
  · next hc =>
    have h1 := decFrom_lt w 0 v h
    rw [Nat.zero_add, Nat.one_mul] at h1
    have h2 : 10 ^ w.length ≤ 10 ^ 3 := Nat.pow_le_pow_right (by decide) hc.2.1
    omega
  · cases h
theorem atoi_bound {w : By} {n : Int} (hl : w.length ≤ 3) (h : Lib.atoi w = some n) : -999 ≤ n ∧ n ≤ 999 := by
  have key : ∀ r : By, r.length ≤ 3 → ∀ m, Lib.decNat r = some m → m ≤ 999 := by
    intro r hr m hm
    unfold Lib.decNat at hm
    split at hm
    · cases hm
    · have h1 := decFrom_lt r 0 m hm
      rw [Nat.zero_add, Nat.one_mul] at h1
      have h2 : 10 ^ r.length ≤ 10 ^ 3 := Nat.pow_le_pow_right (by decide) hr
      omega
  match w, hl, h with
  | b :: r, hl, h =>
    have e : Lib.atoi (b :: r) = if b == 45 then (Lib.decNat r).map fun (m : Nat) => -(m : Int) else if b == 43 then (Lib.decNat r).map fun (m : Nat) => (m : Int) else (Lib.decNat (b :: r)).map fun (m : Nat) => (m : Int) := rfl
    rw [e] at h
    rw [List.length_cons] at hl
    split at h
    · obtain ⟨m, hm, rfl⟩ := Option.map_eq_some_iff.1 h
      have := key r (by omega) m hm; omega
    · split at h
      · obtain ⟨m, hm, rfl⟩ := Option.map_eq_some_iff.1 h
        have := key r (by omega) m hm; omega
      · obtain ⟨m, hm, rfl⟩ := Option.map_eq_some_iff.1 h
        have := key (b :: r) (by simp; omega) m hm; omega
/-- what the program's way of reading a number gives -/
theorem num_long {w : By} (h : ¬ w.length ≤ 3) : num w = none := by unfold num; rw [if_neg (fun hc => h hc.2.1)]
theorem num_no {w : By} (h : Lib.atoi w = none) : num w = none := by
  cases hn : num w with
  | none => rfl
  | some v =>
    have h1 := itoa_num hn
    have h2 := atoi_itoa (num_lt hn)
    rw [h1, h] at h2; cases h2
theorem num_neg {w : By} {n : Int} (h : Lib.atoi w = some n) (h0 : n < 0) : num w = none := by
  cases hn : num w with
  | none => rfl
  | some v =>
    have h1 := itoa_num hn
    have h2 := atoi_itoa (num_lt hn)
    rw [h1, h] at h2; injection h2 with h2; omega
theorem num_other {w : By} {n : Int} (h : Lib.atoi w = some n) (h0 : ¬ Lib.itoa n = w) : num w = none := by
  cases hn : num w with
  | none => rfl
  | some v =>
    have h1 := itoa_num hn
    have h2 := atoi_itoa (num_lt hn)
    rw [h1, h] at h2; injection h2 with h2
    exact absurd (by rw [h2]; exact h1) h0
theorem num_yes {w : By} {n : Int} (hl : w.length ≤ 3) (h : Lib.atoi w = some n) (h0 : 0 ≤ n) (h1 : Lib.itoa n = w) : num w = some n.toNat := by
  have hb := (atoi_bound hl h).2
  have e : ((n.toNat : Nat) : Int) = n := by omega
  have := num_itoa (v := n.toNat) (by omega)
  rw [e, h1] at this; exact this
theorem num_nil : num [] = none := rfl
end Go.Proofs.YtpjjddjoegnipaaDoor.Ma
