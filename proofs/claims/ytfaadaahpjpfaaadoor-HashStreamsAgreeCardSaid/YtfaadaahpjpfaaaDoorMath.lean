/-
  Plain mathematics of the encodings of integers: no program is mentioned here.
-/
import Derived.Below
namespace Go.Proofs.YtfaadaahpjpfaaaDoor
namespace Wm

/-- the number of an integer: 2n from 0 on, -2n-1 below -/
def zig (n : Int) : Nat := if 0 ≤ n then (2 * n).toNat else (-2 * n - 1).toNat
def zag (z : Nat) : Int := if z % 2 = 1 then -1 - ((z / 2 : Nat) : Int) else ((z / 2 : Nat) : Int)

theorem zig_lt (n : Int) (h1 : -9223372036854775808 ≤ n) (h2 : n ≤ 9223372036854775807) : zig n < 18446744073709551616 := by
  unfold zig; split <;> omega
theorem zag_zig (n : Int) : zag (zig n) = n := by unfold zag zig; split <;> split <;> omega
theorem zig_zag (z : Nat) : zig (zag z) = z := by unfold zag zig; split <;> split <;> omega
theorem zag_bd (z : Nat) (h : z < 18446744073709551616) : -9223372036854775808 ≤ zag z ∧ zag z ≤ 9223372036854775807 := by
  unfold zag; split <;> omega
theorem zig_inj {m n : Int} (h : zig m = zig n) : m = n := by rw [← zag_zig m, h, zag_zig]

/-- base 128, the least digit first, 128 added to every digit but the last -/
def enc (z : Nat) : List UInt8 :=
  if z < 128 then [UInt8.ofNat z] else UInt8.ofNat (z % 128 + 128) :: enc (z / 128)
termination_by z
decreasing_by omega

def encI (n : Int) : List UInt8 := enc (zig n)

theorem enc_lo {z : Nat} (h : z < 128) : enc z = [UInt8.ofNat z] := by rw [enc, if_pos h]
theorem enc_hi {z : Nat} (h : ¬ z < 128) : enc z = UInt8.ofNat (z % 128 + 128) :: enc (z / 128) := by rw [enc, if_neg h]

theorem enc_pos (z : Nat) : 0 < (enc z).length := by
  rw [enc]; split <;> simp

/-- the length is the number of digits -/
theorem enc_len_le : ∀ (k z : Nat), z < 128 ^ k → 0 < k → (enc z).length ≤ k := by
  intro k
  induction k with
  | zero => intro z _ h; omega
  | succ k ih =>
    intro z hz _
    by_cases h : z < 128
    · rw [enc_lo h]; simp
    · rw [enc_hi h, List.length_cons]
      have hk : 0 < k := by
        rcases Nat.eq_zero_or_pos k with h0 | h0
        · subst h0; simp at hz; omega
        · exact h0
      have : z / 128 < 128 ^ k := by rw [Nat.pow_succ] at hz; omega
      have := ih (z / 128) this hk
      omega
theorem enc_le10 {z : Nat} (h : z < 18446744073709551616) : (enc z).length ≤ 10 :=
  enc_len_le 10 z (Nat.lt_of_lt_of_le h (by decide)) (by decide)

/-- what decoding from the k-th digit on gives: the integer, the bytes used, the error -/
def gi (k z : Nat) : List UInt8 → Int × Nat × Int
  | [] => (0, 0, 5)
  | d :: r =>
    if k = 9 ∧ 1 < d.toNat then (0, 0, 6)
    else if 0 < k ∧ d.toNat = 0 then (0, 0, 6)
    else if d.toNat < 128 then (zag (z + d.toNat * 128 ^ k), k + 1, 0)
    else gi (k + 1) (z + (d.toNat - 128) * 128 ^ k) r
def getI (l : List UInt8) : Int × Nat × Int := gi 0 0 l

theorem u8_of {x : Nat} (h : x < 256) : (UInt8.ofNat x).toNat = x := by simp [Nat.mod_eq_of_lt h]

theorem pow9 : (128 : Nat) ^ 9 = 9223372036854775808 := by decide

theorem gi_enc : ∀ (n z k acc : Nat) (tail : List UInt8), z ≤ n → k ≤ 9 → z * 128 ^ k < 18446744073709551616 → (0 < k → 0 < z) →
    gi k acc (enc z ++ tail) = (zag (acc + z * 128 ^ k), k + (enc z).length, 0) := by
  intro n
  induction n with
  | zero =>
    intro z k acc tail hz hk hb hp
    have hz0 : z = 0 := by omega
    subst hz0
    have hk0 : k = 0 := by rcases Nat.eq_zero_or_pos k with h | h; exact h; have := hp h; omega
    subst hk0
    simp [enc_lo, gi]
  | succ n ih =>
    intro z k acc tail hz hk hb hp
    by_cases h : z < 128
    · rw [enc_lo h]
      simp only [List.cons_append, List.nil_append, gi, u8_of (show z < 256 by omega), List.length_singleton]
      have h9 : ¬ (k = 9 ∧ 1 < z) := by
        rintro ⟨rfl, h1⟩
        rw [pow9] at hb
        have : 2 * 9223372036854775808 ≤ z * 9223372036854775808 := Nat.mul_le_mul_right _ h1
        omega
      have h0 : ¬ (0 < k ∧ z = 0) := by rintro ⟨a, b⟩; have := hp a; omega
      rw [if_neg h9, if_neg h0, if_pos h]
    · rw [enc_hi h]
      simp only [List.cons_append, gi, u8_of (show z % 128 + 128 < 256 by omega), List.length_cons]
      have hk9 : ¬ (k = 9 ∧ 1 < z % 128 + 128) := by
        rintro ⟨rfl, _⟩
        rw [pow9] at hb
        have : 128 * 9223372036854775808 ≤ z * 9223372036854775808 := Nat.mul_le_mul_right _ (by omega)
        omega
      have hk' : k ≤ 8 := by
        rcases Nat.lt_or_ge 8 k with h' | h'
        · exact absurd ⟨by omega, by omega⟩ hk9
        · exact h'
      rw [if_neg hk9, if_neg (by omega), if_neg (by omega)]
      have e1 : z % 128 + 128 - 128 = z % 128 := by omega
      have hpw : (128 : Nat) ^ (k + 1) = 128 ^ k * 128 := Nat.pow_succ ..
      have e2 : z / 128 * 128 ^ (k + 1) + z % 128 * 128 ^ k = z * 128 ^ k := by
        rw [hpw, ← Nat.mul_assoc, Nat.mul_right_comm, ← Nat.add_mul, show z / 128 * 128 + z % 128 = z from by omega]
      have e3 : z / 128 * 128 ^ (k + 1) ≤ z * 128 ^ k := by omega
      rw [e1, ih (z / 128) (k + 1) _ tail (by omega) (by omega) (by omega) (by omega)]
      simp only [Prod.mk.injEq, and_true]
      exact ⟨by rw [Nat.add_assoc, Nat.add_comm (z % 128 * 128 ^ k), e2], by omega⟩

theorem getI_enc (n : Int) (tail : List UInt8) (h1 : -9223372036854775808 ≤ n) (h2 : n ≤ 9223372036854775807) :
    getI (encI n ++ tail) = (n, (encI n).length, 0) := by
  have h := gi_enc (zig n) (zig n) 0 0 tail (Nat.le_refl _) (by omega) (by simpa using zig_lt n h1 h2) (by omega)
  simpa [getI, encI, zag_zig] using h

/-- a proper prefix of an encoding is cut off -/
theorem gi_cut : ∀ (n z k acc j : Nat), z ≤ n → k ≤ 9 → z * 128 ^ k < 18446744073709551616 → j < (enc z).length →
    gi k acc ((enc z).take j) = (0, 0, 5) := by
  intro n
  induction n with
  | zero =>
    intro z k acc j hz _ _ hj
    have : z = 0 := by omega
    subst this
    rw [enc_lo (by omega)] at hj ⊢
    simp at hj; subst hj; simp [gi]
  | succ n ih =>
    intro z k acc j hz hk hb hj
    by_cases h : z < 128
    · rw [enc_lo h] at hj ⊢
      simp at hj; subst hj; simp [gi]
    · rw [enc_hi h] at hj ⊢
      cases j with
      | zero => simp [gi]
      | succ j =>
        simp only [List.length_cons] at hj
        simp only [List.take_succ_cons, gi, u8_of (show z % 128 + 128 < 256 by omega)]
        have hk9 : ¬ (k = 9 ∧ 1 < z % 128 + 128) := by
          rintro ⟨rfl, _⟩
          rw [pow9] at hb
          have : 128 * 9223372036854775808 ≤ z * 9223372036854775808 := Nat.mul_le_mul_right _ (by omega)
          omega
        have hk' : k ≤ 8 := by
          rcases Nat.lt_or_ge 8 k with h' | h'
          · exact absurd ⟨by omega, by omega⟩ hk9
          · exact h'
        have hpw : (128 : Nat) ^ (k + 1) = 128 ^ k * 128 := Nat.pow_succ ..
        have e2 : z / 128 * 128 ^ (k + 1) + z % 128 * 128 ^ k = z * 128 ^ k := by
          rw [hpw, ← Nat.mul_assoc, Nat.mul_right_comm, ← Nat.add_mul, show z / 128 * 128 + z % 128 = z from by omega]
        rw [if_neg hk9, if_neg (by omega), if_neg (by omega)]
        exact ih (z / 128) (k + 1) _ j (by omega) (by omega) (by omega) (by omega)
theorem getI_cut (n : Int) (j : Nat) (h1 : -9223372036854775808 ≤ n) (h2 : n ≤ 9223372036854775807) (hj : j < (encI n).length) :
    getI ((encI n).take j) = (0, 0, 5) :=
  gi_cut (zig n) (zig n) 0 0 j (Nat.le_refl _) (by omega) (by simpa using zig_lt n h1 h2) hj

/-- what is decoded without error: the shape of the input -/
theorem gi_ok : ∀ (l : List UInt8) (k acc : Nat), k ≤ 9 → (gi k acc l).2.2 = 0 →
    ∃ z tail, l = enc z ++ tail ∧ gi k acc l = (zag (acc + z * 128 ^ k), k + (enc z).length, 0) ∧ z * 128 ^ k < 18446744073709551616 ∧ (0 < k → 0 < z) := by
  intro l
  induction l with
  | nil => intro k acc _ h; simp [gi] at h
  | cons d r ih =>
    intro k acc hk h
    simp only [gi] at h ⊢
    by_cases h1 : k = 9 ∧ 1 < d.toNat
    · rw [if_pos h1] at h; simp at h
    · rw [if_neg h1] at h ⊢
      by_cases h2 : 0 < k ∧ d.toNat = 0
      · rw [if_pos h2] at h; simp at h
      · rw [if_neg h2] at h ⊢
        have hpb : 128 ^ k ≤ 9223372036854775808 := by rw [← pow9]; exact Nat.pow_le_pow_right (by decide) hk
        by_cases h3 : d.toNat < 128
        · rw [if_pos h3]
          refine ⟨d.toNat, r, by rw [enc_lo h3]; simp, by rw [enc_lo h3]; simp, ?_, by omega⟩
          by_cases hk9 : k = 9
          · subst hk9
            rw [pow9]
            have : d.toNat ≤ 1 := by omega
            have := Nat.mul_le_mul_right 9223372036854775808 this
            omega
          · have : 128 ^ k ≤ 128 ^ 8 := Nat.pow_le_pow_right (by decide) (by omega)
            have h8 : (128 : Nat) ^ 8 = 72057594037927936 := by decide
            have := Nat.mul_le_mul (show d.toNat ≤ 127 by omega) this
            omega
        · rw [if_neg h3] at h ⊢
          have hk8 : k ≤ 8 := by
            rcases Nat.lt_or_ge 8 k with h' | h'
            · exact absurd ⟨by omega, by omega⟩ h1
            · exact h'
          obtain ⟨z, tail, rfl, e, hb, hz⟩ := ih (k + 1) _ (by omega) h
          have hd : d.toNat < 256 := d.toNat_lt
          have hz0 := hz (by omega)
          have hpw : (128 : Nat) ^ (k + 1) = 128 ^ k * 128 := Nat.pow_succ ..
          have hge : ¬ (d.toNat - 128 + z * 128) < 128 := by omega
          have henc : enc (d.toNat - 128 + z * 128) = d :: enc z := by
            rw [enc_hi hge]
            have q1 : (d.toNat - 128 + z * 128) % 128 + 128 = d.toNat := by omega
            have q2 : (d.toNat - 128 + z * 128) / 128 = z := by omega
            rw [q1, q2]; congr 1; simp
          have hval : (d.toNat - 128 + z * 128) * 128 ^ k = (d.toNat - 128) * 128 ^ k + z * 128 ^ (k + 1) := by
            rw [Nat.add_mul, hpw, Nat.mul_assoc z 128, Nat.mul_comm 128 (128 ^ k)]
          refine ⟨d.toNat - 128 + z * 128, tail, by rw [henc]; simp, ?_, ?_, by omega⟩
          · rw [e, henc, hval]
            simp only [List.length_cons, Prod.mk.injEq, and_true]
            exact ⟨by rw [Nat.add_assoc], by omega⟩
          · rw [hval]
            -- the digits below k+1 and z, together below 2^64
            have hpk : 0 < 128 ^ k := Nat.pow_pos (by decide)
            have hzz : z * 128 ^ (k + 1) + 128 ^ (k + 1) ≤ 18446744073709551616 := by
              have hdvd : 128 ^ (k + 1) ∣ 18446744073709551616 := by
                rcases (by omega : k = 0 ∨ k = 1 ∨ k = 2 ∨ k = 3 ∨ k = 4 ∨ k = 5 ∨ k = 6 ∨ k = 7 ∨ k = 8) with h | h | h | h | h | h | h | h | h <;> subst h <;> decide
              obtain ⟨q, hq⟩ := hdvd
              rw [hq] at hb ⊢
              rw [Nat.mul_comm] at hb
              have hlt : z < q := Nat.lt_of_mul_lt_mul_left hb
              have := Nat.mul_le_mul_left (128 ^ (k + 1)) hlt
              rw [Nat.mul_succ] at this
              rw [Nat.mul_comm z]
              exact this
            have hdd : (d.toNat - 128) * 128 ^ k < 128 ^ (k + 1) := by
              rw [hpw, Nat.mul_comm (128 ^ k)]
              exact Nat.mul_lt_mul_of_pos_right (by omega) hpk
            omega

theorem getI_ok {l : List UInt8} (h : (getI l).2.2 = 0) :
    ∃ n tail, l = encI n ++ tail ∧ getI l = (n, (encI n).length, 0) ∧ -9223372036854775808 ≤ n ∧ n ≤ 9223372036854775807 := by
  obtain ⟨z, tail, hl, e, hb, _⟩ := gi_ok l 0 0 (by omega) h
  have hz : z < 18446744073709551616 := by simpa using hb
  refine ⟨zag z, tail, by rw [encI, zig_zag]; exact hl, ?_, (zag_bd z hz).1, (zag_bd z hz).2⟩
  show gi 0 0 l = _
  rw [e, encI, zig_zag]; simp

theorem gi_shape : ∀ (l : List UInt8) (k acc : Nat), (gi k acc l).2.2 = 0 ∨ gi k acc l = (0, 0, 5) ∨ gi k acc l = (0, 0, 6) := by
  intro l
  induction l with
  | nil => intro k acc; simp [gi]
  | cons d r ih =>
    intro k acc
    simp only [gi]
    split
    · simp
    · split
      · simp
      · split
        · simp
        · exact ih _ _
theorem getI_shape (l : List UInt8) : (getI l).2.2 = 0 ∨ getI l = (0, 0, 5) ∨ getI l = (0, 0, 6) := gi_shape l 0 0

/-- a byte string: its length, then its bytes -/
def encS (s : List UInt8) : List UInt8 := encI (s.length : Int) ++ s

/-- the number of elements of at least size bytes each: the error of what cannot follow -/
def getLen (size : Nat) (l : List UInt8) : Int × Nat × Int :=
  if (getI l).2.2 ≠ 0 then (0, 0, (getI l).2.2)
  else if (getI l).1 < 0 then (0, 0, 6)
  else if (((l.length - (getI l).2.1) / size : Nat) : Int) < (getI l).1 then (0, 0, 5)
  else ((getI l).1, (getI l).2.1, 0)

def getS (l : List UInt8) : List UInt8 × Nat × Int :=
  if (getLen 1 l).2.2 ≠ 0 then ([], 0, (getLen 1 l).2.2)
  else ((l.drop (getLen 1 l).2.1).take (getLen 1 l).1.toNat, (getLen 1 l).2.1 + (getLen 1 l).1.toNat, 0)

theorem getI_used {l : List UInt8} : (getI l).2.1 ≤ l.length ∧ (getI l).2.1 ≤ 10 := by
  rcases getI_shape l with h | h | h
  · obtain ⟨n, tail, hl, e, h1, h2⟩ := getI_ok h
    rw [e]
    refine ⟨?_, enc_le10 (zig_lt n h1 h2)⟩
    rw [hl, List.length_append]; exact Nat.le_add_right _ _
  · rw [h]; simp
  · rw [h]; simp
theorem getI_bd {l : List UInt8} : -9223372036854775808 ≤ (getI l).1 ∧ (getI l).1 ≤ 9223372036854775807 := by
  rcases getI_shape l with h | h | h
  · obtain ⟨n, tail, hl, e, h1, h2⟩ := getI_ok h
    rw [e]; exact ⟨h1, h2⟩
  · rw [h]; simp
  · rw [h]; simp
theorem getI_err {l : List UInt8} : (getI l).2.2 = 0 ∨ (getI l).2.2 = 5 ∨ (getI l).2.2 = 6 := by
  rcases getI_shape l with h | h | h
  · exact .inl h
  · rw [h]; simp
  · rw [h]; simp
theorem getI_bad {l : List UInt8} (h : (getI l).2.2 ≠ 0) : (getI l).1 = 0 ∧ (getI l).2.1 = 0 := by
  rcases getI_shape l with h' | h' | h'
  · exact absurd h' h
  · rw [h']; simp
  · rw [h']; simp

theorem getLen_bd {size : Nat} {l : List UInt8} : 0 ≤ (getLen size l).1 ∧ (getLen size l).2.1 + (getLen size l).1.toNat * size ≤ l.length := by
  unfold getLen
  have hu := (@getI_used l).1
  split
  · simp
  · split
    · simp
    · split
      · simp
      · rename_i h1 h2 h3
        refine ⟨by omega, ?_⟩
        have h4 : (getI l).1.toNat ≤ (l.length - (getI l).2.1) / size := by omega
        have h5 := Nat.mul_le_mul_right size h4
        have h6 := Nat.div_mul_le_self (l.length - (getI l).2.1) size
        simp only
        omega

def encIs (l : List Int) : List UInt8 := encI (l.length : Int) ++ l.flatMap encI
def encSs (l : List (List UInt8)) : List UInt8 := encI (l.length : Int) ++ l.flatMap encS
def encDs (l : List (List UInt8)) : List UInt8 := encI (l.length : Int) ++ l.flatten

theorem encI_len (n : Int) (h1 : -9223372036854775808 ≤ n) (h2 : n ≤ 9223372036854775807) : (encI n).length ≤ 10 := enc_le10 (zig_lt n h1 h2)
theorem flat_take {α : Type} (f : α → List UInt8) (l : List α) (k : Nat) : ((l.take k).flatMap f).length ≤ (l.flatMap f).length := by
  have h : l.flatMap f = (l.take k).flatMap f ++ (l.drop k).flatMap f := by rw [← List.flatMap_append, List.take_append_drop]
  rw [h, List.length_append]; omega
theorem flat_succ {α : Type} (f : α → List UInt8) (l : List α) (k : Nat) (x : α) (h : l[k]? = some x) : (l.take (k + 1)).flatMap f = (l.take k).flatMap f ++ f x := by
  have hk : k < l.length := (List.getElem?_eq_some_iff.1 h).1
  rw [List.take_succ_eq_append_getElem hk, List.flatMap_append]
  rw [List.getElem?_eq_getElem hk] at h
  injection h with h
  simp [h]

end Wm
end Go.Proofs.YtfaadaahpjpfaaaDoor
