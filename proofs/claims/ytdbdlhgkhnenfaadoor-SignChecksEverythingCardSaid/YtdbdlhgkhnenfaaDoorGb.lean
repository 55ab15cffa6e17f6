/-
  Plain mathematics of the encodings of integers: no program is mentioned here.
-/
import Derived.Below
namespace Go.Proofs.YtdbdlhgkhnenfaaDoor
namespace Wm

/-- the number of an integer: 2n from 0 on, -2n-1 below -/
def zig (n : Int) : Nat := if 0 ≤ n then (2 * n).toNat else (-2 * n - 1).toNat
def zag (z : Nat) : Int := if z % 2 = 1 then -1 - ((z / 2 : Nat) : Int) else ((z / 2 : Nat) : Int)

theorem zig_lt (n : Int) (h1 : -9223372036854775808 ≤ n) (h2 : n ≤ 9223372036854775807) : zig n < 18446744073709551616 := by
  unfold zig; split <;> omega
theorem zag_zig (n : Int) : zag (zig n) = n := by unfold zag zig; split <;> split <;> omega
theorem zig_zag (z : Nat) : zig (zag z) = z := by unfold zag zig; split <;> split <;> omega
theorem zag_bd (z : Nat) (h : z < 18446744073709551616) : -9223372036854775808 ≤ zag z ∧ zag z ≤ 9223372036854775807 := by
  unfold zag; split <;> omega
theorem zig_inj {m n : Int} (h : zig m = zig n) : m = n := by rw [← zag_zig m, h, zag_zig]

/-- base 128, the least digit first, 128 added to every digit but the last -/
def enc (z : Nat) : List UInt8 :=
  if z < 128 then [UInt8.ofNat z] else UInt8.ofNat (z % 128 + 128) :: enc (z / 128)
termination_by z
decreasing_by omega

def encI (n : Int) : List UInt8 := enc (zig n)

theorem enc_lo {z : Nat} (h : z < 128) : enc z = [UInt8.ofNat z] := by rw [enc, if_pos h]
theorem enc_hi {z : Nat} (h : ¬ z < 128) : enc z = UInt8.ofNat (z % 128 + 128) :: enc (z / 128) := by rw [enc, if_neg h]

theorem enc_pos (z : Nat) : 0 < (enc z).length := by
  rw [enc]; split <;> simp

/-- the length is the number of digits -/
theorem enc_len_le : ∀ (k z : Nat), z < 128 ^ k → 0 < k → (enc z).length ≤ k := by
  intro k
  induction k with
  | zero => intro z _ h; omega
  | succ k ih =>
    intro z hz _
    by_cases h : z < 128
    · rw [enc_lo h]; simp
    · rw [enc_hi h, List.length_cons]
      have hk : 0 < k := by
        rcases Nat.eq_zero_or_pos k with h0 | h0
        · subst h0; simp at hz; omega
        · exact h0
      have : z / 128 < 128 ^ k := by rw [Nat.pow_succ] at hz; omega
      have := ih (z / 128) this hk
      omega
theorem enc_le10 {z : Nat} (h : z < 18446744073709551616) : (enc z).length ≤ 10 :=
  enc_len_le 10 z (Nat.lt_of_lt_of_le h (by decide)) (by decide)

/-- what decoding from the k-th digit on gives: the integer, the bytes used, the error -/
def gi (k z : Nat) : List UInt8 → Int × Nat × Int
  | [] => (0, 0, 5)
  | d :: r =>
    if k = 9 ∧ 1 < d.toNat then (0, 0, 6)
    else if 0 < k ∧ d.toNat = 0 then (0, 0, 6)
    else if d.toNat < 128 then (zag (z + d.toNat * 128 ^ k), k + 1, 0)
    else gi (k + 1) (z + (d.toNat - 128) * 128 ^ k) r
def getI (l : List UInt8) : Int × Nat × Int := gi 0 0 l

theorem u8_of {x : Nat} (h : x < 256) : (UInt8.ofNat x).toNat = x := by simp [Nat.mod_eq_of_lt h]

theorem pow9 : (128 : Nat) ^ 9 = 9223372036854775808 := by decide

theorem gi_enc : ∀ (n z k acc : Nat) (tail : List UInt8), z ≤ n → k ≤ 9 → z * 128 ^ k < 18446744073709551616 → (0 < k → 0 < z) →
    gi k acc (enc z ++ tail) = (zag (acc + z * 128 ^ k), k + (enc z).length, 0) := by
  intro n
  induction n with
  | zero =>
    intro z k acc tail hz hk hb hp
    have hz0 : z = 0 := by omega
    subst hz0
    have hk0 : k = 0 := by rcases Nat.eq_zero_or_pos k with h | h; exact h; have := hp h; omega
    subst hk0
    simp [enc_lo, gi]
  | succ n ih =>
    intro z k acc tail hz hk hb hp
    by_cases h : z < 128
    · rw [enc_lo h]
      simp only [List.cons_append, List.nil_append, gi, u8_of (show z < 256 by omega), List.length_singleton]
      have h9 : ¬ (k = 9 ∧ 1 < z) := by
        rintro ⟨rfl, h1⟩
        rw [pow9] at hb
        have : 2 * 9223372036854775808 ≤ z * 9223372036854775808 := Nat.mul_le_mul_right _ h1
        omega
      have h0 : ¬ (0 < k ∧ z = 0) := by rintro ⟨a, b⟩; have := hp a; omega
      rw [if_neg h9, if_neg h0, if_pos h]
    · rw [enc_hi h]
      simp only [List.cons_append, gi, u8_of (show z % 128 + 128 < 256 by omega), List.length_cons]
      have hk9 : ¬ (k = 9 ∧ 1 < z % 128 + 128) := by
        rintro ⟨rfl, _⟩
        rw [pow9] at hb
        have : 128 * 9223372036854775808 ≤ z * 9223372036854775808 := Nat.mul_le_mul_right _ (by omega)
        omega
      have hk' : k ≤ 8 := by
        rcases Nat.lt_or_ge 8 k with h' | h'
        · exact absurd ⟨by omega, by omega⟩ hk9
        · exact h'
      rw [if_neg hk9, if_neg (by omega), if_neg (by omega)]
      have e1 : z % 128 + 128 - 128 = z % 128 := by omega
      have hpw : (128 : Nat) ^ (k + 1) = 128 ^ k * 128 := Nat.pow_succ ..
      have e2 : z / 128 * 128 ^ (k + 1) + z % 128 * 128 ^ k = z * 128 ^ k := by
        rw [hpw, ← Nat.mul_assoc, Nat.mul_right_comm, ← Nat.add_mul, show z / 128 * 128 + z % 128 = z from by omega]
      have e3 : z / 128 * 128 ^ (k + 1) ≤ z * 128 ^ k := by omega
      rw [e1, ih (z / 128) (k + 1) _ tail (by omega) (by omega) (by omega) (by omega)]
      simp only [Prod.mk.injEq, and_true]
      exact ⟨by rw [Nat.add_assoc, Nat.add_comm (z % 128 * 128 ^ k), e2], by omega⟩

theorem getI_enc (n : Int) (tail : List UInt8) (h1 : -9223372036854775808 ≤ n) (h2 : n ≤ 9223372036854775807) :
    getI (encI n ++ tail) = (n, (encI n).length, 0) := by
  have h := gi_enc (zig n) (zig n) 0 0 tail (Nat.le_refl _) (by omega) (by simpa using zig_lt n h1 h2) (by omega)
  simpa [getI, encI, zag_zig] using h

/-- a proper prefix of an encoding is cut off -/
theorem gi_cut : ∀ (n z k acc j : Nat), z ≤ n → k ≤ 9 → z * 128 ^ k < 18446744073709551616 → j < (enc z).length →
    gi k acc ((enc z).take j) = (0, 0, 5) := by
  intro n
  induction n with
  | zero =>
    intro z k acc j hz _ _ hj
    have : z = 0 := by omega
    subst this
    rw [enc_lo (by omega)] at hj ⊢
    simp at hj; subst hj; simp [gi]
  | succ n ih =>
    intro z k acc j hz hk hb hj
    by_cases h : z < 128
    · rw [enc_lo h] at hj ⊢
      simp at hj; subst hj; simp [gi]
    · rw [enc_hi h] at hj ⊢
      cases j with
      | zero => simp [gi]
      | succ j =>
        simp only [List.length_cons] at hj
        simp only [List.take_succ_cons, gi, u8_of (show z % 128 + 128 < 256 by omega)]
        have hk9 : ¬ (k = 9 ∧ 1 < z % 128 + 128) := by
          rintro ⟨rfl, _⟩
          rw [pow9] at hb
          have : 128 * 9223372036854775808 ≤ z * 9223372036854775808 := Nat.mul_le_mul_right _ (by omega)
          omega
        have hk' : k ≤ 8 := by
          rcases Nat.lt_or_ge 8 k with h' | h'
          · exact absurd ⟨by omega, by omega⟩ hk9
          · exact h'
        have hpw : (128 : Nat) ^ (k + 1) = 128 ^ k * 128 := Nat.pow_succ ..
        have e2 : z / 128 * 128 ^ (k + 1) + z % 128 * 128 ^ k = z * 128 ^ k := by
          rw [hpw, ← Nat.mul_assoc, Nat.mul_right_comm, ← Nat.add_mul, show z / 128 * 128 + z % 128 = z from by omega]
        rw [if_neg hk9, if_neg (by omega), if_neg (by omega)]
        exact ih (z / 128) (k + 1) _ j (by omega) (by omega) (by omega) (by omega)
theorem getI_cut (n : Int) (j : Nat) (h1 : -9223372036854775808 ≤ n) (h2 : n ≤ 9223372036854775807) (hj : j < (encI n).length) :
    getI ((encI n).take j) = (0, 0, 5) :=
  gi_cut (zig n) (zig n) 0 0 j (Nat.le_refl _) (by omega) (by simpa using zig_lt n h1 h2) hj

/-- what is decoded without error: the shape of the input -/
theorem gi_ok : ∀ (l : List UInt8) (k acc : Nat), k ≤ 9 → (gi k acc l).2.2 = 0 →
    ∃ z tail, l = enc z ++ tail ∧ gi k acc l = (zag (acc + z * 128 ^ k), k + (enc z).length, 0) ∧ z * 128 ^ k < 18446744073709551616 ∧ (0 < k → 0 < z) := by
  intro l
  induction l with
  | nil => intro k acc _ h; simp [gi] at h
  | cons d r ih =>
    intro k acc hk h
    simp only [gi] at h ⊢
    by_cases h1 : k = 9 ∧ 1 < d.toNat
    · rw [if_pos h1] at h; simp at h
    · rw [if_neg h1] at h ⊢
      by_cases h2 : 0 < k ∧ d.toNat = 0
      · rw [if_pos h2] at h; simp at h
      · rw [if_neg h2] at h ⊢
        have hpb : 128 ^ k ≤ 9223372036854775808 := by rw [← pow9]; exact Nat.pow_le_pow_right (by decide) hk
        by_cases h3 : d.toNat < 128
        · rw [if_pos h3]
          refine ⟨d.toNat, r, by rw [enc_lo h3]; simp, by rw [enc_lo h3]; simp, ?_, by omega⟩
          by_cases hk9 : k = 9
          · subst hk9
            rw [pow9]
            have : d.toNat ≤ 1 := by omega
            have := Nat.mul_le_mul_right 9223372036854775808 this
            omega
          · have : 128 ^ k ≤ 128 ^ 8 := Nat.pow_le_pow_right (by decide) (by omega)
            have h8 : (128 : Nat) ^ 8 = 72057594037927936 := by decide
            have := Nat.mul_le_mul (show d.toNat ≤ 127 by omega) this
            omega
        · rw [if_neg h3] at h ⊢
          have hk8 : k ≤ 8 := by
            rcases Nat.lt_or_ge 8 k with h' | h'
            · exact absurd ⟨by omega, by omega⟩ h1
            · exact h'
          obtain ⟨z, tail, rfl, e, hb, hz⟩ := ih (k + 1) _ (by omega) h
          have hd : d.toNat < 256 := d.toNat_lt
          have hz0 := hz (by omega)
          have hpw : (128 : Nat) ^ (k + 1) = 128 ^ k * 128 := Nat.pow_succ ..
          have hge : ¬ (d.toNat - 128 + z * 128) < 128 := by omega
          have henc : enc (d.toNat - 128 + z * 128) = d :: enc z := by
            rw [enc_hi hge]
            have q1 : (d.toNat - 128 + z * 128) % 128 + 128 = d.toNat := by omega
            have q2 : (d.toNat - 128 + z * 128) / 128 = z := by omega
            rw [q1, q2]; congr 1; simp
          have hval : (d.toNat - 128 + z * 128) * 128 ^ k = (d.toNat - 128) * 128 ^ k + z * 128 ^ (k + 1) := by
            rw [Nat.add_mul, hpw, Nat.mul_assoc z 128, Nat.mul_comm 128 (128 ^ k)]
          refine ⟨d.toNat - 128 + z * 128, tail, by rw [henc]; simp, ?_, ?_, by omega⟩
          · rw [e, henc, hval]
            simp only [List.length_cons, Prod.mk.injEq, and_true]
            exact ⟨by rw [Nat.add_assoc], by omega⟩
          · rw [hval]
            -- the digits below k+1 and z, together below 2^64
            have hpk : 0 < 128 ^ k := Nat.pow_pos (by decide)
            have hzz : z * 128 ^ (k + 1) + 128 ^ (k + 1) ≤ 18446744073709551616 := by
              have hdvd : 128 ^ (k + 1) ∣ 18446744073709551616 := by
                rcases (by omega : k = 0 ∨ k = 1 ∨ k = 2 ∨ k = 3 ∨ k = 4 ∨ k = 5 ∨ k = 6 ∨ k = 7 ∨ k = 8) with h | h | h | h | h | h | h | h | h <;> subst h <;> decide
              obtain ⟨q, hq⟩ := hdvd
              rw [hq] at hb ⊢
              rw [Nat.mul_comm] at hb
              have hlt : z < q := Nat.lt_of_mul_lt_mul_left hb
              have := Nat.mul_le_mul_left (128 ^ (k + 1)) hlt
              rw [Nat.mul_succ] at this
              rw [Nat.mul_comm z]
              exact this
            have hdd : (d.toNat - 128) * 128 ^ k < 128 ^ (k + 1) := by
              rw [hpw, Nat.mul_comm (128 ^ k)]
              exact Nat.mul_lt_mul_of_pos_right (by omega) hpk
            omega

theorem getI_ok {l : List UInt8} (h : (getI l).2.2 = 0) :
    ∃ n tail, l = encI n ++ tail ∧ getI l = (n, (encI n).length, 0) ∧ -9223372036854775808 ≤ n ∧ n ≤ 9223372036854775807 := by
  obtain ⟨z, tail, hl, e, hb, _⟩ := gi_ok l 0 0 (by omega) h
  have hz : z < 18446744073709551616 := by simpa using hb
  refine ⟨zag z, tail, by rw [encI, zig_zag]; exact hl, ?_, (zag_bd z hz).1, (zag_bd z hz).2⟩
  show gi 0 0 l = _
  rw [e, encI, zig_zag]; simp

theorem gi_shape : ∀ (l : List UInt8) (k acc : Nat), (gi k acc l).2.2 = 0 ∨ gi k acc l = (0, 0, 5) ∨ gi k acc l = (0, 0, 6) := by
  intro l
  induction l with
  | nil => intro k acc; simp [gi]
  | cons d r ih =>
    intro k acc
    simp only [gi]
    split
    · simp
    · split
      · simp
      · split
        · simp
        · exact ih _ _
theorem getI_shape (l : List UInt8) : (getI l).2.2 = 0 ∨ getI l = (0, 0, 5) ∨ getI l = (0, 0, 6) := gi_shape l 0 0

/-- a byte string: its length, then its bytes -/
def encS (s : List UInt8) : List UInt8 := encI (s.length : Int) ++ s

/-- the number of elements of at least size bytes each: the error of what cannot follow -/
def getLen (size : Nat) (l : List UInt8) : Int × Nat × Int :=
  if (getI l).2.2 ≠ 0 then (0, 0, (getI l).2.2)
  else if (getI l).1 < 0 then (0, 0, 6)
  else if (((l.length - (getI l).2.1) / size : Nat) : Int) < (getI l).1 then (0, 0, 5)
  else ((getI l).1, (getI l).2.1, 0)

def getS (l : List UInt8) : List UInt8 × Nat × Int :=
  if (getLen 1 l).2.2 ≠ 0 then ([], 0, (getLen 1 l).2.2)
  else ((l.drop (getLen 1 l).2.1).take (getLen 1 l).1.toNat, (getLen 1 l).2.1 + (getLen 1 l).1.toNat, 0)

theorem getI_used {l : List UInt8} : (getI l).2.1 ≤ l.length ∧ (getI l).2.1 ≤ 10 := by
  rcases getI_shape l with h | h | h
  · obtain ⟨n, tail, hl, e, h1, h2⟩ := getI_ok h
    rw [e]
    refine ⟨?_, enc_le10 (zig_lt n h1 h2)⟩
    rw [hl, List.length_append]; exact Nat.le_add_right _ _
  · rw [h]; simp
  · rw [h]; simp
theorem getI_bd {l : List UInt8} : -9223372036854775808 ≤ (getI l).1 ∧ (getI l).1 ≤ 9223372036854775807 := by
  rcases getI_shape l with h | h | h
  · obtain ⟨n, tail, hl, e, h1, h2⟩ := getI_ok h
    rw [e]; exact ⟨h1, h2⟩
  · rw [h]; simp
  · rw [h]; simp
theorem getI_err {l : List UInt8} : (getI l).2.2 = 0 ∨ (getI l).2.2 = 5 ∨ (getI l).2.2 = 6 := by
  rcases getI_shape l with h | h | h
  · exact .inl h
  · rw [h]; simp
  · rw [h]; simp
theorem getI_bad {l : List UInt8} (h : (getI l).2.2 ≠ 0) : (getI l).1 = 0 ∧ (getI l).2.1 = 0 := by
  rcases getI_shape l with h' | h' | h'
  · exact absurd h' h
  · rw [h']; simp
  · rw [h']; simp

theorem getLen_bd {size : Nat} {l : List UInt8} : 0 ≤ (getLen size l).1 ∧ (getLen size l).2.1 + (getLen size l).1.toNat * size ≤ l.length := by
  unfold getLen
  have hu := (@getI_used l).1
  split
  · simp
  · split
    · simp
    · split
      · simp
      · rename_i h1 h2 h3
        refine ⟨by omega, ?_⟩
        have h4 : (getI l).1.toNat ≤ (l.length - (getI l).2.1) / size := by omega
        have h5 := Nat.mul_le_mul_right size h4
        have h6 := Nat.div_mul_le_self (l.length - (getI l).2.1) size
        simp only
        omega

def encIs (l : List Int) : List UInt8 := encI (l.length : Int) ++ l.flatMap encI
def encSs (l : List (List UInt8)) : List UInt8 := encI (l.length : Int) ++ l.flatMap encS
def encDs (l : List (List UInt8)) : List UInt8 := encI (l.length : Int) ++ l.flatten

theorem encI_len (n : Int) (h1 : -9223372036854775808 ≤ n) (h2 : n ≤ 9223372036854775807) : (encI n).length ≤ 10 := enc_le10 (zig_lt n h1 h2)
theorem flat_take {α : Type} (f : α → List UInt8) (l : List α) (k : Nat) : ((l.take k).flatMap f).length ≤ (l.flatMap f).length := by
  have h : l.flatMap f = (l.take k).flatMap f ++ (l.drop k).flatMap f := by rw [← List.flatMap_append, List.take_append_drop]
  rw [h, List.length_append]; omega
theorem flat_succ {α : Type} (f : α → List UInt8) (l : List α) (k : Nat) (x : α) (h : l[k]? = some x) : (l.take (k + 1)).flatMap f = (l.take k).flatMap f ++ f x := by
  have hk : k < l.length := (List.getElem?_eq_some_iff.1 h).1
  rw [List.take_succ_eq_append_getElem hk, List.flatMap_append]
  rw [List.getElem?_eq_getElem hk] at h
  injection h with h
  simp [h]

end Wm
end Go.Proofs.YtdbdlhgkhnenfaaDoor
/-
  Plain mathematics: decoding a list of elements.
-/
namespace Go.Proofs.YtdbdlhgkhnenfaaDoor
namespace Wm

/-- n elements are decoded, each by g; acc: those before; used: the bytes before -/
def elems {α : Type} (g : List UInt8 → α × Nat × Int) : Nat → List α → Nat → List UInt8 → List α × Nat × Int
  | 0, acc, used, _ => (acc, used, 0)
  | n + 1, acc, used, r => if (g r).2.2 ≠ 0 then ([], 0, (g r).2.2) else elems g n (acc ++ [(g r).1]) (used + (g r).2.1) (r.drop (g r).2.1)

def getL {α : Type} (size : Nat) (g : List UInt8 → α × Nat × Int) (l : List UInt8) : List α × Nat × Int :=
  if (getLen size l).2.2 ≠ 0 then ([], 0, (getLen size l).2.2)
  else elems g (getLen size l).1.toNat [] (getLen size l).2.1 (l.drop (getLen size l).2.1)

theorem getS_used (l : List UInt8) : (getS l).2.1 ≤ l.length := by
  unfold getS
  have h := @getLen_bd 1 l
  split
  · simp
  · simp only; omega
/-- sixteen bytes -/
def getD (l : List UInt8) : List UInt8 × Nat × Int := (l.take 16, 16, 0)

end Wm
end Go.Proofs.YtdbdlhgkhnenfaaDoor
/-
  Plain mathematics: how the reference decodes an integer.
-/
namespace Go.Proofs.YtdbdlhgkhnenfaaDoor
namespace Wm

/-- the digits before number k, each less 128 -/
def val (l : List UInt8) : Nat → Nat
  | 0 => 0
  | k + 1 => val l k + ((l.getD k 0).toNat - 128) * 128 ^ k
/-- the lower seven bits of the digits before number k -/
def low (l : List UInt8) : Nat → Nat
  | 0 => 0
  | k + 1 => low l k + ((l.getD k 0).toNat % 128) * 128 ^ k

theorem getD_step {l : List UInt8} {k z : Nat} (hk : k < l.length) :
    gi k z (l.drop k) = if k = 9 ∧ 1 < (l.getD k 0).toNat then (0, 0, 6) else if 0 < k ∧ (l.getD k 0).toNat = 0 then (0, 0, 6)
      else if (l.getD k 0).toNat < 128 then (zag (z + (l.getD k 0).toNat * 128 ^ k), k + 1, 0) else gi (k + 1) (z + ((l.getD k 0).toNat - 128) * 128 ^ k) (l.drop (k + 1)) := by
  have h : l.drop k = l.getD k 0 :: l.drop (k + 1) := by
    rw [List.drop_eq_getElem_cons hk]
    congr 1
    rw [List.getD_eq_getElem?_getD, List.getElem?_eq_getElem hk]; rfl
  conv => lhs; rw [h, gi]

theorem gi_run (l : List UInt8) : ∀ k : Nat, k ≤ 9 → k ≤ l.length → (∀ j, j < k → 128 ≤ (l.getD j 0).toNat) → getI l = gi k (val l k) (l.drop k)
  | 0, _, _, _ => rfl
  | k + 1, h9, hl, h => by
    have ih := gi_run l k (by omega) (by omega) (fun j hj => h j (by omega))
    have hk := h k (by omega)
    rw [ih, getD_step (by omega), if_neg (by omega), if_neg (by omega), if_neg (by omega)]
    rfl

theorem val_low (l : List UInt8) : ∀ k : Nat, (∀ j, j < k → 128 ≤ (l.getD j 0).toNat) → val l k = low l k
  | 0, _ => rfl
  | k + 1, h => by
    have hk := h k (by omega)
    have h256 := (l.getD k 0).toNat_lt
    have e : (l.getD k 0).toNat - 128 = (l.getD k 0).toNat % 128 := by omega
    rw [val, low, val_low l k (fun j hj => h j (by omega)), e]
theorem low_lt (l : List UInt8) : ∀ k : Nat, low l k < 128 ^ k
  | 0 => by simp [low]
  | k + 1 => by
    have := low_lt l k
    rw [low, Nat.pow_succ, Nat.mul_comm (128 ^ k)]
    have h2 := Nat.mul_le_mul_right (128 ^ k) (show (l.getD k 0).toNat % 128 ≤ 127 by omega)
    omega

/-- ten digits that go on -/
theorem ref_ten (l : List UInt8) (hl : 10 ≤ l.length) (h : ∀ j, j < 10 → 128 ≤ (l.getD j 0).toNat) : getI l = (0, 0, 6) := by
  have h9 := h 9 (by omega)
  rw [gi_run l 9 (by omega) (by omega) (fun j hj => h j (by omega)), getD_step (by omega), if_pos ⟨rfl, by omega⟩]
/-- no digit ends it -/
theorem ref_cut (l : List UInt8) (hl : l.length ≤ 9) (h : ∀ j, j < l.length → 128 ≤ (l.getD j 0).toNat) : getI l = (0, 0, 5) := by
  rw [gi_run l l.length hl (Nat.le_refl _) h, List.drop_length, gi]
/-- digit k ends it, and is one too many -/
theorem ref_bad (l : List UInt8) (k : Nat) (hk : k < l.length) (hk9 : k ≤ 9) (h : ∀ j, j < k → 128 ≤ (l.getD j 0).toNat) (hb : k = 9 ∧ 1 < (l.getD k 0).toNat ∨ 0 < k ∧ (l.getD k 0).toNat = 0) : getI l = (0, 0, 6) := by
  rw [gi_run l k hk9 (by omega) h, getD_step hk]
  rcases hb with hb | hb
  · rw [if_pos hb]
  · by_cases h1 : k = 9 ∧ 1 < (l.getD k 0).toNat
    · rw [if_pos h1]
    · rw [if_neg h1, if_pos hb]
/-- digit k ends it -/
theorem ref_good (l : List UInt8) (k : Nat) (hk : k < l.length) (hk9 : k ≤ 9) (h : ∀ j, j < k → 128 ≤ (l.getD j 0).toNat) (hd : (l.getD k 0).toNat < 128) (h1 : ¬ (k = 9 ∧ 1 < (l.getD k 0).toNat)) (h2 : ¬ (0 < k ∧ (l.getD k 0).toNat = 0)) :
    getI l = (zag (low l (k + 1)), k + 1, 0) ∧ low l (k + 1) < 18446744073709551616 := by
  constructor
  · rw [gi_run l k hk9 (by omega) h, getD_step hk, if_neg h1, if_neg h2, if_pos hd, low, val_low l k h]
    rw [show (l.getD k 0).toNat % 128 = (l.getD k 0).toNat from Nat.mod_eq_of_lt hd]
  · have hl := low_lt l k
    rw [low]
    by_cases h9 : k = 9
    · subst h9
      rw [pow9] at hl ⊢
      have h3 : (l.getD 9 0).toNat % 128 ≤ 1 := by omega
      have := Nat.mul_le_mul_right 9223372036854775808 h3
      omega
    · have hp : 128 ^ k ≤ 128 ^ 8 := Nat.pow_le_pow_right (by decide) (by omega)
      have h8 : (128 : Nat) ^ 8 = 72057594037927936 := by decide
      have := Nat.mul_le_mul (show (l.getD k 0).toNat % 128 ≤ 127 by omega) hp
      omega

/-- one step of the sum from above -/
theorem low_step (l : List UInt8) (m z K : Nat) (h : z * 128 ^ (m + 1) + low l (m + 1) = K) : (z * 128 + (l.getD m 0).toNat % 128) * 128 ^ m + low l m = K := by
  rw [low, Nat.pow_succ] at h
  rw [Nat.add_mul, Nat.mul_assoc, Nat.mul_comm 128 (128 ^ m), ← h]
  omega
theorem low_bd (z m K x : Nat) (h : z * 128 ^ m + x = K) : z ≤ K := by
  have h1 : 0 < 128 ^ m := Nat.pow_pos (by decide)
  have := Nat.le_mul_of_pos_right z h1
  omega

end Wm
end Go.Proofs.YtdbdlhgkhnenfaaDoor
/-
  Plain mathematics of SHA-256 over words of 32 bits, and how the model's numbers of kind uint32 are words.
-/
namespace Go.Proofs.YtdbdlhgkhnenfaaDoor
namespace Sha

/-- a word as a number of the program -/
abbrev wv (x : BitVec 32) : Value := .int .u32 (x.toNat : Int)

theorem wrap_u32 (n : Nat) (h : n < 4294967296) : IntKind.u32.wrap (n : Int) = (n : Int) := by
  have := Int.emod_eq_of_lt (Int.natCast_nonneg n) (show (n : Int) < 4294967296 by omega)
  simpa [IntKind.wrap, IntKind.signed, IntKind.bits, IntKind.max, IntKind.min] using this
theorem ofInt_toNat (x : BitVec 32) : BitVec.ofInt 32 (x.toNat : Int) = x := by
  apply BitVec.eq_of_toNat_eq
  rw [BitVec.toNat_ofInt]
  have := x.isLt
  omega
theorem bits_and (x y : BitVec 32) : bits .and .u32 (x.toNat : Int) (y.toNat : Int) = ((x &&& y).toNat : Int) := by
  show IntKind.u32.wrap ((BitVec.ofInt 32 (x.toNat : Int) &&& BitVec.ofInt 32 (y.toNat : Int)).toNat : Int) = _
  rw [ofInt_toNat, ofInt_toNat, wrap_u32 _ (BitVec.isLt _)]
theorem bits_or (x y : BitVec 32) : bits .or .u32 (x.toNat : Int) (y.toNat : Int) = ((x ||| y).toNat : Int) := by
  show IntKind.u32.wrap ((BitVec.ofInt 32 (x.toNat : Int) ||| BitVec.ofInt 32 (y.toNat : Int)).toNat : Int) = _
  rw [ofInt_toNat, ofInt_toNat, wrap_u32 _ (BitVec.isLt _)]
theorem bits_xor (x y : BitVec 32) : bits .xor .u32 (x.toNat : Int) (y.toNat : Int) = ((x ^^^ y).toNat : Int) := by
  show IntKind.u32.wrap ((BitVec.ofInt 32 (x.toNat : Int) ^^^ BitVec.ofInt 32 (y.toNat : Int)).toNat : Int) = _
  rw [ofInt_toNat, ofInt_toNat, wrap_u32 _ (BitVec.isLt _)]
theorem wrap_add (x y : BitVec 32) : IntKind.u32.wrap ((x.toNat : Int) + (y.toNat : Int)) = ((x + y).toNat : Int) := by
  rw [BitVec.toNat_add]
  have h : IntKind.u32.wrap ((x.toNat : Int) + (y.toNat : Int)) = ((x.toNat : Int) + (y.toNat : Int)) % 4294967296 := by
    simp [IntKind.wrap, IntKind.signed, IntKind.bits]
  rw [h]; omega
theorem wrap_shl (x : BitVec 32) (n : Nat) : IntKind.u32.wrap ((x.toNat : Int) * 2 ^ n) = ((x <<< n).toNat : Int) := by
  rw [BitVec.toNat_shiftLeft, Nat.shiftLeft_eq]
  have h : IntKind.u32.wrap ((x.toNat : Int) * 2 ^ n) = ((x.toNat : Int) * 2 ^ n) % 4294967296 := by
    simp [IntKind.wrap, IntKind.signed, IntKind.bits]
  rw [h]
  have e : ((x.toNat : Int) * 2 ^ n) = ((x.toNat * 2 ^ n : Nat) : Int) := by push_cast; rfl
  rw [e]
  omega
theorem fdiv_shr (x : BitVec 32) (n : Nat) : ((x.toNat : Int)).fdiv (2 ^ n) = ((x >>> n).toNat : Int) := by
  rw [BitVec.toNat_ushiftRight, Nat.shiftRight_eq_div_pow, Int.fdiv_eq_ediv_of_nonneg _ (by exact_mod_cast Nat.zero_le _)]
  push_cast; rfl

/-- turned right by n places -/
def rotr (x : BitVec 32) (n : Nat) : BitVec 32 := (x >>> n) ||| (x <<< (32 - n))
/-- a word of four bytes, the greatest first -/
def be (a b c d : UInt8) : BitVec 32 := (BitVec.ofNat 32 a.toNat <<< 24) ||| (BitVec.ofNat 32 b.toNat <<< 16) ||| (BitVec.ofNat 32 c.toNat <<< 8) ||| BitVec.ofNat 32 d.toNat
def at_ (w : List (BitVec 32)) (t : Nat) : BitVec 32 := w.getD t 0
/-- the word that follows the words w -/
def next (w : List (BitVec 32)) : BitVec 32 :=
  let t := w.length
  at_ w (t - 16) + (rotr (at_ w (t - 15)) 7 ^^^ rotr (at_ w (t - 15)) 18 ^^^ (at_ w (t - 15) >>> 3)) + at_ w (t - 7) + (rotr (at_ w (t - 2)) 17 ^^^ rotr (at_ w (t - 2)) 19 ^^^ (at_ w (t - 2) >>> 10))
/-- the first words of a block -/
def heads (b : List UInt8) : Nat → List (BitVec 32)
  | 0 => []
  | t + 1 => heads b t ++ [be (b.getD (4 * t) 0) (b.getD (4 * t + 1) 0) (b.getD (4 * t + 2) 0) (b.getD (4 * t + 3) 0)]
/-- n more words -/
def more (w : List (BitVec 32)) : Nat → List (BitVec 32)
  | 0 => w
  | n + 1 => more (w ++ [next w]) n
def words (b : List UInt8) : List (BitVec 32) := more (heads b 16) 48

theorem heads_len (b : List UInt8) : ∀ t, (heads b t).length = t
  | 0 => rfl
  | t + 1 => by rw [heads, List.length_append, heads_len b t]; rfl
theorem more_len : ∀ (n : Nat) (w : List (BitVec 32)), (more w n).length = w.length + n
  | 0, _ => rfl
  | n + 1, w => by rw [more, more_len n, List.length_append]; simp only [List.length_cons, List.length_nil]; omega

/-- a message, 128, zeros up to 56 of 64, and the number of its bits in eight bytes -/
def zeros (n : Nat) : Nat := (119 - n % 64) % 64
def padded (l : List UInt8) : List UInt8 :=
  l ++ [128] ++ List.replicate (zeros l.length) 0 ++ (List.range 8).map (fun i => UInt8.ofNat (8 * l.length / 2 ^ (56 - 8 * i)))
theorem padded_len (l : List UInt8) : (padded l).length % 64 = 0 := by
  unfold padded zeros
  simp only [List.length_append, List.length_cons, List.length_nil, List.length_replicate, List.length_map, List.length_range]
  omega

end Sha
end Go.Proofs.YtdbdlhgkhnenfaaDoor
/-
  Plain mathematics of SHA-256: the rounds of a block, and the hash of a message.
-/
namespace Go.Proofs.YtdbdlhgkhnenfaaDoor
namespace Sha

structure St where
  a : BitVec 32
  b : BitVec 32
  c : BitVec 32
  d : BitVec 32
  e : BitVec 32
  f : BitVec 32
  g : BitVec 32
  h : BitVec 32

def St.cells (s : St) : Array Value := #[wv s.a, wv s.b, wv s.c, wv s.d, wv s.e, wv s.f, wv s.g, wv s.h]
def St.add (s v : St) : St := ⟨s.a + v.a, s.b + v.b, s.c + v.c, s.d + v.d, s.e + v.e, s.f + v.f, s.g + v.g, s.h + v.h⟩
def St.toList (s : St) : List (BitVec 32) := [s.a, s.b, s.c, s.d, s.e, s.f, s.g, s.h]
def first : St := ⟨0x6a09e667, 0xbb67ae85, 0x3c6ef372, 0xa54ff53a, 0x510e527f, 0x9b05688c, 0x1f83d9ab, 0x5be0cd19⟩

def mixE (v : St) (k w : BitVec 32) : BitVec 32 :=
  v.h + (rotr v.e 6 ^^^ rotr v.e 11 ^^^ rotr v.e 25) + ((v.e &&& v.f) ^^^ ((v.e ^^^ 0xffffffff) &&& v.g)) + k + w
def mixA (v : St) : BitVec 32 :=
  (rotr v.a 2 ^^^ rotr v.a 13 ^^^ rotr v.a 22) + ((v.a &&& v.b) ^^^ (v.a &&& v.c) ^^^ (v.b &&& v.c))
def round (v : St) (k w : BitVec 32) : St :=
  ⟨mixE v k w + mixA v, v.a, v.b, v.c, v.d + mixE v k w, v.e, v.f, v.g⟩
/-- t rounds -/
def runs (K ws : List (BitVec 32)) (v : St) : Nat → St
  | 0 => v
  | t + 1 => round (runs K ws v t) (at_ K t) (at_ ws t)
def block (K : List (BitVec 32)) (b : List UInt8) (s : St) : St := s.add (runs K (words b) s 64)
/-- the first n blocks of m -/
def hashed (K : List (BitVec 32)) (m : List UInt8) : Nat → St
  | 0 => first
  | n + 1 => block K ((m.drop (64 * n)).take 64) (hashed K m n)
/-- the bytes of a word, the greatest first -/
def bytesOf (x : BitVec 32) : List UInt8 := [UInt8.ofNat (x >>> 24).toNat, UInt8.ofNat (x >>> 16).toNat, UInt8.ofNat (x >>> 8).toNat, UInt8.ofNat x.toNat]
def St.out (s : St) : List UInt8 := s.toList.flatMap bytesOf
theorem St.out_len (s : St) : s.out.length = 32 := by
  simp [St.out, St.toList, bytesOf]
/-- the hash of a message, K being the constants -/
def sum (K : List (BitVec 32)) (l : List UInt8) : List UInt8 := (hashed K (padded l) ((padded l).length / 64)).out
theorem sum_len (K : List (BitVec 32)) (l : List UInt8) : (sum K l).length = 32 := St.out_len _

/-- a key of a code: the hash of a long one, zeros behind a short one, each byte combined with p -/
def key (K : List (BitVec 32)) (k : List UInt8) (p : UInt8) : List UInt8 :=
  let k' := if 64 < k.length then sum K k else k
  (List.range 64).map (fun i => (k'.getD i 0) ^^^ p)
def mac (K : List (BitVec 32)) (k text : List UInt8) : List UInt8 :=
  sum K (key K k 0x5c ++ sum K (key K k 0x36 ++ text))
theorem mac_len (K : List (BitVec 32)) (k text : List UInt8) : (mac K k text).length = 32 := sum_len _ _
theorem key_len (K : List (BitVec 32)) (k : List UInt8) (p : UInt8) : (key K k p).length = 64 := by simp [key]
/-- a long key has the codes of its hash -/
theorem key_long (K : List (BitVec 32)) (k : List UInt8) (p : UInt8) (h : 64 < k.length) : key K k p = key K (sum K k) p := by
  unfold key
  have h2 : ¬ 64 < (sum K k).length := by rw [sum_len]; omega
  simp only [if_pos h, if_neg h2]
theorem mac_long (K : List (BitVec 32)) (k text : List UInt8) (h : 64 < k.length) : mac K k text = mac K (sum K k) text := by
  unfold mac; rw [key_long K k _ h, key_long K k _ h]
/-- a short key has the codes of the key with a zero behind it -/
theorem key_short (K : List (BitVec 32)) (k : List UInt8) (p : UInt8) (h : k.length < 64) : key K k p = key K (k ++ [0]) p := by
  unfold key
  have h1 : ¬ 64 < k.length := by omega
  have h2 : ¬ 64 < (k ++ [0]).length := by rw [List.length_append]; simp; omega
  simp only [if_neg h1, if_neg h2]
  apply List.map_congr_left
  intro i _
  congr 1
  rw [List.getD_eq_getElem?_getD, List.getD_eq_getElem?_getD, List.getElem?_append]
  split
  · rfl
  · rename_i hi
    rw [List.getElem?_eq_none (by omega)]
    cases hj : i - k.length with
    | zero => rfl
    | succ n => rfl
theorem mac_short (K : List (BitVec 32)) (k text : List UInt8) (h : k.length < 64) : mac K k text = mac K (k ++ [0]) text := by
  unfold mac; rw [key_short K k _ h, key_short K k _ h]

end Sha
end Go.Proofs.YtdbdlhgkhnenfaaDoor
/-
  SHA-256: the constants (from the cube roots of the first primes), and three known hashes, by reckoning in the kernel.
-/
namespace Go.Proofs.YtdbdlhgkhnenfaaDoor
namespace Sha

def consts : List (BitVec 32) := [
    0x428a2f98, 0x71374491, 0xb5c0fbcf, 0xe9b5dba5, 0x3956c25b, 0x59f111f1, 0x923f82a4, 0xab1c5ed5,
    0xd807aa98, 0x12835b01, 0x243185be, 0x550c7dc3, 0x72be5d74, 0x80deb1fe, 0x9bdc06a7, 0xc19bf174,
    0xe49b69c1, 0xefbe4786, 0x0fc19dc6, 0x240ca1cc, 0x2de92c6f, 0x4a7484aa, 0x5cb0a9dc, 0x76f988da,
    0x983e5152, 0xa831c66d, 0xb00327c8, 0xbf597fc7, 0xc6e00bf3, 0xd5a79147, 0x06ca6351, 0x14292967,
    0x27b70a85, 0x2e1b2138, 0x4d2c6dfc, 0x53380d13, 0x650a7354, 0x766a0abb, 0x81c2c92e, 0x92722c85,
    0xa2bfe8a1, 0xa81a664b, 0xc24b8b70, 0xc76c51a3, 0xd192e819, 0xd6990624, 0xf40e3585, 0x106aa070,
    0x19a4c116, 0x1e376c08, 0x2748774c, 0x34b0bcb5, 0x391c0cb3, 0x4ed8aa4a, 0x5b9cca4f, 0x682e6ff3,
    0x748f82ee, 0x78a5636f, 0x84c87814, 0x8cc70208, 0x90befffa, 0xa4506ceb, 0xbef9a3f7, 0xc67178f2]

set_option maxRecDepth 1000000 in
theorem known_abc : sum consts [97, 98, 99] = [186, 120, 22, 191, 143, 1, 207, 234, 65, 65, 64, 222, 93, 174, 34, 35, 176, 3, 97, 163, 150, 23, 122, 156, 180, 16, 255, 97, 242, 0, 21, 173] := by decide +kernel
set_option maxRecDepth 1000000 in
theorem known_mac : mac consts [74, 101, 102, 101] [119, 104, 97, 116, 32, 100, 111, 32, 121, 97, 32, 119, 97, 110, 116, 32, 102, 111, 114, 32, 110, 111, 116, 104, 105, 110, 103, 63] = [91, 220, 193, 70, 191, 96, 117, 78, 106, 4, 36, 38, 8, 149, 117, 199, 90, 0, 63, 8, 157, 39, 57, 131, 157, 236, 88, 185, 100, 236, 56, 67] := by decide +kernel

end Sha
end Go.Proofs.YtdbdlhgkhnenfaaDoor
/-
  Plain mathematics of SHA-256 over a message that comes in pieces: what a stream holds, how a piece is added, how it ends.
-/
namespace Go.Proofs.YtdbdlhgkhnenfaaDoor
namespace Sha

theorem hashed_pre (K : List (BitVec 32)) (m t : List UInt8) : ∀ n, 64 * n ≤ m.length → hashed K (m ++ t) n = hashed K m n
  | 0, _ => rfl
  | n + 1, h => by
    rw [hashed, hashed, hashed_pre K m t n (by omega)]
    congr 1
    rw [List.drop_append_of_le_length (by omega), List.take_append_of_le_length (by rw [List.length_drop]; omega)]

/-- what a stream holds whose message is m: the value after its full blocks, and a block that begins with the rest -/
structure Str (K : List (BitVec 32)) (m : List UInt8) (v : St) (blk : List UInt8) : Prop where
  value : v = hashed K m (m.length / 64)
  len : blk.length = 64
  rest : blk.take (m.length % 64) = m.drop (64 * (m.length / 64))

theorem Str.begin (K : List (BitVec 32)) : Str K [] first (List.replicate 64 0) := ⟨rfl, by simp, by simp⟩

theorem Str.full {K : List (BitVec 32)} {m : List UInt8} {v : St} {blk : List UInt8} (h : Str K m v blk) (t : List UInt8) (ht : m.length % 64 + t.length = 64) :
    Str K (m ++ t) (block K (blk.take (m.length % 64) ++ t) v) (blk.take (m.length % 64) ++ t) := by
  have hl : (m ++ t).length = 64 * (m.length / 64 + 1) := by rw [List.length_append]; omega
  have h1 : (m ++ t).length / 64 = m.length / 64 + 1 := by omega
  have h2 : (m ++ t).length % 64 = 0 := by omega
  have hb : (m ++ t).drop (64 * (m.length / 64)) = blk.take (m.length % 64) ++ t := by
    rw [List.drop_append_of_le_length (by omega), h.rest]
  have hlb : (blk.take (m.length % 64) ++ t).length = 64 := by rw [List.length_append, List.length_take, h.len]; omega
  refine ⟨?_, hlb, ?_⟩
  · rw [h1, hashed, hashed_pre K m t _ (by omega), ← h.value, hb]
    congr 1
    exact (List.take_of_length_le (by omega)).symm
  · rw [h2, h1, List.take_zero, List.drop_of_length_le (by omega)]

theorem Str.part {K : List (BitVec 32)} {m : List UInt8} {v : St} {blk : List UInt8} (h : Str K m v blk) (t : List UInt8) (ht : m.length % 64 + t.length < 64) :
    Str K (m ++ t) v (blk.take (m.length % 64) ++ t ++ blk.drop (m.length % 64 + t.length)) := by
  have hl := List.length_append (as := m) (bs := t)
  have h1 : (m ++ t).length / 64 = m.length / 64 := by omega
  have h2 : (m ++ t).length % 64 = m.length % 64 + t.length := by omega
  have hlt : (blk.take (m.length % 64)).length = m.length % 64 := by rw [List.length_take, h.len]; omega
  refine ⟨?_, ?_, ?_⟩
  · rw [h1, hashed_pre K m t _ (by omega)]; exact h.value
  · rw [List.length_append, List.length_append, hlt, List.length_drop, h.len]; omega
  · rw [h2, h1, List.take_append_of_le_length (by rw [List.length_append, hlt]; omega), List.take_of_length_le (by rw [List.length_append, hlt]; omega), h.rest, List.drop_append_of_le_length (by omega)]

/-- the number of bits in eight bytes -/
def len8 (n : Nat) : List UInt8 := (List.range 8).map (fun i => UInt8.ofNat (8 * n / 2 ^ (56 - 8 * i)))
theorem len8_len (n : Nat) : (len8 n).length = 8 := by simp [len8]
theorem padded_eq (l : List UInt8) : padded l = l ++ (128 :: (List.replicate (zeros l.length) 0 ++ len8 l.length)) := by
  unfold padded len8; simp

theorem cons_eq {a b : UInt8} {l m : List UInt8} (h : a = b) (h2 : l = m) : a :: l = b :: m := by rw [h, h2]
theorem two_words (n : Nat) (h : 8 * n < 18446744073709551616) : bytesOf (BitVec.ofNat 32 (8 * n / 4294967296)) ++ bytesOf (BitVec.ofNat 32 (8 * n)) = len8 n := by
  unfold bytesOf len8
  have e : List.range 8 = [0, 1, 2, 3, 4, 5, 6, 7] := by decide
  rw [e]
  generalize 8 * n = y at h ⊢
  have hs : ∀ (z k : Nat), k < 32 → (BitVec.ofNat 32 z >>> k).toNat = z % 4294967296 / 2 ^ k := by
    intro z k _
    rw [BitVec.toNat_ushiftRight, BitVec.toNat_ofNat, Nat.shiftRight_eq_div_pow]
  have hu : ∀ a b : Nat, a % 256 = b % 256 → UInt8.ofNat a = UInt8.ofNat b := by
    intro a b hab
    apply UInt8.toNat_inj.1
    simp only [UInt8.toNat_ofNat']; exact hab
  simp only [List.map_cons, List.map_nil, List.cons_append, List.nil_append, hs _ 24 (by omega), hs _ 16 (by omega), hs _ 8 (by omega), BitVec.toNat_ofNat]
  refine cons_eq (hu _ _ ?_) (cons_eq (hu _ _ ?_) (cons_eq (hu _ _ ?_) (cons_eq (hu _ _ ?_) (cons_eq (hu _ _ ?_) (cons_eq (hu _ _ ?_) (cons_eq (hu _ _ ?_) (cons_eq (hu _ _ ?_) rfl)))))))
  · show y / 4294967296 % 4294967296 / 16777216 % 256 = y / 72057594037927936 % 256
    omega
  · show y / 4294967296 % 4294967296 / 65536 % 256 = y / 281474976710656 % 256
    omega
  · show y / 4294967296 % 4294967296 / 256 % 256 = y / 1099511627776 % 256
    omega
  · show y / 4294967296 % 4294967296 % 256 = y / 4294967296 % 256
    omega
  · show y % 4294967296 / 16777216 % 256 = y / 16777216 % 256
    omega
  · show y % 4294967296 / 65536 % 256 = y / 65536 % 256
    omega
  · show y % 4294967296 / 256 % 256 = y / 256 % 256
    omega
  · show y % 4294967296 % 256 = y / 1 % 256
    omega

/-- the end where the length has room in the last block -/
theorem Str.short {K : List (BitVec 32)} {m : List UInt8} {v : St} {blk : List UInt8} (h : Str K m v blk) (hr : m.length % 64 < 56) :
    (block K (blk.take (m.length % 64) ++ (128 :: (List.replicate (55 - m.length % 64) 0 ++ len8 m.length))) v).out = sum K m := by
  have hz : zeros m.length = 55 - m.length % 64 := by unfold zeros; omega
  have h8 := len8_len m.length
  have hpl : (padded m).length = 64 * (m.length / 64 + 1) := by
    rw [padded_eq, hz]
    simp only [List.length_append, List.length_cons, List.length_replicate, h8]; omega
  unfold sum
  have e1 : (padded m).length / 64 = m.length / 64 + 1 := by omega
  have e3 : (m ++ (128 :: (List.replicate (55 - m.length % 64) (0 : UInt8) ++ len8 m.length))).drop (64 * (m.length / 64)) = blk.take (m.length % 64) ++ (128 :: (List.replicate (55 - m.length % 64) 0 ++ len8 m.length)) := by
    rw [List.drop_append_of_le_length (by omega), ← h.rest]
  have e4 : (blk.take (m.length % 64) ++ (128 :: (List.replicate (55 - m.length % 64) (0 : UInt8) ++ len8 m.length))).length = 64 := by
    simp only [List.length_append, List.length_take, List.length_cons, List.length_replicate, h8, h.len]; omega
  rw [e1, hashed, padded_eq, hz, hashed_pre K m _ _ (by omega), ← h.value, e3, List.take_of_length_le (Nat.le_of_eq e4)]

/-- the end where the length needs a block of its own -/
theorem Str.long {K : List (BitVec 32)} {m : List UInt8} {v : St} {blk : List UInt8} (h : Str K m v blk) (hr : 56 ≤ m.length % 64) :
    (block K (List.replicate 56 0 ++ len8 m.length) (block K (blk.take (m.length % 64) ++ (128 :: List.replicate (63 - m.length % 64) 0)) v)).out = sum K m := by
  have hz : zeros m.length = (63 - m.length % 64) + 56 := by unfold zeros; omega
  have h8 := len8_len m.length
  have hp : padded m = (m ++ (128 :: List.replicate (63 - m.length % 64) 0)) ++ (List.replicate 56 0 ++ len8 m.length) := by
    rw [padded_eq, hz, ← List.replicate_append_replicate]; simp
  have hl1 : (m ++ (128 :: List.replicate (63 - m.length % 64) 0)).length = 64 * (m.length / 64 + 1) := by
    simp only [List.length_append, List.length_cons, List.length_replicate]; omega
  have hl2 : (List.replicate 56 (0 : UInt8) ++ len8 m.length).length = 64 := by simp only [List.length_append, List.length_replicate, h8]
  have hpl : (padded m).length = 64 * (m.length / 64 + 1) + 64 := by rw [hp, List.length_append, hl1, hl2]
  unfold sum
  have e1 : (padded m).length / 64 = (m.length / 64 + 1) + 1 := by omega
  rw [e1, hp, hashed, hashed_pre K _ _ _ (by omega), hashed, hashed_pre K m _ _ (by omega), ← h.value]
  have e2 : ((m ++ (128 :: List.replicate (63 - m.length % 64) 0)) ++ (List.replicate 56 0 ++ len8 m.length)).drop (64 * (m.length / 64 + 1)) = List.replicate 56 0 ++ len8 m.length := by
    rw [← hl1, List.drop_left]
  have e3 : (m ++ (128 :: List.replicate (63 - m.length % 64) (0 : UInt8))).drop (64 * (m.length / 64)) = blk.take (m.length % 64) ++ (128 :: List.replicate (63 - m.length % 64) 0) := by
    rw [List.drop_append_of_le_length (by omega), ← h.rest]
  have e4 : (blk.take (m.length % 64) ++ (128 :: List.replicate (63 - m.length % 64) (0 : UInt8))).length = 64 := by
    simp only [List.length_append, List.length_take, List.length_cons, List.length_replicate, h.len]; omega
  rw [e2, e3, List.take_of_length_le (Nat.le_of_eq hl2), List.take_of_length_le (Nat.le_of_eq e4)]

theorem not_xor (x : BitVec 32) : x ^^^ 0xffffffff = ~~~x := by
  have : (0xffffffff : BitVec 32) = BitVec.allOnes 32 := by decide
  rw [this, BitVec.xor_allOnes]

/-- what the hash of a message does not depend on: the pieces -/
theorem Str.sum_of {K : List (BitVec 32)} {m m' : List UInt8} (h : m = m') : sum K m = sum K m' := by rw [h]

end Sha
end Go.Proofs.YtdbdlhgkhnenfaaDoor
