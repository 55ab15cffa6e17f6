/-
  Round trips and neighbours. No program is mentioned here.
-/
import Derived.Test.YtmjjkloeipoefaaMo5
namespace Go.Proofs.Ytmjjkloeipoefaa.Mo
theorem enc_dec {n : Int} (h : okB n = true) : enc (dec 0 n) (dec 1 n) (dec 2 n) = n := by
  have hn := okB_true.1 h
  have d0 := dec_bd 0 n; have d1 := dec_bd 1 n; have d2 := dec_bd 2 n
  rw [enc_in (inB_true.2 ⟨d0, d1, d2⟩), dec_in h, dec_in h, dec_in h]
  simp only [Int.toNat_natCast, Nat.pow_zero, Nat.div_one]
  have := ED 14 n.toNat (by omega)
  rw [show (2 : Nat) ^ 1 = 2 from rfl, show (2 : Nat) ^ 2 = 4 from rfl, this]
  omega
theorem okB_enc {x y z : Int} (h : inB x y z = true) : okB (enc x y z) = true := by
  rw [enc_in h]; apply okB_true.2
  have := E_lt 14 x.toNat y.toNat z.toNat
  omega
theorem okB_enc' {x y z : Int} (h : inB x y z = false) : okB (enc x y z) = false := by rw [enc_out h]; decide
theorem dec_enc {x y z : Int} (h : inB x y z = true) : dec 0 (enc x y z) = x ∧ dec 1 (enc x y z) = y ∧ dec 2 (enc x y z) = z := by
  have hk := okB_enc h
  have hx := inB_true.1 h
  rw [dec_in hk, dec_in hk, dec_in hk, enc_in h]
  simp only [Int.toNat_natCast, Nat.pow_zero, Nat.div_one]
  rw [show (2 : Nat) ^ 1 = 2 from rfl, show (2 : Nat) ^ 2 = 4 from rfl, DE0 14 _ _ _ (by omega), DE1 14 _ _ _ (by omega), DE2 14 _ _ _ (by omega)]
  omega
theorem enc_inj {x y z x' y' z' : Int} (h : inB x y z = true) (h' : inB x' y' z' = true) (e : enc x y z = enc x' y' z') : x = x' ∧ y = y' ∧ z = z' := by
  have a := dec_enc h
  rw [e] at a
  have b := dec_enc h'
  exact ⟨a.1.symm.trans b.1, a.2.1.symm.trans b.2.1, a.2.2.symm.trans b.2.2⟩
theorem inB_dec (m : Int) : inB (dec 0 m) (dec 1 m) (dec 2 m) = true := inB_true.2 ⟨dec_bd 0 m, dec_bd 1 m, dec_bd 2 m⟩
/-- the direction -/
def dr (u : Bool) : Int := if u then 1 else -1
theorem dr_not (u : Bool) : dr (!u) = - dr u := by cases u <;> rfl
theorem nb_dr {n a : Int} {u : Bool} (h : okB n = true) (ha : 0 ≤ a ∧ a ≤ 2) : nb n a u = enc (if a = 0 then dec 0 n + dr u else dec 0 n) (if a = 1 then dec 1 n + dr u else dec 1 n) (if a = 2 then dec 2 n + dr u else dec 2 n) := nb_in h ha
theorem nb_ge (n a : Int) (u : Bool) : -1 ≤ nb n a u ∧ nb n a u < 4398046511104 := by
  unfold nb
  split
  · exact enc_bd _ _ _
  · omega
/-- what a neighbour is -/
theorem nb_all {x y z a : Int} {u : Bool} (hm : ¬ nb (enc x y z) a u < 0) :
    inB x y z = true ∧ okB (nb (enc x y z) a u) = true ∧ nb (nb (enc x y z) a u) a (!u) = enc x y z ∧ enc x y z ≠ nb (enc x y z) a u := by
  cases h : inB x y z with
  | false => rw [nb_out (.inl (okB_enc' h))] at hm; omega
  | true =>
    have hk := okB_enc h
    have ha : 0 ≤ a ∧ a ≤ 2 := by
      by_cases h0 : a < 0
      · rw [nb_out (.inr (.inl h0))] at hm; omega
      · by_cases h2 : 2 < a
        · rw [nb_out (.inr (.inr h2))] at hm; omega
        · omega
    obtain ⟨e0, e1, e2⟩ := dec_enc h
    have hnb := nb_dr (u := u) hk ha
    rw [e0, e1, e2] at hnb
    cases hq : inB (if a = 0 then x + dr u else x) (if a = 1 then y + dr u else y) (if a = 2 then z + dr u else z) with
    | false => rw [hnb, enc_out hq] at hm; omega
    | true =>
      have hkq := okB_enc hq
      rw [← hnb] at hkq
      refine ⟨rfl, hkq, ?_, ?_⟩
      · rw [nb_dr hkq ha, hnb]
        obtain ⟨f0, f1, f2⟩ := dec_enc hq
        rw [f0, f1, f2, dr_not]
        congr 1
        · split <;> omega
        · split <;> omega
        · split <;> omega
      · rw [hnb]
        intro e
        have hi := enc_inj h hq e
        have hd : dr u = 1 ∨ dr u = -1 := by cases u; exact .inr rfl; exact .inl rfl
        have h3 : a = 0 ∨ a = 1 ∨ a = 2 := by omega
        rcases h3 with rfl | rfl | rfl
        · have := hi.1; simp only [if_true] at this; omega
        · have := hi.2.1; simp only [if_true] at this; omega
        · have := hi.2.2; simp only [if_true] at this; omega
theorem pw_three (L : Nat) : pw L * pw L * pw L = pw (3 * L) := by
  unfold pw
  rw [show 3 * L = L + L + L by omega, Nat.pow_add, Nat.pow_add]
  simp
/-- the least common cube of two different cells holds both -/
theorem com_all {x y z x' y' z' : Int} (h : inB x y z = true) (h' : inB x' y' z' = true) (hne : enc x y z ≠ enc x' y' z') :
    ∃ L : Nat, com 3 x y z x' y' z' = (L : Int) ∧ 1 ≤ L ∧ L ≤ 14 ∧ 0 ≤ enc (com 0 x y z x' y' z') (com 1 x y z x' y' z') (com 2 x y z x' y' z') ∧
      enc (com 0 x y z x' y' z') (com 1 x y z x' y' z') (com 2 x y z x' y' z') ≤ enc x y z ∧ enc (com 0 x y z x' y' z') (com 1 x y z x' y' z') (com 2 x y z x' y' z') ≤ enc x' y' z' ∧
      enc x y z < enc (com 0 x y z x' y' z') (com 1 x y z x' y' z') (com 2 x y z x' y' z') + pw (3 * L) ∧ enc x' y' z' < enc (com 0 x y z x' y' z') (com 1 x y z x' y' z') (com 2 x y z x' y' z') + pw (3 * L) := by
  have hx := inB_true.1 h
  have hx' := inB_true.1 h'
  obtain ⟨x, rfl⟩ := Int.eq_ofNat_of_zero_le hx.1.1
  obtain ⟨y, rfl⟩ := Int.eq_ofNat_of_zero_le hx.2.1.1
  obtain ⟨z, rfl⟩ := Int.eq_ofNat_of_zero_le hx.2.2.1
  obtain ⟨x', rfl⟩ := Int.eq_ofNat_of_zero_le hx'.1.1
  obtain ⟨y', rfl⟩ := Int.eq_ofNat_of_zero_le hx'.2.1.1
  obtain ⟨z', rfl⟩ := Int.eq_ofNat_of_zero_le hx'.2.2.1
  have hb : (inB (x : Int) y z && inB (x' : Int) y' z') = true := by rw [h, h']; rfl
  have hc := com_in hb
  have hn : (x < 16384 ∧ y < 16384 ∧ z < 16384) ∧ (x' < 16384 ∧ y' < 16384 ∧ z' < 16384) := by omega
  rw [hc.1, hc.2.1, hc.2.2.1, hc.2.2.2]
  rw [enc_in h, enc_in h'] at *
  simp only [Int.toNat_natCast] at *
  obtain ⟨L, hL⟩ : ∃ L, L = lev x y z x' y' z' := ⟨_, rfl⟩
  rw [← hL]
  have hL14 : L ≤ 14 := by rw [hL]; exact lev_le14 hn
  have hle := (lev_le (l := L) hL14 hn).1 (by rw [hL]; exact Nat.le_refl _)
  have lt : ∀ c, c < 16384 → c / 2 ^ L * 2 ^ L < 16384 := fun c hc => Nat.lt_of_le_of_lt (Nat.div_mul_le_self _ _) hc
  have l1 := lt x hn.1.1; have l2 := lt y hn.1.2.1; have l3 := lt z hn.1.2.2
  rw [enc_in (inB_true.2 (by omega))]
  simp only [Int.toNat_natCast]
  rw [E_corner L x y z hL14]
  have hE' : E 14 x y z / 8 ^ L = E 14 x' y' z' / 8 ^ L := by
    have e : 14 = (14 - L) + L := by omega
    rw [e, E_div, E_div, hle.1, hle.2.1, hle.2.2]
  have p8 : (8 : Nat) ^ L = 2 ^ (3 * L) := pow83 L
  have hpw : pw (3 * L) = ((8 ^ L : Nat) : Int) := by unfold pw; rw [p8]
  have hpos : 0 < 8 ^ L := by rw [p8]; exact Nat.two_pow_pos _
  have a1 := Nat.div_mul_le_self (E 14 x y z) (8 ^ L)
  have a2 := Nat.div_mul_le_self (E 14 x' y' z') (8 ^ L)
  have a3 := Nat.lt_div_mul_add (a := E 14 x y z) hpos
  have a4 := Nat.lt_div_mul_add (a := E 14 x' y' z') hpos
  rw [← hE'] at a2 a4
  refine ⟨L, rfl, ?_, hL14, by omega, by omega, by omega, by rw [hpw]; omega, by rw [hpw]; omega⟩
  rcases Nat.eq_zero_or_pos L with h0 | h0
  · exfalso
    rw [h0] at hle
    simp only [Nat.pow_zero, Nat.div_one] at hle
    rw [hle.1, hle.2.1, hle.2.2] at hne
    exact hne rfl
  · exact h0
end Go.Proofs.Ytmjjkloeipoefaa.Mo
