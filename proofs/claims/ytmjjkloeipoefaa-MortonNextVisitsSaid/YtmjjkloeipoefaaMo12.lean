/-
  What the search for the next code finds; how many codes a box has. No program is mentioned here.
-/
import Derived.Test.YtmjjkloeipoefaaMo11
namespace Go.Proofs.Ytmjjkloeipoefaa.Mo

/-- is c the code of a cell of the box? -/
def pc (b1 b2 b3 b4 b5 b6 : Int) (c : Nat) : Bool := okB c && cellB b1 b2 b3 b4 b5 b6 (dec 0 c) (dec 1 c) (dec 2 c)
section
variable {b1 b2 b3 b4 b5 b6 : Int}
theorem cellB_true {x y z : Int} : cellB b1 b2 b3 b4 b5 b6 x y z = true ↔ inB x y z = true ∧ (b1 ≤ x ∧ x < b4) ∧ (b2 ≤ y ∧ y < b5) ∧ (b3 ≤ z ∧ z < b6) := by
  unfold cellB
  simp only [Bool.and_eq_true, decide_eq_true_eq]
  constructor
  · rintro ⟨⟨⟨⟨⟨⟨h, h1⟩, h2⟩, h3⟩, h4⟩, h5⟩, h6⟩; exact ⟨h, ⟨h1, h4⟩, ⟨h2, h5⟩, ⟨h3, h6⟩⟩
  · rintro ⟨h, ⟨h1, h4⟩, ⟨h2, h5⟩, ⟨h3, h6⟩⟩; exact ⟨⟨⟨⟨⟨⟨h, h1⟩, h2⟩, h3⟩, h4⟩, h5⟩, h6⟩
theorem pc_out {x y z : Int} {l : Nat} (ha : al x y z l) (hm : meets b1 b2 b3 b4 b5 b6 x y z l = false) {c : Nat} (h1 : enc x y z ≤ (c : Int)) (h2 : (c : Int) < enc x y z + pw (3 * l)) : pc b1 b2 b3 b4 b5 b6 c = false := by
  have hc := al_cell ha h1 h2
  cases h : pc b1 b2 b3 b4 b5 b6 c with
  | false => rfl
  | true =>
    exfalso
    unfold pc at h
    rw [Bool.and_eq_true, cellB_true] at h
    unfold meets at hm
    rw [Bool.and_eq_false_iff, Bool.and_eq_false_iff, decide_eq_false_iff_not, decide_eq_false_iff_not, decide_eq_false_iff_not] at hm
    omega
theorem pc_in {x y z : Int} {l : Nat} (ha : al x y z l) (hw : within b1 b2 b3 b4 b5 b6 x y z l = true) {c : Nat} (h1 : enc x y z ≤ (c : Int)) (h2 : (c : Int) < enc x y z + pw (3 * l)) : pc b1 b2 b3 b4 b5 b6 c = true := by
  have hc := al_cell ha h1 h2
  unfold within at hw
  simp only [Bool.and_eq_true, decide_eq_true_eq] at hw
  unfold pc
  rw [hc.2.2.2, Bool.true_and, cellB_true]
  exact ⟨inB_dec _, by omega, by omega, by omega⟩

/-- r is the least code from n on that is the code of a cell, among those from lo to hi; or there is none -/
def Fnd (b1 b2 b3 b4 b5 b6 lo hi n r : Int) : Prop :=
  (r = -1 ∧ ∀ c : Nat, lo ≤ c → c < hi → n ≤ c → pc b1 b2 b3 b4 b5 b6 c = false) ∨
  (∃ v : Nat, r = v ∧ n ≤ v ∧ lo ≤ v ∧ v < hi ∧ pc b1 b2 b3 b4 b5 b6 v = true ∧ ∀ c : Nat, lo ≤ c → n ≤ c → c < v → pc b1 b2 b3 b4 b5 b6 c = false)
theorem fn_fnd {g : Nat → Int} {e w n : Int} (hw : 0 < w) : ∀ (k o : Nat), (∀ i, o ≤ i → i < o + k → Fnd b1 b2 b3 b4 b5 b6 (e + i * w) (e + i * w + w) n (g i)) → Fnd b1 b2 b3 b4 b5 b6 (e + o * w) (e + o * w + k * w) n (fn g k o)
  | 0, o, _ => .inl ⟨rfl, fun c h1 h2 => by simp at h2; omega⟩
  | k + 1, o, h => by
    have h0 := h o (Nat.le_refl _) (by omega)
    have hr := fn_fnd hw k (o + 1) (fun i h1 h2 => h i (by omega) (by omega))
    have e1 : e + ((o + 1 : Nat) : Int) * w = e + o * w + w := by rw [Int.natCast_succ, Int.add_mul]; omega
    have e2 : ((k + 1 : Nat) : Int) * w = k * w + w := by rw [Int.natCast_succ, Int.add_mul]; omega
    have hk : 0 ≤ (k : Int) * w := Int.mul_nonneg (by omega) (by omega)
    rw [e1] at hr
    rw [e2]
    rcases h0 with ⟨hv, hn⟩ | ⟨v, hv, a1, a2, a3, a4, a5⟩
    · rw [fn_no (by rw [hv]; decide)]
      rcases hr with ⟨hv2, hn2⟩ | ⟨v, hv2, a1, a2, a3, a4, a5⟩
      · exact .inl ⟨hv2, fun c h1 h2 h3 => by
          by_cases hc : (c : Int) < e + o * w + w
          · exact hn c h1 hc h3
          · exact hn2 c (by omega) (by omega) h3⟩
      · refine .inr ⟨v, hv2, a1, by omega, by omega, a4, fun c h1 h2 h3 => ?_⟩
        by_cases hc : (c : Int) < e + o * w + w
        · exact hn c h1 hc h2
        · exact a5 c (by omega) h2 h3
    · rw [fn_yes (by rw [hv]; omega)]
      exact .inr ⟨v, hv, a1, a2, by omega, a4, a5⟩
theorem nx_fnd {n : Int} : ∀ (l : Nat) (x y z : Int), al x y z l → Fnd b1 b2 b3 b4 b5 b6 (enc x y z) (enc x y z + pw (3 * l)) n (nx b1 b2 b3 b4 b5 b6 n l x y z) := by
  have top : ∀ (l : Nat) (x y z : Int) (r : Int), al x y z l → (within b1 b2 b3 b4 b5 b6 x y z l = false → meets b1 b2 b3 b4 b5 b6 x y z l = true → Fnd b1 b2 b3 b4 b5 b6 (enc x y z) (enc x y z + pw (3 * l)) n r) →
      Fnd b1 b2 b3 b4 b5 b6 (enc x y z) (enc x y z + pw (3 * l)) n (stepN (meets b1 b2 b3 b4 b5 b6 x y z l) (within b1 b2 b3 b4 b5 b6 x y z l) (enc x y z) (enc x y z + pw (3 * l) - 1) n r) := by
    intro l x y z r ha hr
    cases hm : meets b1 b2 b3 b4 b5 b6 x y z l with
    | false => rw [stepN_a]; exact .inl ⟨rfl, fun c h1 h2 _ => pc_out ha hm h1 h2⟩
    | true =>
      by_cases hq : enc x y z + pw (3 * l) - 1 < n
      · rw [stepN_b hq]; exact .inl ⟨rfl, fun c h1 h2 h3 => by omega⟩
      · cases hw : within b1 b2 b3 b4 b5 b6 x y z l with
        | false => rw [stepN_d hq]; exact hr hw hm
        | true =>
          rw [stepN_c hq]
          have he : 0 ≤ enc x y z := by rw [enc_in (sits_in (al_sits ha))]; omega
          have hp := pw_pos (3 * l)
          refine .inr ⟨(max (enc x y z) n).toNat, by omega, by omega, by omega, by omega, pc_in ha hw (by omega) (by omega), fun c h1 h2 h3 => by omega⟩
  intro l
  induction l with
  | zero =>
    intro x y z ha
    rw [nx]
    exact top 0 x y z (-1) ha (fun hw hm => by rw [within0 hm] at hw; cases hw)
  | succ l ih =>
    intro x y z ha
    rw [nx]
    refine top (l + 1) x y z _ ha (fun _ _ => ?_)
    have h := fn_fnd (b1 := b1) (b2 := b2) (b3 := b3) (b4 := b4) (b5 := b5) (b6 := b6) (g := fun o => nx b1 b2 b3 b4 b5 b6 n l (x + cx 0 o l) (y + cx 1 o l) (z + cx 2 o l)) (e := enc x y z) (n := n) (w := pw (3 * l)) (by have := pw_pos (3 * l); omega) 8 0 (fun i _ hi => by
      have hc := al_child ha (show i < 8 by omega)
      have := ih _ _ _ hc.1
      rw [hc.2] at this
      exact this)
    rw [show enc x y z + ((0 : Nat) : Int) * pw (3 * l) = enc x y z by simp] at h
    rw [pw8]
    exact h

/-- how many of the k numbers from s on -/
def cntR (P : Nat → Bool) (s : Nat) : Nat → Nat
  | 0 => 0
  | k + 1 => cntR P s k + (if P (s + k) then 1 else 0)
theorem cntR_add (P : Nat → Bool) (s a : Nat) : ∀ b, cntR P s (a + b) = cntR P s a + cntR P (s + a) b
  | 0 => rfl
  | b + 1 => by
    rw [← Nat.add_assoc, cntR, cntR_add P s a b, cntR, ← Nat.add_assoc s a b]; omega
theorem cntR_none {P : Nat → Bool} {s : Nat} : ∀ {k : Nat}, (∀ c, s ≤ c → c < s + k → P c = false) → cntR P s k = 0
  | 0, _ => rfl
  | k + 1, h => by
    rw [cntR, cntR_none (fun c h1 h2 => h c h1 (by omega)), h (s + k) (by omega) (by omega)]; rfl
theorem cntR_le (P : Nat → Bool) (s a b : Nat) : cntR P s a ≤ cntR P s (a + b) := by rw [cntR_add]; omega
/-- the overlap in one direction -/
def ov (x : Int) (l : Nat) (lo hi : Int) : Nat := (min (x + pw l) hi - max x lo).toNat
theorem ov_split (x : Int) (l : Nat) (lo hi : Int) : ov x (l + 1) lo hi = ov x l lo hi + ov (x + pw l) l lo hi := by
  have := pw_pos l
  unfold ov
  rw [pw_succ]
  omega
theorem cnt_al : ∀ (l : Nat) (x y z : Int), al x y z l → cntR (pc b1 b2 b3 b4 b5 b6) (enc x y z).toNat (8 ^ l) = ov x l b1 b4 * ov y l b2 b5 * ov z l b3 b6
  | 0, x, y, z, ha => by
    have hs := al_sits ha
    have hi := sits_in hs
    have he : 0 ≤ enc x y z := by rw [enc_in hi]; omega
    have hd := dec_enc hi
    rw [show (8 : Nat) ^ 0 = 0 + 1 from rfl, cntR, cntR, Nat.add_zero, Nat.zero_add]
    unfold pc
    rw [show (((enc x y z).toNat : Nat) : Int) = enc x y z by omega, okB_enc hi, Bool.true_and, hd.1, hd.2.1, hd.2.2]
    have o1 : ∀ c lo hi : Int, ov c 0 lo hi = if lo ≤ c ∧ c < hi then 1 else 0 := fun c lo hi => by
      unfold ov; rw [pw0]; split <;> omega
    rw [o1, o1, o1]
    cases hc : cellB b1 b2 b3 b4 b5 b6 x y z with
    | true =>
      have := (cellB_true.1 hc).2
      rw [if_pos this.1, if_pos this.2.1, if_pos this.2.2]; rfl
    | false =>
      have hn : ¬ ((b1 ≤ x ∧ x < b4) ∧ (b2 ≤ y ∧ y < b5) ∧ (b3 ≤ z ∧ z < b6)) := fun h => by
        have := cellB_true.2 ⟨hi, h⟩; rw [hc] at this; cases this
      by_cases h1 : b1 ≤ x ∧ x < b4
      · by_cases h2 : b2 ≤ y ∧ y < b5
        · rw [if_neg (show ¬ (b3 ≤ z ∧ z < b6) from fun h3 => hn ⟨h1, h2, h3⟩)]; simp
        · rw [if_neg h2]; simp
      · rw [if_neg h1]; simp
  | l + 1, x, y, z, ha => by
    have he : 0 ≤ enc x y z := by rw [enc_in (sits_in (al_sits ha))]; omega
    have hp : pw (3 * l) = ((8 ^ l : Nat) : Int) := by unfold pw; rw [pow83]
    have c : ∀ o, o < 8 → cntR (pc b1 b2 b3 b4 b5 b6) ((enc x y z).toNat + o * 8 ^ l) (8 ^ l) = ov (x + cx 0 o l) l b1 b4 * ov (y + cx 1 o l) l b2 b5 * ov (z + cx 2 o l) l b3 b6 := fun o ho => by
      have hc := al_child ha ho
      have := cnt_al l _ _ _ hc.1
      rw [hc.2, hp] at this
      rw [← this]
      congr 1
      obtain ⟨q, hq⟩ : ∃ q, q = o * 8 ^ l := ⟨_, rfl⟩
      rw [← Int.natCast_mul, ← hq]
      omega
    have s8 : 8 ^ (l + 1) = 8 ^ l + (8 ^ l + (8 ^ l + (8 ^ l + (8 ^ l + (8 ^ l + (8 ^ l + 8 ^ l)))))) := by rw [pow8]; omega
    rw [s8, cntR_add, cntR_add, cntR_add, cntR_add, cntR_add, cntR_add, cntR_add]
    have c0 := c 0 (by omega); have c1 := c 1 (by omega); have c2 := c 2 (by omega); have c3 := c 3 (by omega)
    have c4 := c 4 (by omega); have c5 := c 5 (by omega); have c6 := c 6 (by omega); have c7 := c 7 (by omega)
    have k0 : ∀ i o, o / 2 ^ i % 2 = 0 → cx i o l = 0 := fun i o h => by unfold cx; rw [h]; simp
    have k1 : ∀ i o, o / 2 ^ i % 2 = 1 → cx i o l = pw l := fun i o h => by unfold cx; rw [h]; simp
    rw [k0 0 0 rfl, k0 1 0 rfl, k0 2 0 rfl] at c0
    rw [k1 0 1 rfl, k0 1 1 rfl, k0 2 1 rfl] at c1
    rw [k0 0 2 rfl, k1 1 2 rfl, k0 2 2 rfl] at c2
    rw [k1 0 3 rfl, k1 1 3 rfl, k0 2 3 rfl] at c3
    rw [k0 0 4 rfl, k0 1 4 rfl, k1 2 4 rfl] at c4
    rw [k1 0 5 rfl, k0 1 5 rfl, k1 2 5 rfl] at c5
    rw [k0 0 6 rfl, k1 1 6 rfl, k1 2 6 rfl] at c6
    rw [k1 0 7 rfl, k1 1 7 rfl, k1 2 7 rfl] at c7
    simp only [Int.add_zero] at c0 c1 c2 c3 c4 c5 c6 c7
    rw [show (enc x y z).toNat + 0 * 8 ^ l = (enc x y z).toNat by omega] at c0
    rw [show (enc x y z).toNat + 1 * 8 ^ l = (enc x y z).toNat + 8 ^ l by omega] at c1
    rw [show (enc x y z).toNat + 2 * 8 ^ l = (enc x y z).toNat + 8 ^ l + 8 ^ l by omega] at c2
    rw [show (enc x y z).toNat + 3 * 8 ^ l = (enc x y z).toNat + 8 ^ l + 8 ^ l + 8 ^ l by omega] at c3
    rw [show (enc x y z).toNat + 4 * 8 ^ l = (enc x y z).toNat + 8 ^ l + 8 ^ l + 8 ^ l + 8 ^ l by omega] at c4
    rw [show (enc x y z).toNat + 5 * 8 ^ l = (enc x y z).toNat + 8 ^ l + 8 ^ l + 8 ^ l + 8 ^ l + 8 ^ l by omega] at c5
    rw [show (enc x y z).toNat + 6 * 8 ^ l = (enc x y z).toNat + 8 ^ l + 8 ^ l + 8 ^ l + 8 ^ l + 8 ^ l + 8 ^ l by omega] at c6
    rw [show (enc x y z).toNat + 7 * 8 ^ l = (enc x y z).toNat + 8 ^ l + 8 ^ l + 8 ^ l + 8 ^ l + 8 ^ l + 8 ^ l + 8 ^ l by omega] at c7
    rw [c0, c1, c2, c3, c4, c5, c6, c7, ov_split x, ov_split y, ov_split z]
    simp only [Nat.add_mul, Nat.mul_add]
    omega
end
end Go.Proofs.Ytmjjkloeipoefaa.Mo
