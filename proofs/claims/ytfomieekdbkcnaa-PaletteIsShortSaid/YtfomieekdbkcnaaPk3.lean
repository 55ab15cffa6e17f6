/-
  Reading the packed form: what a text gives. (No program.)
-/
import Derived.Test.YtfomieekdbkcnaaPk2
namespace Go.Proofs.Ytfomieekdbkcnaa.Pl
set_option linter.unusedVariables false
/-- how many cells of the palette have had their turn behind k indices -/
def sn (f : Nat → Nat) : Nat → Nat
  | 0 => 0
  | k + 1 => if f k = sn f k then sn f k + 1 else sn f k
/-- index k is good -/
def okS (m n : Nat) (f : Nat → Nat) (k : Nat) : Prop := f k ≤ sn f k ∧ f k < m ∧ m ≤ sn f (k + 1) + (n - (k + 1))
instance (m n : Nat) (f : Nat → Nat) (k : Nat) : Decidable (okS m n f k) := inferInstanceAs (Decidable (_ ∧ _ ∧ _))
def uN (t : List UInt8) : Nat := (t.getD 0 0).toNat
def uM (t : List UInt8) : Nat := (t.getD 1 0).toNat
def uP (t : List UInt8) : List Int := ints ((t.drop 2).take (uM t))
def uW (t : List UInt8) : Nat := wd (uM t)
def uR (t : List UInt8) : Nat := room (uN t) (uW t)
def uB (t : List UInt8) : List UInt8 := (t.drop (2 + uM t)).take (uR t)
def uF (t : List UInt8) : Nat → Nat := fld (uW t) (V (uB t))
/-- index i is there, and bad -/
def bad (m n w : Nat) (b : List UInt8) (i : Nat) : Prop := (i + 1) * w ≤ b.length * 8 ∧ ¬ okS m n (fld w (V b)) i
instance (m n w : Nat) (b : List UInt8) (i : Nat) : Decidable (bad m n w b i) := inferInstanceAs (Decidable (_ ∧ ¬ _))
def uBad (t : List UInt8) : Bool := (List.range (uN t)).any fun i => decide (bad (uM t) (uN t) (uW t) (uB t) i)
/-- the cells that indices stand for -/
def cellsOf (p : List Int) (f : Nat → Nat) (n : Nat) : List Int := (List.range n).map fun i => p.getD (f i) 0
/-- what the head of a text is: an error, or none -/
def hE (t : List UInt8) : Nat :=
  if t.length = 0 then 5 else if 64 < uN t then 6 else if t.length = 1 then 5 else if uM t = 0 ∨ uN t < uM t then 6
  else if (pal (uP t)).length < (uP t).length then 6 else if (uP t).length < uM t then 5 else 0
/-- the cells, the number of bytes and the error -/
def un (t : List UInt8) : List Int × Nat × Nat :=
  if t.length ≠ 0 ∧ uN t = 0 then ([], 1, 0) else if hE t ≠ 0 then ([], 0, hE t)
  else if uBad t = true then ([], 0, 6) else if (uB t).length < uR t then ([], 0, 5) else if 2 ^ (uW t * uN t) ≤ V (uB t) then ([], 0, 6)
  else (cellsOf (uP t) (uF t) (uN t), 2 + uM t + uR t, 0)
theorem any_range {n : Nat} {p : Nat → Bool} : (List.range n).any p = true ↔ ∃ i, i < n ∧ p i = true := by
  simp only [List.any_eq_true, List.mem_range]
theorem uBad_iff {t : List UInt8} : uBad t = true ↔ ∃ i, i < uN t ∧ bad (uM t) (uN t) (uW t) (uB t) i := by
  unfold uBad; rw [any_range]; simp
theorem uBad_no {t : List UInt8} : uBad t = false ↔ ∀ i, i < uN t → ¬ bad (uM t) (uN t) (uW t) (uB t) i := by
  rw [← Bool.not_eq_true, uBad_iff]
  exact ⟨fun h i hi hb => h ⟨i, hi, hb⟩, fun h ⟨i, hi, hb⟩ => h i hi hb⟩
theorem un_zero {t : List UInt8} (h : t.length ≠ 0) (h0 : uN t = 0) : un t = ([], 1, 0) := by unfold un; rw [if_pos ⟨h, h0⟩]
theorem un_head {t : List UInt8} (h : ¬ (t.length ≠ 0 ∧ uN t = 0)) (h0 : hE t ≠ 0) : un t = ([], 0, hE t) := by unfold un; rw [if_neg h, if_pos h0]
theorem un_bad {t : List UInt8} (h : ¬ (t.length ≠ 0 ∧ uN t = 0)) (h0 : hE t = 0) (hb : uBad t = true) : un t = ([], 0, 6) := by unfold un; rw [if_neg h, if_neg (by omega), if_pos hb]
theorem un_cut {t : List UInt8} (h : ¬ (t.length ≠ 0 ∧ uN t = 0)) (h0 : hE t = 0) (hb : uBad t = false) (hc : (uB t).length < uR t) : un t = ([], 0, 5) := by
  unfold un; rw [if_neg h, if_neg (by omega), if_neg (by rw [hb]; simp), if_pos hc]
theorem un_tail {t : List UInt8} (h : ¬ (t.length ≠ 0 ∧ uN t = 0)) (h0 : hE t = 0) (hb : uBad t = false) (hc : ¬ (uB t).length < uR t) (hv : 2 ^ (uW t * uN t) ≤ V (uB t)) : un t = ([], 0, 6) := by
  unfold un; rw [if_neg h, if_neg (by omega), if_neg (by rw [hb]; simp), if_neg hc, if_pos hv]
theorem un_ok {t : List UInt8} (h : ¬ (t.length ≠ 0 ∧ uN t = 0)) (h0 : hE t = 0) (hb : uBad t = false) (hc : ¬ (uB t).length < uR t) (hv : ¬ 2 ^ (uW t * uN t) ≤ V (uB t)) : un t = (cellsOf (uP t) (uF t) (uN t), 2 + uM t + uR t, 0) := by
  unfold un; rw [if_neg h, if_neg (by omega), if_neg (by rw [hb]; simp), if_neg hc, if_neg hv]
theorem hE_0 {t : List UInt8} : hE t = 0 ↔ t.length ≠ 0 ∧ uN t ≤ 64 ∧ t.length ≠ 1 ∧ uM t ≠ 0 ∧ uM t ≤ uN t ∧ (uP t).Nodup ∧ uM t ≤ (uP t).length := by
  unfold hE
  have hs := pal_short (l := uP t)
  split
  · constructor
    · intro h; omega
    · intro h; omega
  · split
    · constructor
      · intro h; omega
      · intro h; omega
    · split
      · constructor
        · intro h; omega
        · intro h; omega
      · split
        · constructor
          · intro h; omega
          · intro h; omega
        · split
          · rename_i h5
            have := hs.2 h5
            constructor
            · intro h; omega
            · intro h; exact absurd h.2.2.2.2.2.1 this
          · rename_i h5
            have : (uP t).Nodup := Decidable.not_not.1 (fun hn => h5 (hs.1 hn))
            split
            · constructor
              · intro h; omega
              · intro h; omega
            · refine ⟨fun _ => ⟨by omega, by omega, by omega, by omega, by omega, this, by omega⟩, fun _ => rfl⟩
theorem hE_cases (t : List UInt8) : hE t = 0 ∨ hE t = 5 ∨ hE t = 6 := by
  unfold hE
  repeat' split
  all_goals simp
theorem un_err {t : List UInt8} (h : (un t).2.2 ≠ 0) : un t = ([], 0, (un t).2.2) := by
  by_cases h1 : t.length ≠ 0 ∧ uN t = 0
  · rw [un_zero h1.1 h1.2] at h; exact absurd rfl h
  · by_cases h2 : hE t = 0
    · cases h3 : uBad t with
      | true => rw [un_bad h1 h2 h3]
      | false =>
        by_cases h4 : (uB t).length < uR t
        · rw [un_cut h1 h2 h3 h4]
        · by_cases h5 : 2 ^ (uW t * uN t) ≤ V (uB t)
          · rw [un_tail h1 h2 h3 h4 h5]
          · rw [un_ok h1 h2 h3 h4 h5] at h; exact absurd rfl h
    · rw [un_head h1 h2]
theorem sn_congr {f g : Nat → Nat} : ∀ {k : Nat}, (∀ i, i < k → f i = g i) → sn f k = sn g k
  | 0, _ => rfl
  | k + 1, h => by rw [sn, sn, sn_congr (fun i hi => h i (by omega)), h k (by omega)]
theorem okS_congr {m n : Nat} {f g : Nat → Nat} {k : Nat} (h : ∀ i, i ≤ k → f i = g i) : okS m n f k ↔ okS m n g k := by
  unfold okS
  rw [h k (Nat.le_refl _), sn_congr (k := k) (fun i hi => h i (by omega)), sn_congr (k := k + 1) (fun i hi => h i (by omega))]
theorem sn_le (f : Nat → Nat) : ∀ k, sn f k ≤ k
  | 0 => Nat.le_refl _
  | k + 1 => by have := sn_le f k; rw [sn]; split <;> omega
/-- bytes from the front are the number's lowest digits -/
theorem V_take : ∀ (t : List UInt8) (k : Nat), V (t.take k) = V t % 256 ^ k
  | t, 0 => by simp [V, Nat.mod_one]
  | [], k + 1 => by simp [V]
  | b :: t, k + 1 => by
    have hb : b.toNat < 256 := b.toNat_lt
    rw [List.take_succ_cons, V, V, V_take t k, Nat.pow_succ, Nat.mul_comm (256 ^ k), Nat.mod_mul]
    rw [show (b.toNat + 256 * V t) % 256 = b.toNat by omega, show (b.toNat + 256 * V t) / 256 = V t by omega]
theorem fld_take {t : List UInt8} {w k i : Nat} (h : (i + 1) * w ≤ k * 8) : fld w (V (t.take k)) i = fld w (V t) i := by
  rw [V_take, pow256]
  unfold fld
  have e : w * i + w + (8 * k - (w * i + w)) = 8 * k := by
    have : (i + 1) * w = w * i + w := by rw [Nat.add_mul, Nat.one_mul, Nat.mul_comm]
    omega
  rw [show 2 ^ (8 * k) = 2 ^ (w * i) * (2 ^ w * 2 ^ (8 * k - (w * i + w))) by rw [← Nat.pow_add, ← Nat.pow_add, ← Nat.add_assoc, e]]
  rw [Nat.mod_mul_right_div_self, Nat.mod_mul_right_mod]
theorem mem_take1 {l : List Int} {k : Nat} (hk : k < l.length) : l[k] ∈ l.take (k + 1) := by
  have e := List.take_succ_eq_append_getElem hk
  exact e ▸ List.mem_append_right _ (List.mem_singleton.2 rfl)
theorem sn_pal {l : List Int} : ∀ {k : Nat}, k ≤ l.length → sn (ix (pal l) l) k = (pal (l.take k)).length
  | 0, _ => by simp [sn, pal]
  | k + 1, h => by
    have hk : k < l.length := h
    rw [sn, sn_pal (k := k) (by omega), pal_step hk]
    have e : ix (pal l) l k = (pal (l.take (k + 1))).idxOf l[k] := by
      unfold ix
      rw [show l.getD k 0 = l[k] by simp [List.getD, hk]]
      have := idx_pal (l.take (k + 1)) (l.drop (k + 1)) (c := l[k]) (mem_take1 hk)
      rw [List.take_append_drop] at this
      exact this
    rw [e, pal_step hk]
    by_cases hm : l[k] ∈ pal (l.take k)
    · rw [if_pos hm]
      have := idx_lt hm
      rw [if_neg (by omega)]
    · rw [if_neg hm, List.idxOf_append, if_neg hm]
      simp
theorem pal_app_len (a b : List Int) : (pal (a ++ b)).length ≤ (pal a).length + b.length := by
  refine pal_ind (P := fun b => (pal (a ++ b)).length ≤ (pal a).length + b.length) (by simp) ?_ b
  intro b c ih
  rw [← List.append_assoc, pal_app]
  split <;> simp <;> omega
theorem okS_pal {l : List Int} {k : Nat} (hk : k < l.length) : okS (pal l).length l.length (ix (pal l) l) k := by
  refine ⟨?_, ix_lt hk, ?_⟩
  · rw [sn_pal (by omega)]
    have h1 := sn_pal (l := l) (k := k + 1) hk
    by_cases e : ix (pal l) l k = sn (ix (pal l) l) k
    · rw [e, sn_pal (by omega)]; exact Nat.le_refl _
    · rw [sn, if_neg e, sn_pal (by omega)] at h1
      have e2 : ix (pal l) l k = (pal (l.take (k + 1))).idxOf l[k] := by
        unfold ix
        rw [show l.getD k 0 = l[k] by simp [List.getD, hk]]
        have := idx_pal (l.take (k + 1)) (l.drop (k + 1)) (c := l[k]) (mem_take1 hk)
        rw [List.take_append_drop] at this
        exact this
      have : (pal (l.take (k + 1))).idxOf l[k] < (pal (l.take (k + 1))).length := idx_lt ((mem_pal _ _).2 (mem_take1 hk))
      omega
  · rw [sn_pal (by omega)]
    have := pal_app_len (l.take (k + 1)) (l.drop (k + 1))
    rw [List.take_append_drop, List.length_drop] at this
    exact this
end Go.Proofs.Ytfomieekdbkcnaa.Pl
