/-
  Differences of bricks, and what they make of a brick. (No program.)
-/
import Derived.Test.YtfomieekdbkcnaaPk4
namespace Go.Proofs.Ytfomieekdbkcnaa.Pl
set_option linter.unusedVariables false
/-- whether cell i differs -/
def df (a b : List Int) (i : Nat) : Bool := decide (b.getD i 0 ≠ a.getD i 0)
/-- the bits of the first k cells -/
def mN (a b : List Int) (k : Nat) : Nat := S 1 (fun i => (df a b i).toNat) k
/-- the cells that differ, of the first k -/
def dc (a b : List Int) : Nat → List Int
  | 0 => []
  | k + 1 => if df a b k = true then dc a b k ++ [b.getD k 0] else dc a b k
def dl (a b : List Int) : List UInt8 := le 8 (mN a b 64) ++ pk (dc a b 64)
def brk (l : List Int) : Prop := l.length = 64 ∧ ∀ c ∈ l, cell c
/-- bit i of a mask's bytes -/
def mb (t : List UInt8) (i : Nat) : Bool := decide (V t / 2 ^ i % 2 = 1)
/-- how many are true below k -/
def pc (b : Nat → Bool) : Nat → Nat
  | 0 => 0
  | k + 1 => if b k = true then pc b k + 1 else pc b k
def pOk (a : List Int) (b : Nat → Bool) (cs : List Int) (i : Nat) : Prop := b i = true → pc b i < cs.length ∧ cs.getD (pc b i) 0 ≠ a.getD i 0
instance (a : List Int) (b : Nat → Bool) (cs : List Int) (i : Nat) : Decidable (pOk a b cs i) := inferInstanceAs (Decidable (_ → _))
/-- cell i of what is made -/
def pv (a : List Int) (b : Nat → Bool) (cs : List Int) (i : Nat) : Int := if b i = true then cs.getD (pc b i) 0 else a.getD i 0
def pl (a : List Int) (b : Nat → Bool) (cs : List Int) : List Int := (List.range 64).map (pv a b cs)
def pBad (a : List Int) (b : Nat → Bool) (cs : List Int) : Bool := (List.range 64).any fun i => decide (¬ pOk a b cs i)
def rOk (a : List Int) (b : Nat → Bool) (cs : List Int) : Bool := !pBad a b cs && decide (pc b 64 = cs.length)
def pt (a : List Int) (t : List UInt8) : List Int × Nat :=
  if t.length < 8 then ([], 5) else if (un (t.drop 8)).2.2 ≠ 0 then ([], (un (t.drop 8)).2.2)
  else if rOk a (mb (t.take 8)) (un (t.drop 8)).1 = true ∧ (un (t.drop 8)).2.1 = t.length - 8 then (pl a (mb (t.take 8)) (un (t.drop 8)).1, 0) else ([], 6)
theorem pt_short {a : List Int} {t : List UInt8} (h : t.length < 8) : pt a t = ([], 5) := by unfold pt; rw [if_pos h]
theorem pt_err {a : List Int} {t : List UInt8} (h : ¬ t.length < 8) (h2 : (un (t.drop 8)).2.2 ≠ 0) : pt a t = ([], (un (t.drop 8)).2.2) := by unfold pt; rw [if_neg h, if_pos h2]
theorem pt_bad {a : List Int} {t : List UInt8} (h : ¬ t.length < 8) (h2 : (un (t.drop 8)).2.2 = 0) (h3 : ¬ (rOk a (mb (t.take 8)) (un (t.drop 8)).1 = true ∧ (un (t.drop 8)).2.1 = t.length - 8)) : pt a t = ([], 6) := by
  unfold pt; rw [if_neg h, if_neg (by omega), if_neg h3]
theorem pt_ok {a : List Int} {t : List UInt8} (h : ¬ t.length < 8) (h2 : (un (t.drop 8)).2.2 = 0) (h3 : rOk a (mb (t.take 8)) (un (t.drop 8)).1 = true ∧ (un (t.drop 8)).2.1 = t.length - 8) : pt a t = (pl a (mb (t.take 8)) (un (t.drop 8)).1, 0) := by
  unfold pt; rw [if_neg h, if_neg (by omega), if_pos h3]
theorem rOk_iff {a : List Int} {b : Nat → Bool} {cs : List Int} : rOk a b cs = true ↔ (∀ i, i < 64 → pOk a b cs i) ∧ pc b 64 = cs.length := by
  unfold rOk pBad
  rw [Bool.and_eq_true, decide_eq_true_eq, Bool.not_eq_true', ← Bool.not_eq_true, any_range]
  simp only [decide_eq_true_eq]
  constructor
  · rintro ⟨h1, h2⟩
    exact ⟨fun i hi => Decidable.not_not.1 (fun hn => h1 ⟨i, hi, hn⟩), h2⟩
  · rintro ⟨h1, h2⟩
    exact ⟨fun ⟨i, hi, hn⟩ => hn (h1 i hi), h2⟩
theorem pc_le {b : Nat → Bool} : ∀ k, pc b k ≤ k
  | 0 => Nat.le_refl _
  | k + 1 => by have := pc_le (b := b) k; rw [pc]; split <;> omega
theorem pc_mono {b : Nat → Bool} {j : Nat} : ∀ {k : Nat}, j ≤ k → pc b j ≤ pc b k
  | 0, h => by obtain rfl : j = 0 := (by omega); exact Nat.le_refl _
  | k + 1, h => by
    rcases Nat.lt_or_ge j (k + 1) with h1 | h1
    · have := pc_mono (b := b) (j := j) (k := k) (by omega); rw [pc]; split <;> omega
    · obtain rfl : j = k + 1 := by omega
      exact Nat.le_refl _
theorem mN_lt (a b : List Int) (k : Nat) : mN a b k < 2 ^ k := by
  have := S_lt (w := 1) (f := fun i => (df a b i).toNat) (n := k) (fun i _ => by cases df a b i <;> decide)
  rwa [Nat.one_mul] at this
theorem dc_len (a b : List Int) : ∀ k, (dc a b k).length = pc (df a b) k
  | 0 => rfl
  | k + 1 => by
    rw [dc, pc]
    split
    · rw [List.length_append, dc_len a b k]; rfl
    · exact dc_len a b k
theorem dc_pre (a b : List Int) (j : Nat) : ∀ k, j ≤ k → ∃ s, dc a b k = dc a b j ++ s
  | 0, h => by obtain rfl : j = 0 := (by omega); exact ⟨[], by simp⟩
  | k + 1, h => by
    rcases Nat.lt_or_ge j (k + 1) with h1 | h1
    · obtain ⟨s, hs⟩ := dc_pre a b j k (by omega)
      rw [dc]
      split
      · exact ⟨s ++ [b.getD k 0], by rw [hs, List.append_assoc]⟩
      · exact ⟨s, hs⟩
    · obtain rfl : j = k + 1 := by omega
      exact ⟨[], by simp⟩
theorem dc_at {a b : List Int} {i k : Nat} (h : df a b i = true) (hi : i < k) : (dc a b k).getD (pc (df a b) i) 0 = b.getD i 0 := by
  obtain ⟨s, hs⟩ := dc_pre a b (i + 1) k hi
  rw [hs, dc, if_pos h, ← dc_len a b i]
  simp [List.getD]
theorem dc_cell {a b : List Int} (hb : brk b) : ∀ {k : Nat}, k ≤ 64 → ∀ c ∈ dc a b k, cell c
  | 0, _ => by simp [dc]
  | k + 1, hk => by
    intro c hc
    rw [dc] at hc
    split at hc
    · rcases List.mem_append.1 hc with hc | hc
      · exact dc_cell hb (k := k) (by omega) c hc
      · rw [List.mem_singleton.1 hc, show b.getD k 0 = b[k]'(by have := hb.1; omega) by simp [List.getD, show k < b.length by have := hb.1; omega]]
        exact hb.2 _ (List.getElem_mem _)
    · exact dc_cell hb (k := k) (by omega) c hc
theorem dc_le (a b : List Int) : (dc a b 64).length ≤ 64 := by rw [dc_len]; exact pc_le 64
theorem mb_le (a b : List Int) (i : Nat) (hi : i < 64) : mb (le 8 (mN a b 64)) i = df a b i := by
  unfold mb
  rw [V_le 8 _ (by have := mN_lt a b 64; exact this)]
  have h := fld_S (w := 1) (f := fun i => (df a b i).toNat) (n := 64) (fun i _ => by cases df a b i <;> decide) i hi
  unfold fld at h
  rw [Nat.one_mul] at h
  unfold mN
  rw [show S 1 (fun i => (df a b i).toNat) 64 / 2 ^ i % 2 = (df a b i).toNat from h]
  cases df a b i <;> rfl
theorem pc_congr {b c : Nat → Bool} : ∀ {k : Nat}, (∀ i, i < k → b i = c i) → pc b k = pc c k
  | 0, _ => rfl
  | k + 1, h => by rw [pc, pc, pc_congr (fun i hi => h i (by omega)), h k (by omega)]
theorem un_dc {a b : List Int} (hb : brk b) : un (pk (dc a b 64)) = (dc a b 64, (pk (dc a b 64)).length, 0) := by
  by_cases h : dc a b 64 = []
  · rw [h]; rfl
  · have := un_pk h (dc_cell hb (Nat.le_refl _)) (dc_le a b) []
    rwa [List.append_nil] at this
/-- a difference makes the other brick -/
theorem pt_dl {a b : List Int} (hb : brk b) : pt a (dl a b) = (b, 0) := by
  have e8 : (dl a b).drop 8 = pk (dc a b 64) := by unfold dl; rw [List.drop_append_of_le_length (by rw [le_len]; exact Nat.le_refl _), List.drop_of_length_le (by rw [le_len]; exact Nat.le_refl _)]; rfl
  have t8 : (dl a b).take 8 = le 8 (mN a b 64) := by unfold dl; rw [List.take_append_of_le_length (by rw [le_len]; exact Nat.le_refl _), List.take_of_length_le (by rw [le_len]; exact Nat.le_refl _)]
  have hl : (dl a b).length = 8 + (pk (dc a b 64)).length := by unfold dl; rw [List.length_append, le_len]
  have hu := un_dc (a := a) hb
  have hpc : ∀ k, k ≤ 64 → pc (mb (le 8 (mN a b 64))) k = pc (df a b) k := fun k hk => pc_congr (fun i hi => mb_le a b i (by omega))
  rw [pt_ok (by omega) (by rw [e8, hu]) ⟨?_, by rw [e8, hu, hl]; show (pk (dc a b 64)).length = _; omega⟩]
  · rw [e8, hu, t8]
    congr 1
    unfold pl
    apply List.ext_getElem
    · simp [hb.1]
    · intro i h1 h2
      have hi : i < 64 := by have := hb.1; omega
      rw [List.getElem_map, List.getElem_range]
      unfold pv
      rw [mb_le a b i hi, hpc i (by omega)]
      cases hd : df a b i with
      | true => rw [if_pos rfl, dc_at hd hi]; simp [List.getD, h2]
      | false =>
        rw [if_neg (by simp)]
        unfold df at hd
        have : b.getD i 0 = a.getD i 0 := Decidable.not_not.1 (of_decide_eq_false hd)
        rw [← this]; simp [List.getD, h2]
  · rw [e8, hu, t8, rOk_iff]
    refine ⟨fun i hi hbi => ?_, ?_⟩
    · rw [mb_le a b i hi] at hbi
      rw [hpc i (by omega)]
      refine ⟨?_, ?_⟩
      · show _ < (dc a b 64).length
        rw [dc_len]
        have := pc_mono (b := df a b) (j := i + 1) (k := 64) hi
        rw [pc, if_pos hbi] at this
        omega
      · show (dc a b 64).getD _ 0 ≠ _
        rw [dc_at hbi hi]
        exact of_decide_eq_true hbi
    · rw [hpc 64 (Nat.le_refl _), ← dc_len]
theorem pl_len (a : List Int) (b : Nat → Bool) (cs : List Int) : (pl a b cs).length = 64 := by simp [pl]
theorem pl_at {a : List Int} {b : Nat → Bool} {cs : List Int} {i : Nat} (h : i < 64) : (pl a b cs).getD i 0 = pv a b cs i := by
  unfold pl
  simp [List.getD, h]
theorem df_pl {a : List Int} {b : Nat → Bool} {cs : List Int} {i : Nat} (h : i < 64) (ho : pOk a b cs i) : df a (pl a b cs) i = b i := by
  unfold df
  rw [pl_at h]
  unfold pv
  cases hb : b i with
  | true => rw [if_pos rfl]; exact decide_eq_true (ho hb).2
  | false => rw [if_neg (by simp)]; simp
theorem dc_pl {a : List Int} {b : Nat → Bool} {cs : List Int} (ho : ∀ i, i < 64 → pOk a b cs i) : ∀ {k : Nat}, k ≤ 64 → dc a (pl a b cs) k = cs.take (pc b k)
  | 0, _ => by simp [dc, pc]
  | k + 1, hk => by
    rw [dc, df_pl (by omega) (ho k (by omega)), dc_pl ho (k := k) (by omega), pc]
    cases hb : b k with
    | true =>
      obtain ⟨h1, _⟩ := ho k (by omega) hb
      rw [if_pos rfl, if_pos rfl, List.take_succ_eq_append_getElem h1, pl_at (by omega)]
      unfold pv
      rw [hb, if_pos rfl]
      simp [List.getD, h1]
    | false => rw [if_neg (by simp), if_neg (by simp)]
theorem pl_brk {a : List Int} {b : Nat → Bool} {cs : List Int} (ha : brk a) (hc : ∀ c ∈ cs, cell c) (ho : ∀ i, i < 64 → pOk a b cs i) : brk (pl a b cs) := by
  refine ⟨pl_len _ _ _, fun c hc2 => ?_⟩
  unfold pl at hc2
  obtain ⟨i, hi, rfl⟩ := List.mem_map.1 hc2
  rw [List.mem_range] at hi
  unfold pv
  split
  · rename_i hb
    obtain ⟨h1, _⟩ := ho i hi hb
    rw [show cs.getD (pc b i) 0 = cs[pc b i] by simp [List.getD, h1]]
    exact hc _ (List.getElem_mem _)
  · have h1 : i < a.length := by rw [ha.1]; exact hi
    rw [show a.getD i 0 = a[i] by simp [List.getD, h1]]
    exact ha.2 _ (List.getElem_mem _)
/-- what is accepted is the difference -/
theorem dl_pt {a : List Int} {t : List UInt8} (ha : brk a) (h : (pt a t).2 = 0) : brk (pt a t).1 ∧ dl a (pt a t).1 = t := by
  by_cases h1 : t.length < 8
  · rw [pt_short h1] at h; cases h
  · by_cases h2 : (un (t.drop 8)).2.2 = 0
    · by_cases h3 : rOk a (mb (t.take 8)) (un (t.drop 8)).1 = true ∧ (un (t.drop 8)).2.1 = t.length - 8
      · rw [pt_ok h1 h2 h3]
        obtain ⟨ho, hn⟩ := rOk_iff.1 h3.1
        obtain ⟨u1, u2, u3, u4, u5⟩ := pk_un h2
        refine ⟨pl_brk ha u2 ho, ?_⟩
        have h8 : (t.take 8).length = 8 := by rw [List.length_take]; omega
        show dl a (pl a (mb (t.take 8)) (un (t.drop 8)).1) = t
        unfold dl
        rw [dc_pl ho (Nat.le_refl _), hn, List.take_length, u5, h3.2, List.take_of_length_le (l := t.drop 8) (by rw [List.length_drop]; exact Nat.le_refl _)]
        have e : mN a (pl a (mb (t.take 8)) (un (t.drop 8)).1) 64 = V (t.take 8) := by
          unfold mN
          have e1 : S 1 (fun i => (df a (pl a (mb (t.take 8)) (un (t.drop 8)).1) i).toNat) 64 = S 1 (fld 1 (V (t.take 8))) 64 := by
            apply S_congr
            intro i hi
            show (df a (pl a (mb (t.take 8)) (un (t.drop 8)).1) i).toNat = _
            rw [df_pl hi (ho i hi)]
            unfold mb fld
            rw [Nat.one_mul, Nat.pow_one]
            have := Nat.mod_two_eq_zero_or_one (V (t.take 8) / 2 ^ i)
            rcases this with e | e <;> rw [e] <;> rfl
          rw [e1, S_fld, Nat.mod_eq_of_lt]
          have := V_lt (t.take 8)
          rw [h8] at this
          exact this
        have e2 : le 8 (V (t.take 8)) = t.take 8 := by have := le_V (t.take 8); rwa [h8] at this
        rw [e, e2, List.take_append_drop]
      · rw [pt_bad h1 h2 h3] at h; cases h
    · rw [pt_err h1 h2] at h; exact absurd h h2
theorem pt_e {a : List Int} {t : List UInt8} (h : (pt a t).2 ≠ 0) : (pt a t).1 = [] := by
  by_cases h1 : t.length < 8
  · rw [pt_short h1]
  · by_cases h2 : (un (t.drop 8)).2.2 = 0
    · by_cases h3 : rOk a (mb (t.take 8)) (un (t.drop 8)).1 = true ∧ (un (t.drop 8)).2.1 = t.length - 8
      · rw [pt_ok h1 h2 h3] at h; exact absurd rfl h
      · rw [pt_bad h1 h2 h3]
    · rw [pt_err h1 h2]
end Go.Proofs.Ytfomieekdbkcnaa.Pl
