/-
  Masks: arrays of truth values as lists; the tail of a slice; what stands of a brick half changed.
-/
import Derived.Test.YtfomieekdbkcnaaPk9
import Derived.Test.YtfomieekdbkcnaaPk11
namespace Go.Proofs.Ytfomieekdbkcnaa
open Go Go.RowKit
set_option linter.unusedVariables false
set_option linter.unusedSimpArgs false
namespace Pl
/-- which of the first k cells differ -/
def dfs (a b : List Int) (k : Nat) : List Bool := (List.range 64).map fun i : Nat => decide (i < k) && df a b i
theorem dfs_len (a b : List Int) (k : Nat) : (dfs a b k).length = 64 := by simp [dfs]
theorem dfs_at {a b : List Int} {k i : Nat} (h : i < 64) : (blc (dfs a b k))[i]? = some (.bool (decide (i < k) && df a b i)) := by simp [dfs, blc, h]
theorem dfs_zero (a b : List Int) : blc (dfs a b 0) = List.replicate 64 (Value.bool false) := by
  apply List.ext_getElem
  · rw [blc_len, dfs_len, List.length_replicate]
  · intro i h1 h2
    have hi : i < 64 := by rwa [List.length_replicate] at h2
    have := dfs_at (a := a) (b := b) (k := 0) hi
    rw [List.getElem?_eq_getElem h1, Option.some.injEq] at this
    rw [List.getElem_replicate, this]; simp
theorem dfs_set {a b : List Int} {k : Nat} (hk : k < 64) (h : df a b k = true) : (blc (dfs a b k)).set k (.bool true) = blc (dfs a b (k + 1)) := by
  apply List.ext_getElem
  · rw [List.length_set, blc_len, dfs_len, blc_len, dfs_len]
  · intro i h1 h2
    have hi : i < 64 := by rwa [blc_len, dfs_len] at h2
    have a1 := dfs_at (a := a) (b := b) (k := k) hi
    have a2 := dfs_at (a := a) (b := b) (k := k + 1) hi
    rw [List.getElem?_eq_getElem (by rw [blc_len, dfs_len]; exact hi), Option.some.injEq] at a1 a2
    rw [List.getElem_set, a2, a1]
    by_cases e : k = i
    · subst e; rw [if_pos rfl, h]; simp
    · rw [if_neg e, decide_eq_decide.2 (show i < k ↔ i < k + 1 by omega)]
theorem dfs_stay {a b : List Int} {k : Nat} (h : df a b k = false) : dfs a b (k + 1) = dfs a b k := by
  unfold dfs
  apply List.map_congr_left
  intro i hi
  by_cases e : i = k
  · subst e; rw [h]; simp
  · rw [decide_eq_decide.2 (show i < k + 1 ↔ i < k by omega)]
theorem dfs_get {a b : List Int} {i : Nat} (h : i < 64) : (dfs a b 64).getD i false = df a b i := by
  unfold dfs
  simp [List.getD, h]
def mB (bs : List Bool) : List UInt8 := le 8 (S 1 (fun i => (bs.getD i false).toNat) 64)
theorem mB_dfs (a b : List Int) : mB (dfs a b 64) = le 8 (mN a b 64) := by
  unfold mB mN
  have e : S 1 (fun i => ((dfs a b 64).getD i false).toNat) 64 = S 1 (fun i => (df a b i).toNat) 64 := S_congr (fun i hi => by show ((dfs a b 64).getD i false).toNat = _; rw [dfs_get hi])
  rw [e]
theorem df_ne {a b : List Int} {k : Nat} (h : ¬ b.getD k 0 = a.getD k 0) : df a b k = true := decide_eq_true h
theorem df_eq {a b : List Int} {k : Nat} (h : b.getD k 0 = a.getD k 0) : df a b k = false := decide_eq_false (fun h2 => h2 h)
/-- a brick, the first k cells changed -/
def plk (a : List Int) (b : Nat → Bool) (cs : List Int) (k : Nat) : List Int := (List.range 64).map fun i : Nat => if i < k then pv a b cs i else a.getD i 0
theorem plk_len (a : List Int) (b : Nat → Bool) (cs : List Int) (k : Nat) : (plk a b cs k).length = 64 := by simp [plk]
theorem plk_zero {a : List Int} (h : a.length = 64) (b : Nat → Bool) (cs : List Int) : plk a b cs 0 = a := by
  unfold plk
  apply List.ext_getElem
  · simp [h]
  · intro i h1 h2
    rw [List.getElem_map, List.getElem_range, if_neg (Nat.not_lt_zero _)]
    simp [List.getD, h2]
theorem plk_all (a : List Int) (b : Nat → Bool) (cs : List Int) : plk a b cs 64 = pl a b cs := by
  unfold plk pl
  apply List.map_congr_left
  intro i hi
  rw [if_pos (List.mem_range.1 hi)]
theorem plk_stay {a : List Int} {b : Nat → Bool} {cs : List Int} {k : Nat} (h : b k = false) : plk a b cs (k + 1) = plk a b cs k := by
  unfold plk
  apply List.map_congr_left
  intro i hi
  by_cases e : i = k
  · subst e
    rw [if_pos (by omega), if_neg (by omega)]
    unfold pv; rw [if_neg (by rw [h]; simp)]
  · by_cases h2 : i < k
    · rw [if_pos (by omega), if_pos h2]
    · rw [if_neg (by omega), if_neg h2]
theorem plk_set {a : List Int} {b : Nat → Bool} {cs : List Int} {k : Nat} (hk : k < 64) (h : b k = true) : (plk a b cs k).set k (cs.getD (pc b k) 0) = plk a b cs (k + 1) := by
  unfold plk
  apply List.ext_getElem
  · simp
  · intro i h1 h2
    rw [List.getElem_set, List.getElem_map, List.getElem_map, List.getElem_range]
    by_cases e : k = i
    · subst e
      rw [if_pos rfl, if_pos (by omega)]
      unfold pv; rw [if_pos h]
    · rw [if_neg e]
      by_cases h3 : i < k
      · rw [if_pos h3, if_pos (show i < k + 1 by omega)]
      · rw [if_neg h3, if_neg (show ¬ i < k + 1 by omega)]
theorem pOk_step {a : List Int} {b : Nat → Bool} {cs : List Int} {k : Nat} (h : ∀ i, i < k → pOk a b cs i) (h2 : pOk a b cs k) : ∀ i, i < k + 1 → pOk a b cs i := by
  intro i hi
  rcases Nat.lt_or_ge i k with h3 | h3
  · exact h i h3
  · obtain rfl : i = k := by omega
    exact h2
theorem rOk_bad {a : List Int} {b : Nat → Bool} {cs : List Int} {k : Nat} (hk : k < 64) (h : ¬ pOk a b cs k) : rOk a b cs = false := by
  rw [← Bool.not_eq_true, rOk_iff]
  exact fun h2 => h (h2.1 k hk)
theorem rOk_end {a : List Int} {b : Nat → Bool} {cs : List Int} (h : ∀ i, i < 64 → pOk a b cs i) : rOk a b cs = decide (pc b 64 = cs.length) := by
  rw [Bool.eq_iff_iff, rOk_iff, decide_eq_true_iff]
  exact ⟨fun h2 => h2.2, fun h2 => ⟨h, h2⟩⟩
theorem pc_yes {b : Nat → Bool} {k : Nat} (h : b k = true) : pc b (k + 1) = pc b k + 1 := by rw [pc, if_pos h]
theorem pc_no {b : Nat → Bool} {k : Nat} (h : b k = false) : pc b (k + 1) = pc b k := by rw [pc, if_neg (by rw [h]; simp)]
theorem getD_drop0 (cs : List Int) (k : Nat) : (cs.drop k).getD 0 0 = cs.getD k 0 := by simp [List.getD]
theorem bits_congr {a : List Int} {b c : Nat → Bool} {cs : List Int} (h : ∀ i, i < 64 → b i = c i) : rOk a b cs = rOk a c cs ∧ pl a b cs = pl a c cs := by
  have hp : ∀ k, k ≤ 64 → pc b k = pc c k := fun k hk => pc_congr (fun i hi => h i (by omega))
  constructor
  · rw [Bool.eq_iff_iff, rOk_iff, rOk_iff, hp 64 (Nat.le_refl _)]
    have : (∀ i, i < 64 → pOk a b cs i) ↔ (∀ i, i < 64 → pOk a c cs i) := by
      constructor
      · intro h2 i hi; have := h2 i hi; unfold pOk at this ⊢; rw [h i hi, hp i (by omega)] at this; exact this
      · intro h2 i hi; have := h2 i hi; unfold pOk at this ⊢; rw [h i hi, hp i (by omega)]; exact this
    rw [this]
  · unfold pl
    apply List.map_congr_left
    intro i hi
    have hi2 := List.mem_range.1 hi
    unfold pv
    rw [h i hi2, hp i (by omega)]
theorem mbs_get {x : List UInt8} {i : Nat} (h : i < 64) : (mbs x 64).getD i false = mb x i := by unfold mbs; simp [List.getD, h]
end Pl
section
variable {P : Program} {ev : Operand → Value} {o : Oper} {W : World} {t : TypeId} {x y : Operand}
/-- the tail of a slice -/
theorem SL.tail {w : World} {b q r c : Nat} {l : List Int} (h : SL w 1 (some ⟨b, q, none⟩) r c (ic l)) (hr : 0 < r) : SL w 1 (if c = 1 then some ⟨b, q, none⟩ else some ⟨b, q + 1, none⟩) (r - 1) (c - 1) (ic (l.drop 1)) := by
  have hl := h.len
  rw [ic_len] at hl
  have hc := h.cap
  have hb := h.bnd
  refine ⟨by rw [ic_len, List.length_drop]; omega, ?_, by omega, by omega⟩
  by_cases e : c = 1
  · left
    have : l.drop 1 = [] := List.drop_of_length_le (by omega)
    rw [this]; rfl
  · rw [if_neg e]
    right
    refine ⟨b, q + 1, rfl, fun j v hj => ?_⟩
    rcases h.lies with h0 | ⟨b', q', hA, hcell⟩
    · have : l = [] := by simpa [ic] using h0
      subst this; simp at hl; omega
    · injection hA with hA; injection hA with e1 e2; subst e1; subst e2
      have h2 : (ic l)[1 + j]? = some v := by
        rw [Nat.add_comm 1 j, ← hj]; simp [ic]
      have := hcell (1 + j) v h2
      rwa [← Nat.add_assoc] at this
theorem op_slice_tail (b q r c : Nat) (hr : 0 < r) (hrc : r ≤ c) (ho : o.op = .slice t x (some y) none none) (hx : ev x = .slice (some ⟨b, q, none⟩) r c) (hy : ev y = .int .i64 1) (ht : P.underlying t = some (.slice (P.elem t))) (hs : (P.info? (P.elem t)).map (·.size) = some 1) :
    (execOp ev o).run P W = .ok (.value (.slice (if c = 1 then some ⟨b, q, none⟩ else some ⟨b, q + 1, none⟩) (r - 1) (c - 1))) W := by
  have h1 := run_slice_l (P := P) (w := W) t (some ⟨b, q, none⟩) r c ht .i64 1 (by decide) (by omega)
  have h2 := run_sliceAt_slice (P := P) (w := W) t (.slice (some ⟨b, q, none⟩) r c) (some (.int .i64 1)) none none ht
  cases hq : P.info? (P.elem t) with
  | none => rw [hq] at hs; simp at hs
  | some i =>
    rw [hq] at hs
    simp only [Option.map_some, Option.some.injEq] at hs
    have h3 : (sizeOf (P.elem t)).run P W = .ok 1 W := by simp [sizeOf, typeInfo, hq, hs]
    rw [h3] at h1
    have h4 : (Instr.sliceAt t (.slice (some ⟨b, q, none⟩) r c) (some (.int .i64 1)) none none).run P W = .ok (.slice (if c = 1 then some ⟨b, q, none⟩ else some ⟨b, q + 1, none⟩) (r - 1) (c - 1)) W := by
      rw [h2, h1]
      simp only [Result.andThen_ok, sliced]
      by_cases e : c = 1
      · simp [e]
      · simp [e, Addr.add]
    unfold execOp
    simp only [ho, hx, hy, Sem.run_bind, h4, Result.andThen_ok, Sem.run_pure, Option.map_some, Option.map_none]
theorem op_arr_idx {n k : Nat} {bs : List Bool} {e : TypeId} (hk : k < n) (hl : bs.length = n) (ho : o.op = .index t x y) (hx : ev x = .agg (blc bs).toArray) (hy : ev y = .int .i64 (k : Int)) (ht : P.underlying t = some (.array n e)) (hs : (sizeOf e).run P W = .ok 1 W) (hg : (isAgg e).run P W = .ok false W) :
    (execOp ev o).run P W = .ok (.value (.bool (bs.getD k false))) W := by
  have h1 : (Instr.index t (.agg (blc bs).toArray) (.int .i64 (k : Int))).run P W = .ok (.bool (bs.getD k false)) W := by
    have e1 : (0 : Int) ≤ (k : Int) ∧ (k : Int) < (n : Int) := by omega
    have e2 := blc_at (l := bs) (k := k) (by omega)
    simp [Instr.index, run_underlying ht, asIntOf, hk, hs, hg, e2, go_sem]
  unfold execOp
  simp only [ho, hx, hy, Sem.run_bind, h1, Result.andThen_ok, Sem.run_pure]
theorem blc_all (l : List Bool) : ((blc l).toArray).all (·.oneCell') = true := by
  rw [Array.all_eq_true]
  intro i hi
  exact blc_one l _ (by simp)
end
end Go.Proofs.Ytfomieekdbkcnaa
