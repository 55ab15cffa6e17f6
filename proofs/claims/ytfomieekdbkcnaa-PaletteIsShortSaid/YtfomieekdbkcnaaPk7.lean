/-
  Steps of packing: bits put into bytes, palettes that grow, places. (No program.)
-/
import Derived.Test.YtfomieekdbkcnaaPk6
namespace Go.Proofs.Ytfomieekdbkcnaa
open Go Go.RowKit
set_option linter.unusedVariables false
namespace Pl
theorem pal_new {l : List Int} {k m : Nat} (hk : k < l.length) (hm : m = (pal (l.take k)).length) (he : ((pal (l.take k)).idxOf (l.getD k 0) : Int) = (m : Int)) : pal (l.take (k + 1)) = pal (l.take k) ++ [l.getD k 0] := by
  rw [pal_step hk, show l.getD k 0 = l[k] by simp [List.getD, hk]]
  rw [if_neg]
  intro hm2
  have := idx_lt hm2
  rw [show l.getD k 0 = l[k] by simp [List.getD, hk]] at he
  omega
theorem pal_old {l : List Int} {k m : Nat} (hk : k < l.length) (hm : m = (pal (l.take k)).length) (he : ¬ ((pal (l.take k)).idxOf (l.getD k 0) : Int) = (m : Int)) : pal (l.take (k + 1)) = pal (l.take k) := by
  rw [pal_step hk, if_pos]
  by_cases h : l[k] ∈ pal (l.take k)
  · exact h
  · exfalso
    apply he
    rw [show l.getD k 0 = l[k] by simp [List.getD, hk], idx_no h, hm]
/-- which cells have been seen -/
def seen (p : List Int) : List Bool := (List.range 256).map fun c : Nat => decide ((c : Int) ∈ p)
theorem seen_len (p : List Int) : (seen p).length = 256 := by simp [seen]
theorem seen_at {p : List Int} {q : Nat} (h : q < 256) : (blc (seen p))[q]? = some (.bool (decide ((q : Int) ∈ p))) := by simp [seen, blc, h]
theorem seen_nil : blc (seen []) = List.replicate 256 (Value.bool false) := by
  apply List.ext_getElem
  · rw [blc_len, seen_len, List.length_replicate]
  · intro i h1 h2
    rw [List.getElem_replicate]
    have hi : i < 256 := by rwa [List.length_replicate] at h2
    have := seen_at (p := []) hi
    rw [List.getElem?_eq_getElem h1, Option.some.injEq] at this
    rw [this]; simp
theorem seen_set {p : List Int} {q : Nat} (h : q < 256) : (blc (seen p)).set q (.bool true) = blc (seen (p ++ [(q : Int)])) := by
  apply List.ext_getElem
  · rw [List.length_set, blc_len, seen_len, blc_len, seen_len]
  · intro i h1 h2
    have hi : i < 256 := by rwa [blc_len, seen_len] at h2
    have a1 := seen_at (p := p) hi
    have a2 := seen_at (p := p ++ [(q : Int)]) hi
    rw [List.getElem?_eq_getElem (by rw [blc_len, seen_len]; exact hi), Option.some.injEq] at a1 a2
    rw [List.getElem_set, a2, a1]
    by_cases e : q = i
    · subst e; rw [if_pos rfl, decide_eq_true (by simp)]
    · rw [if_neg e]
      congr 1
      rw [decide_eq_decide, List.mem_append, List.mem_singleton]
      exact ⟨.inl, fun h => h.elim id (fun h => by omega)⟩
theorem getD_cell {l : List Int} (h : ∀ c ∈ l, cell c) {k : Nat} (hk : k < l.length) : cell (l.getD k 0) := by
  rw [show l.getD k 0 = l[k] by simp [List.getD, hk]]; exact h _ (List.getElem_mem _)
theorem pal_seen_no {l : List Int} {k q : Nat} (hk : k < l.length) (hq : l.getD k 0 = (q : Int)) (h : decide ((q : Int) ∈ pal (l.take k)) = false) : pal (l.take (k + 1)) = pal (l.take k) ++ [(q : Int)] := by
  rw [pal_step hk, show l[k] = (q : Int) by rw [← hq]; simp [List.getD, hk], if_neg (of_decide_eq_false h)]
theorem pal_seen_yes {l : List Int} {k q : Nat} (hk : k < l.length) (hq : l.getD k 0 = (q : Int)) (h : decide ((q : Int) ∈ pal (l.take k)) = true) : pal (l.take (k + 1)) = pal (l.take k) := by
  rw [pal_step hk, show l[k] = (q : Int) by rw [← hq]; simp [List.getD, hk], if_pos (of_decide_eq_true h)]
/-- the places of the first k cells of a palette -/
def plc (p : List Int) (k : Nat) : List Int := (List.range 256).map fun c : Nat => if (c : Int) ∈ p.take k then (p.idxOf (c : Int) : Int) else 0
theorem plc_len (p : List Int) (k : Nat) : (plc p k).length = 256 := by simp [plc]
theorem plc_zero (p : List Int) : ic (plc p 0) = List.replicate 256 (Value.int .i64 0) := by
  apply List.ext_getElem
  · rw [ic_len, plc_len, List.length_replicate]
  · intro i h1 h2
    rw [List.getElem_replicate]
    simp only [ic, plc, List.getElem_map, List.getElem_range, List.take_zero]
    rw [if_neg (by simp)]
theorem plc_set {p : List Int} (hp : p.Nodup) {k q : Nat} (hk : k < p.length) (hq : p.getD k 0 = (q : Int)) (h : q < 256) : (ic (plc p k)).set q (.int .i64 (k : Int)) = ic (plc p (k + 1)) := by
  have hpk : p[k] = (q : Int) := by rw [← hq]; simp [List.getD, hk]
  apply List.ext_getElem
  · rw [List.length_set, ic_len, plc_len, ic_len, plc_len]
  · intro i h1 h2
    have hi : i < 256 := by rwa [ic_len, plc_len] at h2
    rw [List.getElem_set]
    by_cases e : q = i
    · subst e
      rw [if_pos rfl]
      have hm : (q : Int) ∈ p.take (k + 1) := by rw [← hpk]; exact mem_take1 hk
      have hx : p.idxOf (q : Int) = k := by rw [← hpk]; exact idx_get hp hk
      simp only [ic, plc, List.getElem_map, List.getElem_range, if_pos hm, hx]
    · rw [if_neg e]
      have hne : ¬ (i : Int) = p[k] := by rw [hpk]; omega
      have : (i : Int) ∈ p.take (k + 1) ↔ (i : Int) ∈ p.take k := by
        rw [List.take_succ_eq_append_getElem hk, List.mem_append, List.mem_singleton]
        exact ⟨fun h => h.elim id (fun h2 => absurd h2 hne), .inl⟩
      simp only [ic, plc, List.getElem_map, List.getElem_range, this]
theorem plc_at {p : List Int} {c : Nat} (hc : c < 256) (h : (c : Int) ∈ p) : (plc p p.length).getD c 0 = (p.idxOf (c : Int) : Int) := by
  unfold plc
  rw [List.take_length]
  simp [List.getD, hc, h]
/-- a bit is put -/
theorem bit_step {w i b R N x : Nat} (hb : b < w) (hN : N < 2 ^ (w * i)) (hR : i * w + b < 8 * R) :
    (N + x % 2 ^ b * 2 ^ (w * i)) / 2 ^ (8 * ((i * w + b) / 8)) % 256 < 2 ^ ((i * w + b) % 8) ∧
    (N + x % 2 ^ b * 2 ^ (w * i)) / 2 ^ (8 * ((i * w + b) / 8)) % 256 + x / 2 ^ b % 2 * 2 ^ ((i * w + b) % 8) < 256 ∧
    (le R (N + x % 2 ^ b * 2 ^ (w * i))).set ((i * w + b) / 8) (UInt8.ofNat ((N + x % 2 ^ b * 2 ^ (w * i)) / 2 ^ (8 * ((i * w + b) / 8)) % 256 + x / 2 ^ b % 2 * 2 ^ ((i * w + b) % 8))) = le R (N + x % 2 ^ (b + 1) * 2 ^ (w * i)) := by
  have hN' : N + x % 2 ^ b * 2 ^ (w * i) < 2 ^ (i * w + b) := by
    have h1 : x % 2 ^ b < 2 ^ b := Nat.mod_lt _ (Nat.two_pow_pos _)
    have h2 : (x % 2 ^ b + 1) * 2 ^ (w * i) ≤ 2 ^ b * 2 ^ (w * i) := Nat.mul_le_mul_right _ h1
    rw [Nat.add_mul, Nat.one_mul] at h2
    rw [Nat.add_comm (i * w), Nat.pow_add, Nat.mul_comm i w]
    omega
  have he : N + x % 2 ^ (b + 1) * 2 ^ (w * i) = (N + x % 2 ^ b * 2 ^ (w * i)) + x / 2 ^ b % 2 * 2 ^ (i * w + b) := by
    rw [Nat.pow_succ, Nat.mod_mul, Nat.add_mul, Nat.add_comm (i * w), Nat.pow_add, Nat.mul_comm i w, ← Nat.mul_assoc, Nat.mul_comm (2 ^ b)]
    omega
  rw [he]
  generalize N + x % 2 ^ b * 2 ^ (w * i) = M at *
  have hx2 : x / 2 ^ b % 2 < 2 := Nat.mod_lt _ (by decide)
  generalize x / 2 ^ b % 2 = y at *
  generalize hat : i * w + b = at_ at *
  have hq : 8 * (at_ / 8) + at_ % 8 = at_ := Nat.div_add_mod _ _
  have hd : M / 2 ^ (8 * (at_ / 8)) < 2 ^ (at_ % 8) := by
    rw [Nat.div_lt_iff_lt_mul (Nat.two_pow_pos _), ← Nat.pow_add, Nat.add_comm (at_ % 8), hq]; exact hN'
  have hp : 2 ^ (at_ % 8) ≤ 2 ^ 7 := Nat.pow_le_pow_right (by decide) (by omega)
  have hm : M / 2 ^ (8 * (at_ / 8)) % 256 < 2 ^ (at_ % 8) := Nat.lt_of_le_of_lt (Nat.mod_le _ _) hd
  have hy : y * 2 ^ (at_ % 8) ≤ 1 * 2 ^ (at_ % 8) := Nat.mul_le_mul_right _ (by omega)
  refine ⟨hm, by omega, ?_⟩
  have h3 := le_add R M (at_ / 8) (at_ % 8) y (by omega) (by rw [hq]; exact hN') (by omega)
  rw [hq] at h3
  rw [h3]
theorem bit_at {t : List UInt8} {a : Nat} (h : a / 8 < t.length) : V t / 2 ^ a % 2 = (t.getD (a / 8) 0).toNat / 2 ^ (a % 8) % 2 := by
  rw [show t.getD (a / 8) 0 = t[a / 8] by simp [List.getD, h], byte_of t (a / 8) h]
  have hr : a % 8 < 8 := Nat.mod_lt _ (by decide)
  have e : 2 ^ a = 2 ^ (8 * (a / 8)) * 2 ^ (a % 8) := by rw [← Nat.pow_add, Nat.div_add_mod]
  rw [e, ← Nat.div_div_eq_div_mul]
  generalize V t / 2 ^ (8 * (a / 8)) = N
  generalize a % 8 = r at hr
  have : N % 256 / 2 ^ r % 2 = N / 2 ^ r % 2 := by
    have e2 : 256 = 2 ^ r * (2 * 2 ^ (7 - r)) := by
      rw [show (2 : Nat) * 2 ^ (7 - r) = 2 ^ (1 + (7 - r)) by rw [Nat.pow_add], ← Nat.pow_add, show r + (1 + (7 - r)) = 8 by omega]
    rw [e2, Nat.mod_mul_right_div_self, Nat.mod_mul_right_mod]
  exact this.symm
theorem bit_start (w N x i : Nat) : N + x % 2 ^ 0 * 2 ^ (w * i) = N := by rw [Nat.pow_zero, Nat.mod_one]; omega
theorem bit_end {w : Nat} {f : Nat → Nat} {i : Nat} (h : f i < 2 ^ w) : S w f i + f i % 2 ^ w * 2 ^ (w * i) = S w f (i + 1) := by rw [Nat.mod_eq_of_lt h]; rfl
theorem le_zero : ∀ R, le R 0 = List.replicate R 0
  | 0 => rfl
  | R + 1 => by rw [le, List.replicate_succ, Nat.zero_div, le_zero R]; rfl
theorem bc_zero (R : Nat) : List.replicate R (Value.int .u8 0) = bc (le R 0) := by rw [le_zero]; unfold bc; rw [List.map_replicate]; rfl
theorem room_le {n w : Nat} (hn : n ≤ 64) (hw : w ≤ 8) : room n w ≤ 64 := by
  unfold room
  have : n * w ≤ 64 * 8 := Nat.mul_le_mul hn hw
  omega
theorem at_lt {i n w b : Nat} (hi : i < n) (hb : b < w) : i * w + b < n * w := by
  have : (i + 1) * w ≤ n * w := Nat.mul_le_mul_right _ hi
  rw [Nat.add_mul, Nat.one_mul] at this
  omega
theorem at_room {n w a : Nat} (h : a < n * w) : a < 8 * room n w := by unfold room; omega
end Pl
section
variable {w : World} {g n c k : Nat} {e : TypeId} {xs : List Value} {v : Value}
theorem own_at {base : Nat} (h : w.ownsRow base e 1 (.slice (some ⟨g, 0, none⟩) n c) n xs) (hk : xs[k]? = some v) : w.cell? ⟨g, k, none⟩ = some v := by
  have h1 := (SL.ofOwn h).lies
  rcases h1 with h0 | ⟨b, o, hA, hc⟩
  · rw [h0] at hk; simp at hk
  · injection hA with hA; injection hA with e1 e2; subst e1; subst e2
    have := hc k v hk
    rwa [Nat.zero_add] at this
theorem SL.at_ {b o : Nat} (h : SL w 1 (some ⟨b, o, none⟩) n c xs) (hk : xs[k]? = some v) : w.cell? ⟨b, o + k, none⟩ = some v := by
  rcases h.lies with h0 | ⟨b', o', hA, hc⟩
  · rw [h0] at hk; simp at hk
  · injection hA with hA; injection hA with e1 e2; subst e1; subst e2
    exact hc k v hk
end
end Go.Proofs.Ytfomieekdbkcnaa
