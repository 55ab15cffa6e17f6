/-
  The specification's way through a text. (No program.)
-/
import Derived.Test.YtfomieekdbkcnaaPk17
import Derived.Test.YtfomieekdbkcnaaPk15
namespace Go.Proofs.Ytfomieekdbkcnaa
open Go Go.RowKit
set_option linter.unusedVariables false
namespace Pl
/-- the first i cells of the palette in a text -/
def uQ (x : List UInt8) (i : Nat) : List Int := ints ((x.drop 2).take i)
theorem uQ_len {x : List UInt8} {i : Nat} (h : 2 + i ≤ x.length) : (uQ x i).length = i := by unfold uQ; rw [ints_len, List.length_take, List.length_drop]; omega
theorem uQ_succ {x : List UInt8} {i : Nat} (h : 2 + i < x.length) : uQ x (i + 1) = uQ x i ++ [((x.getD (2 + i) 0).toNat : Int)] := by
  unfold uQ
  have h1 : i < (x.drop 2).length := by rw [List.length_drop]; omega
  rw [List.take_succ_eq_append_getElem h1]
  unfold ints
  rw [List.map_append]
  simp [List.getD, h]
theorem uQ_all (x : List UInt8) : uQ x (uM x) = uP x := rfl
theorem uQ_over {x : List UInt8} {i : Nat} (h : x.length ≤ 2 + i) (hi : i ≤ uM x) : uP x = uQ x i := by
  unfold uP uQ
  rw [List.take_of_length_le (by rw [List.length_drop]; omega), List.take_of_length_le (by rw [List.length_drop]; omega)]
theorem uQ_nodup {x : List UInt8} {i : Nat} (h : 2 + i < x.length) (hn : (uQ x i).Nodup) (hm : ¬ ((uQ x i).idxOf ((x.getD (2 + i) 0).toNat : Int) : Int) < (i : Int)) : (uQ x (i + 1)).Nodup := by
  rw [uQ_succ h, List.nodup_append]
  refine ⟨hn, by simp, ?_⟩
  intro a ha b hb
  rw [List.mem_singleton.1 hb]
  rintro rfl
  have := idx_lt ha
  rw [uQ_len (by omega)] at this
  omega
theorem uQ_dup {x : List UInt8} {i : Nat} (h : 2 + i < x.length) (hi : i < uM x) (hm : ((uQ x i).idxOf ((x.getD (2 + i) 0).toNat : Int) : Int) < (i : Int)) : (pal (uP x)).length < (uP x).length := by
  rw [← pal_short]
  intro hn
  have h1 : (uQ x (i + 1)).Nodup := by
    have e : uQ x (i + 1) = (uP x).take (i + 1) := by
      unfold uQ uP ints
      rw [← List.map_take, List.take_take, Nat.min_eq_left (by omega)]
    rw [e]
    exact hn.sublist (List.take_sublist _ _)
  rw [uQ_succ h, List.nodup_append] at h1
  have h2 : ((x.getD (2 + i) 0).toNat : Int) ∈ uQ x i := by
    rw [← List.idxOf_lt_length_iff, uQ_len (by omega)]; omega
  exact h1.2.2 _ h2 _ (by simp) rfl
theorem nodup_short {l : List Int} (h : l.Nodup) : ¬ (pal l).length < l.length := by rw [pal_id h]; omega
/-- what loop 1 leaves -/
theorem hE_short {x : List UInt8} {i : Nat} (hx : x ≠ []) (h1 : ¬ 64 < uN x) (h2 : ¬ x.length = 1) (h3 : ¬ (uM x = 0 ∨ uN x < uM x)) (hi : i < uM x) (hl : x.length ≤ 2 + i) (hl2 : 2 + i ≤ x.length) (hn : (uQ x i).Nodup) : hE x = 5 := by
  have e := uQ_over hl (by omega)
  exact hE_c5 hx h1 h2 h3 (by rw [e]; exact nodup_short hn) (by rw [e, uQ_len hl2]; exact hi)
theorem hE_full {x : List UInt8} {i : Nat} (hx : x ≠ []) (h1 : ¬ 64 < uN x) (h2 : ¬ x.length = 1) (h3 : ¬ (uM x = 0 ∨ uN x < uM x)) (hi : i = uM x) (hl2 : 2 + i ≤ x.length) (hn : (uQ x i).Nodup) : hE x = 0 := by
  subst hi
  exact hE_c6 hx h1 h2 h3 (nodup_short hn) (by have := uQ_len hl2; rw [uQ_all] at this; omega)
/-- a field of a byte -/
theorem fld_byte {w j : Nat} {b : List UInt8} (hw : w = 1 ∨ w = 2 ∨ w = 4 ∨ w = 8) (h : j * w / 8 < b.length) : (b.getD (j * w / 8) 0).toNat / 2 ^ (j * w % 8) % 2 ^ w = fld w (V b) j := by
  obtain ⟨_, h2, _⟩ := room_step (i := j) hw
  rw [show b.getD (j * w / 8) 0 = b[j * w / 8] by simp [List.getD, h], byte_of b _ h]
  unfold fld
  rw [Nat.mul_comm w j]
  generalize j * w = a at *
  have e : 2 ^ a = 2 ^ (8 * (a / 8)) * 2 ^ (a % 8) := by rw [← Nat.pow_add, Nat.div_add_mod]
  rw [e, ← Nat.div_div_eq_div_mul]
  generalize V b / 2 ^ (8 * (a / 8)) = N
  generalize a % 8 = r at *
  have e2 : 256 = 2 ^ r * (2 ^ w * 2 ^ (8 - r - w)) := by
    rw [← Nat.pow_add, ← Nat.pow_add, show r + (w + (8 - r - w)) = 8 by omega]
  rw [e2, Nat.mod_mul_right_div_self, Nat.mod_mul_right_mod]
theorem uB_byte {x : List UInt8} {k : Nat} (h : 2 + uM x + k < x.length) (hk : k < uR x) : k < (uB x).length ∧ x.getD (2 + uM x + k) 0 = (uB x).getD k 0 := by
  have h1 : k < (uB x).length := by rw [uB_len]; omega
  refine ⟨h1, ?_⟩
  rw [show (uB x).getD k 0 = (uB x)[k] by simp [List.getD, h1]]
  have e : (uB x)[k] = x[2 + uM x + k] := by simp only [uB, List.getElem_take, List.getElem_drop]
  rw [e]; simp [List.getD, h]
theorem k_lt {n w j : Nat} (hj : j < n) (hw : w = 1 ∨ w = 2 ∨ w = 4 ∨ w = 8) : j * w / 8 < room n w := by
  obtain ⟨h1, _⟩ := room_step (i := j) hw
  have : room (j + 1) w ≤ room n w := by
    unfold room
    have := Nat.mul_le_mul_right w (show j + 1 ≤ n from hj)
    omega
  omega
theorem av_of {w j : Nat} {L : Nat} (hw : w = 1 ∨ w = 2 ∨ w = 4 ∨ w = 8) (h : j * w / 8 < L) : (j + 1) * w ≤ L * 8 := by
  obtain ⟨_, h2, _⟩ := room_step (i := j) hw
  rw [Nat.add_mul, Nat.one_mul]
  omega
/-- the last byte -/
theorem tail_ge {w j : Nat} {b : List UInt8} (hw : w = 1 ∨ w = 2 ∨ w = 4 ∨ w = 8) (h : j * w / 8 < b.length) (hg : 2 ^ w ≤ (b.getD (j * w / 8) 0).toNat / 2 ^ (j * w % 8)) : 2 ^ (w * (j + 1)) ≤ V b := by
  rw [show b.getD (j * w / 8) 0 = b[j * w / 8] by simp [List.getD, h], byte_of b _ h] at hg
  rw [show w * (j + 1) = w + j * w by rw [Nat.mul_add, Nat.mul_one, Nat.mul_comm, Nat.add_comm]]
  generalize j * w = a at *
  have h1 : 2 ^ w ≤ V b / 2 ^ (8 * (a / 8)) / 2 ^ (a % 8) := Nat.le_trans hg (Nat.div_le_div_right (Nat.mod_le _ _))
  rw [Nat.div_div_eq_div_mul, ← Nat.pow_add, Nat.div_add_mod, Nat.le_div_iff_mul_le (Nat.two_pow_pos _), ← Nat.pow_add] at h1
  exact h1
theorem tail_lt {w j : Nat} {b : List UInt8} (hw : w = 1 ∨ w = 2 ∨ w = 4 ∨ w = 8) (h : j * w / 8 + 1 = b.length) (hg : (b.getD (j * w / 8) 0).toNat / 2 ^ (j * w % 8) < 2 ^ w) : V b < 2 ^ (w * (j + 1)) := by
  rw [show b.getD (j * w / 8) 0 = b[j * w / 8] by simp [List.getD, show j * w / 8 < b.length by omega], byte_of b _ (by omega)] at hg
  rw [show w * (j + 1) = w + j * w by rw [Nat.mul_add, Nat.mul_one, Nat.mul_comm, Nat.add_comm]]
  have hV := V_lt b
  rw [← h, pow256] at hV
  generalize j * w = a at *
  have h1 : V b / 2 ^ (8 * (a / 8)) < 256 := by
    rw [Nat.div_lt_iff_lt_mul (Nat.two_pow_pos _), show (256 : Nat) = 2 ^ 8 from rfl, ← Nat.pow_add, show 8 + 8 * (a / 8) = 8 * (a / 8 + 1) by omega]; exact hV
  rw [Nat.mod_eq_of_lt h1, Nat.div_div_eq_div_mul, ← Nat.pow_add, Nat.div_add_mod, Nat.div_lt_iff_lt_mul (Nat.two_pow_pos _), ← Nat.pow_add] at hg
  exact hg
theorem un_big {x : List UInt8} (h0 : hE x = 0) (hv : 2 ^ (uW x * uN x) ≤ V (uB x)) : un x = ([], 0, 6) := by
  apply un_nok h0
  rw [gok_un, decide_eq_false (by omega), Bool.and_false]
theorem un_badi {x : List UInt8} {j : Nat} (h0 : hE x = 0) (hj : j < uN x) (ha : (j + 1) * uW x ≤ (uB x).length * 8) (hb : ¬ okS (uM x) (uN x) (uF x) j) : un x = ([], 0, 6) :=
  un_nok h0 (gok_bad hj ha hb)
theorem un_cuti {x : List UInt8} {i : Nat} (h0 : hE x = 0) (hi : i < uN x) (hok : ∀ j, j < i → okS (uM x) (uN x) (uF x) j ∧ (j + 1) * uW x ≤ (uB x).length * 8) (hc : (uB x).length * 8 < (i + 1) * uW x) (hl : x.length < 2 + uM x + uR x) : un x = ([], 0, 5) := by
  refine un_gcut h0 (gok_yes (i := i) (by omega) (fun _ => by omega) hok ?_) hl
  refine Nat.lt_of_lt_of_le (V_bits _) (Nat.pow_le_pow_right (by decide) ?_)
  have h1 : (i + 1) * uW x ≤ uN x * uW x := Nat.mul_le_mul_right _ hi
  rw [Nat.mul_comm (uW x)]
  omega
theorem un_end {x : List UInt8} (h0 : hE x = 0) (hok : ∀ j, j < uN x → okS (uM x) (uN x) (uF x) j ∧ (j + 1) * uW x ≤ (uB x).length * 8) (hv : V (uB x) < 2 ^ (uW x * uN x)) : un x = (cellsOf (uP x) (uF x) (uN x), 2 + uM x + uR x, 0) := by
  obtain ⟨a1, _, _, _, _, a6, _⟩ := hE_ok h0
  have hg : gok (uM x) (uN x) (uW x) (uB x) = true := gok_yes (i := uN x) (Nat.le_refl _) (fun h => absurd h (Nat.lt_irrefl _)) hok hv
  refine (un_gok h0 hg ?_).1
  intro hc
  have h1 := (hok (uN x - 1) (by omega)).2
  rw [show uN x - 1 + 1 = uN x by omega, uB_len] at h1
  have : uR x = (uN x * uW x + 7) / 8 := rfl
  omega
theorem sn_hit {f : Nat → Nat} {j z u : Nat} (hz : z = f j) (hu : u = sn f j) (h : z = u) : u + 1 = sn f (j + 1) := by rw [sn, if_pos (by omega), hu]
theorem sn_miss {f : Nat → Nat} {j z u : Nat} (hz : z = f j) (hu : u = sn f j) (h : ¬ z = u) : u = sn f (j + 1) := by rw [sn, if_neg (by omega), hu]
theorem cells_succ (p : List Int) (f : Nat → Nat) (j : Nat) : cellsOf p f (j + 1) = cellsOf p f j ++ [p.getD (f j) 0] := by unfold cellsOf; rw [List.range_succ, List.map_append]; rfl
theorem fld_0 (N j : Nat) : fld 0 N j = 0 := by unfold fld; rw [Nat.pow_zero, Nat.mod_one]
theorem uB_0 {x : List UInt8} (h : uW x = 0) : V (uB x) < 2 ^ (uW x * uN x) := by
  have h1 : (uB x).length = 0 := by
    rw [uB_len]
    have : uR x = (uN x * uW x + 7) / 8 := rfl
    rw [h] at this
    omega
  rw [List.eq_nil_of_length_eq_zero h1]
  exact Nat.two_pow_pos _
end Pl
end Go.Proofs.Ytfomieekdbkcnaa
