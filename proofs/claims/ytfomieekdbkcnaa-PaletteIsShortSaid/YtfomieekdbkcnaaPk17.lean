/-
  The ways through a text's head and its indices. (No program.)
-/
import Derived.Test.YtfomieekdbkcnaaPk11
namespace Go.Proofs.Ytfomieekdbkcnaa
open Go Go.RowKit
set_option linter.unusedVariables false
namespace Pl
def hN (x : List UInt8) : Int := if hE x = 0 then (uN x : Int) else 0
def hL (x : List UInt8) : List Int := if hE x = 0 then uP x else []
theorem hN_nn (x : List UInt8) : 0 ≤ hN x := by unfold hN; split <;> omega
theorem h_err {x : List UInt8} {e : Nat} (h : hE x = e) (h0 : e ≠ 0) : hN x = 0 ∧ hL x = [] ∧ (hE x : Int) = e := by
  have h1 : ¬ hE x = 0 := by omega
  exact ⟨if_neg h1, if_neg h1, by rw [h]⟩
theorem h_ok {x : List UInt8} (h : hE x = 0) : hN x = (uN x : Int) ∧ hL x = uP x := ⟨if_pos h, if_pos h⟩
theorem hE_c0 {x : List UInt8} (h : x = []) : hE x = 5 := by rw [h]; rfl
theorem hE_c1 {x : List UInt8} (h : x ≠ []) (h1 : 64 < uN x) : hE x = 6 := by
  have := List.length_pos_iff.2 h
  unfold hE; rw [if_neg (by omega), if_pos h1]
theorem hE_c2 {x : List UInt8} (h : x ≠ []) (h1 : ¬ 64 < uN x) (h2 : x.length = 1) : hE x = 5 := by
  have := List.length_pos_iff.2 h
  unfold hE; rw [if_neg (by omega), if_neg h1, if_pos h2]
theorem hE_c3 {x : List UInt8} (h : x ≠ []) (h1 : ¬ 64 < uN x) (h2 : ¬ x.length = 1) (h3 : uM x = 0 ∨ uN x < uM x) : hE x = 6 := by
  have := List.length_pos_iff.2 h
  unfold hE; rw [if_neg (by omega), if_neg h1, if_neg h2, if_pos h3]
theorem hE_c4 {x : List UInt8} (h : x ≠ []) (h1 : ¬ 64 < uN x) (h2 : ¬ x.length = 1) (h3 : ¬ (uM x = 0 ∨ uN x < uM x)) (h4 : (pal (uP x)).length < (uP x).length) : hE x = 6 := by
  have := List.length_pos_iff.2 h
  unfold hE; rw [if_neg (by omega), if_neg h1, if_neg h2, if_neg h3, if_pos h4]
theorem hE_c5 {x : List UInt8} (h : x ≠ []) (h1 : ¬ 64 < uN x) (h2 : ¬ x.length = 1) (h3 : ¬ (uM x = 0 ∨ uN x < uM x)) (h4 : ¬ (pal (uP x)).length < (uP x).length) (h5 : (uP x).length < uM x) : hE x = 5 := by
  have := List.length_pos_iff.2 h
  unfold hE; rw [if_neg (by omega), if_neg h1, if_neg h2, if_neg h3, if_neg h4, if_pos h5]
theorem hE_c6 {x : List UInt8} (h : x ≠ []) (h1 : ¬ 64 < uN x) (h2 : ¬ x.length = 1) (h3 : ¬ (uM x = 0 ∨ uN x < uM x)) (h4 : ¬ (pal (uP x)).length < (uP x).length) (h5 : ¬ (uP x).length < uM x) : hE x = 0 := by
  have := List.length_pos_iff.2 h
  unfold hE; rw [if_neg (by omega), if_neg h1, if_neg h2, if_neg h3, if_neg h4, if_neg h5]
theorem take_drop {x : List UInt8} {a b r : Nat} (hb : b = min (a + r) x.length) : (x.take b).drop a = (x.drop a).take r := by
  rw [List.drop_take]
  apply List.ext_getElem?
  intro j
  rw [List.getElem?_take, List.getElem?_take, List.getElem?_drop]
  by_cases h : j < r
  · by_cases h2 : j < b - a
    · rw [if_pos h, if_pos h2]
    · rw [if_pos h, if_neg h2, List.getElem?_eq_none (by omega)]
  · rw [if_neg h, if_neg (by omega)]
theorem uP_len (x : List UInt8) : (uP x).length = min (uM x) (x.length - 2) := by unfold uP; rw [ints_len, List.length_take, List.length_drop]
theorem uB_len (x : List UInt8) : (uB x).length = min (uR x) (x.length - (2 + uM x)) := by unfold uB; rw [List.length_take, List.length_drop]
/-- what a good head says -/
theorem hE_ok {x : List UInt8} (h : hE x = 0) : 1 ≤ uN x ∧ uN x ≤ 64 ∧ 1 ≤ uM x ∧ uM x ≤ uN x ∧ (uP x).length = uM x ∧ 2 + uM x ≤ x.length ∧ (uP x).Nodup := by
  obtain ⟨h1, h2, h3, h4, h5, h6, h7⟩ := hE_0.1 h
  have := uP_len x
  refine ⟨by omega, h2, by omega, h5, by omega, by omega, h6⟩
theorem gok_un (x : List UInt8) : gok (uM x) (uN x) (uW x) (uB x) = (!uBad x && decide (V (uB x) < 2 ^ (uW x * uN x))) := rfl
theorem un_nok {x : List UInt8} (h0 : hE x = 0) (hg : gok (uM x) (uN x) (uW x) (uB x) = false) : un x = ([], 0, 6) := by
  obtain ⟨a1, _⟩ := hE_ok h0
  have hz : ¬ (x.length ≠ 0 ∧ uN x = 0) := by omega
  rw [gok_un] at hg
  cases hb : uBad x with
  | true => exact un_bad hz h0 hb
  | false =>
    rw [hb] at hg
    have hv : ¬ V (uB x) < 2 ^ (uW x * uN x) := by
      intro hv; rw [decide_eq_true hv] at hg; cases hg
    refine un_tail hz h0 hb ?_ (by omega)
    intro hc
    apply hv
    refine Nat.lt_of_lt_of_le (V_bits _) (Nat.pow_le_pow_right (by decide) ?_)
    unfold uR room at hc
    have := Nat.mul_comm (uW x) (uN x)
    omega
theorem un_gcut {x : List UInt8} (h0 : hE x = 0) (hg : gok (uM x) (uN x) (uW x) (uB x) = true) (hc : x.length < 2 + uM x + uR x) : un x = ([], 0, 5) := by
  obtain ⟨a1, _, _, _, _, a6, _⟩ := hE_ok h0
  rw [gok_un, Bool.and_eq_true, Bool.not_eq_true'] at hg
  refine un_cut (by omega) h0 hg.1 ?_
  rw [uB_len]; omega
theorem un_gok {x : List UInt8} (h0 : hE x = 0) (hg : gok (uM x) (uN x) (uW x) (uB x) = true) (hc : ¬ x.length < 2 + uM x + uR x) : un x = (cellsOf (uP x) (uF x) (uN x), 2 + uM x + uR x, 0) ∧ uN x * uW x ≤ (uB x).length * 8 := by
  obtain ⟨a1, _, _, _, _, a6, _⟩ := hE_ok h0
  rw [gok_un, Bool.and_eq_true, Bool.not_eq_true', decide_eq_true_eq] at hg
  refine ⟨un_ok (by omega) h0 hg.1 (by rw [uB_len]; omega) (by omega), ?_⟩
  rw [uB_len]
  have : uR x = (uN x * uW x + 7) / 8 := rfl
  omega
end Pl
end Go.Proofs.Ytfomieekdbkcnaa
