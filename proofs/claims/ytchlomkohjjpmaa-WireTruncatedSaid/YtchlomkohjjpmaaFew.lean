/-
  voxellaw01.few: whether a list of strings has at most 2000 strings and letters.
-/
import Derived.Test.YtchlomkohjjpmaaOpenb
namespace Go.Proofs.Ytchlomkohjjpmaa
open Go.RowKit

theorem total_succ (l : List (List UInt8)) (k : Nat) (x : List UInt8) (h : l[k]? = some x) : total (l.take (k + 1)) = total (l.take k) + x.length + 1 := by
  induction l generalizing k with
  | nil => simp at h
  | cons y r ih =>
    cases k with
    | zero => simp at h; subst h; simp [total]
    | succ k =>
      have := ih k (by simpa using h)
      simp only [List.take_succ_cons, total]
      omega
theorem total_take (l : List (List UInt8)) (k : Nat) : total (l.take k) ≤ total l := by
  induction l generalizing k with
  | nil => simp
  | cons y r ih =>
    cases k with
    | zero => simp [total]
    | succ k =>
      have := ih k
      simp only [List.take_succ_cons, total]
      omega

set_option maxRecDepth 1000000 in
set_option maxHeartbeats 400000 in
theorem few_any (l : List (List UInt8)) (A : Option Addr) (n c : Nat) (w : World) (hn : l.length = n) (ht : total l ≤ 1099511627776) (hl : Lies w A (l.map sv)) :
    Calls Try.prog 11 #[.slice A n c] w fun e w' => e = .returned (.bool (decide (total l ≤ 2000))) ∧ w = w' := by
  have HL := Lib.hid hl
  have HN := Lib.hid hn
  have hn2 : n ≤ 1099511627776 := by have := total_len l; omega
  have HT := Lib.hid ht
  clear hl hn ht
  go_enter Try.func11, Try.ntmps11
  go_wp2_with fail
  go_loop [3, 10] (fun t i => ∃ (k m : Nat), i = .int .i64 (k : Int) ∧ t = .int .i64 (m : Int) ∧ k ≤ n ∧ m + k = n + total (l.take k) ∧ m ≤ 2199023255552) (fun _ i => n - (intOf i).toNat)
  case atStart => exact ⟨0, n, rfl, rfl, by omega, by simp [total], by omega⟩
  case round =>
    obtain ⟨k, m, rfl, rfl, hk, hm, hm2⟩ := hrel
    have HM := Lib.hid hm
    clear hm
    by_cases hlt : k < n
    · have hkl : k < l.length := by rw [HN.out]; exact hlt
      obtain ⟨b, o, hA, _⟩ := HL.out.at_ (by simpa using List.ne_nil_of_length_pos (show 0 < l.length by omega))
      subst hA
      have hx := List.getElem?_eq_getElem hkl
      generalize l[k] = x at hx
      have hc : w.cell? ⟨b, o + k, none⟩ = some (.string (bstr x)) := HL.out.at1 (by rw [List.getElem?_map, hx]; rfl)
      have hs := total_succ l k x hx
      have hle := total_take l (k + 1)
      have hxs : (bstr x).size = x.length := bstr_size x
      have h9 : (bstr x).size ≤ 1099511627776 := by have := HT.out; omega
      have H9 := Lib.hid (show m + x.length + (k + 1) = n + total (l.take (k + 1)) ∧ m + x.length ≤ 2199023255552 by have := HT.out; have := HM.out; omega)
      have HX := Lib.hid hxs
      clear hx hkl hs hle hxs
      go_wp2_with fail
      go_round
      case rel =>
        refine ⟨k + 1, m + x.length, by go_num, ?_, by omega, H9.out.1, H9.out.2⟩
        rw [HX.out]; go_num
      case measure => simp [intOf]; omega
    · have hkn : k = n := by omega
      subst hkn
      have hmt : m = total l := by
        have h1 := HM.out
        rw [List.take_of_length_le (by rw [HN.out]; exact Nat.le_refl _)] at h1
        omega
      have E := Lib.hid (show decide ((m : Int) ≤ 2000) = decide (total l ≤ 2000) by rw [hmt]; simp; omega)
      clear hmt
      go_wp2
      go_ret
      exact ⟨by rw [← E.out]; rfl, rfl⟩

end Go.Proofs.Ytchlomkohjjpmaa
