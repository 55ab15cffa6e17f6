/-
  Contracts of the comparisons: of equal arguments they answer true.
-/
import Derived.Test.YtchlomkohjjpmaaWirei
import Derived.Deep.QuietTactic
import Derived.BigQuiet
import Derived.Stop.BytesEq
namespace Go.Proofs.Ytchlomkohjjpmaa
open Go.RowKit

theorem same_any (l : List UInt8) (A B : Option Addr) (n m c d : Nat) (w : World) (hn : l.length = n) (hm : l.length = m) (hA : Lies w A (l.map bv)) (hB : Lies w B (l.map bv)) :
    Calls Try.prog 13 #[.slice A n c, .slice B m d] w fun e w' => e = .returned (.bool true) ∧ w = w' := by
  have HN := Lib.hid hn
  have HM := Lib.hid hm
  have HA := Lib.hid hA
  have HB := Lib.hid hB
  clear hn hm hA hB
  have e0 : ∀ {A : Option Addr} {n : Nat}, Hid (l.length = n) → Hid (Lies w A (l.map bv)) → A = none → n = 0 := by
    intro A n hn hA h
    have h1 := hA.out.none_ h
    have h2 := hn.out
    subst h1; simp at h2; exact h2.symm
  go_enter Try.func13, Try.ntmps13
  go_wp2_with (first
    | (refine wpList_convert_str w rfl _ 28 9 5 rfl Try.underlying28 Try.underlying5 Try.underlying9 A n c rfl l HN.out (e0 HN HA) HA.out ?_)
    | (refine wpList_convert_str w rfl _ 28 9 5 rfl Try.underlying28 Try.underlying5 Try.underlying9 B m d rfl l HM.out (e0 HM HB) HB.out ?_))
  go_ret
  exact ⟨by simp, rfl⟩

set_option maxRecDepth 1000000 in
set_option maxHeartbeats 400000 in
theorem sameInts_any (l : List Int) (A B : Option Addr) (n m c d : Nat) (w : World) (hn : l.length = n) (hm : l.length = m) (hn2 : n ≤ 140737488355328) (hA : Lies w A (l.map iv)) (hB : Lies w B (l.map iv)) :
    Calls Try.prog 30 #[.slice A n c, .slice B m d] w fun e w' => e = .returned (.bool true) ∧ Below w.heap.size w w' := by
  have hmn : m = n := by omega
  subst hmn
  have HN := Lib.hid hn
  have HA := Lib.hid hA
  have HB := Lib.hid hB
  clear hn hm hA hB
  go_enter Try.func30, Try.ntmps30
  go_wp2_with fail
  go_loopw [5] (fun i wr => ∃ k : Nat, i = .int .i64 (k : Int) ∧ k ≤ m ∧ Below w.heap.size w wr) (fun i _ => m - (intOf i).toNat)
  case atStart => exact ⟨0, rfl, by omega, Below.refl _ _⟩
  case round =>
    obtain ⟨k, rfl, hk, hbel⟩ := hrel
    by_cases hlt : k < m
    · have hkl : k < l.length := by rw [HN.out]; exact hlt
      have hne : l.map iv ≠ [] := by
        have : 0 < (l.map iv).length := by rw [List.length_map]; omega
        exact List.ne_nil_of_length_pos this
      obtain ⟨b, o, hA, _⟩ := HA.out.at_ hne
      obtain ⟨b2, o2, hB, _⟩ := HB.out.at_ hne
      subst hA hB
      have hx := List.getElem?_eq_getElem hkl
      generalize l[k] = x at hx
      have hc : wr.cell? ⟨b, o + k, none⟩ = some (.int .i64 x) := (HA.out.below hbel).at1 (by rw [List.getElem?_map, hx]; rfl)
      have hc2 : wr.cell? ⟨b2, o2 + k, none⟩ = some (.int .i64 x) := (HB.out.below hbel).at1 (by rw [List.getElem?_map, hx]; rfl)
      have hlti : (k : Int) < (m : Int) := by omega
      clear hx hkl hne
      go_wp2_with fail
      go_quiet (fail)
      go_wp2_with fail
      go_roundw
      case rel => exact ⟨k + 1, by go_num, by omega, ⟨hbel.os, hbel.tape, hbel.output, hbel.size, hbel.block⟩⟩
      case measure => simp [intOf]; omega
    · have hkm : k = m := by omega
      subst hkm
      go_wp2
      go_ret
      exact ⟨rfl, hbel⟩

set_option maxRecDepth 1000000 in
set_option maxHeartbeats 400000 in
theorem sameTexts_any (l : List (List UInt8)) (A B : Option Addr) (n m c d : Nat) (w : World) (hn : l.length = n) (hm : l.length = m) (hn2 : n ≤ 140737488355328) (hA : Lies w A (l.map sv)) (hB : Lies w B (l.map sv)) :
    Calls Try.prog 33 #[.slice A n c, .slice B m d] w fun e w' => e = .returned (.bool true) ∧ Below w.heap.size w w' := by
  have hmn : m = n := by omega
  subst hmn
  have HN := Lib.hid hn
  have HA := Lib.hid hA
  have HB := Lib.hid hB
  clear hn hm hA hB
  go_enter Try.func33, Try.ntmps33
  go_wp2_with fail
  go_loopw [5] (fun i wr => ∃ k : Nat, i = .int .i64 (k : Int) ∧ k ≤ m ∧ Below w.heap.size w wr) (fun i _ => m - (intOf i).toNat)
  case atStart => exact ⟨0, rfl, by omega, Below.refl _ _⟩
  case round =>
    obtain ⟨k, rfl, hk, hbel⟩ := hrel
    by_cases hlt : k < m
    · have hkl : k < l.length := by rw [HN.out]; exact hlt
      have hne : l.map sv ≠ [] := by
        have : 0 < (l.map sv).length := by rw [List.length_map]; omega
        exact List.ne_nil_of_length_pos this
      obtain ⟨b, o, hA, _⟩ := HA.out.at_ hne
      obtain ⟨b2, o2, hB, _⟩ := HB.out.at_ hne
      subst hA hB
      have hx := List.getElem?_eq_getElem hkl
      generalize l[k] = x at hx
      have hc : wr.cell? ⟨b, o + k, none⟩ = some (.string (bstr x)) := (HA.out.below hbel).at1 (by rw [List.getElem?_map, hx]; rfl)
      have hc2 : wr.cell? ⟨b2, o2 + k, none⟩ = some (.string (bstr x)) := (HB.out.below hbel).at1 (by rw [List.getElem?_map, hx]; rfl)
      have hlti : (k : Int) < (m : Int) := by omega
      clear hx hkl hne
      go_wp2_with fail
      go_quiet (fail)
      go_wp2_with fail
      go_roundw
      case rel => exact ⟨k + 1, by go_num, by omega, ⟨hbel.os, hbel.tape, hbel.output, hbel.size, hbel.block⟩⟩
      case measure => simp [intOf]; omega
    · have hkm : k = m := by omega
      subst hkm
      go_wp2
      go_ret
      exact ⟨rfl, hbel⟩

theorem sixteen {x : List UInt8} (h : x.length = 16) : ∃ c0 c1 c2 c3 c4 c5 c6 c7 c8 c9 c10 c11 c12 c13 c14 c15, x = [c0, c1, c2, c3, c4, c5, c6, c7, c8, c9, c10, c11, c12, c13, c14, c15] := by
  match x, h with
  | [c0, c1, c2, c3, c4, c5, c6, c7, c8, c9, c10, c11, c12, c13, c14, c15], _ => exact ⟨c0, c1, c2, c3, c4, c5, c6, c7, c8, c9, c10, c11, c12, c13, c14, c15, rfl⟩

theorem Try.sizeOfU8 (w : World) : (sizeOf 5).run Try.prog w = .ok 1 w := by
  have h := Try.sizeU8
  cases hq : Try.prog.info? 5 with
  | none => rw [hq] at h; cases h
  | some i => rw [hq] at h; simp at h; simp [sizeOf, typeInfo, hq, h]

theorem run_equalIn_same (x : List UInt8) (hx : x.length = 16) (w : World) : (Op.equalIn 10000 57 (.agg (x.map bv).toArray) (.agg (x.map bv).toArray)).run Try.prog w = .ok true w := by
  have h := run_equalIn_bytes (P := Try.prog) w 9998 57 5 16 Try.underlying57 Try.underlying5 Try.sizeOfU8 x x hx hx
  rw [show (x == x) = true from by simp] at h
  exact h

set_option maxRecDepth 1000000 in
set_option maxHeartbeats 400000 in
theorem sameDigests_any (l : List (List UInt8)) (A B : Option Addr) (n m c d : Nat) (w : World) (hn : l.length = n) (hm : l.length = m) (hf : Is16 l) (hn2 : n ≤ 4398046511104) (hA : Lies w A (dcells l)) (hB : Lies w B (dcells l)) :
    Calls Try.prog 36 #[.slice A n c, .slice B m d] w fun e w' => e = .returned (.bool true) ∧ Below w.heap.size w w' := by
  have hmn : m = n := by omega
  subst hmn
  have HN := Lib.hid hn
  have HA := Lib.hid hA
  have HB := Lib.hid hB
  have HF := Lib.hid hf
  clear hn hm hA hB hf
  go_enter Try.func36, Try.ntmps36
  go_wp2_with fail
  go_loopw [5] (fun i wr => ∃ k : Nat, i = .int .i64 (k : Int) ∧ k ≤ m ∧ Below w.heap.size w wr) (fun i _ => m - (intOf i).toNat)
  case atStart => exact ⟨0, rfl, by omega, Below.refl _ _⟩
  case round =>
    obtain ⟨k, rfl, hk, hbel⟩ := hrel
    by_cases hlt : k < m
    · have hkl : k < l.length := by rw [HN.out]; exact hlt
      have hfl := flatten_len HF.out
      have hne : dcells l ≠ [] := by
        have : 0 < (dcells l).length := by unfold dcells; rw [List.length_map, hfl]; omega
        exact List.ne_nil_of_length_pos this
      obtain ⟨b, o, hA, _⟩ := HA.out.at_ hne
      obtain ⟨b2, o2, hB, _⟩ := HB.out.at_ hne
      subst hA hB
      have hx := List.getElem?_eq_getElem hkl
      generalize l[k] = x at hx
      have hxf := HF.out x (List.mem_of_getElem? hx)
      have hc : ∀ {b o}, Lies w (some ⟨b, o, none⟩) (dcells l) → Lies wr (some ⟨b, o + k * 16, none⟩) (x.map bv) := by
        intro b o h
        have h1 := ((h.below hbel).drop (k * 16)).take 16
        unfold dcells at h1
        rw [← List.map_drop, ← List.map_take, flatten_part HF.out hx] at h1
        exact h1
      have h1 := (hc HA.out).range
      have h2 := (hc HB.out).range
      have he := run_equalIn_same x hxf
      obtain ⟨c0, c1, c2, c3, c4, c5, c6, c7, c8, c9, c10, c11, c12, c13, c14, c15, rfl⟩ := sixteen hxf
      have q0_0 : wr.cell? ⟨b, o + k * 16, none⟩ = some (bv c0) := h1 0 _ rfl
      have q0_1 : wr.cell? ⟨b, o + k * 16 + 1, none⟩ = some (bv c1) := h1 1 _ rfl
      have q0_2 : wr.cell? ⟨b, o + k * 16 + 2, none⟩ = some (bv c2) := h1 2 _ rfl
      have q0_3 : wr.cell? ⟨b, o + k * 16 + 3, none⟩ = some (bv c3) := h1 3 _ rfl
      have q0_4 : wr.cell? ⟨b, o + k * 16 + 4, none⟩ = some (bv c4) := h1 4 _ rfl
      have q0_5 : wr.cell? ⟨b, o + k * 16 + 5, none⟩ = some (bv c5) := h1 5 _ rfl
      have q0_6 : wr.cell? ⟨b, o + k * 16 + 6, none⟩ = some (bv c6) := h1 6 _ rfl
      have q0_7 : wr.cell? ⟨b, o + k * 16 + 7, none⟩ = some (bv c7) := h1 7 _ rfl
      have q0_8 : wr.cell? ⟨b, o + k * 16 + 8, none⟩ = some (bv c8) := h1 8 _ rfl
      have q0_9 : wr.cell? ⟨b, o + k * 16 + 9, none⟩ = some (bv c9) := h1 9 _ rfl
      have q0_10 : wr.cell? ⟨b, o + k * 16 + 10, none⟩ = some (bv c10) := h1 10 _ rfl
      have q0_11 : wr.cell? ⟨b, o + k * 16 + 11, none⟩ = some (bv c11) := h1 11 _ rfl
      have q0_12 : wr.cell? ⟨b, o + k * 16 + 12, none⟩ = some (bv c12) := h1 12 _ rfl
      have q0_13 : wr.cell? ⟨b, o + k * 16 + 13, none⟩ = some (bv c13) := h1 13 _ rfl
      have q0_14 : wr.cell? ⟨b, o + k * 16 + 14, none⟩ = some (bv c14) := h1 14 _ rfl
      have q0_15 : wr.cell? ⟨b, o + k * 16 + 15, none⟩ = some (bv c15) := h1 15 _ rfl
      have q1_0 : wr.cell? ⟨b2, o2 + k * 16, none⟩ = some (bv c0) := h2 0 _ rfl
      have q1_1 : wr.cell? ⟨b2, o2 + k * 16 + 1, none⟩ = some (bv c1) := h2 1 _ rfl
      have q1_2 : wr.cell? ⟨b2, o2 + k * 16 + 2, none⟩ = some (bv c2) := h2 2 _ rfl
      have q1_3 : wr.cell? ⟨b2, o2 + k * 16 + 3, none⟩ = some (bv c3) := h2 3 _ rfl
      have q1_4 : wr.cell? ⟨b2, o2 + k * 16 + 4, none⟩ = some (bv c4) := h2 4 _ rfl
      have q1_5 : wr.cell? ⟨b2, o2 + k * 16 + 5, none⟩ = some (bv c5) := h2 5 _ rfl
      have q1_6 : wr.cell? ⟨b2, o2 + k * 16 + 6, none⟩ = some (bv c6) := h2 6 _ rfl
      have q1_7 : wr.cell? ⟨b2, o2 + k * 16 + 7, none⟩ = some (bv c7) := h2 7 _ rfl
      have q1_8 : wr.cell? ⟨b2, o2 + k * 16 + 8, none⟩ = some (bv c8) := h2 8 _ rfl
      have q1_9 : wr.cell? ⟨b2, o2 + k * 16 + 9, none⟩ = some (bv c9) := h2 9 _ rfl
      have q1_10 : wr.cell? ⟨b2, o2 + k * 16 + 10, none⟩ = some (bv c10) := h2 10 _ rfl
      have q1_11 : wr.cell? ⟨b2, o2 + k * 16 + 11, none⟩ = some (bv c11) := h2 11 _ rfl
      have q1_12 : wr.cell? ⟨b2, o2 + k * 16 + 12, none⟩ = some (bv c12) := h2 12 _ rfl
      have q1_13 : wr.cell? ⟨b2, o2 + k * 16 + 13, none⟩ = some (bv c13) := h2 13 _ rfl
      have q1_14 : wr.cell? ⟨b2, o2 + k * 16 + 14, none⟩ = some (bv c14) := h2 14 _ rfl
      have q1_15 : wr.cell? ⟨b2, o2 + k * 16 + 15, none⟩ = some (bv c15) := h2 15 _ rfl
      have heq : ∀ w, (Op.equalIn 10000 57 (.agg #[bv c0, bv c1, bv c2, bv c3, bv c4, bv c5, bv c6, bv c7, bv c8, bv c9, bv c10, bv c11, bv c12, bv c13, bv c14, bv c15]) (.agg #[bv c0, bv c1, bv c2, bv c3, bv c4, bv c5, bv c6, bv c7, bv c8, bv c9, bv c10, bv c11, bv c12, bv c13, bv c14, bv c15])).run Try.prog w = .ok true w := he
      have hlti : (k : Int) < (m : Int) := by omega
      clear hx hkl hne hfl hc h1 h2 he hxf
      go_wp2_with fail
      go_quiet (fail)
      go_wp2_with fail
      go_roundw
      case rel => exact ⟨k + 1, by go_num, by omega, ⟨hbel.os, hbel.tape, hbel.output, hbel.size, hbel.block⟩⟩
      case measure => simp [intOf]; omega
    · have hkm : k = m := by omega
      subst hkm
      go_wp2
      go_ret
      exact ⟨rfl, hbel⟩

end Go.Proofs.Ytchlomkohjjpmaa
