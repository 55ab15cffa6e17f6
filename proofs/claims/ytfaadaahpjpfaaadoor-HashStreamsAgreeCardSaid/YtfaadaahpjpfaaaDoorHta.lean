/-
  Contracts of voxelref02: hashes and digests as strings.
-/
import Derived.Test.YtfaadaahpjpfaaaDoorHsn
import Derived.Test.YtfaadaahpjpfaaaDoorEnca
namespace Go.Proofs.YtfaadaahpjpfaaaDoor
open Go.RowKit

theorem Row.low {g b : Nat} {cs : List Value} {w w' : World} (h : Row g cs w) (hb : Below b w w') (hg : g < b) : Row g cs w' := fun j v hj => by
  obtain ⟨q1, q2⟩ := h j v hj
  exact ⟨(hb.cell hg).trans q1, (hb.frozen hg).trans q2⟩

set_option maxRecDepth 1000000 in
set_option maxHeartbeats 400000 in
/-- a hash as a string -/
theorem hrBytes32_any (l : List UInt8) (w : World) (hl : l.length = 32) :
    Calls Tryd.prog 20 #[.agg (l.map bv).toArray] w fun e w' => e = .returned (.string (bstr l)) ∧ Below w.heap.size w w' := by
  obtain ⟨i0, hi, hz0, hz1, hz2⟩ := info_parts Tryd.infoU8
  have HL := Lib.hid hl
  have R0 := Lib.hid (Row.newl w (l.map bv) 24)
  clear hl
  go_enter Tryd.func20, Tryd.ntmps20
  go_wp2_with fail
  go_loopw [3, 4] (fun b i wr => ∃ k : Nat, i = .int .i64 (k : Int) ∧ k ≤ 32 ∧ wr.ownsRow (w.heap.size + 1) 5 1 b k ((l.take k).map bv) ∧ Row w.heap.size (l.map bv) wr ∧ Below w.heap.size w wr) (fun _ i _ => 32 - (intOf i).toNat)
  case atStart => exact ⟨0, rfl, by omega, World.ownsRow_nil _ _ _ _, R0.out, (Below.refl _ _).alloc (Nat.le_refl _) _⟩
  case round =>
    obtain ⟨k, rfl, hk, hown, hr, hb⟩ := hrel
    by_cases hlt : k < 32
    · have c1 := (hr k (bv (l.getD k 0)) (by rw [List.getElem?_map, List.getD_eq_getElem?_getD, List.getElem?_eq_getElem (by rw [HL.out]; exact hlt)]; rfl)).1
      have ht : (l.take k ++ [l.getD k 0]) = l.take (k + 1) := by
        rw [List.take_succ_eq_append_getElem (by rw [HL.out]; exact hlt), List.getD_eq_getElem?_getD, List.getElem?_eq_getElem (by rw [HL.out]; exact hlt)]; rfl
      have hsz := World.block_lt_of_cell? wr _ c1
      have HT := Lib.hid ht
      have HR := Lib.hid hr
      have HB := Lib.hid hb
      clear ht hr hb
      unfold bv at c1
      generalize l.getD k 0 = x at c1 HT
      go_wp2_with (at_builtin; go_loud (refine wpList_append_one wr rfl _ _ 22 rfl (w.heap.size + 1) 5 i0 (.int .u8 0) 1 Tryd.underlying22 hi hz0 hz1 hz2 rfl _ _ _ hown (.int .u8 (x.toNat : Int)) rfl rfl rfl ?c1 ?c2 ?c3 ?_))
      case c1 => unfold maxLen; omega
      case c2 => omega
      case c3 => exact hsz
      intro v' w1 ho hb1
      have e2 : (l.map bv).take k ++ [Value.int .u8 (x.toNat : Int)] = (l.take (k + 1)).map bv := by rw [← List.map_take, ← HT.out, List.map_append]; rfl
      rw [e2] at ho
      have HO := Lib.hid ho
      have HR1 := Lib.hid (HR.out.low hb1 (by omega))
      have HB1 := Lib.hid (HB.out.trans (hb1.mono (by omega)))
      clear ho hb1 hown e2
      go_wp2_with fail
      first
        | exact ⟨⟨k + 1, by go_num, by omega, HO.out, HR1.out, HB1.out⟩, by simp [intOf]; omega⟩
        | (go_roundw
           case rel => exact ⟨k + 1, by go_num, by omega, HO.out, HR1.out, HB1.out⟩
           case measure => simp [intOf]; omega)
    · have hk2 : k = 32 := by omega
      subst hk2
      rw [List.take_of_length_le (by rw [HL.out]; exact Nat.le_refl _)] at hown
      obtain ⟨A, c, rfl, _, _, hli⟩ := own_shape hown
      have HLI := Lib.hid hli
      have HB := Lib.hid hb
      clear hli hb hown hr
      have hA : A = none → 32 = 0 := fun h => by have h2 := HLI.out.none_ h; have := HL.out; rw [h2] at this; simp at this
      have HA := Lib.hid hA
      clear hA
      go_wp2_with (with_reducible refine wpList_convert_str wr rfl (.tmp 15) 22 9 5 rfl Tryd.underlying22 Tryd.underlying5 Tryd.underlying9 A 32 c rfl l HL.out HA.out HLI.out ?_)
      go_ret
      exact ⟨rfl, HB.out⟩

set_option maxRecDepth 1000000 in
set_option maxHeartbeats 400000 in
/-- a digest as a string -/
theorem hrText_any (l : List UInt8) (w : World) (hl : l.length = 16) :
    Calls Tryd.prog 26 #[.agg (l.map bv).toArray] w fun e w' => e = .returned (.string (bstr l)) ∧ Below w.heap.size w w' := by
  obtain ⟨i0, hi, hz0, hz1, hz2⟩ := info_parts Tryd.infoU8
  have HL := Lib.hid hl
  have R0 := Lib.hid (Row.newl w (l.map bv) 44)
  clear hl
  go_enter Tryd.func26, Tryd.ntmps26
  go_wp2_with fail
  go_loopw [3, 4] (fun b i wr => ∃ k : Nat, i = .int .i64 (k : Int) ∧ k ≤ 16 ∧ wr.ownsRow (w.heap.size + 1) 5 1 b k ((l.take k).map bv) ∧ Row w.heap.size (l.map bv) wr ∧ Below w.heap.size w wr) (fun _ i _ => 16 - (intOf i).toNat)
  case atStart => exact ⟨0, rfl, by omega, World.ownsRow_nil _ _ _ _, R0.out, (Below.refl _ _).alloc (Nat.le_refl _) _⟩
  case round =>
    obtain ⟨k, rfl, hk, hown, hr, hb⟩ := hrel
    by_cases hlt : k < 16
    · have c1 := (hr k (bv (l.getD k 0)) (by rw [List.getElem?_map, List.getD_eq_getElem?_getD, List.getElem?_eq_getElem (by rw [HL.out]; exact hlt)]; rfl)).1
      have ht : (l.take k ++ [l.getD k 0]) = l.take (k + 1) := by
        rw [List.take_succ_eq_append_getElem (by rw [HL.out]; exact hlt), List.getD_eq_getElem?_getD, List.getElem?_eq_getElem (by rw [HL.out]; exact hlt)]; rfl
      have hsz := World.block_lt_of_cell? wr _ c1
      have HT := Lib.hid ht
      have HR := Lib.hid hr
      have HB := Lib.hid hb
      clear ht hr hb
      unfold bv at c1
      generalize l.getD k 0 = x at c1 HT
      go_wp2_with (at_builtin; go_loud (refine wpList_append_one wr rfl _ _ 22 rfl (w.heap.size + 1) 5 i0 (.int .u8 0) 1 Tryd.underlying22 hi hz0 hz1 hz2 rfl _ _ _ hown (.int .u8 (x.toNat : Int)) rfl rfl rfl ?c1 ?c2 ?c3 ?_))
      case c1 => unfold maxLen; omega
      case c2 => omega
      case c3 => exact hsz
      intro v' w1 ho hb1
      have e2 : (l.map bv).take k ++ [Value.int .u8 (x.toNat : Int)] = (l.take (k + 1)).map bv := by rw [← List.map_take, ← HT.out, List.map_append]; rfl
      rw [e2] at ho
      have HO := Lib.hid ho
      have HR1 := Lib.hid (HR.out.low hb1 (by omega))
      have HB1 := Lib.hid (HB.out.trans (hb1.mono (by omega)))
      clear ho hb1 hown e2
      go_wp2_with fail
      first
        | exact ⟨⟨k + 1, by go_num, by omega, HO.out, HR1.out, HB1.out⟩, by simp [intOf]; omega⟩
        | (go_roundw
           case rel => exact ⟨k + 1, by go_num, by omega, HO.out, HR1.out, HB1.out⟩
           case measure => simp [intOf]; omega)
    · have hk2 : k = 16 := by omega
      subst hk2
      rw [List.take_of_length_le (by rw [HL.out]; exact Nat.le_refl _)] at hown
      obtain ⟨A, c, rfl, _, _, hli⟩ := own_shape hown
      have HLI := Lib.hid hli
      have HB := Lib.hid hb
      clear hli hb hown hr
      have hA : A = none → 16 = 0 := fun h => by have h2 := HLI.out.none_ h; have := HL.out; rw [h2] at this; simp at this
      have HA := Lib.hid hA
      clear hA
      go_wp2_with (with_reducible refine wpList_convert_str wr rfl (.tmp 15) 22 9 5 rfl Tryd.underlying22 Tryd.underlying5 Tryd.underlying9 A 16 c rfl l HL.out HA.out HLI.out ?_)
      go_ret
      exact ⟨rfl, HB.out⟩

end Go.Proofs.YtfaadaahpjpfaaaDoor
