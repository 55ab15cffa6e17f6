/-
  Contract of voxellaw02.hex.
-/
import Derived.Test.YtfaadaahpjpfaaaDoorHta
import Derived.Deep.RegionHeld3
import Derived.Deep.AppendLies
namespace Go.Proofs.YtfaadaahpjpfaaaDoor
open Go.RowKit

def hexDigits : List UInt8 := [48, 49, 50, 51, 52, 53, 54, 55, 56, 57, 97, 98, 99, 100, 101, 102]
def hexOf (l : List UInt8) : List UInt8 := l.flatMap (fun c => [hexDigits.getD (c.toNat / 16) 0, hexDigits.getD (c.toNat % 16) 0])
theorem hexOf_len (l : List UInt8) : (hexOf l).length = 2 * l.length := by
  induction l with
  | nil => rfl
  | cons c r ih => unfold hexOf at ih ⊢; rw [List.flatMap_cons, List.length_append, ih]; simp; omega
theorem hexOf_snoc (l : List UInt8) (c : UInt8) : hexOf (l ++ [c]) = hexOf l ++ [hexDigits.getD (c.toNat / 16) 0, hexDigits.getD (c.toNat % 16) 0] := by
  unfold hexOf; rw [List.flatMap_append]; simp

theorem run_index_str {P : Program} (w : World) (t : TypeId) (hu : P.underlying t = some .string) (l : List UInt8) (kd : IntKind) (i : Int) (n : Nat) (hi : i = (n : Int)) (h : n < l.length) :
    (Instr.index t (.string (bstr l)) (.int kd i)).run P w = .ok (.int .u8 ((l.getD n 0).toNat : Int)) w := by
  subst hi
  have h2 : (bstr l)[n]? = some (l.getD n 0) := by
    have h3 : n < (bstr l).size := by rw [bstr_size]; exact h
    rw [getElem?_pos (bstr l) n h3, bstr_get]
  simp [Instr.index, asIntOf, run_underlying hu, h2]
/-- a digit as it runs, under a name -/
noncomputable def idxRun (v i : Value) (w : World) : Result Value := (Instr.index 9 v i).run Tryd.prog w
theorem idxRun_eq (v i : Value) (w : World) : (Instr.index 9 v i).run Tryd.prog w = idxRun v i w := rfl
attribute [local go_sem ↓] idxRun_eq

set_option maxRecDepth 1000000 in
set_option maxHeartbeats 400000 in
theorem hex_any (l : List UInt8) (w : World) (hl : l.length ≤ 1000) :
    Calls Tryd.prog 25 #[.string (bstr l)] w fun e w' => e = .returned (.string (bstr (hexOf l))) ∧ Below w.heap.size w w' := by
  obtain ⟨i0, hi, hz0, hz1, hz2⟩ := info_parts Tryd.infoU8
  have ea : (bstr l).size = l.length := bstr_size l
  go_enter Tryd.func25, Tryd.ntmps25
  go_wp2_with fail
  go_loopw [4, 5] (fun b i wr => ∃ k : Nat, i = .int .i64 (k : Int) ∧ k ≤ l.length ∧ wr.ownsRow w.heap.size 5 1 b (2 * k) ((hexOf (l.take k)).map bv) ∧ Below w.heap.size w wr) (fun _ i _ => l.length - (intOf i).toNat)
  case atStart => exact ⟨0, rfl, by omega, World.ownsRow_nil _ _ _ _, Below.refl _ _⟩
  case round =>
    obtain ⟨k, rfl, hk, hown, hb⟩ := hrel
    by_cases hlt : k < l.length
    · have hsz := hb.size
      have ht : (l.take k ++ [l.getD k 0]) = l.take (k + 1) := by
        rw [List.take_succ_eq_append_getElem hlt, List.getD_eq_getElem?_getD, List.getElem?_eq_getElem hlt]; rfl
      have hcl := hexOf_len (l.take k)
      rw [List.length_take, Nat.min_eq_left (by omega)] at hcl
      have j1 : ∀ W, idxRun (.string (bstr l)) (.int .i64 (k : Int)) W = .ok (.int .u8 ((l.getD k 0).toNat : Int)) W := fun W => run_index_str W 9 Tryd.underlying9 l .i64 k k rfl hlt
      have hst := hexOf_snoc (l.take k) (l.getD k 0)
      rw [ht] at hst
      generalize l.getD k 0 = x at j1 hst
      have hx := x.toNat_lt
      have j2 : ∀ W, idxRun (.string { data := #[48, 49, 50, 51, 52, 53, 54, 55, 56, 57, 97, 98, 99, 100, 101, 102] }) (.int .u8 (IntKind.u8.wrap ((x.toNat : Int) / 16))) W = .ok (.int .u8 ((hexDigits.getD (x.toNat / 16) 0).toNat : Int)) W :=
        fun W => run_index_str W 9 Tryd.underlying9 hexDigits .u8 _ (x.toNat / 16) (by simp [IntKind.wrap, IntKind.signed, IntKind.bits]; omega) (by show _ < 16; omega)
      have j3 : ∀ W, idxRun (.string { data := #[48, 49, 50, 51, 52, 53, 54, 55, 56, 57, 97, 98, 99, 100, 101, 102] }) (.int .u8 ((x.toNat : Int).tmod 16)) W = .ok (.int .u8 ((hexDigits.getD (x.toNat % 16) 0).toNat : Int)) W :=
        fun W => run_index_str W 9 Tryd.underlying9 hexDigits .u8 _ (x.toNat % 16) (by rw [Int.tmod_eq_emod_of_nonneg (by omega)]; omega) (by show _ < 16; omega)
      generalize hexDigits.getD (x.toNat / 16) 0 = d1 at j2 hst
      generalize hexDigits.getD (x.toNat % 16) 0 = d2 at j3 hst
      have HST := Lib.hid hst
      have HCL := Lib.hid hcl
      have HB := Lib.hid hb
      clear ht hst hcl hb
      go_wp2_with fail
      go_region_held3 (fun w' => w.heap.size ≤ w'.heap.size)
        (first | exact hsz | (simp; omega) | (have := hgrow.size; simp at this; omega))
        ((refine step_append_lies _ (by rfl) _ _ _ (by rfl) w.heap.size 5 i0 _ 1 1 Tryd.underlying22 hi hz0 hz1 hz2 rfl (by omega) u4 (2 * k) ((hexOf (l.take k)).map bv) (by rfl) ((hown.alloc _).drew)
            ⟨wr.heap.size, 0, none⟩ 2 2 [bv d1, bv d2] (by rfl) (by rfl) (World.news_of_block (cs := #[bv d1, bv d2]) (t := 5) (fr := (0, 0)) (heap_alloc_new wr _)) (bvs_one [d1, d2])
            (by omega) (by unfold maxLen; omega) (by omega) (by simp; omega) (wr.heap.size + 1) (by simp) ?_; intro g cap w1 hown1 hgrow hat hgl))
      all_goals
        have e1 : 2 * k + 2 = 2 * (k + 1) := by omega
        have hx1 : (hexOf (l.take k)).map bv ++ [bv d1, bv d2] = (hexOf (l.take (k + 1))).map bv := by rw [HST.out, List.map_append]; rfl
        rw [e1, hx1] at hown1
        have HO := Lib.hid hown1
        have HB1 := Lib.hid ((below_drew (HB.out.alloc hsz (.cells #[bv d1, bv d2] 5))).trans (below_of_grown (w := (wr.alloc (.cells #[bv d1, bv d2] 5)).drew) hgrow (by simp; omega) ((hown.alloc _).drew)))
        clear j1 j2 j3 hown1 hown hgrow hat hgl e1 hx1 hi
        go_wp2_with fail
        first
          | exact ⟨⟨k + 1, by go_num, by omega, HO.out, HB1.out⟩, by simp [intOf]; omega⟩
          | (go_roundw
             case rel => exact ⟨k + 1, by go_num, by omega, HO.out, HB1.out⟩
             case measure => simp [intOf]; omega)
    · have hk2 : k = l.length := by omega
      subst hk2
      rw [List.take_of_length_le (Nat.le_refl _)] at hown
      obtain ⟨A, c, rfl, _, _, hli⟩ := own_shape hown
      have hhl := hexOf_len l
      have hA : A = none → 2 * l.length = 0 := fun h => by have h2 := hli.none_ h; rw [h2] at hhl; simp at hhl; omega
      have HA := Lib.hid hA
      have HLI := Lib.hid hli
      have HHL := Lib.hid hhl
      have HB := Lib.hid hb
      clear hli hb hown hA hhl
      go_wp2_with (with_reducible refine wpList_convert_str wr rfl (.tmp 27) 22 9 5 rfl Tryd.underlying22 Tryd.underlying5 Tryd.underlying9 A (2 * l.length) c rfl (hexOf l) HHL.out HA.out HLI.out ?_)
      go_ret
      exact ⟨rfl, HB.out⟩

end Go.Proofs.YtfaadaahpjpfaaaDoor
