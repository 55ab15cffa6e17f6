/-
  Contracts of voxelref02: hashes and digests as strings.
-/
import Derived.Test.YtdbdlhgkhnenfaaDoorGe
import Derived.Test.YtdbdlhgkhnenfaaDoorGf
import Derived.Deep.RegionHeld3
import Derived.Deep.AppendLies
import Derived.Deep.DeepCutAuto
import Derived.BigRegion
import Derived.Laws.StructEq
import Derived.Lib.SlBytesConst
import Derived.Lib.ConvBytes
namespace Go.Proofs.YtdbdlhgkhnenfaaDoor
open Go.RowKit

theorem Row.low {g b : Nat} {cs : List Value} {w w' : World} (h : Row g cs w) (hb : Below b w w') (hg : g < b) : Row g cs w' := fun j v hj => by
  obtain ⟨q1, q2⟩ := h j v hj
  exact ⟨(hb.cell hg).trans q1, (hb.frozen hg).trans q2⟩

set_option maxRecDepth 1000000 in
set_option maxHeartbeats 400000 in
/-- a hash as a string -/
theorem hrBytes32_any (l : List UInt8) (w : World) (hl : l.length = 32) :
    Calls Tryd.prog 69 #[.agg (l.map bv).toArray] w fun e w' => e = .returned (.string (bstr l)) ∧ Below w.heap.size w w' := by
  obtain ⟨i0, hi, hz0, hz1, hz2⟩ := info_parts Tryd.infoU8
  have HL := Lib.hid hl
  have R0 := Lib.hid (Row.newl w (l.map bv) 76)
  clear hl
  go_enter Tryd.func69, Tryd.ntmps69
  go_wp2_with fail
  go_loopw [3, 4] (fun b i wr => ∃ k : Nat, i = .int .i64 (k : Int) ∧ k ≤ 32 ∧ wr.ownsRow (w.heap.size + 1) 5 1 b k ((l.take k).map bv) ∧ Row w.heap.size (l.map bv) wr ∧ Below w.heap.size w wr) (fun _ i _ => 32 - (intOf i).toNat)
  case atStart => exact ⟨0, rfl, by omega, World.ownsRow_nil _ _ _ _, R0.out, (Below.refl _ _).alloc (Nat.le_refl _) _⟩
  case round =>
    obtain ⟨k, rfl, hk, hown, hr, hb⟩ := hrel
    by_cases hlt : k < 32
    · have c1 := (hr k (bv (l.getD k 0)) (by rw [List.getElem?_map, List.getD_eq_getElem?_getD, List.getElem?_eq_getElem (by rw [HL.out]; exact hlt)]; rfl)).1
      have ht : (l.take k ++ [l.getD k 0]) = l.take (k + 1) := by
        rw [List.take_succ_eq_append_getElem (by rw [HL.out]; exact hlt), List.getD_eq_getElem?_getD, List.getElem?_eq_getElem (by rw [HL.out]; exact hlt)]; rfl
      have hsz := World.block_lt_of_cell? wr _ c1
      have HT := Lib.hid ht
      have HR := Lib.hid hr
      have HB := Lib.hid hb
      clear ht hr hb
      unfold bv at c1
      generalize l.getD k 0 = x at c1 HT
      go_wp2_with (at_builtin; go_loud (refine wpList_append_one wr rfl _ _ 43 rfl (w.heap.size + 1) 5 i0 (.int .u8 0) 1 Tryd.underlying43 hi hz0 hz1 hz2 rfl _ _ _ hown (.int .u8 (x.toNat : Int)) rfl rfl rfl ?c1 ?c2 ?c3 ?_))
      case c1 => unfold maxLen; omega
      case c2 => omega
      case c3 => exact hsz
      intro v' w1 ho hb1
      have e2 : (l.map bv).take k ++ [Value.int .u8 (x.toNat : Int)] = (l.take (k + 1)).map bv := by rw [← List.map_take, ← HT.out, List.map_append]; rfl
      rw [e2] at ho
      have HO := Lib.hid ho
      have HR1 := Lib.hid (HR.out.low hb1 (by omega))
      have HB1 := Lib.hid (HB.out.trans (hb1.mono (by omega)))
      clear ho hb1 hown e2
      go_wp2_with fail
      first
        | exact ⟨⟨k + 1, by go_num, by omega, HO.out, HR1.out, HB1.out⟩, by simp [intOf]; omega⟩
        | (go_roundw
           case rel => exact ⟨k + 1, by go_num, by omega, HO.out, HR1.out, HB1.out⟩
           case measure => simp [intOf]; omega)
    · have hk2 : k = 32 := by omega
      subst hk2
      rw [List.take_of_length_le (by rw [HL.out]; exact Nat.le_refl _)] at hown
      obtain ⟨A, c, rfl, _, _, hli⟩ := own_shape hown
      have HLI := Lib.hid hli
      have HB := Lib.hid hb
      clear hli hb hown hr
      have hA : A = none → 32 = 0 := fun h => by have h2 := HLI.out.none_ h; have := HL.out; rw [h2] at this; simp at this
      have HA := Lib.hid hA
      clear hA
      go_wp2_with (with_reducible refine wpList_convert_str wr rfl (.tmp 15) 43 9 5 rfl Tryd.underlying43 Tryd.underlying5 Tryd.underlying9 A 32 c rfl l HL.out HA.out HLI.out ?_)
      go_ret
      exact ⟨rfl, HB.out⟩

set_option maxRecDepth 1000000 in
set_option maxHeartbeats 400000 in
/-- a digest as a string -/
theorem hrText_any (l : List UInt8) (w : World) (hl : l.length = 16) :
    Calls Tryd.prog 36 #[.agg (l.map bv).toArray] w fun e w' => e = .returned (.string (bstr l)) ∧ Below w.heap.size w w' := by
  obtain ⟨i0, hi, hz0, hz1, hz2⟩ := info_parts Tryd.infoU8
  have HL := Lib.hid hl
  have R0 := Lib.hid (Row.newl w (l.map bv) 23)
  clear hl
  go_enter Tryd.func36, Tryd.ntmps36
  go_wp2_with fail
  go_loopw [3, 4] (fun b i wr => ∃ k : Nat, i = .int .i64 (k : Int) ∧ k ≤ 16 ∧ wr.ownsRow (w.heap.size + 1) 5 1 b k ((l.take k).map bv) ∧ Row w.heap.size (l.map bv) wr ∧ Below w.heap.size w wr) (fun _ i _ => 16 - (intOf i).toNat)
  case atStart => exact ⟨0, rfl, by omega, World.ownsRow_nil _ _ _ _, R0.out, (Below.refl _ _).alloc (Nat.le_refl _) _⟩
  case round =>
    obtain ⟨k, rfl, hk, hown, hr, hb⟩ := hrel
    by_cases hlt : k < 16
    · have c1 := (hr k (bv (l.getD k 0)) (by rw [List.getElem?_map, List.getD_eq_getElem?_getD, List.getElem?_eq_getElem (by rw [HL.out]; exact hlt)]; rfl)).1
      have ht : (l.take k ++ [l.getD k 0]) = l.take (k + 1) := by
        rw [List.take_succ_eq_append_getElem (by rw [HL.out]; exact hlt), List.getD_eq_getElem?_getD, List.getElem?_eq_getElem (by rw [HL.out]; exact hlt)]; rfl
      have hsz := World.block_lt_of_cell? wr _ c1
      have HT := Lib.hid ht
      have HR := Lib.hid hr
      have HB := Lib.hid hb
      clear ht hr hb
      unfold bv at c1
      generalize l.getD k 0 = x at c1 HT
      go_wp2_with (at_builtin; go_loud (refine wpList_append_one wr rfl _ _ 43 rfl (w.heap.size + 1) 5 i0 (.int .u8 0) 1 Tryd.underlying43 hi hz0 hz1 hz2 rfl _ _ _ hown (.int .u8 (x.toNat : Int)) rfl rfl rfl ?c1 ?c2 ?c3 ?_))
      case c1 => unfold maxLen; omega
      case c2 => omega
      case c3 => exact hsz
      intro v' w1 ho hb1
      have e2 : (l.map bv).take k ++ [Value.int .u8 (x.toNat : Int)] = (l.take (k + 1)).map bv := by rw [← List.map_take, ← HT.out, List.map_append]; rfl
      rw [e2] at ho
      have HO := Lib.hid ho
      have HR1 := Lib.hid (HR.out.low hb1 (by omega))
      have HB1 := Lib.hid (HB.out.trans (hb1.mono (by omega)))
      clear ho hb1 hown e2
      go_wp2_with fail
      first
        | exact ⟨⟨k + 1, by go_num, by omega, HO.out, HR1.out, HB1.out⟩, by simp [intOf]; omega⟩
        | (go_roundw
           case rel => exact ⟨k + 1, by go_num, by omega, HO.out, HR1.out, HB1.out⟩
           case measure => simp [intOf]; omega)
    · have hk2 : k = 16 := by omega
      subst hk2
      rw [List.take_of_length_le (by rw [HL.out]; exact Nat.le_refl _)] at hown
      obtain ⟨A, c, rfl, _, _, hli⟩ := own_shape hown
      have HLI := Lib.hid hli
      have HB := Lib.hid hb
      clear hli hb hown hr
      have hA : A = none → 16 = 0 := fun h => by have h2 := HLI.out.none_ h; have := HL.out; rw [h2] at this; simp at this
      have HA := Lib.hid hA
      clear hA
      go_wp2_with (with_reducible refine wpList_convert_str wr rfl (.tmp 15) 43 9 5 rfl Tryd.underlying43 Tryd.underlying5 Tryd.underlying9 A 16 c rfl l HL.out HA.out HLI.out ?_)
      go_ret
      exact ⟨rfl, HB.out⟩

end Go.Proofs.YtdbdlhgkhnenfaaDoor
/-
  Contract of voxellaw02.hex.
-/
namespace Go.Proofs.YtdbdlhgkhnenfaaDoor
open Go.RowKit

def hexDigits : List UInt8 := [48, 49, 50, 51, 52, 53, 54, 55, 56, 57, 97, 98, 99, 100, 101, 102]
def hexOf (l : List UInt8) : List UInt8 := l.flatMap (fun c => [hexDigits.getD (c.toNat / 16) 0, hexDigits.getD (c.toNat % 16) 0])
theorem hexOf_len (l : List UInt8) : (hexOf l).length = 2 * l.length := by
  induction l with
  | nil => rfl
  | cons c r ih => unfold hexOf at ih ⊢; rw [List.flatMap_cons, List.length_append, ih]; simp; omega
theorem hexOf_snoc (l : List UInt8) (c : UInt8) : hexOf (l ++ [c]) = hexOf l ++ [hexDigits.getD (c.toNat / 16) 0, hexDigits.getD (c.toNat % 16) 0] := by
  unfold hexOf; rw [List.flatMap_append]; simp

theorem run_index_str {P : Program} (w : World) (t : TypeId) (hu : P.underlying t = some .string) (l : List UInt8) (kd : IntKind) (i : Int) (n : Nat) (hi : i = (n : Int)) (h : n < l.length) :
    (Instr.index t (.string (bstr l)) (.int kd i)).run P w = .ok (.int .u8 ((l.getD n 0).toNat : Int)) w := by
  subst hi
  have h2 : (bstr l)[n]? = some (l.getD n 0) := by
    have h3 : n < (bstr l).size := by rw [bstr_size]; exact h
    rw [getElem?_pos (bstr l) n h3, bstr_get]
  simp [Instr.index, asIntOf, run_underlying hu, h2]
/-- a digit as it runs, under a name -/
noncomputable def idxRun (v i : Value) (w : World) : Result Value := (Instr.index 9 v i).run Tryd.prog w
theorem idxRun_eq (v i : Value) (w : World) : (Instr.index 9 v i).run Tryd.prog w = idxRun v i w := rfl
attribute [local go_sem ↓] idxRun_eq

end Go.Proofs.YtdbdlhgkhnenfaaDoor
/-
  Contracts of package hash: digests of parts.
-/
namespace Go.Proofs.YtdbdlhgkhnenfaaDoor
open Go.RowKit

/-- the input of a digest -/
def inOf (tag : Int) (l : List (List UInt8)) : List UInt8 := UInt8.ofNat (tag % 256).toNat :: l.flatMap Wm.encS
theorem inOf_snoc (tag : Int) (l : List (List UInt8)) (s : List UInt8) : inOf tag (l ++ [s]) = inOf tag l ++ Wm.encS s := by
  unfold inOf; rw [List.flatMap_append]; simp
/-- at most 1000 strings of at most 1000 bytes -/
def Small (l : List (List UInt8)) : Prop := l.length ≤ 1000 ∧ ∀ s ∈ l, s.length ≤ 1000
theorem encS_le (s : List UInt8) (h : s.length ≤ 1000) : (Wm.encS s).length ≤ 1010 := by
  unfold Wm.encS
  have := Wm.enc_le10 (Wm.zig_lt (s.length : Int) (by omega) (by omega))
  rw [List.length_append]
  change (Wm.encI (s.length : Int)).length ≤ 10 at this
  omega
theorem flat_le (l : List (List UInt8)) (h : ∀ s ∈ l, s.length ≤ 1000) : (l.flatMap Wm.encS).length ≤ 1010 * l.length := by
  induction l with
  | nil => simp
  | cons s r ih =>
    rw [List.flatMap_cons, List.length_append, List.length_cons]
    have h1 := encS_le s (h s (by simp))
    have h2 := ih (fun x hx => h x (by simp [hx]))
    omega
theorem inOf_le (tag : Int) (l : List (List UInt8)) (h : Small l) : (inOf tag l).length ≤ 1010001 := by
  unfold inOf
  have := flat_le l h.2
  have := h.1
  rw [List.length_cons]; omega
theorem Small.take {l : List (List UInt8)} (h : Small l) (k : Nat) : Small (l.take k) :=
  ⟨by rw [List.length_take]; have := h.1; omega, fun s hs => h.2 s (List.mem_of_mem_take hs)⟩

set_option maxRecDepth 1000000 in
set_option maxHeartbeats 1000000 in
theorem hsOf_any (tag : Int) (l : List (List UInt8)) (A : Option Addr) (n c : Nat) (w : World) (hn : l.length = n) (hl : Lies w A (l.map sv)) (hs : Small l) (hT : Tab w) :
    Calls Tryd.prog 37 #[.int .i64 tag, .slice A n c] w fun e w' => e = .returned (.agg (((Sha.sum Sha.consts (inOf tag l)).take 16).map bv).toArray) ∧ Below w.heap.size w w' := by
  obtain ⟨i0, hi, hz0, hz1, hz2⟩ := info_parts Tryd.infoU8
  have HS := Lib.hid hs
  have HN := Lib.hid hn
  have HLL := Lib.hid hl
  have HT := Lib.hid hT
  have hnb : n ≤ 1000 := by have := hs.1; omega
  clear hs hn hl hT
  obtain ⟨out, hout⟩ : ∃ x, x = Sha.sum Sha.consts (inOf tag l) := ⟨_, rfl⟩
  rw [← hout]
  have HOUT := Lib.hid hout
  clear hout
  go_enter Tryd.func37, Tryd.ntmps37
  go_wp2_with fail
  go_loopw [5, 15] (fun b i wr => ∃ k m : Nat, i = .int .i64 (k : Int) ∧ k ≤ n ∧ m = (inOf tag (l.take k)).length ∧ wr.ownsRow (w.heap.size + 1) 5 1 b m ((inOf tag (l.take k)).map bv) ∧ Row w.heap.size (List.replicate 16 (Value.int .u8 0)) wr ∧ Below w.heap.size w wr) (fun _ i _ => n - (intOf i).toNat)
  case atStart =>
    obtain ⟨q1, q2, q3, q4⟩ := two_rows w #[Value.int .u8 0, Value.int .u8 0, Value.int .u8 0, Value.int .u8 0, Value.int .u8 0, Value.int .u8 0, Value.int .u8 0, Value.int .u8 0, Value.int .u8 0, Value.int .u8 0, Value.int .u8 0, Value.int .u8 0, Value.int .u8 0, Value.int .u8 0, Value.int .u8 0, Value.int .u8 0] #[Value.int .u8 (tag % 256)] 23 5
    have hb1 : bv (UInt8.ofNat (tag % 256).toNat) = .int .u8 (tag % 256) := by
      unfold bv
      have h : (UInt8.ofNat (tag % 256).toNat).toNat = (tag % 256).toNat := by simp; omega
      rw [h]; congr 1; omega
    refine ⟨0, 1, rfl, by omega, rfl, ⟨rfl, .inr ⟨w.heap.size + 1, 1, #[Value.int .u8 (tag % 256)], rfl, Nat.le_refl _, ?_, Nat.le_refl _, by unfold maxLen; omega, rfl, ?_⟩⟩, q1, q3⟩
    · have h := heap_alloc_new (w.alloc (.cells #[Value.int .u8 0, Value.int .u8 0, Value.int .u8 0, Value.int .u8 0, Value.int .u8 0, Value.int .u8 0, Value.int .u8 0, Value.int .u8 0, Value.int .u8 0, Value.int .u8 0, Value.int .u8 0, Value.int .u8 0, Value.int .u8 0, Value.int .u8 0, Value.int .u8 0, Value.int .u8 0] 23)) (.cells #[Value.int .u8 (tag % 256)] 5)
      have e : (w.alloc (.cells #[Value.int .u8 0, Value.int .u8 0, Value.int .u8 0, Value.int .u8 0, Value.int .u8 0, Value.int .u8 0, Value.int .u8 0, Value.int .u8 0, Value.int .u8 0, Value.int .u8 0, Value.int .u8 0, Value.int .u8 0, Value.int .u8 0, Value.int .u8 0, Value.int .u8 0, Value.int .u8 0] 23)).heap.size = w.heap.size + 1 := by simp
      rw [e] at h; exact h
    · show [Value.int .u8 (tag % 256)] = [bv (UInt8.ofNat (tag % 256).toNat)]
      rw [hb1]
  case round =>
    obtain ⟨k, m, rfl, hk, hm, hown, hr, hb⟩ := hrel
    by_cases hlt : k < n
    · have hkl : k < l.length := by rw [HN.out]; exact hlt
      obtain ⟨b, o, hA, _⟩ := HLL.out.at_ (by simpa using List.ne_nil_of_length_pos (show 0 < l.length by omega))
      have hx := List.getElem?_eq_getElem hkl
      have hsn := inOf_snoc tag (l.take k) l[k]
      rw [← List.take_succ_eq_append_getElem hkl] at hsn
      have hsl := HS.out.2 l[k] (List.getElem_mem hkl)
      generalize l[k] = x at hx hsn hsl
      have hc : wr.cell? ⟨b, o + k, none⟩ = some (.string (bstr x)) := by
        have h1 := HLL.out.below hb
        rw [hA] at h1
        exact h1.at1 (by rw [List.getElem?_map, hx]; rfl)
      have hxl := encS_le x hsl
      have hml := inOf_le tag (l.take k) (HS.out.take k)
      rw [← hm] at hml
      have hsz := hb.size
      have HSN := Lib.hid hsn
      have HM := Lib.hid hm
      have HR := Lib.hid hr
      have HB := Lib.hid hb
      have hgr := World.block_lt_of_cell? _ _ (hr 0 _ rfl).1
      clear hx hsn hm hr hb hkl
      subst hA
      go_wp2_with fail
      refine (bytes_any (bstr x) wr (by rw [bstr_size]; omega)).mono ?_
      rintro e w1 ⟨v', rfl, ho1, hb1⟩
      rw [show (bstr x).data.toList = x from rfl] at ho1
      obtain ⟨A1, c1, rfl, _, _, hli⟩ := own_shape ho1
      have hown1 := own_below hown hb1
      have hsrc := src_own (c := c1) rfl hli
      have HR1 := Lib.hid (HR.out.below hb1)
      have HB1 := Lib.hid (HB.out.trans (hb1.mono hsz))
      have hsz1 := hb1.size
      clear ho1 hb1 hli hown
      go_wp2_with (at_builtin; go_loud (refine wpList_append_onto_src w1 rfl _ _ 43 43 rfl (w.heap.size + 1) 5 i0 (.int .u8 0) 1 1 Tryd.underlying43 hi hz0 hz1 hz2 rfl _ _ _ hown1 _ (Wm.encS x).length ((Wm.encS x).map bv) hsrc rfl rfl ?c1 ?c2 ?c3 ?_))
      case c1 => unfold maxLen; omega
      case c2 => omega
      case c3 => omega
      intro v' w2 ho2 hb2
      rw [← List.map_append, ← HSN.out] at ho2
      have HO := Lib.hid ho2
      have HR2 := Lib.hid (HR1.out.low hb2 (by omega))
      have HB2 := Lib.hid (HB1.out.trans (hb2.mono (by omega)))
      have HM2 := Lib.hid (show m + (Wm.encS x).length = (inOf tag (l.take (k + 1))).length by rw [HSN.out, List.length_append, HM.out])
      clear ho2 hb2 hown1 hsrc
      go_wp2_with fail
      first
        | exact ⟨⟨k + 1, _, by go_num, by omega, HM2.out, HO.out, HR2.out, HB2.out⟩, by simp [intOf]; omega⟩
        | (go_roundw
           case rel => exact ⟨k + 1, _, by go_num, by omega, HM2.out, HO.out, HR2.out, HB2.out⟩
           case measure => simp [intOf]; omega)
    · have hk2 : k = n := by omega
      subst hk2
      rw [List.take_of_length_le (by rw [HN.out]; exact Nat.le_refl _)] at hown hm
      have hml := inOf_le tag l HS.out
      rw [← hm] at hml
      obtain ⟨A1, c1, rfl, _, _, hli⟩ := own_shape hown
      have hA : A1 = none → m = 0 := fun h => by have h2 := hli.none_ h; rw [hm, h2]; rfl
      have C := Lib.hid (hsSum_any (inOf tag l) A1 m c1 wr hm.symm hA hli (by omega) (HT.out.below hb))
      have hol := Sha.sum_len Sha.consts (inOf tag l)
      rw [← HOUT.out] at C hol
      have HR := Lib.hid hr
      have HB := Lib.hid hb
      have hgr := World.block_lt_of_cell? _ _ (hr 0 _ rfl).1
      clear hown hm hr hb hA hli hml
      go_wp2_with fail
      refine C.out.mono ?_
      rintro e w1 ⟨rfl, hb1⟩
      have HR1 := Lib.hid (HR.out.below hb1)
      have HB1 := Lib.hid (HB.out.trans (hb1.mono HB.out.size))
      have hsz1 := hb1.size
      have J32 := Lib.hid (show (Tryd.prog.info? 76).map (·.size) = some (out.map bv).toArray.size by rw [List.size_toArray, List.length_map, hol]; kernel_rfl)
      have S32 := Lib.hid (show (out.map bv).toArray.size = 32 by rw [List.size_toArray, List.length_map, hol])
      have O32 := Lib.hid (all_oneCell_toArray (bvs_one out))
      have HOL := Lib.hid hol
      clear hb1 hol
      go_upto_region 9 with (with_reducible refine wpList_store_new w1 rfl 76 (.tmp 8) (.tmp 25) rfl _ (out.map bv).toArray rfl rfl J32.out (Eq.trans (b := 32) (by kernel_rfl) S32.out.symm) O32.out ?_)
      obtain ⟨u, hu⟩ : ∃ W, W = (w1.alloc (.cells (out.map bv).toArray 76)).alloc (.cells #[Value.int .u8 0, Value.int .u8 0, Value.int .u8 0, Value.int .u8 0, Value.int .u8 0, Value.int .u8 0, Value.int .u8 0, Value.int .u8 0, Value.int .u8 0, Value.int .u8 0, Value.int .u8 0, Value.int .u8 0, Value.int .u8 0, Value.int .u8 0, Value.int .u8 0, Value.int .u8 0] 23) := ⟨_, rfl⟩
      obtain ⟨q1, q2, q3, _⟩ := two_rows w1 (out.map bv).toArray #[Value.int .u8 0, Value.int .u8 0, Value.int .u8 0, Value.int .u8 0, Value.int .u8 0, Value.int .u8 0, Value.int .u8 0, Value.int .u8 0, Value.int .u8 0, Value.int .u8 0, Value.int .u8 0, Value.int .u8 0, Value.int .u8 0, Value.int .u8 0, Value.int .u8 0, Value.int .u8 0] 76 23
      rw [← hu] at q1 q2 q3 ⊢
      have q1' : Row w1.heap.size (out.map bv) u := q1
      have ht16 : ((out.take 16).map bv).length = 16 := by rw [List.length_map, List.length_take, HOL.out]; rfl
      have hcp := fun ty : TypeId => run_copy_cells (P := Tryd.prog) u.drew 43 43 ty 5 (w1.heap.size + 1) 0 16 16 ⟨w1.heap.size, 0, none⟩ 32 32 ((out.take 16).map bv) Tryd.underlying43 (by kernel_rfl) (by rw [ht16]; rfl)
        (fun j v hj => by
          rw [Addr.add_lit, List.map_take, List.getElem?_take] at *
          split at hj
          · exact q1'.range j v hj
          · cases hj)
        (fun j hj => ((show Row (w1.heap.size + 1) (List.replicate 16 (Value.int .u8 0)) u from q2).there 0 16 (by decide) j (by omega)).1) (fun j hj => ((show Row (w1.heap.size + 1) (List.replicate 16 (Value.int .u8 0)) u from q2).there 0 16 (by decide) j (by omega)).2) (bvs_one _)
      rw [ht16] at hcp
      have hs1 := fun W : World => run_slice_arr_all (P := Tryd.prog) W 23 5 16 Tryd.underlying23 (by kernel_rfl) (w1.heap.size + 1) 0 (by omega)
      have hs2 := fun W : World => run_slice_arr_all (P := Tryd.prog) W 76 5 32 Tryd.underlying76 (by kernel_rfl) w1.heap.size 0 (by omega)
      have R2 := (show Row (w1.heap.size + 1) (List.replicate 16 (Value.int .u8 0)) u.drew from q2).setCells 0 ((out.take 16).map bv) (by rw [ht16]; decide)
      rw [List.take_zero, List.nil_append, ht16, show (List.replicate 16 (Value.int .u8 0)).drop (0 + 16) = [] from rfl, List.append_nil] at R2
      have R3 := (show Row w.heap.size (List.replicate 16 (Value.int .u8 0)) u.drew from HR1.out.below (below_drew q3)).far (b := w1.heap.size + 1) (by omega) 0 ((out.take 16).map bv)
      have B3 := below_setCells (b := w1.heap.size + 1) (by omega) ((out.take 16).map bv) 0 w u.drew (below_drew (HB1.out.trans (q3.mono HB1.out.size)))
      have HR2 := Lib.hid R2
      have HR3 := Lib.hid R3
      have HB3 := Lib.hid B3
      have H16 := Lib.hid ht16
      clear R2 R3 B3 q1 q1' q2 q3 hu ht16
      go_region
      go_upto_region 10 with fail
      rw [← List.map_take]
      obtain ⟨V, hV⟩ : ∃ V, V = u.drew.setCells (w1.heap.size + 1) 0 ((out.take 16).map bv) := ⟨_, rfl⟩
      rw [← hV] at HR2 HR3 HB3 ⊢
      clear hV hcp
      obtain ⟨D, hD⟩ : ∃ x, x = (out.take 16).map bv := ⟨_, rfl⟩
      have hD1 : ∀ x ∈ D, x.oneCell' = true := by rw [hD]; exact bvs_one _
      rw [← hD] at HR2 H16
      have HDE := Lib.hid hD
      clear hD
      have I16 := Lib.hid (show (Tryd.prog.info? 23).map (·.size) = some D.length by rw [H16.out]; kernel_rfl)
      have J16 := Lib.hid (show (Tryd.prog.info? 23).map (·.size) = some D.toArray.size by rw [List.size_toArray, H16.out]; kernel_rfl)
      have T16 := Lib.hid (HR3.out.there 0 D.toArray.size (by rw [List.size_toArray, H16.out]; decide))
      have O16 := Lib.hid (all_oneCell_toArray hD1)
      have RG := Lib.hid HR2.out.range
      clear hD1
      go_wp2_with (first | (with_reducible refine wpList_load_mid rfl 23 (.tmp 9) rfl (w1.heap.size + 1) 0 rfl D _ RG.out Tryd.underlying23 rfl I16.out ?_) | (with_reducible refine wpList_store_mid rfl 23 (.tmp 4) (.tmp 29) rfl w.heap.size 0 D.toArray rfl rfl T16.out J16.out O16.out ?_))
      have HRR := Lib.hid (World.rangeAt_setCells_same V w.heap.size 0 D.toArray.toList (by simpa using T16.out))
      refine bodyPost_ret (results_cell_mid rfl _ _ _ w.heap.size 0 D _ rfl HRR.out Tryd.underlying23 rfl I16.out) rfl ?_
      exact ⟨by rw [HDE.out], below_setCells (Nat.le_refl _) _ 0 _ _ HB3.out⟩

end Go.Proofs.YtdbdlhgkhnenfaaDoor
/-
  SHA-256: the examples' hexadecimal digits, by reckoning in the kernel.
-/
namespace Go.Proofs.YtdbdlhgkhnenfaaDoor

set_option maxRecDepth 1000000 in
theorem hex_abc : hexOf (Sha.sum Sha.consts [97, 98, 99]) = [98, 97, 55, 56, 49, 54, 98, 102, 56, 102, 48, 49, 99, 102, 101, 97, 52, 49, 52, 49, 52, 48, 100, 101, 53, 100, 97, 101, 50, 50, 50, 51, 98, 48, 48, 51, 54, 49, 97, 51, 57, 54, 49, 55, 55, 97, 57, 99, 98, 52, 49, 48, 102, 102, 54, 49, 102, 50, 48, 48, 49, 53, 97, 100] := by
  rw [Sha.known_abc]; decide +kernel
set_option maxRecDepth 1000000 in
theorem hex_mac : hexOf (Sha.mac Sha.consts [74, 101, 102, 101] [119, 104, 97, 116, 32, 100, 111, 32, 121, 97, 32, 119, 97, 110, 116, 32, 102, 111, 114, 32, 110, 111, 116, 104, 105, 110, 103, 63]) = [53, 98, 100, 99, 99, 49, 52, 54, 98, 102, 54, 48, 55, 53, 52, 101, 54, 97, 48, 52, 50, 52, 50, 54, 48, 56, 57, 53, 55, 53, 99, 55, 53, 97, 48, 48, 51, 102, 48, 56, 57, 100, 50, 55, 51, 57, 56, 51, 57, 100, 101, 99, 53, 56, 98, 57, 54, 52, 101, 99, 51, 56, 52, 51] := by
  rw [Sha.known_mac]; decide +kernel
theorem in_of : inOf 8 [[97], []] = [8, 2, 97, 0] := by
  simp [inOf, Wm.encS, Wm.encI, Wm.zig, Wm.enc]
set_option maxRecDepth 1000000 in
theorem hex_of : hexOf ((Sha.sum Sha.consts [8, 2, 97, 0]).take 16) = [102, 97, 49, 53, 52, 98, 97, 53, 97, 52, 100, 50, 54, 54, 102, 49, 98, 54, 52, 99, 56, 50, 54, 99, 101, 101, 100, 99, 97, 99, 98, 55] := by decide +kernel

end Go.Proofs.YtdbdlhgkhnenfaaDoor
/-
  Law: two arrays of bytes are compared.
-/
namespace Go.Proofs.YtdbdlhgkhnenfaaDoor
open Go.RowKit

theorem run_part_byte {P : Program} (w : World) (e : TypeId) (he : P.underlying e = some (.int .u8)) (a : List UInt8) (i : Nat) (hi : i < a.length) :
    (part e (a.map bv).toArray i).run P w = .ok (bv (a.getD i 0)) w := by
  simp [part, isAgg, run_underlying he, hi, bv]

theorem run_loop {P : Program} (F : Nat → Bool) (G : Nat → Option Bool × Unit → Sem (ForInStep (Option Bool × Unit))) : ∀ (L : List Nat) (w : World),
    (∀ i ∈ L, ∀ s w, (G i s).run P w = .ok (if F i then .yield (none, ()) else .done (some false, ())) w) →
    (forIn L ((none, ()) : Option Bool × Unit) G).run P w = .ok (if L.all F then (none, ()) else (some false, ())) w
  | [], w, _ => by simp
  | i :: r, w, h => by
    rw [List.forIn_cons, Sem.run_bind, h i (by simp)]
    cases hF : F i
    · simp [hF]
    · simp [hF]
      have := run_loop F G r w (fun j hj => h j (by simp [hj]))
      simpa using this

theorem run_eq_arr {P : Program} (w : World) (t e : TypeId) (N : Nat) (hu : P.underlying t = some (.array N e)) (he : P.underlying e = some (.int .u8)) (hs : (P.info? e).map (·.size) = some 1) (a b : List UInt8) (ha : a.length = N) (hb : b.length = N) (d : Nat) :
    (Op.equalIn (d + 2) t (.agg (a.map bv).toArray) (.agg (b.map bv).toArray)).run P w = .ok (decide (a = b)) w := by
  cases hq : P.info? e with
  | none => simp [hq] at hs
  | some inf =>
    have h1 : inf.size = 1 := by simpa [hq] using hs
    rw [Op.equalIn]
    simp only [Sem.run_bind, run_underlying hu, Result.andThen_ok, sizeOf, typeInfo, run_program, hq, Sem.run_pure, h1, Nat.mul_one]
    rw [Std.Legacy.Range.forIn_eq_forIn_range']
    rw [run_loop (fun i => a.getD i 0 == b.getD i 0)]
    · simp only [Result.andThen_ok]
      have hall : (List.range' [:N].start [:N].size [:N].step).all (fun i => a.getD i 0 == b.getD i 0) = decide (a = b) := by
        rw [Bool.eq_iff_iff, List.all_eq_true, decide_eq_true_iff]
        constructor
        · intro h
          apply List.ext_getElem (by omega)
          intro i h1 h2
          have h3 := h i (by simp [List.mem_range'_1]; omega)
          rw [beq_iff_eq, List.getD_eq_getElem?_getD, List.getElem?_eq_getElem h1, List.getD_eq_getElem?_getD, List.getElem?_eq_getElem h2] at h3
          exact h3
        · rintro rfl i _
          simp
      rw [hall]
      by_cases h : a = b
      · simp [h]
      · simp [h]
    · intro i hi s w
      have hi2 : i < N := by simpa [List.mem_range'_1] using hi
      simp only [Sem.run_bind, run_part_byte w e he a i (by omega), run_part_byte w e he b i (by omega), Result.andThen_ok, bv, run_equalIn_int w d e .u8 .u8 _ _ he]
      by_cases h : a.getD i 0 = b.getD i 0
      · rw [h]; simp
      · have h2 : ¬ ((a.getD i 0).toNat : Int) = ((b.getD i 0).toNat : Int) := fun h3 => h (UInt8.toNat_inj.1 (by omega))
        have h4 : (((a.getD i 0).toNat : Int) == ((b.getD i 0).toNat : Int)) = false := beq_eq_false_iff_ne.2 h2
        have h5 : (a.getD i 0 == b.getD i 0) = false := beq_eq_false_iff_ne.2 h
        rw [h4, h5]
        simp

theorem run_eq32 (w : World) (a b : List UInt8) (ha : a.length = 32) (hb : b.length = 32) : (Op.equalIn 10000 76 (.agg (a.map bv).toArray) (.agg (b.map bv).toArray)).run Tryd.prog w = .ok (decide (a = b)) w :=
  run_eq_arr w 76 5 32 Tryd.underlying76 Tryd.underlying5 (by kernel_rfl) a b ha hb 9998
theorem run_eq16 (w : World) (a b : List UInt8) (ha : a.length = 16) (hb : b.length = 16) : (Op.equalIn 10000 23 (.agg (a.map bv).toArray) (.agg (b.map bv).toArray)).run Tryd.prog w = .ok (decide (a = b)) w :=
  run_eq_arr w 23 5 16 Tryd.underlying23 Tryd.underlying5 (by kernel_rfl) a b ha hb 9998

end Go.Proofs.YtdbdlhgkhnenfaaDoor
/-
  voxellaw02.sanity answers true.
-/
namespace Go.Proofs.YtdbdlhgkhnenfaaDoor
open Go.RowKit

theorem Lies.mark (w : World) (l : List Value) (t : TypeId) (fr : Nat × Nat) : Lies (w.alloc (.cells l.toArray t fr)) (some ⟨w.heap.size, 0, none⟩) l :=
  .inr ⟨_, _, rfl, fun j u hu => by rw [Nat.zero_add, World.cell?_alloc_mark]; simpa using hu⟩

end Go.Proofs.YtdbdlhgkhnenfaaDoor
/-
  voxellaw02.HashEqualIsEquality, its walk.
-/
namespace Go.Proofs.YtdbdlhgkhnenfaaDoor
open Go.RowKit

theorem bstr_add (l : List UInt8) : bstr l ++ { data := #[] } = bstr l := ByteArray.append_empty
theorem bstr_toList (l : List UInt8) : (bstr l).toList = l := by rw [ByteArray.toList_eq]; rfl

end Go.Proofs.YtdbdlhgkhnenfaaDoor
/-
  voxellaw02.HashMacKeys, its walk.
-/
namespace Go.Proofs.YtdbdlhgkhnenfaaDoor
open Go.RowKit

/-- the bytes of a string, as a conversion lays them -/
theorem bytesWorld_lies (w : World) (l : List UInt8) : Lies (Lib.bytesWorld w 5 (bstr l)) (some ⟨w.heap.size, 0, none⟩) (l.map bv) := by
  refine .inr ⟨_, _, rfl, fun j u hu => ?_⟩
  rw [List.getElem?_map] at hu
  obtain ⟨x, hx, rfl⟩ := Option.map_eq_some_iff.1 hu
  have hj := (List.getElem?_eq_some_iff.1 hx).1
  rw [Nat.zero_add, Lib.bytesWorld_cell w 5 (bstr l) j (by rw [bstr_size]; exact hj)]
  show some (Value.int .u8 ((l.getD j 0).toNat : Int)) = _
  rw [List.getD_eq_getElem?_getD, hx]; rfl
theorem bytesWorld_below (w : World) (s : ByteArray) : Below w.heap.size w (Lib.bytesWorld w 5 s) :=
  ⟨rfl, rfl, rfl, by rw [Lib.bytesWorld_size]; omega, fun k hk => Lib.bytesWorld_at_old w 5 s k hk⟩
theorem conv_bytes (w : World) (s : ByteArray) : (convert 9 43 (.string s)).run Tryd.prog w = .ok (.slice (some ⟨w.heap.size, 0, none⟩) s.size (grownCap w s.size 0 5)) (Lib.bytesWorld w 5 s) :=
  Lib.run_convert_string_bytes w 9 43 5 s Tryd.underlying9 Tryd.underlying43 Tryd.underlying5
theorem bstr_app (l m : List UInt8) : bstr l ++ bstr m = bstr (l ++ m) := by
  apply ByteArray.ext
  simp [bstr]

end Go.Proofs.YtdbdlhgkhnenfaaDoor
