/-
  Contracts of package hash: the hash of a slice, and of a stream as a string.
-/
import Derived.Test.YtfaadaahpjpfaaaDoorHsj
import Derived.Deep.RegionHeld3
namespace Go.Proofs.YtfaadaahpjpfaaaDoor
open Go.RowKit
open Sha (wv)

/-- a conversion from bytes to a string as it runs, under a name -/
noncomputable def convRun (v : Value) (w : World) : Result Value := (convert 22 9 v).run Tryd.prog w
theorem convRun_eq (v : Value) (w : World) : (convert 22 9 v).run Tryd.prog w = convRun v w := rfl
theorem convRun_lies (w : World) (A : Option Addr) (n c : Nat) (l : List UInt8) (hn : l.length = n) (hA : A = none → n = 0) (h : Lies w A (l.map bv)) : convRun (.slice A n c) w = .ok (.string (bstr l)) w :=
  run_convert_lies w 22 5 9 Tryd.underlying22 Tryd.underlying5 Tryd.underlying9 A n c l hn hA h
theorem there_below {w w' : World} {b o n : Nat} (h : w.there b o n) (hb : Below w.heap.size w w') : w'.there b o n := fun j hj => by
  obtain ⟨h1, h2⟩ := h j hj
  obtain ⟨u, hu⟩ := Option.isSome_iff_exists.1 h1
  have hl := World.block_lt_of_cell? w _ hu
  exact ⟨by rw [hb.cell hl]; exact h1, by rw [hb.frozen hl]; exact h2⟩
attribute [local go_sem ↓] convRun_eq

theorem there_bound {w : World} {b n : Nat} (h : w.there b 0 n) (hn : n = 32) : b < w.heap.size := by
  obtain ⟨u, hu⟩ := Option.isSome_iff_exists.1 (h 0 (by omega)).1
  exact World.block_lt_of_cell? w _ hu

set_option maxRecDepth 1000000 in
set_option maxHeartbeats 1000000 in
theorem hsSum_any (l : List UInt8) (A : Option Addr) (n c : Nat) (w : World) (hn : l.length = n) (hA : A = none → n = 0) (hl : Lies w A (l.map bv)) (hb : n ≤ 1099511627776) (ht : Tab w) :
    Calls Tryd.prog 11 #[.slice A n c] w fun e w' => e = .returned (.agg ((Sha.sum Sha.consts l).map bv).toArray) ∧ Below w.heap.size w w' := by
  have hol := Sha.sum_len Sha.consts l
  have HS : Hid (∀ w', Below w.heap.size w w' → w'.there w.heap.size 0 ((Sha.sum Sha.consts l).map bv).length → convRun (.slice A n c) w' = .ok (.string (bstr l)) w' ∧ Below w.heap.size w w' ∧ w'.there w.heap.size 0 ((Sha.sum Sha.consts l).map bv).length) :=
    Lib.hid (fun w' hb ht => ⟨convRun_lies w' A n c l hn hA (hl.below hb), hb, ht⟩)
  have CB := Lib.hid (fun (w' : World) (hb : Below w.heap.size w w') => hsBegin_any w' (ht.below hb))
  have CA := Lib.hid (fun (w' : World) (hb : Below w.heap.size w w') (v : Sha.St) (blk : List UInt8) (hs : Sha.Str Sha.consts [] v blk) => hsAdd_any [] v blk (bstr l) w' hs (by rw [bstr_size]; simp; omega) (ht.below hb))
  have CS := Lib.hid (fun (w' : World) (hbl : Below w.heap.size w w') (v : Sha.St) (blk : List UInt8) (hs : Sha.Str Sha.consts l v blk) => hsSSum_any l v blk w' hs (by omega) (ht.below hbl))
  obtain ⟨out, ho⟩ : ∃ x, x = Sha.sum Sha.consts l := ⟨_, rfl⟩
  rw [← ho] at HS CS hol ⊢
  have ho1 := bvs_one out
  have hi : (Tryd.prog.info? 24).map (·.size) = some (out.map bv).length := by rw [List.length_map, hol]; kernel_rfl
  have hml : (out.map bv).length = 32 := by rw [List.length_map, hol]
  have HML := Lib.hid hml
  clear ho hol hml hn hA hl hb ht
  go_enter Tryd.func11, Tryd.ntmps11
  go_wp2_with fail
  obtain ⟨u, hu⟩ : ∃ W, W = w.alloc (.cells #[Value.int .u8 0, Value.int .u8 0, Value.int .u8 0, Value.int .u8 0, Value.int .u8 0, Value.int .u8 0, Value.int .u8 0, Value.int .u8 0, Value.int .u8 0, Value.int .u8 0, Value.int .u8 0, Value.int .u8 0, Value.int .u8 0, Value.int .u8 0, Value.int .u8 0, Value.int .u8 0, Value.int .u8 0, Value.int .u8 0, Value.int .u8 0, Value.int .u8 0, Value.int .u8 0, Value.int .u8 0, Value.int .u8 0, Value.int .u8 0, Value.int .u8 0, Value.int .u8 0, Value.int .u8 0, Value.int .u8 0, Value.int .u8 0, Value.int .u8 0, Value.int .u8 0, Value.int .u8 0] 24) := ⟨_, rfl⟩
  have hr0 : Row w.heap.size (fill32 []) u := by rw [hu]; exact Row.new w #[Value.int .u8 0, Value.int .u8 0, Value.int .u8 0, Value.int .u8 0, Value.int .u8 0, Value.int .u8 0, Value.int .u8 0, Value.int .u8 0, Value.int .u8 0, Value.int .u8 0, Value.int .u8 0, Value.int .u8 0, Value.int .u8 0, Value.int .u8 0, Value.int .u8 0, Value.int .u8 0, Value.int .u8 0, Value.int .u8 0, Value.int .u8 0, Value.int .u8 0, Value.int .u8 0, Value.int .u8 0, Value.int .u8 0, Value.int .u8 0, Value.int .u8 0, Value.int .u8 0, Value.int .u8 0, Value.int .u8 0, Value.int .u8 0, Value.int .u8 0, Value.int .u8 0, Value.int .u8 0] 24
  have hb0 : Below w.heap.size w u := by rw [hu]; exact (Below.refl _ _).alloc (Nat.le_refl _) _
  rw [← hu]
  have HB0 := Lib.hid (below_drew hb0)
  have HT0 := Lib.hid (show u.drew.there w.heap.size 0 (out.map bv).length by rw [HML.out]; exact hr0.there 0 32 (by decide))
  clear hu hr0 hb0
  go_region_held3 (fun w' => convRun (.slice A n c) w' = .ok (.string (bstr l)) w' ∧ Below w.heap.size w w' ∧ w'.there w.heap.size 0 (out.map bv).length)
    (first
      | exact HS.out _ HB0.out HT0.out
      | exact HS.out _ B5.out T5.out
      | exact HS.out _ B6.out T6.out
      | exact HS.out _ B7.out T7.out
      | exact HS.out _ (below_setCells (Nat.le_refl _) _ 0 _ _ B7.out) (World.there_setCells T7.out _ _ _))
    (first
      | (go_at_call 14; refine (CB.out _ HB0.out).mono ?_; rintro e w5 ⟨v5, blk5, rfl, hs5, b5⟩; have B5 := Lib.hid (HB0.out.trans (b5.mono (Nat.le_of_lt (there_bound HT0.out HML.out)))); have T5 := Lib.hid (there_below HT0.out b5); have S5 := Lib.hid hs5; clear hs5 b5)
      | (go_at_call 15; refine (CA.out _ B5.out _ _ S5.out).mono ?_; rintro e w6 ⟨v6, blk6, rfl, hs6, b6⟩; have B6 := Lib.hid (B5.out.trans (b6.mono (Nat.le_of_lt (there_bound T5.out HML.out)))); have T6 := Lib.hid (there_below T5.out b6); have S6 := Lib.hid hs6; clear hs6 b6)
      | (go_at_call 17; refine (CS.out _ B6.out _ _ S6.out).mono ?_; rintro e w7 ⟨rfl, b7⟩; have B7 := Lib.hid (B6.out.trans (b7.mono (Nat.le_of_lt (there_bound T6.out HML.out)))); have T7 := Lib.hid (there_below T6.out b7); clear b7))
  have HRR := Lib.hid (World.rangeAt_setCells_same w7 w.heap.size 0 (out.map bv) T7.out)
  have HBB := Lib.hid (below_setCells (b := w.heap.size) (Nat.le_refl _) (out.map bv) 0 w w7 B7.out)
  clear HS CB CA CS
  go_wp2_with fail
  refine bodyPost_ret (results_cell_mid rfl _ _ _ w.heap.size 0 (out.map bv) _ rfl HRR.out Tryd.underlying24 rfl hi) rfl ?_
  exact ⟨rfl, HBB.out⟩

set_option maxRecDepth 1000000 in
set_option maxHeartbeats 1000000 in
theorem hsSumText_any (m : List UInt8) (v : Sha.St) (blk : List UInt8) (w : World) (hs : Sha.Str Sha.consts m v blk) (hm : m.length ≤ 1099511627776) (ht : Tab w) :
    Calls Tryd.prog 32 #[.agg (strC v blk m.length).toArray] w fun e w' => e = .returned (.string (bstr (Sha.sum Sha.consts m))) ∧ Below w.heap.size w w' := by
  have hol := Sha.sum_len Sha.consts m
  have hl := hs.len
  have CS := Lib.hid (fun (w' : World) (hbl : Below w.heap.size w w') => hsSSum_any m v blk w' hs hm (ht.below hbl))
  obtain ⟨out, ho⟩ : ∃ x, x = Sha.sum Sha.consts m := ⟨_, rfl⟩
  rw [← ho] at CS hol ⊢
  obtain ⟨C, hC⟩ : ∃ x, x = strC v blk m.length := ⟨_, rfl⟩
  have hCl : C.length = 73 := by rw [hC]; exact strC_len _ _ _ hl
  rw [← hC] at CS ⊢
  have I73 := Lib.hid (show (Tryd.prog.info? 34).map (·.size) = some C.length by rw [hCl]; exact size_stream)
  have RN := Lib.hid (Row.newl w C 34).range
  have HOL := Lib.hid hol
  have J32 := Lib.hid (show (Tryd.prog.info? 24).map (·.size) = some (out.map bv).toArray.size by rw [List.size_toArray, List.length_map, hol]; kernel_rfl)
  have S32 := Lib.hid (show (out.map bv).toArray.size = 32 by rw [List.size_toArray, List.length_map, hol])
  have O32 := Lib.hid (all_oneCell_toArray (bvs_one out))
  clear ho hC hCl hol hl hs hm ht
  go_enter Tryd.func32, Tryd.ntmps32
  go_wp2_with (with_reducible refine wpList_load_mid rfl 34 (.tmp 1) rfl w.heap.size 0 rfl C _ RN.out Tryd.underlying34 rfl I73.out ?_)
  refine (CS.out _ ((Below.refl _ _).alloc (Nat.le_refl _) _)).mono ?_
  rintro e w1 ⟨rfl, b1⟩
  have B1 := Lib.hid (((Below.refl w.heap.size w).alloc (Nat.le_refl _) (.cells C.toArray 34)).trans (b1.mono (by simp)))
  have hsl := fun W : World => run_slice_arr_all (P := Tryd.prog) W 24 5 32 Tryd.underlying24 (by kernel_rfl) w1.heap.size 0 (by omega)
  have hz := b1.size
  clear b1
  go_wp2_with (first | (with_reducible refine wpList_store_new w1 rfl 24 (.tmp 3) (.tmp 5) rfl _ (out.map bv).toArray rfl rfl J32.out (Eq.trans (b := 32) (by kernel_rfl) S32.out.symm) O32.out ?_) | (with_reducible refine wpList_convert_str (w1.alloc (.cells (out.map bv).toArray 24)) rfl (.tmp 6) 22 9 5 rfl Tryd.underlying22 Tryd.underlying5 Tryd.underlying9 (some ⟨w1.heap.size, 0, none⟩) 32 32 rfl out HOL.out (fun h => by cases h) (Lies.new w1 (out.map bv) 24) ?_))
  go_ret
  exact ⟨rfl, B1.out.alloc B1.out.size _⟩

end Go.Proofs.YtfaadaahpjpfaaaDoor
