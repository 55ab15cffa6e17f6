/-
  Contracts of package hash: a text is added to a stream.
-/
import Derived.Test.YtfaadaahpjpfaaaDoorHsg
namespace Go.Proofs.YtfaadaahpjpfaaaDoor
open Go.RowKit
open Sha (wv)

def strSz : Value → Nat
  | .string s => s.size
  | _ => 0
/-- the memory while a text is added -/
structure AddM (w : World) (M m' : List UInt8) (v' : Sha.St) (blk' : List UInt8) (s' : ByteArray) (wr : World) : Prop where
  eq : m' ++ s'.data.toList = M
  str : Sha.Str Sha.consts m' v' blk'
  row : Row w.heap.size (strC v' blk' m'.length) wr
  res : Row (w.heap.size + 1) zeroC.toList wr
  tab : Tab wr
  below : Below w.heap.size w wr
theorem two_rows (w : World) (a b : Array Value) (t1 t2 : TypeId) :
    Row w.heap.size a.toList ((w.alloc (.cells a t1)).alloc (.cells b t2)) ∧ Row (w.heap.size + 1) b.toList ((w.alloc (.cells a t1)).alloc (.cells b t2)) ∧
    Below w.heap.size w ((w.alloc (.cells a t1)).alloc (.cells b t2)) ∧ ((w.alloc (.cells a t1)).alloc (.cells b t2)).heap.size = w.heap.size + 2 := by
  have h1 := Row.new w a t1
  have h2 := Row.new (w.alloc (.cells a t1)) b t2
  have e1 : (w.alloc (.cells a t1)).heap.size = w.heap.size + 1 := by simp
  rw [e1] at h2
  exact ⟨h1.alloc _, h2, ((Below.refl _ _).alloc (Nat.le_refl _) _).alloc (by simp) _, by simp⟩
theorem extract_toList (s : ByteArray) (n : Nat) : (s.extract n s.size).data.toList = s.data.toList.drop n := by
  rw [ByteArray.data_extract, Array.toList_extract]
  simp only [List.extract]
  exact List.take_of_length_le (by rw [List.length_drop, ba_len]; exact Nat.le_refl _)
theorem extract_size (s : ByteArray) (n : Nat) : (s.extract n s.size).size = s.size - n := by simp
theorem zeroC_len : zeroC.toList.length = 73 := strC_len _ _ _ (by simp)

set_option maxRecDepth 1000000 in
set_option maxHeartbeats 1000000 in
theorem hsAdd_any (m : List UInt8) (v : Sha.St) (blk : List UInt8) (s : ByteArray) (w : World) (hs : Sha.Str Sha.consts m v blk) (hm : m.length + s.size ≤ 1099511627776) (ht : Tab w) :
    Calls Tryd.prog 15 #[.agg (strC v blk m.length).toArray, .string s] w (StrPost (m ++ s.data.toList) w) := by
  obtain ⟨q1, q2, q3, _⟩ := two_rows w (strC v blk m.length).toArray zeroC 34 34
  have A0 : Hid (AddM w (m ++ s.data.toList) m v blk s _) := Lib.hid ⟨rfl, hs, q1, q2, ht.below q3, q3⟩
  have hM : (m ++ s.data.toList).length ≤ 1099511627776 := by rw [List.length_append, ba_len]; exact hm
  generalize m ++ s.data.toList = M at *
  obtain ⟨S, hS⟩ : ∃ S, S = (strC v blk m.length).toArray := ⟨_, rfl⟩
  rw [← hS] at A0 ⊢
  have hz := zero_stream
  have HT := Lib.hid ht
  clear hS hs ht hm q1 q2 q3
  go_enter Tryd.func15, Tryd.ntmps15
  go_wp2_with fail
  go_loopw [1] (fun t wr => ∃ (m' : List UInt8) (s' : ByteArray) (v' : Sha.St) (blk' : List UInt8), t = .string s' ∧ AddM w M m' v' blk' s' wr) (fun t _ => strSz t)
  case atStart => exact ⟨m, s, v, blk, rfl, A0.out⟩
  case round =>
    obtain ⟨m', s', v', blk', rfl, hA⟩ := hrel
    have hl := hA.str.len
    have hMl : m'.length + s'.size ≤ 1099511627776 := by have h := congrArg List.length hA.eq; rw [List.length_append, ba_len] at h; omega
    by_cases hpos : 0 < s'.size
    · obtain ⟨c72, f72⟩ := hA.row.length hl
      obtain ⟨len, hlen⟩ : ∃ x, x = m'.length := ⟨_, rfl⟩
      obtain ⟨n, hn⟩ : ∃ x, x = min s'.size (64 - len % 64) := ⟨_, rfl⟩
      have hs := fun W : World => run_slice_arr (P := Tryd.prog) W 31 5 64 Tryd.underlying31 (by kernel_rfl) w.heap.size 8 .u64 ((len : Int) % 64) (len % 64) (by omega) (by omega)
      have hth := hA.row.there (8 + len % 64) n (by rw [strC_len _ _ _ hl]; omega)
      have hcp := fun ty : TypeId => run_copy_str (P := Tryd.prog) wr 22 9 ty 5 Tryd.underlying22 (by kernel_rfl) w.heap.size (8 + len % 64) (64 - len % 64) (64 - len % 64) s' n hn hth
      have htl : (s'.data.toList.take n).length = n := by rw [List.length_take, ba_len]; omega
      have hr1 := hA.row.setCells (8 + len % 64) ((s'.data.toList.take n).map bv) (by rw [strC_len _ _ _ hl, List.length_map, htl]; omega)
      rw [strC_copy _ _ _ _ _ hl (by rw [htl]; omega), htl] at hr1
      have hr2 := hA.res.far (b := w.heap.size) (by omega) (8 + len % 64) ((s'.data.toList.take n).map bv)
      have hb1 := below_setCells (b := w.heap.size) (Nat.le_refl _) ((s'.data.toList.take n).map bv) (8 + len % 64) w wr hA.below
      obtain ⟨W1, hW1⟩ : ∃ W1, W1 = wr.setCells w.heap.size (8 + len % 64) ((s'.data.toList.take n).map bv) := ⟨_, rfl⟩
      rw [← hW1] at hcp hr1 hr2 hb1
      clear hW1 hth
      rw [← hlen] at c72 hr1 hMl
      obtain ⟨t, ht⟩ : ∃ t, t = s'.data.toList.take n := ⟨_, rfl⟩
      rw [← ht] at hr1 htl
      obtain ⟨blk1, hblk1⟩ : ∃ b, b = blk'.take (len % 64) ++ t ++ blk'.drop (len % 64 + n) := ⟨_, rfl⟩
      rw [← hblk1] at hr1
      have hl1 : blk1.length = 64 := by
        rw [hblk1, List.length_append, List.length_append, List.length_take, List.length_drop, htl, hl]; omega
      obtain ⟨d72, g72⟩ := hr1.length hl1
      have hstep : if (len + n) % 64 = 0 then Sha.Str Sha.consts (m' ++ t) (Sha.block Sha.consts blk1 v') blk1 else Sha.Str Sha.consts (m' ++ t) v' blk1 := by
        split
        · rename_i h0
          have h1 : blk1 = blk'.take (m'.length % 64) ++ t := by
            rw [hblk1, List.drop_of_length_le (by omega), List.append_nil, hlen]
          rw [h1]
          exact hA.str.full t (by omega)
        · rename_i h0
          have h1 : blk1 = blk'.take (m'.length % 64) ++ t ++ blk'.drop (m'.length % 64 + t.length) := by rw [hblk1, hlen, htl]
          rw [h1]
          exact hA.str.part t (by omega)
      have heq : (m' ++ t) ++ (s'.data.toList.drop n) = M := by rw [ht, List.append_assoc, List.take_append_drop]; exact hA.eq
      have hml : (m' ++ t).length = len + n := by rw [List.length_append, htl, hlen]
      have hn1 : n ≤ s'.size := by omega
      have hn2 : 1 ≤ n := by omega
      have hn3 : n ≤ 64 := by omega
      have HST := Lib.hid hstep
      have HEQ := Lib.hid heq
      have HML := Lib.hid hml
      have HR1 := Lib.hid hr1
      have HR2 := Lib.hid hr2
      have HB1 := Lib.hid hb1
      have HL1 := Lib.hid hl1
      have HTW := Lib.hid ht
      clear hstep heq hml hr1 hr2 hb1 hl1 hblk1 htl hlen hA hl ht hn A0
      by_cases hf : (len + n) % 64 = 0
      · have hb : ((((len : Int) + (n : Int)) % 64) == 0) = true := by simp; omega
        have hr := HR1.out.set 72 (.int .u64 ((len + n : Nat) : Int)) (by rw [strC_len _ _ _ HL1.out]; omega)
        rw [strC_length _ _ _ _ HL1.out, Int.natCast_add] at hr
        have hbb := HB1.out.setCell (p := ⟨w.heap.size, 72, none⟩) (Nat.le_refl _) (.int .u64 ((len : Int) + (n : Int)))
        have HR := Lib.hid hr
        have HRR := Lib.hid (HR2.out.far (b := w.heap.size) (by omega) 72 [.int .u64 ((len : Int) + (n : Int))])
        have HBB := Lib.hid hbb
        clear hr hbb
        have V1 := Lib.hid HR.out.value
        have V2 := Lib.hid HR.out.blk
        have I8 := Lib.hid (show (Tryd.prog.info? 30).map (·.size) = some v'.cells.toList.length by kernel_rfl)
        have I64 := Lib.hid (show (Tryd.prog.info? 31).map (·.size) = some (blk1.map bv).length by rw [List.length_map, HL1.out]; kernel_rfl)
        go_wp2_with (first | (with_reducible refine wpList_load_mid rfl 30 (.tmp 29) rfl w.heap.size 0 rfl v'.cells.toList _ V1.out Tryd.underlying30 rfl I8.out ?_) | (with_reducible refine wpList_load_mid rfl 31 (.tmp 31) rfl w.heap.size 8 rfl (blk1.map bv) _ V2.out Tryd.underlying31 rfl I64.out ?_))
        refine (hsCompress_any v' blk1 _ HL1.out (HT.out.below HBB.out)).mono ?_
        rintro e w3 ⟨rfl, hb3⟩
        have HST2 : Hid (Sha.Str Sha.consts (m' ++ t) (Sha.block Sha.consts blk1 v') blk1) := Lib.hid (by have h := HST.out; rw [if_pos hf] at h; exact h)
        obtain ⟨v2, hv2⟩ : ∃ x, x = Sha.block Sha.consts blk1 v' := ⟨_, rfl⟩
        rw [← hv2] at HST2 ⊢
        have R3 := Lib.hid (HR.out.below hb3)
        have R4 := Lib.hid (HRR.out.below hb3)
        have B3 := Lib.hid (HBB.out.trans (hb3.mono (by
          have h := World.block_lt_of_cell? _ _ (HR.out.length HL1.out).1
          exact Nat.le_of_lt h)))
        clear hb3 hv2
        have T8 := Lib.hid (R3.out.there 0 v2.cells.size (by rw [strC_len _ _ _ HL1.out]; exact (by decide : 0 + 8 ≤ 73)))
        have J8 := Lib.hid (show (Tryd.prog.info? 30).map (·.size) = some v2.cells.size by kernel_rfl)
        have O8 := Lib.hid (show v2.cells.all (·.oneCell') = true by simp [Sha.St.cells, Value.oneCell'])
        go_wp2_with (with_reducible refine wpList_store_mid rfl 30 (.tmp 34) (.tmp 33) rfl w.heap.size 0 v2.cells rfl rfl T8.out J8.out O8.out ?_)
        have R5 := R3.out.setCells 0 v2.cells.toList (by rw [strC_len _ _ _ HL1.out]; exact (by decide : 0 + 8 ≤ 73))
        rw [strC_value] at R5
        go_frame
        go_roundw
        case rel =>
          refine ⟨m' ++ t, s'.extract n s'.size, v2, blk1, rfl, ⟨?_, HST2.out, ?_, R4.out.far (b := w.heap.size) (by omega) 0 _, HT.out.below (below_setCells (Nat.le_refl _) _ 0 _ _ B3.out), below_setCells (Nat.le_refl _) _ 0 _ _ B3.out⟩⟩
          · rw [extract_toList]; exact HEQ.out
          · rw [HML.out]; exact R5
        case measure =>
          show (s'.extract n s'.size).size < s'.size
          rw [extract_size]; omega
      · have hb : ((((len : Int) + (n : Int)) % 64) == 0) = false := by simp; omega
        go_wp2_with fail
        have hr := HR1.out.set 72 (.int .u64 ((len + n : Nat) : Int)) (by rw [strC_len _ _ _ HL1.out]; omega)
        rw [strC_length _ _ _ _ HL1.out] at hr
        have hbb := HB1.out.setCell (p := ⟨w.heap.size, 72, none⟩) (Nat.le_refl _) (.int .u64 ((len : Int) + (n : Int)))
        refine ⟨⟨m' ++ t, s'.extract n s'.size, v', blk1, rfl, ⟨?_, ?_, ?_, HR2.out.far (b := w.heap.size) (by omega) 72 [_], HT.out.below hbb, hbb⟩⟩, ?_⟩
        · rw [extract_toList]; exact HEQ.out
        · have h := HST.out; rw [if_neg hf] at h; exact h
        · rw [HML.out]; exact hr
        · show (s'.extract n s'.size).size < s'.size
          rw [extract_size]; omega
    · have h0 : s'.data.toList = [] := List.eq_nil_of_length_eq_zero (by rw [ba_len]; omega)
      have hmM : m' = M := by have h := hA.eq; rw [h0, List.append_nil] at h; exact h
      subst hmM
      have hr := hA.row
      have I73 := Lib.hid (show (Tryd.prog.info? 34).map (·.size) = some (strC v' blk' m'.length).length by rw [strC_len _ _ _ hl]; exact size_stream)
      have J73 := Lib.hid (show (Tryd.prog.info? 34).map (·.size) = some (strC v' blk' m'.length).toArray.size by rw [List.size_toArray, strC_len _ _ _ hl]; exact size_stream)
      have O73 := Lib.hid (all_oneCell_toArray (strC_one v' blk' m'.length))
      have T73 := Lib.hid (hA.res.there 0 (strC v' blk' m'.length).toArray.size (by rw [List.size_toArray, strC_len _ _ _ hl, zeroC_len]; omega))
      have RG := Lib.hid hr.range
      have HA := Lib.hid hA
      have hz0 : s'.size = 0 := by omega
      obtain ⟨C, hC⟩ : ∃ C, C = strC v' blk' m'.length := ⟨_, rfl⟩
      rw [← hC] at I73 J73 O73 T73 RG
      have HC := Lib.hid hC
      clear h0 hr hA hl hMl hC A0
      go_wp2_with (first | (with_reducible refine wpList_load_mid rfl 34 (.tmp 2) rfl w.heap.size 0 rfl C _ RG.out Tryd.underlying34 rfl I73.out ?_) | (with_reducible refine wpList_store_mid rfl 34 (.tmp 4) (.tmp 35) rfl (w.heap.size + 1) 0 C.toArray rfl rfl T73.out J73.out O73.out ?_))
      have HRR := Lib.hid (World.rangeAt_setCells_same wr (w.heap.size + 1) 0 C.toArray.toList (by simpa using T73.out))
      refine bodyPost_ret (results_cell_mid rfl _ _ _ (w.heap.size + 1) 0 C _ rfl HRR.out Tryd.underlying34 rfl I73.out) rfl ?_
      exact ⟨v', blk', by rw [HC.out], HA.out.str, below_setCells (by omega) _ 0 _ _ HA.out.below⟩

end Go.Proofs.YtfaadaahpjpfaaaDoor
