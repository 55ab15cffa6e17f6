/-
  Contracts of package hash: the hash of a stream.
-/
import Derived.Test.YtfaadaahpjpfaaaDoorHsi
import Derived.Deep.DeepCutAuto
namespace Go.Proofs.YtfaadaahpjpfaaaDoor
open Go.RowKit
open Sha (wv)

theorem zero32 : (List.replicate 32 (Value.int .u8 0)) = fill32 [] := rfl

/-- the memory before the length of the message is written -/
def SumM (w : World) (len : Nat) (out : List UInt8) (wx : World) : Prop :=
  ∃ (vv : Sha.St) (bb : List UInt8), bb.length = 64 ∧ Row w.heap.size (strC vv bb len) wx ∧ Row (w.heap.size + 1) (fill32 []) wx ∧ Below w.heap.size w wx ∧ (Sha.block Sha.consts (bb.take 56 ++ Sha.len8 len) vv).out = out
theorem short_end (blk l : List UInt8) (r : Nat) (h : blk.length = 64) (hr : r < 56) : (blk.take r ++ (128 :: List.replicate (63 - r) (0 : UInt8))).take 56 ++ l = blk.take r ++ (128 :: (List.replicate (55 - r) 0 ++ l)) := by
  have h1 : (blk.take r).length = r := by rw [List.length_take, h]; omega
  have e : (blk.take r ++ (128 :: List.replicate (63 - r) (0 : UInt8))).take 56 = blk.take r ++ (128 :: List.replicate (55 - r) 0) := by
    rw [show 56 = (blk.take r).length + (1 + (55 - r)) by rw [h1]; omega, List.take_length_add_append, Nat.add_comm 1, List.take_succ_cons, List.take_replicate]
    rw [show min (55 - r) (63 - r) = 55 - r by omega]
  rw [e]; simp
theorem run_clear_part (w : World) (b o r : Nat) (hr : r < 64) (ht : w.there b (o + (r + 1)) (63 - r)) :
    ∃ X : Value, (∀ W, (Instr.sliceAt 31 (.pointer (some ⟨b, o, none⟩)) (some (.int .u64 ((r : Int) + 1))) none none).run Tryd.prog W = .ok X W) ∧
      (∀ ty, (Builtin.clear_ #[22] ty #[X]).run Tryd.prog w = .ok (.tuple #[]) (w.setCells b (o + (r + 1)) (List.replicate (63 - r) (.int .u8 0)))) := by
  by_cases h : r = 63
  · subst h
    refine ⟨.slice (some ⟨b, o, none⟩) 0 0, fun W => run_slice_arr_end W 31 5 64 Tryd.underlying31 (by kernel_rfl) b o .u64 _ (by omega), fun ty => ?_⟩
    simp [Builtin.clear_, run_underlying Tryd.underlying22, World.setCells]
  · refine ⟨.slice (some ⟨b, o + (r + 1), none⟩) (64 - (r + 1)) (64 - (r + 1)), fun W => run_slice_arr W 31 5 64 Tryd.underlying31 (by kernel_rfl) b o .u64 _ (r + 1) (by omega) (by omega), fun ty => ?_⟩
    have h2 : 64 - (r + 1) = 63 - r := by omega
    rw [h2]
    exact Lib.run_clear_slice w 22 5 ty (.int .u8 0) Tryd.underlying22 (fun _ => by kernel_rfl) rfl rfl b (o + (r + 1)) (63 - r) (63 - r) (by omega) (fun j hj => (ht j hj).1) (fun j hj => (ht j hj).2)

set_option maxRecDepth 1000000 in
set_option maxHeartbeats 1000000 in
theorem hsSSum_any (m : List UInt8) (v : Sha.St) (blk : List UInt8) (w : World) (hs : Sha.Str Sha.consts m v blk) (hm : m.length ≤ 1099511627776) (ht : Tab w) :
    Calls Tryd.prog 17 #[.agg (strC v blk m.length).toArray] w fun e w' => e = .returned (.agg ((Sha.sum Sha.consts m).map bv).toArray) ∧ Below w.heap.size w w' := by
  have hl := hs.len
  obtain ⟨len, hlen⟩ : ∃ x, x = m.length := ⟨_, rfl⟩
  obtain ⟨r, hr⟩ : ∃ x, x = len % 64 := ⟨_, rfl⟩
  rw [← hlen] at hm ⊢
  have hfin : if 56 ≤ r then (Sha.block Sha.consts (List.replicate 56 0 ++ Sha.len8 len) (Sha.block Sha.consts (blk.take r ++ (128 :: List.replicate (63 - r) 0)) v)).out = Sha.sum Sha.consts m else (Sha.block Sha.consts (blk.take r ++ (128 :: (List.replicate (55 - r) 0 ++ Sha.len8 len))) v).out = Sha.sum Sha.consts m := by
    rw [hr, hlen]
    split
    · rename_i h; exact hs.long h
    · rename_i h; exact hs.short (by omega)
  generalize Sha.sum Sha.consts m = out at hfin ⊢
  obtain ⟨S, hS⟩ : ∃ S, S = (strC v blk len).toArray := ⟨_, rfl⟩
  have e : S.toList = strC v blk len := by rw [hS]
  rw [← hS]
  obtain ⟨q1, q2, q3, -⟩ := two_rows w S #[Value.int .u8 0, Value.int .u8 0, Value.int .u8 0, Value.int .u8 0, Value.int .u8 0, Value.int .u8 0, Value.int .u8 0, Value.int .u8 0, Value.int .u8 0, Value.int .u8 0, Value.int .u8 0, Value.int .u8 0, Value.int .u8 0, Value.int .u8 0, Value.int .u8 0, Value.int .u8 0, Value.int .u8 0, Value.int .u8 0, Value.int .u8 0, Value.int .u8 0, Value.int .u8 0, Value.int .u8 0, Value.int .u8 0, Value.int .u8 0, Value.int .u8 0, Value.int .u8 0, Value.int .u8 0, Value.int .u8 0, Value.int .u8 0, Value.int .u8 0, Value.int .u8 0, Value.int .u8 0] 34 24
  rw [e] at q1
  have HQ1 := Lib.hid q1
  have HQ2 := Lib.hid (show Row (w.heap.size + 1) (fill32 []) _ from q2)
  have HQ3 := Lib.hid q3
  have HT := Lib.hid ht
  have HF := Lib.hid hfin
  have HL := Lib.hid hl
  have hr64 : r < 64 := by omega
  have hrI : (len : Int) % 64 = (r : Int) := by omega
  have HRL := Lib.hid hr
  have c72 := (q1.length hl).1
  clear hS q1 q2 q3 hs hlen hfin ht hl e hr
  go_enter Tryd.func17, Tryd.ntmps17
  go_upto_region 1 with fail
  obtain ⟨W0, hW0⟩ : ∃ W, W = ((w.alloc (.cells S 34)).alloc (.cells #[Value.int .u8 0, Value.int .u8 0, Value.int .u8 0, Value.int .u8 0, Value.int .u8 0, Value.int .u8 0, Value.int .u8 0, Value.int .u8 0, Value.int .u8 0, Value.int .u8 0, Value.int .u8 0, Value.int .u8 0, Value.int .u8 0, Value.int .u8 0, Value.int .u8 0, Value.int .u8 0, Value.int .u8 0, Value.int .u8 0, Value.int .u8 0, Value.int .u8 0, Value.int .u8 0, Value.int .u8 0, Value.int .u8 0, Value.int .u8 0, Value.int .u8 0, Value.int .u8 0, Value.int .u8 0, Value.int .u8 0, Value.int .u8 0, Value.int .u8 0, Value.int .u8 0, Value.int .u8 0] 24)) := ⟨_, rfl⟩
  rw [← hW0] at HQ1 HQ2 HQ3 c72 ⊢
  clear hW0
  have hth1 := HQ1.out.there (8 + r) 1 (by rw [strC_len _ _ _ HL.out]; omega)
  obtain ⟨u8, hu8⟩ := Option.isSome_iff_exists.1 (hth1 0 (by omega)).1
  have hf8 := (hth1 0 (by omega)).2
  rw [Nat.add_zero] at hu8 hf8
  have R1 := HQ1.out.setCells (8 + r) ([128].map bv) (by rw [strC_len _ _ _ HL.out]; simp; omega)
  rw [strC_copy _ _ _ _ _ HL.out (by simp; omega), show ([128] : List UInt8).length = 1 from rfl] at R1
  have hl1 : (blk.take r ++ [128] ++ blk.drop (r + 1)).length = 64 := by
    rw [List.length_append, List.length_append, List.length_take, List.length_drop, HL.out]; simp; omega
  have Z1 := HQ2.out.far (b := w.heap.size) (by omega) (8 + r) ([128].map bv)
  have B1 := below_setCells (b := w.heap.size) (Nat.le_refl _) ([128].map bv) (8 + r) w W0 HQ3.out
  have hW1 : W0.setCells w.heap.size (8 + r) ([128].map bv) = W0.setCell ⟨w.heap.size, 8 + r, none⟩ (.int .u8 128) := rfl
  rw [hW1] at R1 Z1 B1
  obtain ⟨X, hs, hcl⟩ := run_clear_part (W0.setCell ⟨w.heap.size, 8 + r, none⟩ (.int .u8 128)) w.heap.size 8 r hr64 (R1.there (8 + (r + 1)) (63 - r) (by rw [strC_len _ _ _ hl1]; omega))
  have hrep : List.replicate (63 - r) (Value.int .u8 0) = (List.replicate (63 - r) (0 : UInt8)).map bv := by rw [List.map_replicate]; rfl
  have R2 := R1.setCells (8 + (r + 1)) ((List.replicate (63 - r) (0 : UInt8)).map bv) (by rw [strC_len _ _ _ hl1, List.length_map, List.length_replicate]; omega)
  rw [strC_copy _ _ _ _ _ hl1 (by rw [List.length_replicate]; omega), blk_end blk r HL.out hr64] at R2
  have Z2 := Z1.far (b := w.heap.size) (by omega) (8 + (r + 1)) ((List.replicate (63 - r) (0 : UInt8)).map bv)
  have B2 := below_setCells (b := w.heap.size) (Nat.le_refl _) ((List.replicate (63 - r) (0 : UInt8)).map bv) (8 + (r + 1)) w _ B1
  rw [hrep] at hcl
  obtain ⟨W2, hW2⟩ : ∃ W, W = (W0.setCell ⟨w.heap.size, 8 + r, none⟩ (.int .u8 128)).setCells w.heap.size (8 + (r + 1)) ((List.replicate (63 - r) (0 : UInt8)).map bv) := ⟨_, rfl⟩
  rw [← hW2] at hcl R2 Z2 B2
  have hl2 : (blk.take r ++ (128 :: List.replicate (63 - r) (0 : UInt8))).length = 64 := by
    rw [List.length_append, List.length_take, List.length_cons, List.length_replicate, HL.out]; omega
  have HR2 := Lib.hid R2
  have HZ2 := Lib.hid Z2
  have HB2 := Lib.hid B2
  have HL2 := Lib.hid hl2
  clear R1 Z1 B1 hW1 hrep R2 Z2 B2 hW2 hl1 hl2 hth1 HQ1 HQ2 HQ3
  go_upto_if 19 with fail
  rw [hrI]
  clear hrI
  go_cut [] (fun wx => SumM w len out wx)
  case first =>
    by_cases h56 : 56 ≤ r
    · have hd : decide ((56 : Int) ≤ (r : Int)) = true := by simp; omega
      have V1 := Lib.hid HR2.out.value
      have V2 := Lib.hid HR2.out.blk
      have hf := HF.out
      rw [if_pos h56] at hf
      obtain ⟨bb, hbb⟩ : ∃ x, x = blk.take r ++ (128 :: List.replicate (63 - r) (0 : UInt8)) := ⟨_, rfl⟩
      rw [← hbb] at V2 HR2 HL2 hf
      clear hbb HF c72 hs hcl
      have I8 := Lib.hid (show (Tryd.prog.info? 30).map (·.size) = some v.cells.toList.length by kernel_rfl)
      have I64 := Lib.hid (show (Tryd.prog.info? 31).map (·.size) = some (bb.map bv).length by rw [List.length_map, HL2.out]; kernel_rfl)
      have HFF := Lib.hid hf
      clear hf
      go_wp2_with (first | (with_reducible refine wpList_load_mid rfl 30 (.tmp 20) rfl w.heap.size 0 rfl v.cells.toList _ V1.out Tryd.underlying30 rfl I8.out ?_) | (with_reducible refine wpList_load_mid rfl 31 (.tmp 22) rfl w.heap.size 8 rfl (bb.map bv) _ V2.out Tryd.underlying31 rfl I64.out ?_))
      refine (hsCompress_any v bb _ HL2.out (HT.out.below HB2.out)).mono ?_
      rintro e w3 ⟨rfl, hb3⟩
      obtain ⟨v2, hv2⟩ : ∃ x, x = Sha.block Sha.consts bb v := ⟨_, rfl⟩
      rw [← hv2] at HFF ⊢
      have R3 := Lib.hid (HR2.out.below hb3)
      have Z3 := Lib.hid (HZ2.out.below hb3)
      have B3 := Lib.hid (HB2.out.trans (hb3.mono (Nat.le_of_lt (World.block_lt_of_cell? _ _ (HR2.out.length HL2.out).1))))
      clear hb3 hv2 V1 V2
      have T8 := Lib.hid (R3.out.there 0 v2.cells.size (by rw [strC_len _ _ _ HL2.out]; exact (by decide : 0 + 8 ≤ 73)))
      have J8 := Lib.hid (show (Tryd.prog.info? 30).map (·.size) = some v2.cells.size by kernel_rfl)
      have O8 := Lib.hid (show v2.cells.all (·.oneCell') = true by simp [Sha.St.cells, Value.oneCell'])
      have R4 := R3.out.setCells 0 v2.cells.toList (by rw [strC_len _ _ _ HL2.out]; exact (by decide : 0 + 8 ≤ 73))
      rw [strC_value] at R4
      have Z4 := Z3.out.far (b := w.heap.size) (by omega) 0 v2.cells.toList
      have B4 := below_setCells (b := w.heap.size) (Nat.le_refl _) v2.cells.toList 0 w w3 B3.out
      have T64 := Lib.hid (R4.there 8 ((List.replicate 64 (0 : UInt8)).map bv).toArray.size (by rw [strC_len _ _ _ HL2.out]; exact (by decide : 8 + 64 ≤ 73)))
      have J64 := Lib.hid (show (Tryd.prog.info? 31).map (·.size) = some ((List.replicate 64 (0 : UInt8)).map bv).toArray.size by kernel_rfl)
      have O64 := Lib.hid (all_oneCell_toArray (bvs_one (List.replicate 64 (0 : UInt8))))
      have R5 := R4.setCells (8 + 0) ((List.replicate 64 (0 : UInt8)).map bv) (by rw [strC_len _ _ _ HL2.out]; exact (by decide : 8 + 0 + 64 ≤ 73))
      rw [strC_copy _ _ _ _ _ HL2.out (by simp), List.take_zero, List.nil_append, List.drop_of_length_le (by rw [HL2.out]; simp), List.append_nil] at R5
      have Z5 := Z4.far (b := w.heap.size) (by omega) 8 ((List.replicate 64 (0 : UInt8)).map bv)
      have B5 := below_setCells (b := w.heap.size) (Nat.le_refl _) ((List.replicate 64 (0 : UInt8)).map bv) 8 w _ B4
      have HR5 := Lib.hid R5
      have HZ5 := Lib.hid Z5
      have HB5 := Lib.hid B5
      clear R4 Z4 B4 R5 Z5 B5
      go_wp2_with (first | (with_reducible refine wpList_store_mid rfl 30 (.tmp 25) (.tmp 24) rfl w.heap.size 0 v2.cells rfl rfl T8.out J8.out O8.out ?_) | (with_reducible refine wpList_buildTo rfl 31 _ rfl _ rfl ((List.replicate 64 (0 : UInt8)).map bv).toArray (by kernel_rfl) ?_) | (with_reducible refine wpList_store_mid rfl 31 (.tmp 27) (.tmp 26) rfl w.heap.size 8 ((List.replicate 64 (0 : UInt8)).map bv).toArray rfl rfl T64.out J64.out O64.out ?_))
      go_frame
      go_meet
      exact ⟨v2, List.replicate 64 0, by simp, HR5.out, HZ5.out, HB5.out, HFF.out⟩
    · have hd : decide ((56 : Int) ≤ (r : Int)) = false := by simp; omega
      have hf := HF.out
      rw [if_neg h56, ← short_end blk _ r HL.out (by omega)] at hf
      have HFF := Lib.hid hf
      clear hf HF
      go_wp2_with fail
      go_meet
      exact ⟨v, _, HL2.out, HR2.out, HZ2.out, HB2.out, HFF.out⟩
  case rest =>
    obtain ⟨vv, bb, hbl, hR, hZ, hB, hf⟩ := hcut
    have c72' := (hR.length hbl).1
    have hs56 : ∀ W, (Instr.sliceAt 31 (.pointer (some ⟨w.heap.size, 8, none⟩)) (some (.int .i64 56)) none none).run Tryd.prog W = .ok (.slice (some ⟨w.heap.size, 64, none⟩) 8 8) W :=
      fun W => run_slice_arr W 31 5 64 Tryd.underlying31 (by kernel_rfl) w.heap.size 8 .i64 56 56 rfl (by omega)
    have hs60 : ∀ W, (Instr.sliceAt 31 (.pointer (some ⟨w.heap.size, 8, none⟩)) (some (.int .i64 60)) none none).run Tryd.prog W = .ok (.slice (some ⟨w.heap.size, 68, none⟩) 4 4) W :=
      fun W => run_slice_arr W 31 5 64 Tryd.underlying31 (by kernel_rfl) w.heap.size 8 .i64 60 60 rfl (by omega)
    have h8 : 8 * len < 18446744073709551616 := by omega
    have E8 := Sha.two_words len h8
    obtain ⟨x1, hx1⟩ : ∃ x, x = BitVec.ofNat 32 (8 * len / 4294967296) := ⟨_, rfl⟩
    obtain ⟨x2, hx2⟩ : ∃ x, x = BitVec.ofNat 32 (8 * len) := ⟨_, rfl⟩
    rw [← hx1, ← hx2] at E8
    rw [← E8] at hf
    have hx1' : x1.toNat = 8 * len / 4294967296 := by rw [hx1, BitVec.toNat_ofNat]; omega
    have hx2' : x2.toNat = 8 * len % 4294967296 := by rw [hx2, BitVec.toNat_ofNat]
    have X1 := Lib.hid hx1'
    have X2 := Lib.hid hx2'
    have HR := Lib.hid hR
    have HZ := Lib.hid hZ
    have HB := Lib.hid hB
    have HFF := Lib.hid hf
    have HBL := Lib.hid hbl
    have l1 : (Sha.bytesOf x1).length = 4 := rfl
    have l2 : (Sha.bytesOf x2).length = 4 := rfl
    have L1 := Lib.hid l1
    have L2 := Lib.hid l2
    clear hR hZ hB hf hbl E8 hx1 hx2 hx1' hx2' l1 l2 h8 c72 hs hcl HF HR2 HZ2 HB2 HL2
    go_wp2_with fail
    refine (hsPutWord_int x1 _ ?_ w.heap.size 64 8 8 wc (by omega) (HR.out.there 64 4 (by rw [strC_len _ _ _ HBL.out]; omega))).mono ?_
    · rw [X1.out]; omega
    rintro e w1 ⟨rfl, hw1⟩
    have R1 := HR.out.setCells (8 + 56) ((Sha.bytesOf x1).map bv) (by rw [strC_len _ _ _ HBL.out, List.length_map, L1.out]; omega)
    rw [strC_copy _ _ _ _ _ HBL.out (by rw [L1.out]; omega)] at R1
    have Z1 := HZ.out.far (b := w.heap.size) (by omega) (8 + 56) ((Sha.bytesOf x1).map bv)
    have B1 := below_setCells (b := w.heap.size) (Nat.le_refl _) ((Sha.bytesOf x1).map bv) (8 + 56) w wc HB.out
    rw [show 8 + 56 = 64 from rfl, ← hw1] at R1 Z1 B1
    have hl1 : (bb.take 56 ++ Sha.bytesOf x1 ++ bb.drop (56 + (Sha.bytesOf x1).length)).length = 64 := by
      rw [List.length_append, List.length_append, List.length_take, List.length_drop, HBL.out, L1.out]; omega
    have HR1 := Lib.hid R1
    have HZ1 := Lib.hid Z1
    have HB1 := Lib.hid B1
    have HL1 := Lib.hid hl1
    clear R1 Z1 B1 hw1 hl1 c72' HR HZ HB
    go_wp2_with fail
    refine (hsPutWord_int x2 _ ?_ w.heap.size 68 4 4 w1 (by omega) (HR1.out.there 68 4 (by rw [strC_len _ _ _ HL1.out]; omega))).mono ?_
    · rw [X2.out]; omega
    rintro e w2 ⟨rfl, hw2⟩
    have R2 := HR1.out.setCells (8 + 60) ((Sha.bytesOf x2).map bv) (by rw [strC_len _ _ _ HL1.out, List.length_map, L2.out]; omega)
    rw [strC_copy _ _ _ _ _ HL1.out (by rw [L2.out]; omega), blk_len8 bb _ _ HBL.out L1.out L2.out] at R2
    have Z2 := HZ1.out.far (b := w.heap.size) (by omega) (8 + 60) ((Sha.bytesOf x2).map bv)
    have B2 := below_setCells (b := w.heap.size) (Nat.le_refl _) ((Sha.bytesOf x2).map bv) (8 + 60) w w1 HB1.out
    rw [show 8 + 60 = 68 from rfl, ← hw2] at R2 Z2 B2
    have hl2 : (bb.take 56 ++ (Sha.bytesOf x1 ++ Sha.bytesOf x2)).length = 64 := by
      rw [List.length_append, List.length_append, List.length_take, HBL.out, L1.out, L2.out]; omega
    obtain ⟨b2, hb2⟩ : ∃ x, x = bb.take 56 ++ (Sha.bytesOf x1 ++ Sha.bytesOf x2) := ⟨_, rfl⟩
    rw [← hb2] at R2 hl2 HFF
    have V1 := Lib.hid R2.value
    have V2 := Lib.hid R2.blk
    have HR2 := Lib.hid R2
    have HZ2 := Lib.hid Z2
    have HB2 := Lib.hid B2
    have HL2 := Lib.hid hl2
    clear R2 Z2 B2 hw2 hl2 HR1 HZ1 HB1 HL1 hb2 hs56 hs60 X1 X2 L1 L2 HBL
    have I8 := Lib.hid (show (Tryd.prog.info? 30).map (·.size) = some vv.cells.toList.length by kernel_rfl)
    have I64 := Lib.hid (show (Tryd.prog.info? 31).map (·.size) = some (b2.map bv).length by rw [List.length_map, HL2.out]; kernel_rfl)
    go_wp2_with (first | (with_reducible refine wpList_load_mid rfl 30 (.tmp 42) rfl w.heap.size 0 rfl vv.cells.toList _ V1.out Tryd.underlying30 rfl I8.out ?_) | (with_reducible refine wpList_load_mid rfl 31 (.tmp 44) rfl w.heap.size 8 rfl (b2.map bv) _ V2.out Tryd.underlying31 rfl I64.out ?_))
    refine (hsCompress_any vv b2 _ HL2.out (HT.out.below HB2.out)).mono ?_
    rintro e w3 ⟨rfl, hb3⟩
    obtain ⟨v3, hv3⟩ : ∃ x, x = Sha.block Sha.consts b2 vv := ⟨_, rfl⟩
    rw [← hv3] at HFF ⊢
    have R3 := Lib.hid (HR2.out.below hb3)
    have Z3 := Lib.hid (HZ2.out.below hb3)
    have B3 := Lib.hid (HB2.out.trans (hb3.mono (Nat.le_of_lt (World.block_lt_of_cell? _ _ (HR2.out.length HL2.out).1))))
    clear hb3 hv3 V1 V2
    have T8 := Lib.hid (R3.out.there 0 v3.cells.size (by rw [strC_len _ _ _ HL2.out]; exact (by decide : 0 + 8 ≤ 73)))
    have J8 := Lib.hid (show (Tryd.prog.info? 30).map (·.size) = some v3.cells.size by kernel_rfl)
    have O8 := Lib.hid (show v3.cells.all (·.oneCell') = true by simp [Sha.St.cells, Value.oneCell'])
    have R4 := R3.out.setCells 0 v3.cells.toList (by rw [strC_len _ _ _ HL2.out]; exact (by decide : 0 + 8 ≤ 73))
    rw [strC_value] at R4
    have Z4 := Z3.out.far (b := w.heap.size) (by omega) 0 v3.cells.toList
    have B4 := below_setCells (b := w.heap.size) (Nat.le_refl _) v3.cells.toList 0 w w3 B3.out
    go_upto_region 11 with (with_reducible refine wpList_store_mid rfl 30 (.tmp 47) (.tmp 46) rfl w.heap.size 0 v3.cells rfl rfl T8.out J8.out O8.out ?_)
    obtain ⟨W4, hW4⟩ : ∃ W, W = w3.setCells w.heap.size 0 v3.cells.toList := ⟨_, rfl⟩
    rw [← hW4] at R4 Z4 B4 ⊢
    have V3 := Lib.hid R4.value
    have HZ4 := Lib.hid Z4
    have HB4 := Lib.hid B4
    have J3 := Lib.hid (show (Tryd.prog.info? 30).map (·.size) = some v3.cells.toList.length by kernel_rfl)
    have G1 := Lib.hid (show Row W4.heap.size (fill32 []) (W4.alloc (.cells #[Value.int .u8 0, Value.int .u8 0, Value.int .u8 0, Value.int .u8 0, Value.int .u8 0, Value.int .u8 0, Value.int .u8 0, Value.int .u8 0, Value.int .u8 0, Value.int .u8 0, Value.int .u8 0, Value.int .u8 0, Value.int .u8 0, Value.int .u8 0, Value.int .u8 0, Value.int .u8 0, Value.int .u8 0, Value.int .u8 0, Value.int .u8 0, Value.int .u8 0, Value.int .u8 0, Value.int .u8 0, Value.int .u8 0, Value.int .u8 0, Value.int .u8 0, Value.int .u8 0, Value.int .u8 0, Value.int .u8 0, Value.int .u8 0, Value.int .u8 0, Value.int .u8 0, Value.int .u8 0] 24)) from Row.new W4 #[Value.int .u8 0, Value.int .u8 0, Value.int .u8 0, Value.int .u8 0, Value.int .u8 0, Value.int .u8 0, Value.int .u8 0, Value.int .u8 0, Value.int .u8 0, Value.int .u8 0, Value.int .u8 0, Value.int .u8 0, Value.int .u8 0, Value.int .u8 0, Value.int .u8 0, Value.int .u8 0, Value.int .u8 0, Value.int .u8 0, Value.int .u8 0, Value.int .u8 0, Value.int .u8 0, Value.int .u8 0, Value.int .u8 0, Value.int .u8 0, Value.int .u8 0, Value.int .u8 0, Value.int .u8 0, Value.int .u8 0, Value.int .u8 0, Value.int .u8 0, Value.int .u8 0, Value.int .u8 0] 24)
    have G2 := Lib.hid (HZ4.out.alloc (.cells #[Value.int .u8 0, Value.int .u8 0, Value.int .u8 0, Value.int .u8 0, Value.int .u8 0, Value.int .u8 0, Value.int .u8 0, Value.int .u8 0, Value.int .u8 0, Value.int .u8 0, Value.int .u8 0, Value.int .u8 0, Value.int .u8 0, Value.int .u8 0, Value.int .u8 0, Value.int .u8 0, Value.int .u8 0, Value.int .u8 0, Value.int .u8 0, Value.int .u8 0, Value.int .u8 0, Value.int .u8 0, Value.int .u8 0, Value.int .u8 0, Value.int .u8 0, Value.int .u8 0, Value.int .u8 0, Value.int .u8 0, Value.int .u8 0, Value.int .u8 0, Value.int .u8 0, Value.int .u8 0] 24))
    have G3 := Lib.hid (HB4.out.alloc HB4.out.size (.cells #[Value.int .u8 0, Value.int .u8 0, Value.int .u8 0, Value.int .u8 0, Value.int .u8 0, Value.int .u8 0, Value.int .u8 0, Value.int .u8 0, Value.int .u8 0, Value.int .u8 0, Value.int .u8 0, Value.int .u8 0, Value.int .u8 0, Value.int .u8 0, Value.int .u8 0, Value.int .u8 0, Value.int .u8 0, Value.int .u8 0, Value.int .u8 0, Value.int .u8 0, Value.int .u8 0, Value.int .u8 0, Value.int .u8 0, Value.int .u8 0, Value.int .u8 0, Value.int .u8 0, Value.int .u8 0, Value.int .u8 0, Value.int .u8 0, Value.int .u8 0, Value.int .u8 0, Value.int .u8 0] 24))
    have hgB : w.heap.size + 1 < W4.heap.size := World.block_lt_of_cell? _ _ (Z4 0 _ rfl).1
    clear R4 Z4 B4 hW4 T8 J8 O8 R3 Z3 B3 HR2 HZ2 HB2 HL2 I8 I64
    go_wp2_with (with_reducible refine wpList_load_mid rfl 30 (.tmp 48) rfl w.heap.size 0 rfl v3.cells.toList _ (World.rangeAt_alloc V3.out _) Tryd.underlying30 rfl J3.out ?_)
    have hidx := fun (W : World) (k : Nat) (hk : k < 8) => run_index_st W v3 k hk
    obtain ⟨VC, hVC⟩ : ∃ x, x = v3.cells := ⟨_, rfl⟩
    rw [← hVC] at hidx ⊢
    have HI := Lib.hid hidx
    clear hidx hVC V3 J3
    obtain ⟨g, hg⟩ : ∃ x, x = W4.heap.size := ⟨_, rfl⟩
    rw [← hg] at G1 hgB ⊢
    obtain ⟨W5, hW5⟩ : ∃ W, W = W4.alloc (.cells #[Value.int .u8 0, Value.int .u8 0, Value.int .u8 0, Value.int .u8 0, Value.int .u8 0, Value.int .u8 0, Value.int .u8 0, Value.int .u8 0, Value.int .u8 0, Value.int .u8 0, Value.int .u8 0, Value.int .u8 0, Value.int .u8 0, Value.int .u8 0, Value.int .u8 0, Value.int .u8 0, Value.int .u8 0, Value.int .u8 0, Value.int .u8 0, Value.int .u8 0, Value.int .u8 0, Value.int .u8 0, Value.int .u8 0, Value.int .u8 0, Value.int .u8 0, Value.int .u8 0, Value.int .u8 0, Value.int .u8 0, Value.int .u8 0, Value.int .u8 0, Value.int .u8 0, Value.int .u8 0] 24) := ⟨_, rfl⟩
    rw [← hW5] at G1 G2 G3 ⊢
    clear hg hW5 HZ4 HB4
    go_loopw [50] (fun i wr => ∃ k : Nat, i = .int .i64 (k : Int) ∧ k ≤ 8 ∧ Row (w.heap.size + 1) (fill32 []) wr ∧ Row g (fill32 (v3.out.take (4 * k))) wr ∧ Below w.heap.size w wr) (fun i _ => 8 - (intOf i).toNat)
    case atStart => exact ⟨0, rfl, by omega, G2.out, G1.out, G3.out⟩
    case round =>
      obtain ⟨k, rfl, hk, hr1, hr2, hb⟩ := hrel
      by_cases hlt : k < 8
      · have hi := fun W => HI.out W k hlt
        have hs := fun W : World => run_slice_arr (P := Tryd.prog) W 24 5 32 Tryd.underlying24 (by kernel_rfl) g 0 .i64 ((k : Int) * 4) (4 * k) (by omega) (by omega)
        rw [Nat.zero_add] at hs
        have hol : (v3.out.take (4 * k)).length = 4 * k := by rw [List.length_take, Sha.St.out_len]; omega
        have C := Lib.hid (hsPutWord_any (v3.toList.getD k 0) g (4 * k) (32 - 4 * k) (32 - 4 * k) wr (by omega) (hr2.there (4 * k) 4 (by rw [fill32_len _ (by omega)]; omega)))
        have r2 := hr2.setCells (4 * k) ((Sha.bytesOf (v3.toList.getD k 0)).map bv) (by rw [fill32_len _ (by omega), List.length_map]; exact (show 4 * k + 4 ≤ 32 by omega))
        have e2 := fill32_step (v3.out.take (4 * k)) (Sha.bytesOf (v3.toList.getD k 0))
        rw [hol] at e2
        rw [e2, ← out_step v3 k hlt] at r2
        have r1 := hr1.far (b := g) (by omega) (4 * k) ((Sha.bytesOf (v3.toList.getD k 0)).map bv)
        have b1 := below_setCells (b := g) (by omega) ((Sha.bytesOf (v3.toList.getD k 0)).map bv) (4 * k) w wr hb
        have P1 := Lib.hid r1
        have P2 := Lib.hid r2
        have P3 := Lib.hid b1
        have hki : (k : Int) < 8 := by omega
        generalize v3.toList.getD k 0 = x at *
        clear e2 r1 r2 b1 hr1 hr2 hb hol
        go_wp2_with fail
        refine C.out.mono ?_
        rintro e w5 ⟨rfl, rfl⟩
        go_wp2_with fail
        go_roundw
        case rel => exact ⟨k + 1, by go_num, by omega, P1.out, P2.out, P3.out⟩
        case measure => simp [intOf]; omega
      · have hk8 : k = 8 := by omega
        subst hk8
        have ho : v3.out.take (4 * 8) = out := by rw [List.take_of_length_le (by rw [Sha.St.out_len]; omega)]; exact HFF.out
        have hol : out.length = 32 := by rw [← HFF.out]; exact Sha.St.out_len _
        rw [ho, fill32_full _ hol] at hr2
        have Q2 := Lib.hid hr2.range
        have QB := Lib.hid hb
        have I32 := Lib.hid (show (Tryd.prog.info? 24).map (·.size) = some (out.map bv).length by rw [List.length_map, hol]; kernel_rfl)
        have J32 := Lib.hid (show (Tryd.prog.info? 24).map (·.size) = some (out.map bv).toArray.size by rw [List.size_toArray, List.length_map, hol]; kernel_rfl)
        have T32 := Lib.hid (hr1.there 0 (out.map bv).toArray.size (by rw [List.size_toArray, List.length_map, hol, fill32_len _ (by simp)]; omega))
        have O32 := Lib.hid (all_oneCell_toArray (bvs_one out))
        clear ho hol hr1 hr2 hb HFF HI
        go_wp2_with (first | (with_reducible refine wpList_load_mid rfl 24 (.tmp 5) rfl g 0 rfl (out.map bv) _ Q2.out Tryd.underlying24 rfl I32.out ?_) | (with_reducible refine wpList_store_mid rfl 24 (.tmp 2) (.tmp 60) rfl (w.heap.size + 1) 0 (out.map bv).toArray rfl rfl T32.out J32.out O32.out ?_))
        have HRR := Lib.hid (World.rangeAt_setCells_same wr (w.heap.size + 1) 0 (out.map bv).toArray.toList (by simpa using T32.out))
        refine bodyPost_ret (results_cell_mid rfl _ _ _ (w.heap.size + 1) 0 (out.map bv) _ rfl HRR.out Tryd.underlying24 rfl I32.out) rfl ?_
        exact ⟨rfl, below_setCells (by omega) _ 0 _ _ QB.out⟩

end Go.Proofs.YtfaadaahpjpfaaaDoor
