/-
  Package hash: the cells of a stream that ends; laws.
-/
import Derived.Test.YtdbdlhgkhnenfaaDoorGd
import Derived.Deep.DeepCutAuto
import Derived.Deep.RegionHeld3
import Derived.Deep.QuietTactic
import Derived.BigQuiet
namespace Go.Proofs.YtdbdlhgkhnenfaaDoor
open Go.RowKit
open Sha (wv)

theorem idx0 (w : World) (f : Sha.St) : (Instr.index 87 (.agg f.cells) (.int .i64 0)).run Tryd.prog w = .ok (wv f.a) w := by kernel_rfl
theorem idx1 (w : World) (f : Sha.St) : (Instr.index 87 (.agg f.cells) (.int .i64 1)).run Tryd.prog w = .ok (wv f.b) w := by kernel_rfl
theorem idx2 (w : World) (f : Sha.St) : (Instr.index 87 (.agg f.cells) (.int .i64 2)).run Tryd.prog w = .ok (wv f.c) w := by kernel_rfl
theorem idx3 (w : World) (f : Sha.St) : (Instr.index 87 (.agg f.cells) (.int .i64 3)).run Tryd.prog w = .ok (wv f.d) w := by kernel_rfl
theorem idx4 (w : World) (f : Sha.St) : (Instr.index 87 (.agg f.cells) (.int .i64 4)).run Tryd.prog w = .ok (wv f.e) w := by kernel_rfl
theorem idx5 (w : World) (f : Sha.St) : (Instr.index 87 (.agg f.cells) (.int .i64 5)).run Tryd.prog w = .ok (wv f.f) w := by kernel_rfl
theorem idx6 (w : World) (f : Sha.St) : (Instr.index 87 (.agg f.cells) (.int .i64 6)).run Tryd.prog w = .ok (wv f.g) w := by kernel_rfl
theorem idx7 (w : World) (f : Sha.St) : (Instr.index 87 (.agg f.cells) (.int .i64 7)).run Tryd.prog w = .ok (wv f.h) w := by kernel_rfl
theorem run_index_st (w : World) (f : Sha.St) (k : Nat) (hk : k < 8) : (Instr.index 87 (.agg f.cells) (.int .i64 (k : Int))).run Tryd.prog w = .ok (wv (f.toList.getD k 0)) w :=
  match k, hk with
  | 0, _ => idx0 w f
  | 1, _ => idx1 w f
  | 2, _ => idx2 w f
  | 3, _ => idx3 w f
  | 4, _ => idx4 w f
  | 5, _ => idx5 w f
  | 6, _ => idx6 w f
  | 7, _ => idx7 w f

theorem blk_end (blk : List UInt8) (r : Nat) (h : blk.length = 64) (hr : r < 64) :
    (blk.take r ++ [128] ++ blk.drop (r + 1)).take (r + 1) ++ List.replicate (63 - r) 0 ++ (blk.take r ++ [128] ++ blk.drop (r + 1)).drop (r + 1 + (List.replicate (63 - r) (0 : UInt8)).length) = blk.take r ++ (128 :: List.replicate (63 - r) 0) := by
  have h1 : (blk.take r ++ [128]).length = r + 1 := by rw [List.length_append, List.length_take, h]; simp; omega
  have h2 : (blk.take r ++ [128] ++ blk.drop (r + 1)).length = 64 := by rw [List.length_append, h1, List.length_drop, h]; omega
  have e1 : (blk.take r ++ [128] ++ blk.drop (r + 1)).drop (r + 1 + (List.replicate (63 - r) (0 : UInt8)).length) = [] := List.drop_of_length_le (by rw [h2, List.length_replicate]; omega)
  have e2 : (blk.take r ++ [128] ++ blk.drop (r + 1)).take (r + 1) = blk.take r ++ [128] := by rw [← h1, List.take_left]
  rw [e1, e2]
  simp

/-- a block whose last eight bytes are the length -/
theorem blk_len8 (bb : List UInt8) (a b : List UInt8) (h : bb.length = 64) (ha : a.length = 4) (hb : b.length = 4) :
    ((bb.take 56 ++ a ++ bb.drop (56 + a.length)).take 60 ++ b ++ (bb.take 56 ++ a ++ bb.drop (56 + a.length)).drop (60 + b.length)) = bb.take 56 ++ (a ++ b) := by
  have h1 : (bb.take 56 ++ a).length = 60 := by rw [List.length_append, List.length_take, h, ha]; omega
  have h2 : (bb.take 56 ++ a ++ bb.drop (56 + a.length)).length = 64 := by rw [List.length_append, h1, List.length_drop, h, ha]
  have e1 : (bb.take 56 ++ a ++ bb.drop (56 + a.length)).drop (60 + b.length) = [] := List.drop_of_length_le (by rw [h2, hb]; omega)
  have e2 : (bb.take 56 ++ a ++ bb.drop (56 + a.length)).take 60 = bb.take 56 ++ a := by rw [← h1, List.take_left]
  rw [e1, e2]
  simp

theorem out_step (f : Sha.St) (k : Nat) (hk : k < 8) : f.out.take (4 * (k + 1)) = f.out.take (4 * k) ++ Sha.bytesOf (f.toList.getD k 0) := by
  match k, hk with
  | 0, _ => rfl
  | 1, _ => rfl
  | 2, _ => rfl
  | 3, _ => rfl
  | 4, _ => rfl
  | 5, _ => rfl
  | 6, _ => rfl
  | 7, _ => rfl

def fill32 (l : List UInt8) : List Value := l.map bv ++ List.replicate (32 - l.length) (Value.int .u8 0)
theorem fill32_len (l : List UInt8) (h : l.length ≤ 32) : (fill32 l).length = 32 := by
  unfold fill32; rw [List.length_append, List.length_map, List.length_replicate]; omega
theorem fill32_step (l a : List UInt8) : (fill32 l).take l.length ++ a.map bv ++ (fill32 l).drop (l.length + (a.map bv).length) = fill32 (l ++ a) := by
  unfold fill32
  have e : l.length = (l.map bv).length := (List.length_map _).symm
  have e1 : (l.map bv ++ List.replicate (32 - l.length) (Value.int .u8 0)).take l.length = l.map bv := by rw [e, List.take_left]
  have e2 : (l.map bv ++ List.replicate (32 - l.length) (Value.int .u8 0)).drop (l.length + (a.map bv).length) = List.replicate (32 - (l ++ a).length) (Value.int .u8 0) := by
    conv => lhs; rw [e]
    rw [List.drop_length_add_append, List.drop_replicate, List.length_map, List.length_map, List.length_append]
    congr 1; omega
  rw [e1, e2, List.map_append]
theorem fill32_full (l : List UInt8) (h : l.length = 32) : fill32 l = l.map bv := by unfold fill32; rw [h]; simp

theorem hsPutWord_int (x : BitVec 32) (z : Int) (hz : z = (x.toNat : Int)) (g o n c : Nat) (w : World) (hn : 4 ≤ n) (ht : w.there g o 4) :
    Calls Tryd.prog 80 #[.slice (some ⟨g, o, none⟩) n c, .int .u32 z] w fun e w' => e = .returned (.tuple #[]) ∧ w' = w.setCells g o ((Sha.bytesOf x).map bv) := by
  subst hz; exact hsPutWord_any x g o n c w hn ht

end Go.Proofs.YtdbdlhgkhnenfaaDoor
/-
  Contracts of package hash: the hash of a stream.
-/
namespace Go.Proofs.YtdbdlhgkhnenfaaDoor
open Go.RowKit
open Sha (wv)

theorem zero32 : (List.replicate 32 (Value.int .u8 0)) = fill32 [] := rfl

/-- the memory before the length of the message is written -/
def SumM (w : World) (len : Nat) (out : List UInt8) (wx : World) : Prop :=
  ∃ (vv : Sha.St) (bb : List UInt8), bb.length = 64 ∧ Row w.heap.size (strC vv bb len) wx ∧ Row (w.heap.size + 1) (fill32 []) wx ∧ Below w.heap.size w wx ∧ (Sha.block Sha.consts (bb.take 56 ++ Sha.len8 len) vv).out = out
theorem short_end (blk l : List UInt8) (r : Nat) (h : blk.length = 64) (hr : r < 56) : (blk.take r ++ (128 :: List.replicate (63 - r) (0 : UInt8))).take 56 ++ l = blk.take r ++ (128 :: (List.replicate (55 - r) 0 ++ l)) := by
  have h1 : (blk.take r).length = r := by rw [List.length_take, h]; omega
  have e : (blk.take r ++ (128 :: List.replicate (63 - r) (0 : UInt8))).take 56 = blk.take r ++ (128 :: List.replicate (55 - r) 0) := by
    rw [show 56 = (blk.take r).length + (1 + (55 - r)) by rw [h1]; omega, List.take_length_add_append, Nat.add_comm 1, List.take_succ_cons, List.take_replicate]
    rw [show min (55 - r) (63 - r) = 55 - r by omega]
  rw [e]; simp
theorem run_clear_part (w : World) (b o r : Nat) (hr : r < 64) (ht : w.there b (o + (r + 1)) (63 - r)) :
    ∃ X : Value, (∀ W, (Instr.sliceAt 88 (.pointer (some ⟨b, o, none⟩)) (some (.int .u64 ((r : Int) + 1))) none none).run Tryd.prog W = .ok X W) ∧
      (∀ ty, (Builtin.clear_ #[43] ty #[X]).run Tryd.prog w = .ok (.tuple #[]) (w.setCells b (o + (r + 1)) (List.replicate (63 - r) (.int .u8 0)))) := by
  by_cases h : r = 63
  · subst h
    refine ⟨.slice (some ⟨b, o, none⟩) 0 0, fun W => run_slice_arr_end W 88 5 64 Tryd.underlying88 (by kernel_rfl) b o .u64 _ (by omega), fun ty => ?_⟩
    simp [Builtin.clear_, run_underlying Tryd.underlying43, World.setCells]
  · refine ⟨.slice (some ⟨b, o + (r + 1), none⟩) (64 - (r + 1)) (64 - (r + 1)), fun W => run_slice_arr W 88 5 64 Tryd.underlying88 (by kernel_rfl) b o .u64 _ (r + 1) (by omega) (by omega), fun ty => ?_⟩
    have h2 : 64 - (r + 1) = 63 - r := by omega
    rw [h2]
    exact Lib.run_clear_slice w 43 5 ty (.int .u8 0) Tryd.underlying43 (fun _ => by kernel_rfl) rfl rfl b (o + (r + 1)) (63 - r) (63 - r) (by omega) (fun j hj => (ht j hj).1) (fun j hj => (ht j hj).2)

set_option maxRecDepth 1000000 in
set_option maxHeartbeats 1000000 in
theorem hsSSum_any (m : List UInt8) (v : Sha.St) (blk : List UInt8) (w : World) (hs : Sha.Str Sha.consts m v blk) (hm : m.length ≤ 1099511627776) (ht : Tab w) :
    Calls Tryd.prog 72 #[.agg (strC v blk m.length).toArray] w fun e w' => e = .returned (.agg ((Sha.sum Sha.consts m).map bv).toArray) ∧ Below w.heap.size w w' := by
  have hl := hs.len
  obtain ⟨len, hlen⟩ : ∃ x, x = m.length := ⟨_, rfl⟩
  obtain ⟨r, hr⟩ : ∃ x, x = len % 64 := ⟨_, rfl⟩
  rw [← hlen] at hm ⊢
  have hfin : if 56 ≤ r then (Sha.block Sha.consts (List.replicate 56 0 ++ Sha.len8 len) (Sha.block Sha.consts (blk.take r ++ (128 :: List.replicate (63 - r) 0)) v)).out = Sha.sum Sha.consts m else (Sha.block Sha.consts (blk.take r ++ (128 :: (List.replicate (55 - r) 0 ++ Sha.len8 len))) v).out = Sha.sum Sha.consts m := by
    rw [hr, hlen]
    split
    · rename_i h; exact hs.long h
    · rename_i h; exact hs.short (by omega)
  generalize Sha.sum Sha.consts m = out at hfin ⊢
  obtain ⟨S, hS⟩ : ∃ S, S = (strC v blk len).toArray := ⟨_, rfl⟩
  have e : S.toList = strC v blk len := by rw [hS]
  rw [← hS]
  obtain ⟨q1, q2, q3, -⟩ := two_rows w S #[Value.int .u8 0, Value.int .u8 0, Value.int .u8 0, Value.int .u8 0, Value.int .u8 0, Value.int .u8 0, Value.int .u8 0, Value.int .u8 0, Value.int .u8 0, Value.int .u8 0, Value.int .u8 0, Value.int .u8 0, Value.int .u8 0, Value.int .u8 0, Value.int .u8 0, Value.int .u8 0, Value.int .u8 0, Value.int .u8 0, Value.int .u8 0, Value.int .u8 0, Value.int .u8 0, Value.int .u8 0, Value.int .u8 0, Value.int .u8 0, Value.int .u8 0, Value.int .u8 0, Value.int .u8 0, Value.int .u8 0, Value.int .u8 0, Value.int .u8 0, Value.int .u8 0, Value.int .u8 0] 90 76
  rw [e] at q1
  have HQ1 := Lib.hid q1
  have HQ2 := Lib.hid (show Row (w.heap.size + 1) (fill32 []) _ from q2)
  have HQ3 := Lib.hid q3
  have HT := Lib.hid ht
  have HF := Lib.hid hfin
  have HL := Lib.hid hl
  have hr64 : r < 64 := by omega
  have hrI : (len : Int) % 64 = (r : Int) := by omega
  have HRL := Lib.hid hr
  have c72 := (q1.length hl).1
  clear hS q1 q2 q3 hs hlen hfin ht hl e hr
  go_enter Tryd.func72, Tryd.ntmps72
  go_upto_region 1 with fail
  obtain ⟨W0, hW0⟩ : ∃ W, W = ((w.alloc (.cells S 90)).alloc (.cells #[Value.int .u8 0, Value.int .u8 0, Value.int .u8 0, Value.int .u8 0, Value.int .u8 0, Value.int .u8 0, Value.int .u8 0, Value.int .u8 0, Value.int .u8 0, Value.int .u8 0, Value.int .u8 0, Value.int .u8 0, Value.int .u8 0, Value.int .u8 0, Value.int .u8 0, Value.int .u8 0, Value.int .u8 0, Value.int .u8 0, Value.int .u8 0, Value.int .u8 0, Value.int .u8 0, Value.int .u8 0, Value.int .u8 0, Value.int .u8 0, Value.int .u8 0, Value.int .u8 0, Value.int .u8 0, Value.int .u8 0, Value.int .u8 0, Value.int .u8 0, Value.int .u8 0, Value.int .u8 0] 76)) := ⟨_, rfl⟩
  rw [← hW0] at HQ1 HQ2 HQ3 c72 ⊢
  clear hW0
  have hth1 := HQ1.out.there (8 + r) 1 (by rw [strC_len _ _ _ HL.out]; omega)
  obtain ⟨u8, hu8⟩ := Option.isSome_iff_exists.1 (hth1 0 (by omega)).1
  have hf8 := (hth1 0 (by omega)).2
  rw [Nat.add_zero] at hu8 hf8
  have R1 := HQ1.out.setCells (8 + r) ([128].map bv) (by rw [strC_len _ _ _ HL.out]; simp; omega)
  rw [strC_copy _ _ _ _ _ HL.out (by simp; omega), show ([128] : List UInt8).length = 1 from rfl] at R1
  have hl1 : (blk.take r ++ [128] ++ blk.drop (r + 1)).length = 64 := by
    rw [List.length_append, List.length_append, List.length_take, List.length_drop, HL.out]; simp; omega
  have Z1 := HQ2.out.far (b := w.heap.size) (by omega) (8 + r) ([128].map bv)
  have B1 := below_setCells (b := w.heap.size) (Nat.le_refl _) ([128].map bv) (8 + r) w W0 HQ3.out
  have hW1 : W0.setCells w.heap.size (8 + r) ([128].map bv) = W0.setCell ⟨w.heap.size, 8 + r, none⟩ (.int .u8 128) := rfl
  rw [hW1] at R1 Z1 B1
  obtain ⟨X, hs, hcl⟩ := run_clear_part (W0.setCell ⟨w.heap.size, 8 + r, none⟩ (.int .u8 128)) w.heap.size 8 r hr64 (R1.there (8 + (r + 1)) (63 - r) (by rw [strC_len _ _ _ hl1]; omega))
  have hrep : List.replicate (63 - r) (Value.int .u8 0) = (List.replicate (63 - r) (0 : UInt8)).map bv := by rw [List.map_replicate]; rfl
  have R2 := R1.setCells (8 + (r + 1)) ((List.replicate (63 - r) (0 : UInt8)).map bv) (by rw [strC_len _ _ _ hl1, List.length_map, List.length_replicate]; omega)
  rw [strC_copy _ _ _ _ _ hl1 (by rw [List.length_replicate]; omega), blk_end blk r HL.out hr64] at R2
  have Z2 := Z1.far (b := w.heap.size) (by omega) (8 + (r + 1)) ((List.replicate (63 - r) (0 : UInt8)).map bv)
  have B2 := below_setCells (b := w.heap.size) (Nat.le_refl _) ((List.replicate (63 - r) (0 : UInt8)).map bv) (8 + (r + 1)) w _ B1
  rw [hrep] at hcl
  obtain ⟨W2, hW2⟩ : ∃ W, W = (W0.setCell ⟨w.heap.size, 8 + r, none⟩ (.int .u8 128)).setCells w.heap.size (8 + (r + 1)) ((List.replicate (63 - r) (0 : UInt8)).map bv) := ⟨_, rfl⟩
  rw [← hW2] at hcl R2 Z2 B2
  have hl2 : (blk.take r ++ (128 :: List.replicate (63 - r) (0 : UInt8))).length = 64 := by
    rw [List.length_append, List.length_take, List.length_cons, List.length_replicate, HL.out]; omega
  have HR2 := Lib.hid R2
  have HZ2 := Lib.hid Z2
  have HB2 := Lib.hid B2
  have HL2 := Lib.hid hl2
  clear R1 Z1 B1 hW1 hrep R2 Z2 B2 hW2 hl1 hl2 hth1 HQ1 HQ2 HQ3
  go_upto_if 19 with fail
  rw [hrI]
  clear hrI
  go_cut [] (fun wx => SumM w len out wx)
  case first =>
    by_cases h56 : 56 ≤ r
    · have hd : decide ((56 : Int) ≤ (r : Int)) = true := by simp; omega
      have V1 := Lib.hid HR2.out.value
      have V2 := Lib.hid HR2.out.blk
      have hf := HF.out
      rw [if_pos h56] at hf
      obtain ⟨bb, hbb⟩ : ∃ x, x = blk.take r ++ (128 :: List.replicate (63 - r) (0 : UInt8)) := ⟨_, rfl⟩
      rw [← hbb] at V2 HR2 HL2 hf
      clear hbb HF c72 hs hcl
      have I8 := Lib.hid (show (Tryd.prog.info? 87).map (·.size) = some v.cells.toList.length by kernel_rfl)
      have I64 := Lib.hid (show (Tryd.prog.info? 88).map (·.size) = some (bb.map bv).length by rw [List.length_map, HL2.out]; kernel_rfl)
      have HFF := Lib.hid hf
      clear hf
      go_wp2_with (first | (with_reducible refine wpList_load_mid rfl 87 (.tmp 20) rfl w.heap.size 0 rfl v.cells.toList _ V1.out Tryd.underlying87 rfl I8.out ?_) | (with_reducible refine wpList_load_mid rfl 88 (.tmp 22) rfl w.heap.size 8 rfl (bb.map bv) _ V2.out Tryd.underlying88 rfl I64.out ?_))
      refine (hsCompress_any v bb _ HL2.out (HT.out.below HB2.out)).mono ?_
      rintro e w3 ⟨rfl, hb3⟩
      obtain ⟨v2, hv2⟩ : ∃ x, x = Sha.block Sha.consts bb v := ⟨_, rfl⟩
      rw [← hv2] at HFF ⊢
      have R3 := Lib.hid (HR2.out.below hb3)
      have Z3 := Lib.hid (HZ2.out.below hb3)
      have B3 := Lib.hid (HB2.out.trans (hb3.mono (Nat.le_of_lt (World.block_lt_of_cell? _ _ (HR2.out.length HL2.out).1))))
      clear hb3 hv2 V1 V2
      have T8 := Lib.hid (R3.out.there 0 v2.cells.size (by rw [strC_len _ _ _ HL2.out]; exact (by decide : 0 + 8 ≤ 73)))
      have J8 := Lib.hid (show (Tryd.prog.info? 87).map (·.size) = some v2.cells.size by kernel_rfl)
      have O8 := Lib.hid (show v2.cells.all (·.oneCell') = true by simp [Sha.St.cells, Value.oneCell'])
      have R4 := R3.out.setCells 0 v2.cells.toList (by rw [strC_len _ _ _ HL2.out]; exact (by decide : 0 + 8 ≤ 73))
      rw [strC_value] at R4
      have Z4 := Z3.out.far (b := w.heap.size) (by omega) 0 v2.cells.toList
      have B4 := below_setCells (b := w.heap.size) (Nat.le_refl _) v2.cells.toList 0 w w3 B3.out
      have T64 := Lib.hid (R4.there 8 ((List.replicate 64 (0 : UInt8)).map bv).toArray.size (by rw [strC_len _ _ _ HL2.out]; exact (by decide : 8 + 64 ≤ 73)))
      have J64 := Lib.hid (show (Tryd.prog.info? 88).map (·.size) = some ((List.replicate 64 (0 : UInt8)).map bv).toArray.size by kernel_rfl)
      have O64 := Lib.hid (all_oneCell_toArray (bvs_one (List.replicate 64 (0 : UInt8))))
      have R5 := R4.setCells (8 + 0) ((List.replicate 64 (0 : UInt8)).map bv) (by rw [strC_len _ _ _ HL2.out]; exact (by decide : 8 + 0 + 64 ≤ 73))
      rw [strC_copy _ _ _ _ _ HL2.out (by simp), List.take_zero, List.nil_append, List.drop_of_length_le (by rw [HL2.out]; simp), List.append_nil] at R5
      have Z5 := Z4.far (b := w.heap.size) (by omega) 8 ((List.replicate 64 (0 : UInt8)).map bv)
      have B5 := below_setCells (b := w.heap.size) (Nat.le_refl _) ((List.replicate 64 (0 : UInt8)).map bv) 8 w _ B4
      have HR5 := Lib.hid R5
      have HZ5 := Lib.hid Z5
      have HB5 := Lib.hid B5
      clear R4 Z4 B4 R5 Z5 B5
      go_wp2_with (first | (with_reducible refine wpList_store_mid rfl 87 (.tmp 25) (.tmp 24) rfl w.heap.size 0 v2.cells rfl rfl T8.out J8.out O8.out ?_) | (with_reducible refine wpList_buildTo rfl 88 _ rfl _ rfl ((List.replicate 64 (0 : UInt8)).map bv).toArray (by kernel_rfl) ?_) | (with_reducible refine wpList_store_mid rfl 88 (.tmp 27) (.tmp 26) rfl w.heap.size 8 ((List.replicate 64 (0 : UInt8)).map bv).toArray rfl rfl T64.out J64.out O64.out ?_))
      go_frame
      go_meet
      exact ⟨v2, List.replicate 64 0, by simp, HR5.out, HZ5.out, HB5.out, HFF.out⟩
    · have hd : decide ((56 : Int) ≤ (r : Int)) = false := by simp; omega
      have hf := HF.out
      rw [if_neg h56, ← short_end blk _ r HL.out (by omega)] at hf
      have HFF := Lib.hid hf
      clear hf HF
      go_wp2_with fail
      go_meet
      exact ⟨v, _, HL2.out, HR2.out, HZ2.out, HB2.out, HFF.out⟩
  case rest =>
    obtain ⟨vv, bb, hbl, hR, hZ, hB, hf⟩ := hcut
    have c72' := (hR.length hbl).1
    have hs56 : ∀ W, (Instr.sliceAt 88 (.pointer (some ⟨w.heap.size, 8, none⟩)) (some (.int .i64 56)) none none).run Tryd.prog W = .ok (.slice (some ⟨w.heap.size, 64, none⟩) 8 8) W :=
      fun W => run_slice_arr W 88 5 64 Tryd.underlying88 (by kernel_rfl) w.heap.size 8 .i64 56 56 rfl (by omega)
    have hs60 : ∀ W, (Instr.sliceAt 88 (.pointer (some ⟨w.heap.size, 8, none⟩)) (some (.int .i64 60)) none none).run Tryd.prog W = .ok (.slice (some ⟨w.heap.size, 68, none⟩) 4 4) W :=
      fun W => run_slice_arr W 88 5 64 Tryd.underlying88 (by kernel_rfl) w.heap.size 8 .i64 60 60 rfl (by omega)
    have h8 : 8 * len < 18446744073709551616 := by omega
    have E8 := Sha.two_words len h8
    obtain ⟨x1, hx1⟩ : ∃ x, x = BitVec.ofNat 32 (8 * len / 4294967296) := ⟨_, rfl⟩
    obtain ⟨x2, hx2⟩ : ∃ x, x = BitVec.ofNat 32 (8 * len) := ⟨_, rfl⟩
    rw [← hx1, ← hx2] at E8
    rw [← E8] at hf
    have hx1' : x1.toNat = 8 * len / 4294967296 := by rw [hx1, BitVec.toNat_ofNat]; omega
    have hx2' : x2.toNat = 8 * len % 4294967296 := by rw [hx2, BitVec.toNat_ofNat]
    have X1 := Lib.hid hx1'
    have X2 := Lib.hid hx2'
    have HR := Lib.hid hR
    have HZ := Lib.hid hZ
    have HB := Lib.hid hB
    have HFF := Lib.hid hf
    have HBL := Lib.hid hbl
    have l1 : (Sha.bytesOf x1).length = 4 := rfl
    have l2 : (Sha.bytesOf x2).length = 4 := rfl
    have L1 := Lib.hid l1
    have L2 := Lib.hid l2
    clear hR hZ hB hf hbl E8 hx1 hx2 hx1' hx2' l1 l2 h8 c72 hs hcl HF HR2 HZ2 HB2 HL2
    go_wp2_with fail
    refine (hsPutWord_int x1 _ ?_ w.heap.size 64 8 8 wc (by omega) (HR.out.there 64 4 (by rw [strC_len _ _ _ HBL.out]; omega))).mono ?_
    · rw [X1.out]; omega
    rintro e w1 ⟨rfl, hw1⟩
    have R1 := HR.out.setCells (8 + 56) ((Sha.bytesOf x1).map bv) (by rw [strC_len _ _ _ HBL.out, List.length_map, L1.out]; omega)
    rw [strC_copy _ _ _ _ _ HBL.out (by rw [L1.out]; omega)] at R1
    have Z1 := HZ.out.far (b := w.heap.size) (by omega) (8 + 56) ((Sha.bytesOf x1).map bv)
    have B1 := below_setCells (b := w.heap.size) (Nat.le_refl _) ((Sha.bytesOf x1).map bv) (8 + 56) w wc HB.out
    rw [show 8 + 56 = 64 from rfl, ← hw1] at R1 Z1 B1
    have hl1 : (bb.take 56 ++ Sha.bytesOf x1 ++ bb.drop (56 + (Sha.bytesOf x1).length)).length = 64 := by
      rw [List.length_append, List.length_append, List.length_take, List.length_drop, HBL.out, L1.out]; omega
    have HR1 := Lib.hid R1
    have HZ1 := Lib.hid Z1
    have HB1 := Lib.hid B1
    have HL1 := Lib.hid hl1
    clear R1 Z1 B1 hw1 hl1 c72' HR HZ HB
    go_wp2_with fail
    refine (hsPutWord_int x2 _ ?_ w.heap.size 68 4 4 w1 (by omega) (HR1.out.there 68 4 (by rw [strC_len _ _ _ HL1.out]; omega))).mono ?_
    · rw [X2.out]; omega
    rintro e w2 ⟨rfl, hw2⟩
    have R2 := HR1.out.setCells (8 + 60) ((Sha.bytesOf x2).map bv) (by rw [strC_len _ _ _ HL1.out, List.length_map, L2.out]; omega)
    rw [strC_copy _ _ _ _ _ HL1.out (by rw [L2.out]; omega), blk_len8 bb _ _ HBL.out L1.out L2.out] at R2
    have Z2 := HZ1.out.far (b := w.heap.size) (by omega) (8 + 60) ((Sha.bytesOf x2).map bv)
    have B2 := below_setCells (b := w.heap.size) (Nat.le_refl _) ((Sha.bytesOf x2).map bv) (8 + 60) w w1 HB1.out
    rw [show 8 + 60 = 68 from rfl, ← hw2] at R2 Z2 B2
    have hl2 : (bb.take 56 ++ (Sha.bytesOf x1 ++ Sha.bytesOf x2)).length = 64 := by
      rw [List.length_append, List.length_append, List.length_take, HBL.out, L1.out, L2.out]; omega
    obtain ⟨b2, hb2⟩ : ∃ x, x = bb.take 56 ++ (Sha.bytesOf x1 ++ Sha.bytesOf x2) := ⟨_, rfl⟩
    rw [← hb2] at R2 hl2 HFF
    have V1 := Lib.hid R2.value
    have V2 := Lib.hid R2.blk
    have HR2 := Lib.hid R2
    have HZ2 := Lib.hid Z2
    have HB2 := Lib.hid B2
    have HL2 := Lib.hid hl2
    clear R2 Z2 B2 hw2 hl2 HR1 HZ1 HB1 HL1 hb2 hs56 hs60 X1 X2 L1 L2 HBL
    have I8 := Lib.hid (show (Tryd.prog.info? 87).map (·.size) = some vv.cells.toList.length by kernel_rfl)
    have I64 := Lib.hid (show (Tryd.prog.info? 88).map (·.size) = some (b2.map bv).length by rw [List.length_map, HL2.out]; kernel_rfl)
    go_wp2_with (first | (with_reducible refine wpList_load_mid rfl 87 (.tmp 42) rfl w.heap.size 0 rfl vv.cells.toList _ V1.out Tryd.underlying87 rfl I8.out ?_) | (with_reducible refine wpList_load_mid rfl 88 (.tmp 44) rfl w.heap.size 8 rfl (b2.map bv) _ V2.out Tryd.underlying88 rfl I64.out ?_))
    refine (hsCompress_any vv b2 _ HL2.out (HT.out.below HB2.out)).mono ?_
    rintro e w3 ⟨rfl, hb3⟩
    obtain ⟨v3, hv3⟩ : ∃ x, x = Sha.block Sha.consts b2 vv := ⟨_, rfl⟩
    rw [← hv3] at HFF ⊢
    have R3 := Lib.hid (HR2.out.below hb3)
    have Z3 := Lib.hid (HZ2.out.below hb3)
    have B3 := Lib.hid (HB2.out.trans (hb3.mono (Nat.le_of_lt (World.block_lt_of_cell? _ _ (HR2.out.length HL2.out).1))))
    clear hb3 hv3 V1 V2
    have T8 := Lib.hid (R3.out.there 0 v3.cells.size (by rw [strC_len _ _ _ HL2.out]; exact (by decide : 0 + 8 ≤ 73)))
    have J8 := Lib.hid (show (Tryd.prog.info? 87).map (·.size) = some v3.cells.size by kernel_rfl)
    have O8 := Lib.hid (show v3.cells.all (·.oneCell') = true by simp [Sha.St.cells, Value.oneCell'])
    have R4 := R3.out.setCells 0 v3.cells.toList (by rw [strC_len _ _ _ HL2.out]; exact (by decide : 0 + 8 ≤ 73))
    rw [strC_value] at R4
    have Z4 := Z3.out.far (b := w.heap.size) (by omega) 0 v3.cells.toList
    have B4 := below_setCells (b := w.heap.size) (Nat.le_refl _) v3.cells.toList 0 w w3 B3.out
    go_upto_region 11 with (with_reducible refine wpList_store_mid rfl 87 (.tmp 47) (.tmp 46) rfl w.heap.size 0 v3.cells rfl rfl T8.out J8.out O8.out ?_)
    obtain ⟨W4, hW4⟩ : ∃ W, W = w3.setCells w.heap.size 0 v3.cells.toList := ⟨_, rfl⟩
    rw [← hW4] at R4 Z4 B4 ⊢
    have V3 := Lib.hid R4.value
    have HZ4 := Lib.hid Z4
    have HB4 := Lib.hid B4
    have J3 := Lib.hid (show (Tryd.prog.info? 87).map (·.size) = some v3.cells.toList.length by kernel_rfl)
    have G1 := Lib.hid (show Row W4.heap.size (fill32 []) (W4.alloc (.cells #[Value.int .u8 0, Value.int .u8 0, Value.int .u8 0, Value.int .u8 0, Value.int .u8 0, Value.int .u8 0, Value.int .u8 0, Value.int .u8 0, Value.int .u8 0, Value.int .u8 0, Value.int .u8 0, Value.int .u8 0, Value.int .u8 0, Value.int .u8 0, Value.int .u8 0, Value.int .u8 0, Value.int .u8 0, Value.int .u8 0, Value.int .u8 0, Value.int .u8 0, Value.int .u8 0, Value.int .u8 0, Value.int .u8 0, Value.int .u8 0, Value.int .u8 0, Value.int .u8 0, Value.int .u8 0, Value.int .u8 0, Value.int .u8 0, Value.int .u8 0, Value.int .u8 0, Value.int .u8 0] 76)) from Row.new W4 #[Value.int .u8 0, Value.int .u8 0, Value.int .u8 0, Value.int .u8 0, Value.int .u8 0, Value.int .u8 0, Value.int .u8 0, Value.int .u8 0, Value.int .u8 0, Value.int .u8 0, Value.int .u8 0, Value.int .u8 0, Value.int .u8 0, Value.int .u8 0, Value.int .u8 0, Value.int .u8 0, Value.int .u8 0, Value.int .u8 0, Value.int .u8 0, Value.int .u8 0, Value.int .u8 0, Value.int .u8 0, Value.int .u8 0, Value.int .u8 0, Value.int .u8 0, Value.int .u8 0, Value.int .u8 0, Value.int .u8 0, Value.int .u8 0, Value.int .u8 0, Value.int .u8 0, Value.int .u8 0] 76)
    have G2 := Lib.hid (HZ4.out.alloc (.cells #[Value.int .u8 0, Value.int .u8 0, Value.int .u8 0, Value.int .u8 0, Value.int .u8 0, Value.int .u8 0, Value.int .u8 0, Value.int .u8 0, Value.int .u8 0, Value.int .u8 0, Value.int .u8 0, Value.int .u8 0, Value.int .u8 0, Value.int .u8 0, Value.int .u8 0, Value.int .u8 0, Value.int .u8 0, Value.int .u8 0, Value.int .u8 0, Value.int .u8 0, Value.int .u8 0, Value.int .u8 0, Value.int .u8 0, Value.int .u8 0, Value.int .u8 0, Value.int .u8 0, Value.int .u8 0, Value.int .u8 0, Value.int .u8 0, Value.int .u8 0, Value.int .u8 0, Value.int .u8 0] 76))
    have G3 := Lib.hid (HB4.out.alloc HB4.out.size (.cells #[Value.int .u8 0, Value.int .u8 0, Value.int .u8 0, Value.int .u8 0, Value.int .u8 0, Value.int .u8 0, Value.int .u8 0, Value.int .u8 0, Value.int .u8 0, Value.int .u8 0, Value.int .u8 0, Value.int .u8 0, Value.int .u8 0, Value.int .u8 0, Value.int .u8 0, Value.int .u8 0, Value.int .u8 0, Value.int .u8 0, Value.int .u8 0, Value.int .u8 0, Value.int .u8 0, Value.int .u8 0, Value.int .u8 0, Value.int .u8 0, Value.int .u8 0, Value.int .u8 0, Value.int .u8 0, Value.int .u8 0, Value.int .u8 0, Value.int .u8 0, Value.int .u8 0, Value.int .u8 0] 76))
    have hgB : w.heap.size + 1 < W4.heap.size := World.block_lt_of_cell? _ _ (Z4 0 _ rfl).1
    clear R4 Z4 B4 hW4 T8 J8 O8 R3 Z3 B3 HR2 HZ2 HB2 HL2 I8 I64
    go_wp2_with (with_reducible refine wpList_load_mid rfl 87 (.tmp 48) rfl w.heap.size 0 rfl v3.cells.toList _ (World.rangeAt_alloc V3.out _) Tryd.underlying87 rfl J3.out ?_)
    have hidx := fun (W : World) (k : Nat) (hk : k < 8) => run_index_st W v3 k hk
    obtain ⟨VC, hVC⟩ : ∃ x, x = v3.cells := ⟨_, rfl⟩
    rw [← hVC] at hidx ⊢
    have HI := Lib.hid hidx
    clear hidx hVC V3 J3
    obtain ⟨g, hg⟩ : ∃ x, x = W4.heap.size := ⟨_, rfl⟩
    rw [← hg] at G1 hgB ⊢
    obtain ⟨W5, hW5⟩ : ∃ W, W = W4.alloc (.cells #[Value.int .u8 0, Value.int .u8 0, Value.int .u8 0, Value.int .u8 0, Value.int .u8 0, Value.int .u8 0, Value.int .u8 0, Value.int .u8 0, Value.int .u8 0, Value.int .u8 0, Value.int .u8 0, Value.int .u8 0, Value.int .u8 0, Value.int .u8 0, Value.int .u8 0, Value.int .u8 0, Value.int .u8 0, Value.int .u8 0, Value.int .u8 0, Value.int .u8 0, Value.int .u8 0, Value.int .u8 0, Value.int .u8 0, Value.int .u8 0, Value.int .u8 0, Value.int .u8 0, Value.int .u8 0, Value.int .u8 0, Value.int .u8 0, Value.int .u8 0, Value.int .u8 0, Value.int .u8 0] 76) := ⟨_, rfl⟩
    rw [← hW5] at G1 G2 G3 ⊢
    clear hg hW5 HZ4 HB4
    go_loopw [50] (fun i wr => ∃ k : Nat, i = .int .i64 (k : Int) ∧ k ≤ 8 ∧ Row (w.heap.size + 1) (fill32 []) wr ∧ Row g (fill32 (v3.out.take (4 * k))) wr ∧ Below w.heap.size w wr) (fun i _ => 8 - (intOf i).toNat)
    case atStart => exact ⟨0, rfl, by omega, G2.out, G1.out, G3.out⟩
    case round =>
      obtain ⟨k, rfl, hk, hr1, hr2, hb⟩ := hrel
      by_cases hlt : k < 8
      · have hi := fun W => HI.out W k hlt
        have hs := fun W : World => run_slice_arr (P := Tryd.prog) W 76 5 32 Tryd.underlying76 (by kernel_rfl) g 0 .i64 ((k : Int) * 4) (4 * k) (by omega) (by omega)
        rw [Nat.zero_add] at hs
        have hol : (v3.out.take (4 * k)).length = 4 * k := by rw [List.length_take, Sha.St.out_len]; omega
        have C := Lib.hid (hsPutWord_any (v3.toList.getD k 0) g (4 * k) (32 - 4 * k) (32 - 4 * k) wr (by omega) (hr2.there (4 * k) 4 (by rw [fill32_len _ (by omega)]; omega)))
        have r2 := hr2.setCells (4 * k) ((Sha.bytesOf (v3.toList.getD k 0)).map bv) (by rw [fill32_len _ (by omega), List.length_map]; exact (show 4 * k + 4 ≤ 32 by omega))
        have e2 := fill32_step (v3.out.take (4 * k)) (Sha.bytesOf (v3.toList.getD k 0))
        rw [hol] at e2
        rw [e2, ← out_step v3 k hlt] at r2
        have r1 := hr1.far (b := g) (by omega) (4 * k) ((Sha.bytesOf (v3.toList.getD k 0)).map bv)
        have b1 := below_setCells (b := g) (by omega) ((Sha.bytesOf (v3.toList.getD k 0)).map bv) (4 * k) w wr hb
        have P1 := Lib.hid r1
        have P2 := Lib.hid r2
        have P3 := Lib.hid b1
        have hki : (k : Int) < 8 := by omega
        generalize v3.toList.getD k 0 = x at *
        clear e2 r1 r2 b1 hr1 hr2 hb hol
        go_wp2_with fail
        refine C.out.mono ?_
        rintro e w5 ⟨rfl, rfl⟩
        go_wp2_with fail
        go_roundw
        case rel => exact ⟨k + 1, by go_num, by omega, P1.out, P2.out, P3.out⟩
        case measure => simp [intOf]; omega
      · have hk8 : k = 8 := by omega
        subst hk8
        have ho : v3.out.take (4 * 8) = out := by rw [List.take_of_length_le (by rw [Sha.St.out_len]; omega)]; exact HFF.out
        have hol : out.length = 32 := by rw [← HFF.out]; exact Sha.St.out_len _
        rw [ho, fill32_full _ hol] at hr2
        have Q2 := Lib.hid hr2.range
        have QB := Lib.hid hb
        have I32 := Lib.hid (show (Tryd.prog.info? 76).map (·.size) = some (out.map bv).length by rw [List.length_map, hol]; kernel_rfl)
        have J32 := Lib.hid (show (Tryd.prog.info? 76).map (·.size) = some (out.map bv).toArray.size by rw [List.size_toArray, List.length_map, hol]; kernel_rfl)
        have T32 := Lib.hid (hr1.there 0 (out.map bv).toArray.size (by rw [List.size_toArray, List.length_map, hol, fill32_len _ (by simp)]; omega))
        have O32 := Lib.hid (all_oneCell_toArray (bvs_one out))
        clear ho hol hr1 hr2 hb HFF HI
        go_wp2_with (first | (with_reducible refine wpList_load_mid rfl 76 (.tmp 5) rfl g 0 rfl (out.map bv) _ Q2.out Tryd.underlying76 rfl I32.out ?_) | (with_reducible refine wpList_store_mid rfl 76 (.tmp 2) (.tmp 60) rfl (w.heap.size + 1) 0 (out.map bv).toArray rfl rfl T32.out J32.out O32.out ?_))
        have HRR := Lib.hid (World.rangeAt_setCells_same wr (w.heap.size + 1) 0 (out.map bv).toArray.toList (by simpa using T32.out))
        refine bodyPost_ret (results_cell_mid rfl _ _ _ (w.heap.size + 1) 0 (out.map bv) _ rfl HRR.out Tryd.underlying76 rfl I32.out) rfl ?_
        exact ⟨rfl, below_setCells (by omega) _ 0 _ _ QB.out⟩

end Go.Proofs.YtdbdlhgkhnenfaaDoor
/-
  Contracts of package hash: the hash of a slice, and of a stream as a string.
-/
namespace Go.Proofs.YtdbdlhgkhnenfaaDoor
open Go.RowKit
open Sha (wv)

/-- a conversion from bytes to a string as it runs, under a name -/
noncomputable def convRun (v : Value) (w : World) : Result Value := (convert 43 9 v).run Tryd.prog w
theorem convRun_eq (v : Value) (w : World) : (convert 43 9 v).run Tryd.prog w = convRun v w := rfl
theorem convRun_lies (w : World) (A : Option Addr) (n c : Nat) (l : List UInt8) (hn : l.length = n) (hA : A = none → n = 0) (h : Lies w A (l.map bv)) : convRun (.slice A n c) w = .ok (.string (bstr l)) w :=
  run_convert_lies w 43 5 9 Tryd.underlying43 Tryd.underlying5 Tryd.underlying9 A n c l hn hA h
theorem there_below {w w' : World} {b o n : Nat} (h : w.there b o n) (hb : Below w.heap.size w w') : w'.there b o n := fun j hj => by
  obtain ⟨h1, h2⟩ := h j hj
  obtain ⟨u, hu⟩ := Option.isSome_iff_exists.1 h1
  have hl := World.block_lt_of_cell? w _ hu
  exact ⟨by rw [hb.cell hl]; exact h1, by rw [hb.frozen hl]; exact h2⟩
attribute [local go_sem ↓] convRun_eq

theorem there_bound {w : World} {b n : Nat} (h : w.there b 0 n) (hn : n = 32) : b < w.heap.size := by
  obtain ⟨u, hu⟩ := Option.isSome_iff_exists.1 (h 0 (by omega)).1
  exact World.block_lt_of_cell? w _ hu

set_option maxRecDepth 1000000 in
set_option maxHeartbeats 1000000 in
theorem hsSum_any (l : List UInt8) (A : Option Addr) (n c : Nat) (w : World) (hn : l.length = n) (hA : A = none → n = 0) (hl : Lies w A (l.map bv)) (hb : n ≤ 1099511627776) (ht : Tab w) :
    Calls Tryd.prog 56 #[.slice A n c] w fun e w' => e = .returned (.agg ((Sha.sum Sha.consts l).map bv).toArray) ∧ Below w.heap.size w w' := by
  have hol := Sha.sum_len Sha.consts l
  have HS : Hid (∀ w', Below w.heap.size w w' → w'.there w.heap.size 0 ((Sha.sum Sha.consts l).map bv).length → convRun (.slice A n c) w' = .ok (.string (bstr l)) w' ∧ Below w.heap.size w w' ∧ w'.there w.heap.size 0 ((Sha.sum Sha.consts l).map bv).length) :=
    Lib.hid (fun w' hb ht => ⟨convRun_lies w' A n c l hn hA (hl.below hb), hb, ht⟩)
  have CB := Lib.hid (fun (w' : World) (hb : Below w.heap.size w w') => hsBegin_any w' (ht.below hb))
  have CA := Lib.hid (fun (w' : World) (hb : Below w.heap.size w w') (v : Sha.St) (blk : List UInt8) (hs : Sha.Str Sha.consts [] v blk) => hsAdd_any [] v blk (bstr l) w' hs (by rw [bstr_size]; simp; omega) (ht.below hb))
  have CS := Lib.hid (fun (w' : World) (hbl : Below w.heap.size w w') (v : Sha.St) (blk : List UInt8) (hs : Sha.Str Sha.consts l v blk) => hsSSum_any l v blk w' hs (by omega) (ht.below hbl))
  obtain ⟨out, ho⟩ : ∃ x, x = Sha.sum Sha.consts l := ⟨_, rfl⟩
  rw [← ho] at HS CS hol ⊢
  have ho1 := bvs_one out
  have hi : (Tryd.prog.info? 76).map (·.size) = some (out.map bv).length := by rw [List.length_map, hol]; kernel_rfl
  have hml : (out.map bv).length = 32 := by rw [List.length_map, hol]
  have HML := Lib.hid hml
  clear ho hol hml hn hA hl hb ht
  go_enter Tryd.func56, Tryd.ntmps56
  go_wp2_with fail
  obtain ⟨u, hu⟩ : ∃ W, W = w.alloc (.cells #[Value.int .u8 0, Value.int .u8 0, Value.int .u8 0, Value.int .u8 0, Value.int .u8 0, Value.int .u8 0, Value.int .u8 0, Value.int .u8 0, Value.int .u8 0, Value.int .u8 0, Value.int .u8 0, Value.int .u8 0, Value.int .u8 0, Value.int .u8 0, Value.int .u8 0, Value.int .u8 0, Value.int .u8 0, Value.int .u8 0, Value.int .u8 0, Value.int .u8 0, Value.int .u8 0, Value.int .u8 0, Value.int .u8 0, Value.int .u8 0, Value.int .u8 0, Value.int .u8 0, Value.int .u8 0, Value.int .u8 0, Value.int .u8 0, Value.int .u8 0, Value.int .u8 0, Value.int .u8 0] 76) := ⟨_, rfl⟩
  have hr0 : Row w.heap.size (fill32 []) u := by rw [hu]; exact Row.new w #[Value.int .u8 0, Value.int .u8 0, Value.int .u8 0, Value.int .u8 0, Value.int .u8 0, Value.int .u8 0, Value.int .u8 0, Value.int .u8 0, Value.int .u8 0, Value.int .u8 0, Value.int .u8 0, Value.int .u8 0, Value.int .u8 0, Value.int .u8 0, Value.int .u8 0, Value.int .u8 0, Value.int .u8 0, Value.int .u8 0, Value.int .u8 0, Value.int .u8 0, Value.int .u8 0, Value.int .u8 0, Value.int .u8 0, Value.int .u8 0, Value.int .u8 0, Value.int .u8 0, Value.int .u8 0, Value.int .u8 0, Value.int .u8 0, Value.int .u8 0, Value.int .u8 0, Value.int .u8 0] 76
  have hb0 : Below w.heap.size w u := by rw [hu]; exact (Below.refl _ _).alloc (Nat.le_refl _) _
  rw [← hu]
  have HB0 := Lib.hid (below_drew hb0)
  have HT0 := Lib.hid (show u.drew.there w.heap.size 0 (out.map bv).length by rw [HML.out]; exact hr0.there 0 32 (by decide))
  clear hu hr0 hb0
  go_region_held3 (fun w' => convRun (.slice A n c) w' = .ok (.string (bstr l)) w' ∧ Below w.heap.size w w' ∧ w'.there w.heap.size 0 (out.map bv).length)
    (first
      | exact HS.out _ HB0.out HT0.out
      | exact HS.out _ B5.out T5.out
      | exact HS.out _ B6.out T6.out
      | exact HS.out _ B7.out T7.out
      | exact HS.out _ (below_setCells (Nat.le_refl _) _ 0 _ _ B7.out) (World.there_setCells T7.out _ _ _))
    (first
      | (go_at_call 65; refine (CB.out _ HB0.out).mono ?_; rintro e w5 ⟨v5, blk5, rfl, hs5, b5⟩; have B5 := Lib.hid (HB0.out.trans (b5.mono (Nat.le_of_lt (there_bound HT0.out HML.out)))); have T5 := Lib.hid (there_below HT0.out b5); have S5 := Lib.hid hs5; clear hs5 b5)
      | (go_at_call 66; refine (CA.out _ B5.out _ _ S5.out).mono ?_; rintro e w6 ⟨v6, blk6, rfl, hs6, b6⟩; have B6 := Lib.hid (B5.out.trans (b6.mono (Nat.le_of_lt (there_bound T5.out HML.out)))); have T6 := Lib.hid (there_below T5.out b6); have S6 := Lib.hid hs6; clear hs6 b6)
      | (go_at_call 72; refine (CS.out _ B6.out _ _ S6.out).mono ?_; rintro e w7 ⟨rfl, b7⟩; have B7 := Lib.hid (B6.out.trans (b7.mono (Nat.le_of_lt (there_bound T6.out HML.out)))); have T7 := Lib.hid (there_below T6.out b7); clear b7))
  have HRR := Lib.hid (World.rangeAt_setCells_same w7 w.heap.size 0 (out.map bv) T7.out)
  have HBB := Lib.hid (below_setCells (b := w.heap.size) (Nat.le_refl _) (out.map bv) 0 w w7 B7.out)
  clear HS CB CA CS
  go_wp2_with fail
  refine bodyPost_ret (results_cell_mid rfl _ _ _ w.heap.size 0 (out.map bv) _ rfl HRR.out Tryd.underlying76 rfl hi) rfl ?_
  exact ⟨rfl, HBB.out⟩

set_option maxRecDepth 1000000 in
set_option maxHeartbeats 1000000 in
theorem hsSumText_any (m : List UInt8) (v : Sha.St) (blk : List UInt8) (w : World) (hs : Sha.Str Sha.consts m v blk) (hm : m.length ≤ 1099511627776) (ht : Tab w) :
    Calls Tryd.prog 64 #[.agg (strC v blk m.length).toArray] w fun e w' => e = .returned (.string (bstr (Sha.sum Sha.consts m))) ∧ Below w.heap.size w w' := by
  have hol := Sha.sum_len Sha.consts m
  have hl := hs.len
  have CS := Lib.hid (fun (w' : World) (hbl : Below w.heap.size w w') => hsSSum_any m v blk w' hs hm (ht.below hbl))
  obtain ⟨out, ho⟩ : ∃ x, x = Sha.sum Sha.consts m := ⟨_, rfl⟩
  rw [← ho] at CS hol ⊢
  obtain ⟨C, hC⟩ : ∃ x, x = strC v blk m.length := ⟨_, rfl⟩
  have hCl : C.length = 73 := by rw [hC]; exact strC_len _ _ _ hl
  rw [← hC] at CS ⊢
  have I73 := Lib.hid (show (Tryd.prog.info? 90).map (·.size) = some C.length by rw [hCl]; exact size_stream)
  have RN := Lib.hid (Row.newl w C 90).range
  have HOL := Lib.hid hol
  have J32 := Lib.hid (show (Tryd.prog.info? 76).map (·.size) = some (out.map bv).toArray.size by rw [List.size_toArray, List.length_map, hol]; kernel_rfl)
  have S32 := Lib.hid (show (out.map bv).toArray.size = 32 by rw [List.size_toArray, List.length_map, hol])
  have O32 := Lib.hid (all_oneCell_toArray (bvs_one out))
  clear ho hC hCl hol hl hs hm ht
  go_enter Tryd.func64, Tryd.ntmps64
  go_wp2_with (with_reducible refine wpList_load_mid rfl 90 (.tmp 1) rfl w.heap.size 0 rfl C _ RN.out Tryd.underlying90 rfl I73.out ?_)
  refine (CS.out _ ((Below.refl _ _).alloc (Nat.le_refl _) _)).mono ?_
  rintro e w1 ⟨rfl, b1⟩
  have B1 := Lib.hid (((Below.refl w.heap.size w).alloc (Nat.le_refl _) (.cells C.toArray 90)).trans (b1.mono (by simp)))
  have hsl := fun W : World => run_slice_arr_all (P := Tryd.prog) W 76 5 32 Tryd.underlying76 (by kernel_rfl) w1.heap.size 0 (by omega)
  have hz := b1.size
  clear b1
  go_wp2_with (first | (with_reducible refine wpList_store_new w1 rfl 76 (.tmp 3) (.tmp 5) rfl _ (out.map bv).toArray rfl rfl J32.out (Eq.trans (b := 32) (by kernel_rfl) S32.out.symm) O32.out ?_) | (with_reducible refine wpList_convert_str (w1.alloc (.cells (out.map bv).toArray 76)) rfl (.tmp 6) 43 9 5 rfl Tryd.underlying43 Tryd.underlying5 Tryd.underlying9 (some ⟨w1.heap.size, 0, none⟩) 32 32 rfl out HOL.out (fun h => by cases h) (Lies.new w1 (out.map bv) 76) ?_))
  go_ret
  exact ⟨rfl, B1.out.alloc B1.out.size _⟩

end Go.Proofs.YtdbdlhgkhnenfaaDoor
/-
  Contracts of package hash: a key is masked.
-/
namespace Go.Proofs.YtdbdlhgkhnenfaaDoor
open Go.RowKit
open Sha (wv)

theorem u8_xor (a b : UInt8) : bits .xor .u8 (a.toNat : Int) (b.toNat : Int) = ((a ^^^ b).toNat : Int) := by
  show IntKind.u8.wrap ((BitVec.ofInt 8 (a.toNat : Int) ^^^ BitVec.ofInt 8 (b.toNat : Int)).toNat : Int) = _
  have e : ∀ x : UInt8, BitVec.ofInt 8 (x.toNat : Int) = x.toBitVec := by
    intro x
    apply BitVec.eq_of_toNat_eq
    rw [BitVec.toNat_ofInt]
    have := x.toNat_lt
    show ((x.toNat : Int) % 256).toNat = x.toNat
    omega
  rw [e, e]
  have h := (a ^^^ b).toNat_lt
  have h2 : (a.toBitVec ^^^ b.toBitVec).toNat = (a ^^^ b).toNat := rfl
  rw [h2]
  generalize (a ^^^ b).toNat = z at h ⊢
  simp [IntKind.wrap, IntKind.signed, IntKind.bits]
  omega

/-- a key as a block -/
def ext (k : List UInt8) : List UInt8 := (List.range 64).map (fun i => k.getD i 0)
theorem ext_len (k : List UInt8) : (ext k).length = 64 := by simp [ext]
/-- the first i bytes are masked -/
def half (k : List UInt8) (p : UInt8) (i : Nat) : List UInt8 := ((ext k).map (· ^^^ p)).take i ++ (ext k).drop i
theorem half_len (k : List UInt8) (p : UInt8) (i : Nat) (h : i ≤ 64) : (half k p i).length = 64 := by
  unfold half; rw [List.length_append, List.length_take, List.length_drop, List.length_map, ext_len]; omega
theorem half_at (k : List UInt8) (p : UInt8) (i : Nat) (h : i < 64) : (half k p i)[i]? = some ((ext k).getD i 0) := by
  have hl := ext_len k
  unfold half
  rw [List.getElem?_append_right (by rw [List.length_take, List.length_map, hl]; omega), List.length_take, List.length_map, hl, List.getElem?_drop, Nat.min_eq_left (by omega), Nat.sub_self, Nat.add_zero, List.getD_eq_getElem?_getD, List.getElem?_eq_getElem (by omega)]
  rfl
theorem half_step (k : List UInt8) (p : UInt8) (i : Nat) (h : i < 64) : (half k p i).set i ((ext k).getD i 0 ^^^ p) = half k p (i + 1) := by
  have hl := ext_len k
  have h1 : (((ext k).map (· ^^^ p)).take i).length = i := by rw [List.length_take, List.length_map, hl]; omega
  unfold half
  rw [List.set_append_right _ _ (by omega), h1, Nat.sub_self, List.drop_eq_getElem_cons (by omega : i < (ext k).length), List.set_cons_zero, List.take_succ_eq_append_getElem (by rw [List.length_map, hl]; omega), List.append_assoc]
  congr 1
  rw [List.getElem_map, List.getD_eq_getElem?_getD, List.getElem?_eq_getElem (by omega)]
  rfl
theorem half_end (k : List UInt8) (p : UInt8) : half k p 64 = (ext k).map (· ^^^ p) := by
  have hl := ext_len k
  unfold half
  rw [List.take_of_length_le (by rw [List.length_map, hl]; omega), List.drop_of_length_le (by omega), List.append_nil]
theorem ext_short (k : List UInt8) (h : k.length ≤ 64) : k ++ List.replicate (64 - k.length) 0 = ext k := by
  apply List.ext_getElem?
  intro i
  unfold ext
  rw [List.getElem?_map, List.getElem?_append]
  by_cases hi : i < k.length
  · rw [if_pos hi, List.getElem?_range (by omega), List.getElem?_eq_getElem hi]
    simp [List.getD_eq_getElem?_getD, List.getElem?_eq_getElem hi]
  · rw [if_neg hi, List.getElem?_replicate]
    by_cases h2 : i < 64
    · rw [if_pos (by omega), List.getElem?_range h2]
      simp [List.getD_eq_getElem?_getD, List.getElem?_eq_none (show k.length ≤ i by omega)]
    · rw [if_neg (by omega), List.getElem?_eq_none (by simp; omega)]; rfl
theorem key_ext (k : List UInt8) (p : UInt8) (h : ¬ 64 < k.length) : Sha.key Sha.consts k p = (ext k).map (· ^^^ p) := by
  unfold Sha.key ext
  simp only [if_neg h, List.map_map]
  rfl

theorem Row.lies {g : Nat} {cs : List Value} {w : World} (h : Row g cs w) : Lies w (some ⟨g, 0, none⟩) cs := .inr ⟨_, _, rfl, fun j u hu => h.range j u hu⟩
theorem half_zero (k : List UInt8) (p : UInt8) : half k p 0 = ext k := by unfold half; simp

set_option maxRecDepth 1000000 in
set_option maxHeartbeats 1000000 in
theorem hsMasked_any (key : ByteArray) (p : UInt8) (w : World) (hk : key.size ≤ 64) :
    Calls Tryd.prog 67 #[.string key, .int .u8 (p.toNat : Int)] w fun e w' => e = .returned (.string (bstr (Sha.key Sha.consts key.data.toList p))) ∧ Below w.heap.size w w' := by
  have hkl : key.data.toList.length ≤ 64 := by rw [ba_len]; exact hk
  have E := Lib.hid (key_ext key.data.toList p (by omega))
  go_enter Tryd.func67, Tryd.ntmps67
  go_upto_region 2 with fail
  obtain ⟨u, hu⟩ : ∃ W, W = w.alloc (.cells #[Value.int .u8 0, Value.int .u8 0, Value.int .u8 0, Value.int .u8 0, Value.int .u8 0, Value.int .u8 0, Value.int .u8 0, Value.int .u8 0, Value.int .u8 0, Value.int .u8 0, Value.int .u8 0, Value.int .u8 0, Value.int .u8 0, Value.int .u8 0, Value.int .u8 0, Value.int .u8 0, Value.int .u8 0, Value.int .u8 0, Value.int .u8 0, Value.int .u8 0, Value.int .u8 0, Value.int .u8 0, Value.int .u8 0, Value.int .u8 0, Value.int .u8 0, Value.int .u8 0, Value.int .u8 0, Value.int .u8 0, Value.int .u8 0, Value.int .u8 0, Value.int .u8 0, Value.int .u8 0, Value.int .u8 0, Value.int .u8 0, Value.int .u8 0, Value.int .u8 0, Value.int .u8 0, Value.int .u8 0, Value.int .u8 0, Value.int .u8 0, Value.int .u8 0, Value.int .u8 0, Value.int .u8 0, Value.int .u8 0, Value.int .u8 0, Value.int .u8 0, Value.int .u8 0, Value.int .u8 0, Value.int .u8 0, Value.int .u8 0, Value.int .u8 0, Value.int .u8 0, Value.int .u8 0, Value.int .u8 0, Value.int .u8 0, Value.int .u8 0, Value.int .u8 0, Value.int .u8 0, Value.int .u8 0, Value.int .u8 0, Value.int .u8 0, Value.int .u8 0, Value.int .u8 0, Value.int .u8 0] 88) := ⟨_, rfl⟩
  have hr0 : Row w.heap.size ((List.replicate 64 (0 : UInt8)).map bv) u := by rw [hu]; exact Row.new w #[Value.int .u8 0, Value.int .u8 0, Value.int .u8 0, Value.int .u8 0, Value.int .u8 0, Value.int .u8 0, Value.int .u8 0, Value.int .u8 0, Value.int .u8 0, Value.int .u8 0, Value.int .u8 0, Value.int .u8 0, Value.int .u8 0, Value.int .u8 0, Value.int .u8 0, Value.int .u8 0, Value.int .u8 0, Value.int .u8 0, Value.int .u8 0, Value.int .u8 0, Value.int .u8 0, Value.int .u8 0, Value.int .u8 0, Value.int .u8 0, Value.int .u8 0, Value.int .u8 0, Value.int .u8 0, Value.int .u8 0, Value.int .u8 0, Value.int .u8 0, Value.int .u8 0, Value.int .u8 0, Value.int .u8 0, Value.int .u8 0, Value.int .u8 0, Value.int .u8 0, Value.int .u8 0, Value.int .u8 0, Value.int .u8 0, Value.int .u8 0, Value.int .u8 0, Value.int .u8 0, Value.int .u8 0, Value.int .u8 0, Value.int .u8 0, Value.int .u8 0, Value.int .u8 0, Value.int .u8 0, Value.int .u8 0, Value.int .u8 0, Value.int .u8 0, Value.int .u8 0, Value.int .u8 0, Value.int .u8 0, Value.int .u8 0, Value.int .u8 0, Value.int .u8 0, Value.int .u8 0, Value.int .u8 0, Value.int .u8 0, Value.int .u8 0, Value.int .u8 0, Value.int .u8 0, Value.int .u8 0] 88
  have hb0 : Below w.heap.size w u := by rw [hu]; exact (Below.refl _ _).alloc (Nat.le_refl _) _
  rw [← hu]
  clear hu
  have hcp := fun ty : TypeId => run_copy_str (P := Tryd.prog) u 43 9 ty 5 Tryd.underlying43 (by kernel_rfl) w.heap.size 0 64 64 key key.size (by omega) (hr0.there 0 _ (by simp; omega))
  have hr1 := hr0.setCells 0 ((key.data.toList.take key.size).map bv) (by rw [List.length_map, List.length_map, List.length_take, ba_len, List.length_replicate]; omega)
  have e1 : ((List.replicate 64 (0 : UInt8)).map bv).take 0 ++ (key.data.toList.take key.size).map bv ++ ((List.replicate 64 (0 : UInt8)).map bv).drop (0 + ((key.data.toList.take key.size).map bv).length) = (ext key.data.toList).map bv := by
    rw [List.take_zero, List.nil_append, List.take_of_length_le (by rw [ba_len]; exact Nat.le_refl _), ← ext_short _ hkl, List.map_append, List.map_replicate, List.drop_replicate, List.length_map, Nat.zero_add, List.map_replicate]
  rw [e1] at hr1
  have hb1 := below_setCells (b := w.heap.size) (Nat.le_refl _) ((key.data.toList.take key.size).map bv) 0 w u hb0
  obtain ⟨u1, hu1⟩ : ∃ W, W = u.setCells w.heap.size 0 ((key.data.toList.take key.size).map bv) := ⟨_, rfl⟩
  rw [← hu1] at hcp hr1 hb1
  clear hr0 hb0 hu1 e1
  have HR1 := Lib.hid hr1
  have HB1 := Lib.hid hb1
  clear hr1 hb1
  have hsl := fun W : World => run_slice_arr_all (P := Tryd.prog) W 88 5 64 Tryd.underlying88 (by kernel_rfl) w.heap.size 0 (by omega)
  go_wp2_with fail
  go_loopw [10] (fun i wr => ∃ k : Nat, i = .int .i64 (k : Int) ∧ k ≤ 64 ∧ Row w.heap.size ((half key.data.toList p k).map bv) wr ∧ Below w.heap.size w wr) (fun i _ => 64 - (intOf i).toNat)
  case atStart => exact ⟨0, rfl, by omega, by rw [half_zero]; exact HR1.out, HB1.out⟩
  case round =>
    obtain ⟨k, rfl, hk64, hr, hb⟩ := hrel
    by_cases hlt : k < 64
    · obtain ⟨c1, f1⟩ := hr k (bv ((ext key.data.toList).getD k 0)) (by rw [List.getElem?_map, half_at _ _ _ hlt]; rfl)
      have EX := Lib.hid (u8_xor ((ext key.data.toList).getD k 0) p)
      have hr2 := hr.set k (bv ((ext key.data.toList).getD k 0 ^^^ p)) (by rw [List.length_map, half_len _ _ _ (by omega)]; exact hlt)
      have e2 : ((half key.data.toList p k).map bv).set k (bv ((ext key.data.toList).getD k 0 ^^^ p)) = (half key.data.toList p (k + 1)).map bv := by
        rw [← half_step _ _ _ hlt, List.map_set]
      rw [e2] at hr2
      have HR2 := Lib.hid hr2
      have HB2 := Lib.hid (hb.setCell (p := ⟨w.heap.size, k, none⟩) (Nat.le_refl _) (bv ((ext key.data.toList).getD k 0 ^^^ p)))
      clear hr hr2 hb e2 hcp
      generalize (ext key.data.toList).getD k 0 = x at c1 EX HR2 HB2
      unfold bv at c1 HR2 HB2
      go_wp2_with fail
      go_roundw
      case rel => exact ⟨k + 1, by go_num, by omega, by unfold bv; rw [EX.out]; exact HR2.out, by rw [EX.out]; exact HB2.out⟩
      case measure => simp [intOf]; omega
    · have hk : k = 64 := by omega
      subst hk
      rw [half_end] at hr
      have LL := Lib.hid hr.lies
      have HB := Lib.hid hb
      have hml : ((ext key.data.toList).map (· ^^^ p)).length = 64 := by rw [List.length_map, ext_len]
      have ML := Lib.hid hml
      clear hr hb hml hcp
      go_wp2_with (with_reducible refine wpList_convert_str wr rfl (.tmp 20) 43 9 5 rfl Tryd.underlying43 Tryd.underlying5 Tryd.underlying9 (some ⟨w.heap.size, 0, none⟩) 64 64 rfl ((ext key.data.toList).map (· ^^^ p)) ML.out (fun h => by cases h) LL.out ?_)
      go_ret
      exact ⟨by rw [E.out]; rfl, HB.out⟩

end Go.Proofs.YtdbdlhgkhnenfaaDoor
/-
  Contracts of package hash: codes.
-/
namespace Go.Proofs.YtdbdlhgkhnenfaaDoor
open Go.RowKit
open Sha (wv)

/-- a stream with the message m comes back -/
def StrP (m : List UInt8) (w : World) (e : Ending) (w' : World) : Prop :=
  ∃ v blk n, e = .returned (.agg (strC v blk n).toArray) ∧ (n = m.length ∧ Sha.Str Sha.consts m v blk) ∧ Below w.heap.size w w'
theorem hsBegin_p (w : World) (ht : Tab w) : Calls Tryd.prog 65 #[] w (StrP [] w) :=
  (hsBegin_any w ht).mono fun _ _ ⟨v, blk, he, hs, hb⟩ => ⟨v, blk, 0, he, ⟨rfl, hs⟩, hb⟩
theorem hsAdd_p (m t : List UInt8) (v : Sha.St) (blk : List UInt8) (n : Nat) (w : World) (hs : n = m.length ∧ Sha.Str Sha.consts m v blk) (hm : m.length + t.length ≤ 1099511627776) (ht : Tab w) :
    Calls Tryd.prog 66 #[.agg (strC v blk n).toArray, .string (bstr t)] w (StrP (m ++ t) w) := by
  obtain ⟨rfl, h⟩ := hs
  exact (hsAdd_any m v blk (bstr t) w h (by rw [bstr_size]; exact hm) ht).mono fun _ _ ⟨v, blk, he, hs, hb⟩ => ⟨v, blk, _, he, ⟨rfl, hs⟩, hb⟩
theorem hsSumText_p (m : List UInt8) (v : Sha.St) (blk : List UInt8) (n : Nat) (w : World) (hs : n = m.length ∧ Sha.Str Sha.consts m v blk) (hm : m.length ≤ 1099511627776) (ht : Tab w) :
    Calls Tryd.prog 64 #[.agg (strC v blk n).toArray] w fun e w' => e = .returned (.string (bstr (Sha.sum Sha.consts m))) ∧ Below w.heap.size w w' := by
  obtain ⟨rfl, h⟩ := hs
  exact hsSumText_any m v blk w h hm ht
theorem hsSSum_p (m : List UInt8) (v : Sha.St) (blk : List UInt8) (n : Nat) (w : World) (hs : n = m.length ∧ Sha.Str Sha.consts m v blk) (hm : m.length ≤ 1099511627776) (ht : Tab w) :
    Calls Tryd.prog 72 #[.agg (strC v blk n).toArray] w fun e w' => e = .returned (.agg ((Sha.sum Sha.consts m).map bv).toArray) ∧ Below w.heap.size w w' := by
  obtain ⟨rfl, h⟩ := hs
  exact hsSSum_any m v blk w h hm ht
theorem hsMasked_p (k : List UInt8) (p : UInt8) (w : World) (hk : k.length ≤ 64) :
    Calls Tryd.prog 67 #[.string (bstr k), .int .u8 (p.toNat : Int)] w fun e w' => e = .returned (.string (bstr (Sha.key Sha.consts k p))) ∧ Below w.heap.size w w' :=
  hsMasked_any (bstr k) p w (by rw [bstr_size]; exact hk)

/-- the key that is used -/
def KeyP (key : List UInt8) (w : World) (s : Value) (wx : World) : Prop :=
  ∃ k : List UInt8, s = .string (bstr k) ∧ (k.length ≤ 64 ∧ ∀ p, Sha.key Sha.consts key p = Sha.key Sha.consts k p) ∧ Below w.heap.size w wx

set_option maxRecDepth 1000000 in
set_option maxHeartbeats 1000000 in
theorem hsMac_any (key text : List UInt8) (w : World) (hk : key.length ≤ 1000000) (ht : text.length ≤ 1000000) (hT : Tab w) :
    Calls Tryd.prog 52 #[.string (bstr key), .string (bstr text)] w fun e w' => e = .returned (.string (bstr (Sha.mac Sha.consts key text))) ∧ Below w.heap.size w w' := by
  have hks : (bstr key).size = key.length := bstr_size key
  obtain ⟨R, hR⟩ : ∃ x, x = Sha.mac Sha.consts key text := ⟨_, rfl⟩
  rw [← hR]
  have HR := Lib.hid hR
  have HT := Lib.hid hT
  have HT2 := Lib.hid ht
  have HK2 := Lib.hid hk
  clear hR hT ht
  go_enter Tryd.func52, Tryd.ntmps52
  go_upto_if 8 with fail
  clear hks
  go_cut [0] (fun s0 wx => KeyP key w s0 wx)
  case first =>
    by_cases h64 : 64 < key.length
    · have hd : decide ((64 : Int) < (key.length : Int)) = true := by simp; omega
      go_wp2_with fail
      refine (hsBegin_p w HT.out).mono ?_
      rintro e w1 ⟨v1, b1, n1, rfl, s1, h1⟩
      have S1 := Lib.hid s1
      have B1 := Lib.hid h1
      clear s1 h1
      go_wp2_with fail
      refine (hsAdd_p [] key v1 b1 n1 w1 S1.out (by simp; omega) (HT.out.below B1.out)).mono ?_
      rintro e w2 ⟨v2, b2, n2, rfl, s2, h2⟩
      have S2 := Lib.hid s2
      have B2 := Lib.hid (B1.out.trans (h2.mono B1.out.size))
      clear s2 h2
      go_wp2_with fail
      refine (hsSumText_p ([] ++ key) v2 b2 n2 w2 S2.out (by simp; omega) (HT.out.below B2.out)).mono ?_
      rintro e w3 ⟨rfl, h3⟩
      have B3 := Lib.hid (B2.out.trans (h3.mono B2.out.size))
      clear h3
      go_wp2_with fail
      go_meet
      exact ⟨_, rfl, ⟨by rw [Sha.sum_len]; omega, fun p => Sha.key_long _ _ _ h64⟩, B3.out⟩
    · have hd : decide ((64 : Int) < (key.length : Int)) = false := by simp; omega
      go_wp2_with fail
      go_meet
      exact ⟨key, rfl, ⟨by omega, fun p => rfl⟩, Below.refl _ _⟩
  case rest =>
    obtain ⟨k, rfl, ⟨hk64, hkey⟩, hb⟩ := hcut
    have hkl1 := Sha.key_len Sha.consts k 0x36
    have hkl2 := Sha.key_len Sha.consts k 0x5c
    have M1 := Lib.hid (fun W : World => hsMasked_p k 0x36 W hk64)
    have M2 := Lib.hid (fun W : World => hsMasked_p k 0x5c W hk64)
    have hm : R = Sha.sum Sha.consts (Sha.key Sha.consts k 0x5c ++ Sha.sum Sha.consts (Sha.key Sha.consts k 0x36 ++ text)) := by
      rw [HR.out, Sha.mac, hkey, hkey]
    have hsl := Sha.sum_len Sha.consts (Sha.key Sha.consts k 0x36 ++ text)
    generalize Sha.key Sha.consts k 0x36 = K1 at *
    generalize Sha.key Sha.consts k 0x5c = K2 at *
    have HM := Lib.hid hm
    have B0 := Lib.hid hb
    have L1 := Lib.hid hkl1
    have L2 := Lib.hid hkl2
    have L3 := Lib.hid hsl
    clear hm hb hkl1 hkl2 hkey hsl hk64
    go_wp2_with fail
    refine (hsBegin_p wc (HT.out.below B0.out)).mono ?_
    rintro e w1 ⟨v1, b1, n1, rfl, s1, h1⟩
    have S1 := Lib.hid s1
    have B1 := Lib.hid (B0.out.trans (h1.mono B0.out.size))
    clear s1 h1
    go_wp2_with fail
    refine (M1.out w1).mono ?_
    rintro e w2 ⟨rfl, h2⟩
    have B2 := Lib.hid (B1.out.trans (h2.mono B1.out.size))
    clear h2
    go_wp2_with fail
    refine (hsAdd_p [] K1 v1 b1 n1 w2 S1.out (by rw [L1.out]; simp) (HT.out.below B2.out)).mono ?_
    rintro e w3 ⟨v3, b3, n3, rfl, s3, h3⟩
    have S3 := Lib.hid s3
    have B3 := Lib.hid (B2.out.trans (h3.mono B2.out.size))
    clear s3 h3
    go_wp2_with fail
    refine (hsAdd_p ([] ++ K1) text v3 b3 n3 w3 S3.out (by rw [List.nil_append, L1.out]; have := HT2.out; omega) (HT.out.below B3.out)).mono ?_
    rintro e w4 ⟨v4, b4, n4, rfl, s4, h4⟩
    have S4 := Lib.hid s4
    have B4 := Lib.hid (B3.out.trans (h4.mono B3.out.size))
    clear s4 h4
    go_wp2_with fail
    refine (hsSumText_p ([] ++ K1 ++ text) v4 b4 n4 w4 S4.out (by rw [List.nil_append, List.length_append, L1.out]; have := HT2.out; omega) (HT.out.below B4.out)).mono ?_
    rintro e w5 ⟨rfl, h5⟩
    have B5 := Lib.hid (B4.out.trans (h5.mono B4.out.size))
    clear h5
    rw [List.nil_append]
    generalize Sha.sum Sha.consts (K1 ++ text) = I1 at *
    go_wp2_with fail
    refine (hsBegin_p w5 (HT.out.below B5.out)).mono ?_
    rintro e w6 ⟨v6, b6, n6, rfl, s6, h6⟩
    have S6 := Lib.hid s6
    have B6 := Lib.hid (B5.out.trans (h6.mono B5.out.size))
    clear s6 h6
    go_wp2_with fail
    refine (M2.out w6).mono ?_
    rintro e w7 ⟨rfl, h7⟩
    have B7 := Lib.hid (B6.out.trans (h7.mono B6.out.size))
    clear h7
    go_wp2_with fail
    refine (hsAdd_p [] K2 v6 b6 n6 w7 S6.out (by rw [L2.out]; simp) (HT.out.below B7.out)).mono ?_
    rintro e w8 ⟨v8, b8, n8, rfl, s8, h8⟩
    have S8 := Lib.hid s8
    have B8 := Lib.hid (B7.out.trans (h8.mono B7.out.size))
    clear s8 h8
    go_wp2_with fail
    refine (hsAdd_p ([] ++ K2) I1 v8 b8 n8 w8 S8.out (by rw [List.nil_append, L2.out, L3.out]; omega) (HT.out.below B8.out)).mono ?_
    rintro e w9 ⟨v9, b9, n9, rfl, s9, h9⟩
    have S9 := Lib.hid s9
    have B9 := Lib.hid (B8.out.trans (h9.mono B8.out.size))
    clear s9 h9
    go_wp2_with fail
    refine (hsSumText_p ([] ++ K2 ++ I1) v9 b9 n9 w9 S9.out (by rw [List.nil_append, List.length_append, L2.out, L3.out]; omega) (HT.out.below B9.out)).mono ?_
    rintro e w10 ⟨rfl, h10⟩
    have B10 := Lib.hid (B9.out.trans (h10.mono B9.out.size))
    clear h10
    go_wp2_with fail
    go_ret
    exact ⟨by rw [HM.out]; rfl, B10.out⟩

end Go.Proofs.YtdbdlhgkhnenfaaDoor
/-
  Contracts of package hash: equality.
-/
namespace Go.Proofs.YtdbdlhgkhnenfaaDoor
open Go.RowKit

theorem u8_or (a b : UInt8) : bits .or .u8 (a.toNat : Int) (b.toNat : Int) = ((a ||| b).toNat : Int) := by
  show IntKind.u8.wrap ((BitVec.ofInt 8 (a.toNat : Int) ||| BitVec.ofInt 8 (b.toNat : Int)).toNat : Int) = _
  have e : ∀ x : UInt8, BitVec.ofInt 8 (x.toNat : Int) = x.toBitVec := by
    intro x
    apply BitVec.eq_of_toNat_eq
    rw [BitVec.toNat_ofInt]
    have := x.toNat_lt
    show ((x.toNat : Int) % 256).toNat = x.toNat
    omega
  rw [e, e]
  have h := (a ||| b).toNat_lt
  have h2 : (a.toBitVec ||| b.toBitVec).toNat = (a ||| b).toNat := rfl
  rw [h2]
  generalize (a ||| b).toNat = z at h ⊢
  simp [IntKind.wrap, IntKind.signed, IntKind.bits]
  omega

theorem bstr_get (l : List UInt8) (k : Nat) (h : k < (bstr l).size) : (bstr l)[k] = l.getD k 0 := by
  have h2 : k < l.length := by rw [← bstr_size]; exact h
  rw [List.getD_eq_getElem?_getD, List.getElem?_eq_getElem h2]
  rfl

/-- the bits in which the first k bytes differ -/
def dif (a b : List UInt8) : Nat → UInt8
  | 0 => 0
  | k + 1 => dif a b k ||| (a.getD k 0 ^^^ b.getD k 0)
theorem dif_zero (a b : List UInt8) : ∀ k, dif a b k = 0 ↔ ∀ i, i < k → a.getD i 0 = b.getD i 0
  | 0 => by simp [dif]
  | k + 1 => by
    rw [dif, UInt8.or_eq_zero_iff, dif_zero a b k, UInt8.xor_eq_zero_iff]
    constructor
    · rintro ⟨h1, h2⟩ i hi
      by_cases h : i = k
      · subst h; exact h2
      · exact h1 i (by omega)
    · intro h
      exact ⟨fun i hi => h i (by omega), h k (by omega)⟩
theorem dif_eq (a b : List UInt8) (h : a.length = b.length) : dif a b a.length = 0 ↔ a = b := by
  rw [dif_zero]
  constructor
  · intro hi
    apply List.ext_getElem h
    intro i h1 h2
    have := hi i h1
    rwa [List.getD_eq_getElem?_getD, List.getElem?_eq_getElem h1, List.getD_eq_getElem?_getD, List.getElem?_eq_getElem h2] at this
  · rintro rfl i _; rfl

end Go.Proofs.YtdbdlhgkhnenfaaDoor
