/-
  Package hash: the cells of a stream that ends; laws.
-/
import Derived.Test.YtfaadaahpjpfaaaDoorHsh
namespace Go.Proofs.YtfaadaahpjpfaaaDoor
open Go.RowKit
open Sha (wv)

theorem idx0 (w : World) (f : Sha.St) : (Instr.index 30 (.agg f.cells) (.int .i64 0)).run Tryd.prog w = .ok (wv f.a) w := by kernel_rfl
theorem idx1 (w : World) (f : Sha.St) : (Instr.index 30 (.agg f.cells) (.int .i64 1)).run Tryd.prog w = .ok (wv f.b) w := by kernel_rfl
theorem idx2 (w : World) (f : Sha.St) : (Instr.index 30 (.agg f.cells) (.int .i64 2)).run Tryd.prog w = .ok (wv f.c) w := by kernel_rfl
theorem idx3 (w : World) (f : Sha.St) : (Instr.index 30 (.agg f.cells) (.int .i64 3)).run Tryd.prog w = .ok (wv f.d) w := by kernel_rfl
theorem idx4 (w : World) (f : Sha.St) : (Instr.index 30 (.agg f.cells) (.int .i64 4)).run Tryd.prog w = .ok (wv f.e) w := by kernel_rfl
theorem idx5 (w : World) (f : Sha.St) : (Instr.index 30 (.agg f.cells) (.int .i64 5)).run Tryd.prog w = .ok (wv f.f) w := by kernel_rfl
theorem idx6 (w : World) (f : Sha.St) : (Instr.index 30 (.agg f.cells) (.int .i64 6)).run Tryd.prog w = .ok (wv f.g) w := by kernel_rfl
theorem idx7 (w : World) (f : Sha.St) : (Instr.index 30 (.agg f.cells) (.int .i64 7)).run Tryd.prog w = .ok (wv f.h) w := by kernel_rfl
theorem run_index_st (w : World) (f : Sha.St) (k : Nat) (hk : k < 8) : (Instr.index 30 (.agg f.cells) (.int .i64 (k : Int))).run Tryd.prog w = .ok (wv (f.toList.getD k 0)) w :=
  match k, hk with
  | 0, _ => idx0 w f
  | 1, _ => idx1 w f
  | 2, _ => idx2 w f
  | 3, _ => idx3 w f
  | 4, _ => idx4 w f
  | 5, _ => idx5 w f
  | 6, _ => idx6 w f
  | 7, _ => idx7 w f

theorem blk_end (blk : List UInt8) (r : Nat) (h : blk.length = 64) (hr : r < 64) :
    (blk.take r ++ [128] ++ blk.drop (r + 1)).take (r + 1) ++ List.replicate (63 - r) 0 ++ (blk.take r ++ [128] ++ blk.drop (r + 1)).drop (r + 1 + (List.replicate (63 - r) (0 : UInt8)).length) = blk.take r ++ (128 :: List.replicate (63 - r) 0) := by
  have h1 : (blk.take r ++ [128]).length = r + 1 := by rw [List.length_append, List.length_take, h]; simp; omega
  have h2 : (blk.take r ++ [128] ++ blk.drop (r + 1)).length = 64 := by rw [List.length_append, h1, List.length_drop, h]; omega
  have e1 : (blk.take r ++ [128] ++ blk.drop (r + 1)).drop (r + 1 + (List.replicate (63 - r) (0 : UInt8)).length) = [] := List.drop_of_length_le (by rw [h2, List.length_replicate]; omega)
  have e2 : (blk.take r ++ [128] ++ blk.drop (r + 1)).take (r + 1) = blk.take r ++ [128] := by rw [← h1, List.take_left]
  rw [e1, e2]
  simp

/-- a block whose last eight bytes are the length -/
theorem blk_len8 (bb : List UInt8) (a b : List UInt8) (h : bb.length = 64) (ha : a.length = 4) (hb : b.length = 4) :
    ((bb.take 56 ++ a ++ bb.drop (56 + a.length)).take 60 ++ b ++ (bb.take 56 ++ a ++ bb.drop (56 + a.length)).drop (60 + b.length)) = bb.take 56 ++ (a ++ b) := by
  have h1 : (bb.take 56 ++ a).length = 60 := by rw [List.length_append, List.length_take, h, ha]; omega
  have h2 : (bb.take 56 ++ a ++ bb.drop (56 + a.length)).length = 64 := by rw [List.length_append, h1, List.length_drop, h, ha]
  have e1 : (bb.take 56 ++ a ++ bb.drop (56 + a.length)).drop (60 + b.length) = [] := List.drop_of_length_le (by rw [h2, hb]; omega)
  have e2 : (bb.take 56 ++ a ++ bb.drop (56 + a.length)).take 60 = bb.take 56 ++ a := by rw [← h1, List.take_left]
  rw [e1, e2]
  simp

theorem out_step (f : Sha.St) (k : Nat) (hk : k < 8) : f.out.take (4 * (k + 1)) = f.out.take (4 * k) ++ Sha.bytesOf (f.toList.getD k 0) := by
  match k, hk with
  | 0, _ => rfl
  | 1, _ => rfl
  | 2, _ => rfl
  | 3, _ => rfl
  | 4, _ => rfl
  | 5, _ => rfl
  | 6, _ => rfl
  | 7, _ => rfl

def fill32 (l : List UInt8) : List Value := l.map bv ++ List.replicate (32 - l.length) (Value.int .u8 0)
theorem fill32_len (l : List UInt8) (h : l.length ≤ 32) : (fill32 l).length = 32 := by
  unfold fill32; rw [List.length_append, List.length_map, List.length_replicate]; omega
theorem fill32_step (l a : List UInt8) : (fill32 l).take l.length ++ a.map bv ++ (fill32 l).drop (l.length + (a.map bv).length) = fill32 (l ++ a) := by
  unfold fill32
  have e : l.length = (l.map bv).length := (List.length_map _).symm
  have e1 : (l.map bv ++ List.replicate (32 - l.length) (Value.int .u8 0)).take l.length = l.map bv := by rw [e, List.take_left]
  have e2 : (l.map bv ++ List.replicate (32 - l.length) (Value.int .u8 0)).drop (l.length + (a.map bv).length) = List.replicate (32 - (l ++ a).length) (Value.int .u8 0) := by
    conv => lhs; rw [e]
    rw [List.drop_length_add_append, List.drop_replicate, List.length_map, List.length_map, List.length_append]
    congr 1; omega
  rw [e1, e2, List.map_append]
theorem fill32_full (l : List UInt8) (h : l.length = 32) : fill32 l = l.map bv := by unfold fill32; rw [h]; simp

theorem hsPutWord_int (x : BitVec 32) (z : Int) (hz : z = (x.toNat : Int)) (g o n c : Nat) (w : World) (hn : 4 ≤ n) (ht : w.there g o 4) :
    Calls Tryd.prog 31 #[.slice (some ⟨g, o, none⟩) n c, .int .u32 z] w fun e w' => e = .returned (.tuple #[]) ∧ w' = w.setCells g o ((Sha.bytesOf x).map bv) := by
  subst hz; exact hsPutWord_any x g o n c w hn ht

end Go.Proofs.YtfaadaahpjpfaaaDoor
