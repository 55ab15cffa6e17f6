/-
  Package hash: how a stream lies in memory; laws on copy of a string.
-/
import Derived.Test.YtfaadaahpjpfaaaDoorHse
import Derived.Lib.SliceRun
namespace Go.Proofs.YtfaadaahpjpfaaaDoor
open Go.RowKit
open Sha (wv)

/-- the cells of a stream -/
def strC (v : Sha.St) (blk : List UInt8) (n : Nat) : List Value := v.cells.toList ++ (blk.map bv ++ [.int .u64 (n : Int)])
theorem strC_len (v : Sha.St) (blk : List UInt8) (n : Nat) (h : blk.length = 64) : (strC v blk n).length = 73 := by
  unfold strC Sha.St.cells
  simp [h]
theorem cells_len (v : Sha.St) : v.cells.toList.length = 8 := rfl
theorem strC_one (v : Sha.St) (blk : List UInt8) (n : Nat) : ∀ x ∈ strC v blk n, x.oneCell' = true := by
  intro x hx
  unfold strC Sha.St.cells at hx
  simp only [List.mem_append, List.mem_cons, List.not_mem_nil, or_false, List.mem_map] at hx
  rcases hx with (rfl | rfl | rfl | rfl | rfl | rfl | rfl | rfl) | ⟨c, _, rfl⟩ | rfl <;> rfl
theorem strC_copy (v : Sha.St) (blk t : List UInt8) (n r : Nat) (h : blk.length = 64) (hr : r + t.length ≤ 64) :
    (strC v blk n).take (8 + r) ++ t.map bv ++ (strC v blk n).drop (8 + r + (t.map bv).length) = strC v (blk.take r ++ t ++ blk.drop (r + t.length)) n := by
  unfold strC
  have hA := cells_len v
  have e1 : (v.cells.toList ++ (blk.map bv ++ [Value.int .u64 (n : Int)])).take (8 + r) = v.cells.toList ++ (blk.take r).map bv := by
    rw [← hA, List.take_length_add_append, List.take_append_of_le_length (by rw [List.length_map]; omega), List.map_take]
  have e2 : (v.cells.toList ++ (blk.map bv ++ [Value.int .u64 (n : Int)])).drop (8 + r + (t.map bv).length) = (blk.drop (r + t.length)).map bv ++ [Value.int .u64 (n : Int)] := by
    rw [List.length_map, show 8 + r + t.length = v.cells.toList.length + (r + t.length) by rw [hA]; omega, List.drop_length_add_append, List.drop_append_of_le_length (by rw [List.length_map]; omega), List.map_drop]
  rw [e1, e2]
  simp
theorem strC_length (v : Sha.St) (blk : List UInt8) (n n' : Nat) (h : blk.length = 64) : (strC v blk n).set 72 (.int .u64 (n' : Int)) = strC v blk n' := by
  unfold strC
  have hA := cells_len v
  rw [List.set_append_right _ _ (by omega), List.set_append_right _ _ (by rw [List.length_map]; omega), hA, List.length_map, h]
  rfl
theorem strC_value (v v' : Sha.St) (blk : List UInt8) (n : Nat) : (strC v blk n).take 0 ++ v'.cells.toList ++ (strC v blk n).drop (0 + v'.cells.toList.length) = strC v' blk n := by
  unfold strC
  rw [List.take_zero, List.nil_append, Nat.zero_add, cells_len v', ← cells_len v, List.drop_left]
theorem Row.value {g : Nat} {v : Sha.St} {blk : List UInt8} {n : Nat} {w : World} (h : Row g (strC v blk n) w) : w.rangeAt g 0 v.cells.toList := by
  refine Row.sub h 0 _ (fun j hj => ?_)
  unfold strC
  rw [Nat.zero_add, List.getElem?_append_left hj]
theorem Row.blk {g : Nat} {v : Sha.St} {blk : List UInt8} {n : Nat} {w : World} (h : Row g (strC v blk n) w) : w.rangeAt g 8 (blk.map bv) := by
  refine Row.sub h 8 _ (fun j hj => ?_)
  unfold strC
  have hA := cells_len v
  rw [List.getElem?_append_right (by omega), hA, Nat.add_sub_cancel_left, List.getElem?_append_left hj]
theorem Row.length {g : Nat} {v : Sha.St} {blk : List UInt8} {n : Nat} {w : World} (h : Row g (strC v blk n) w) (hl : blk.length = 64) : w.cell? ⟨g, 72, none⟩ = some (.int .u64 (n : Int)) ∧ w.frozen? ⟨g, 72, none⟩ = false := by
  refine h 72 _ ?_
  unfold strC
  have hA := cells_len v
  rw [List.getElem?_append_right (by omega), hA, List.getElem?_append_right (by rw [List.length_map]; omega), List.length_map, hl]
  rfl

theorem run_copy_str {P : Program} (w : World) (dT sT ty e : TypeId) (hu : P.underlying dT = some (.slice e)) (hi : (P.info? e).map (·.size) = some 1) (b o dLen dCap : Nat) (s : ByteArray) (n : Nat) (hn : n = min s.size dLen) (ht : w.there b o n) :
    (Builtin.copy_ #[dT, sT] ty #[.slice (some ⟨b, o, none⟩) dLen dCap, .string s]).run P w = .ok (.int .i64 (n : Int)) (w.setCells b o ((s.data.toList.take n).map bv)) := by
  have hl : ((s.data.toList.take n).map bv).length = n := by
    rw [List.length_map, List.length_take, ba_len]; omega
  have hst := run_storeCells_cells (P := P) b o ((s.data.toList.take n).map bv) 0 w (fun j hj => by simpa using (ht j (by omega)).1) (fun j hj => by simpa using (ht j (by omega)).2) (bvs_one _)
  cases hq : P.info? e with
  | none => simp [hq] at hi
  | some i =>
    have hm : Nat.min s.size dLen = n := hn.symm
    have hst2 : (storeCells ⟨b, o, none⟩ (List.take n (List.map (fun b : UInt8 => Value.int .u8 (b.toNat : Int)) s.data.toList))).run P w = .ok () (w.setCells b o (List.take n (List.map bv s.data.toList))) := by
      rw [Nat.add_zero, List.map_take] at hst
      exact hst
    simp [Builtin.copy_, run_underlying hu, Builtin.lenOf, Builtin.firstCells, sizeOf, typeInfo, hq, hm, hst2, goInt]

end Go.Proofs.YtfaadaahpjpfaaaDoor
