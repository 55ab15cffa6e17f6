/-
  Contracts of package hash: the empty stream; a text is added.
-/
import Derived.Test.YtfaadaahpjpfaaaDoorHsf
namespace Go.Proofs.YtfaadaahpjpfaaaDoor
open Go.RowKit
open Sha (wv)

/-- the post of a function that returns a stream with the message m -/
def StrPost (m : List UInt8) (w : World) (e : Ending) (w' : World) : Prop :=
  ∃ v blk, e = .returned (.agg (strC v blk m.length).toArray) ∧ Sha.Str Sha.consts m v blk ∧ Below w.heap.size w w'

def zeroC : Array Value := (strC ⟨0, 0, 0, 0, 0, 0, 0, 0⟩ (List.replicate 64 0) 0).toArray
theorem zero_stream (w : World) : (zeroValue 34).run Tryd.prog w = .ok (.agg zeroC) w := by kernel_rfl
theorem size_stream : (Tryd.prog.info? 34).map (·.size) = some 73 := by kernel_rfl

set_option maxRecDepth 1000000 in
set_option maxHeartbeats 400000 in
theorem hsBegin_any (w : World) (ht : Tab w) : Calls Tryd.prog 14 #[] w (StrPost [] w) := by
  have HT := Lib.hid ht.1
  have hz := zero_stream
  have I8 : (Tryd.prog.info? 30).map (·.size) = some (Sha.first.toList.map wv).length := by kernel_rfl
  have H8 := Lib.hid I8
  have SS := Lib.hid (show (Tryd.prog.info? 34).map (·.size) = some (strC Sha.first (List.replicate 64 0) 0).toArray.size from size_stream)
  have O := Lib.hid (all_oneCell_toArray (strC_one Sha.first (List.replicate 64 0) 0))
  clear ht I8
  go_enter Tryd.func14, Tryd.ntmps14
  go_wp2_with (first | (with_reducible refine wpList_load_mid rfl 30 (.global 1) rfl 1 0 rfl (Sha.first.toList.map wv) _ (World.rangeAt_alloc HT.out _) Tryd.underlying30 rfl H8.out ?_) | (with_reducible refine wpList_buildTo rfl 34 _ rfl _ rfl (strC Sha.first (List.replicate 64 0) 0).toArray (by kernel_rfl) ?_) | (with_reducible refine wpList_store_new w rfl 34 (.tmp 0) (.tmp 2) rfl _ (strC Sha.first (List.replicate 64 0) 0).toArray rfl rfl SS.out (by kernel_rfl) O.out ?_))
  have HR := Lib.hid (Row.newl w (strC Sha.first (List.replicate 64 0) 0) 34)
  refine bodyPost_ret (results_cell_mid rfl _ _ _ w.heap.size 0 (strC Sha.first (List.replicate 64 0) 0) _ rfl HR.out.range Tryd.underlying34 rfl SS.out) rfl ?_
  exact ⟨Sha.first, List.replicate 64 0, rfl, Sha.Str.begin _, (Below.refl _ _).alloc (Nat.le_refl _) _⟩

end Go.Proofs.YtfaadaahpjpfaaaDoor
