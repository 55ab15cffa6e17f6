/-
  From the row's condition to the tables of package hash.
-/
import Derived.Test.YtfaadaahpjpfaaaDoorRows
import Derived.Test.YtfaadaahpjpfaaaDoorBased
import Derived.Test.YtfaadaahpjpfaaaDoorHtab
import Derived.Test.YtfaadaahpjpfaaaDoorSanh
import Derived.ProofKit
import Derived.OpenShut
import Derived.ShutString
import Derived.ChangeOld
import Derived.SizedLaws
import Derived.LaidMore
import Derived.Stop.Joined
import Derived.Lib.LaidTab
import Derived.Stop.LaidErr
namespace Go.Proofs.YtfaadaahpjpfaaaDoor
open Go.RowKit

def startZ : List Int := Sha.first.toList.map fun x => (x.toNat : Int)
def constZ : List Int := Sha.consts.map fun x => (x.toNat : Int)
theorem start_data : Rows.laid_voxel_hash_start (H := Unit) = Lib.tabData .u32 startZ := by kernel_rfl
theorem round_data : Rows.laid_voxel_hash_roundWords (H := Unit) = Lib.tabData .u32 constZ := by kernel_rfl
theorem const_data : Rows.laid_voxel_voxelref02_constants (H := Unit) = Lib.tabData .u32 constZ := by kernel_rfl

theorem range_of_tab {W : World} {name : String} {ws : List (BitVec 32)} {g : Nat} (h : Lib.TabIs Tryd.prog W name .u32 (ws.map fun x => (x.toNat : Int))) (hg : Tryd.prog.globalNamed name = some g) : W.rangeAt g 0 (ws.map Sha.wv) := by
  intro j v hj
  rw [Nat.zero_add]
  have h1 := World.var?_cell hg h j
  rw [h1]
  rw [List.getElem?_map] at hj
  simpa using hj

theorem gR : Tryd.prog.globalNamed "voxel/voxelref02.constants" = some 0 := by kernel_rfl
theorem gS : Tryd.prog.globalNamed "voxel/hash.start" = some 1 := by kernel_rfl
theorem gW : Tryd.prog.globalNamed "voxel/hash.roundWords" = some 2 := by kernel_rfl

theorem tab_of_laid2 {W : World} (h : laidMetH Tryd.prog [("voxel/hash.start", Rows.laid_voxel_hash_start), ("voxel/hash.roundWords", Rows.laid_voxel_hash_roundWords)] W) : Tab W := by
  rw [MakeChecks.laidMetH_plain _ _ _ (by kernel_rfl)] at h
  rw [start_data, round_data] at h
  exact ⟨range_of_tab (Lib.tabIs_of_head gS (t := 30) (by kernel_rfl) Tryd.underlying30 Tryd.underlying29 (by kernel_rfl) (by kernel_rfl) h) gS,
    range_of_tab (Lib.tabIs_of_head gW (t := 54) (by kernel_rfl) Tryd.underlying54 Tryd.underlying29 (by kernel_rfl) (by kernel_rfl) h.tail) gW⟩
theorem tab_of_laid3 {W : World} (h : laidMetH Tryd.prog [("voxel/voxelref02.constants", Rows.laid_voxel_voxelref02_constants), ("voxel/hash.start", Rows.laid_voxel_hash_start), ("voxel/hash.roundWords", Rows.laid_voxel_hash_roundWords)] W) : Tab W ∧ TabR W := by
  rw [MakeChecks.laidMetH_plain _ _ _ (by kernel_rfl)] at h
  rw [start_data, round_data, const_data] at h
  exact ⟨⟨range_of_tab (Lib.tabIs_of_head gS (t := 30) (by kernel_rfl) Tryd.underlying30 Tryd.underlying29 (by kernel_rfl) (by kernel_rfl) h.tail) gS,
    range_of_tab (Lib.tabIs_of_head gW (t := 54) (by kernel_rfl) Tryd.underlying54 Tryd.underlying29 (by kernel_rfl) (by kernel_rfl) h.tail.tail) gW⟩,
    range_of_tab (Lib.tabIs_of_head gR (t := 54) (by kernel_rfl) Tryd.underlying54 Tryd.underlying29 (by kernel_rfl) (by kernel_rfl) h) gR⟩

end Go.Proofs.YtfaadaahpjpfaaaDoor
