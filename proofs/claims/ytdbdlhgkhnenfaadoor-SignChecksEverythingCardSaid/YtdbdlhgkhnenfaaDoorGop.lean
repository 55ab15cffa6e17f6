/-
  From the row's condition to the tables of package hash.
-/
import Derived.Test.YtdbdlhgkhnenfaaDoorRows
import Derived.Test.YtdbdlhgkhnenfaaDoorGa
import Derived.Test.YtdbdlhgkhnenfaaDoorGh
import Derived.Test.YtdbdlhgkhnenfaaDoorGg
import Derived.ProofKit
import Derived.OpenShut
import Derived.ShutString
import Derived.ChangeOld
import Derived.SizedLaws
import Derived.LaidMore
import Derived.Stop.Joined
import Derived.Lib.LaidTab
import Derived.Stop.LaidErr
namespace Go.Proofs.YtdbdlhgkhnenfaaDoor
open Go.RowKit

def startZ : List Int := Sha.first.toList.map fun x => (x.toNat : Int)
def constZ : List Int := Sha.consts.map fun x => (x.toNat : Int)
theorem start_data : Rows.laid_voxel_hash_start (H := Unit) = Lib.tabData .u32 startZ := by kernel_rfl
theorem round_data : Rows.laid_voxel_hash_roundWords (H := Unit) = Lib.tabData .u32 constZ := by kernel_rfl
theorem const_data : Rows.laid_voxel_voxelref02_constants (H := Unit) = Lib.tabData .u32 constZ := by kernel_rfl

theorem range_of_tab {W : World} {name : String} {ws : List (BitVec 32)} {g : Nat} (h : Lib.TabIs Tryd.prog W name .u32 (ws.map fun x => (x.toNat : Int))) (hg : Tryd.prog.globalNamed name = some g) : W.rangeAt g 0 (ws.map Sha.wv) := by
  intro j v hj
  rw [Nat.zero_add]
  have h1 := World.var?_cell hg h j
  rw [h1]
  rw [List.getElem?_map] at hj
  simpa using hj

theorem gR : Tryd.prog.globalNamed "voxel/voxelref02.constants" = some 1 := by kernel_rfl
theorem gS : Tryd.prog.globalNamed "voxel/hash.start" = some 0 := by kernel_rfl
theorem gW : Tryd.prog.globalNamed "voxel/hash.roundWords" = some 2 := by kernel_rfl

theorem tab_of_laid2 {W : World} (h : laidMetH Tryd.prog [("voxel/hash.start", Rows.laid_voxel_hash_start), ("voxel/hash.roundWords", Rows.laid_voxel_hash_roundWords)] W) : Tab W := by
  rw [MakeChecks.laidMetH_plain _ _ _ (by kernel_rfl)] at h
  rw [start_data, round_data] at h
  exact ⟨range_of_tab (Lib.tabIs_of_head gS (t := 87) (by kernel_rfl) Tryd.underlying87 Tryd.underlying86 (by kernel_rfl) (by kernel_rfl) h) gS,
    range_of_tab (Lib.tabIs_of_head gW (t := 102) (by kernel_rfl) Tryd.underlying102 Tryd.underlying86 (by kernel_rfl) (by kernel_rfl) h.tail) gW⟩
theorem tab_of_laid3 {W : World} (h : laidMetH Tryd.prog [("voxel/voxelref02.constants", Rows.laid_voxel_voxelref02_constants), ("voxel/hash.start", Rows.laid_voxel_hash_start), ("voxel/hash.roundWords", Rows.laid_voxel_hash_roundWords)] W) : Tab W ∧ TabR W := by
  rw [MakeChecks.laidMetH_plain _ _ _ (by kernel_rfl)] at h
  rw [start_data, round_data, const_data] at h
  exact ⟨⟨range_of_tab (Lib.tabIs_of_head gS (t := 87) (by kernel_rfl) Tryd.underlying87 Tryd.underlying86 (by kernel_rfl) (by kernel_rfl) h.tail) gS,
    range_of_tab (Lib.tabIs_of_head gW (t := 102) (by kernel_rfl) Tryd.underlying102 Tryd.underlying86 (by kernel_rfl) (by kernel_rfl) h.tail.tail) gW⟩,
    range_of_tab (Lib.tabIs_of_head gR (t := 102) (by kernel_rfl) Tryd.underlying102 Tryd.underlying86 (by kernel_rfl) (by kernel_rfl) h) gR⟩

end Go.Proofs.YtdbdlhgkhnenfaaDoor
/-
  A digest that comes in, opened; numbers of two bytes.
-/
namespace Go.Proofs.YtdbdlhgkhnenfaaDoor
open Go.ChangeShapes Go.WideShapes Go.ChangeAt Go.RowKit

theorem u16_wf {z : Int} (h : (Lit.int .u16 z).wf = true) : 0 ≤ z ∧ z < 65536 := by
  simp only [Lit.wf, Bool.and_eq_true, decide_eq_true_eq] at h
  have h1 : IntKind.u16.min = 0 := rfl
  have h2 : IntKind.u16.max = 65535 := rfl
  omega

section
variable {H : Type} {enc : TypeId × Value → H} {P : Program} {W : World} {T E : TypeId} {v : Value} {d : DataW H} {ps : List MemPlace}

theorem open_dig (hd : DataW.Trod enc P W 0 (fun _ => true) true T v d ps) (hT : P.underlying T = some (.array 16 E)) (hE : P.underlying E = some (.int .u8)) (hc : P.cellsOf E = 1) (hc2 : P.cellsOf T = 16) :
    ∃ l : List UInt8, l.length = 16 ∧ v = .agg (l.map bv).toArray := by
  obtain ⟨fuel, hf⟩ := hd
  obtain ⟨xs, m, _, _, hl, hxl, hall⟩ := DataW.trod_array hT hf
  rw [hc2] at hl
  have hcell : ∀ i, i < 16 → ∃ z : Int, v.cells.toList[i]? = some (.int .u8 z) ∧ (Lit.int .u8 z).wf = true := by
    intro i hi
    have h0 := hall i hi
    obtain ⟨y, hy⟩ : ∃ y, xs[i]? = some y := ⟨xs[i], List.getElem?_eq_getElem (by omega)⟩
    rw [hc, hy, Nat.mul_one] at h0
    obtain ⟨a, ha, _, wa⟩ := DataW.trod_int hE h0
    refine ⟨a, ?_, wa⟩
    have h2 : ((v.cells.toList.drop i).take 1)[0]? = some (.int .u8 a) := by rw [ha]; rfl
    rw [List.getElem?_take_of_lt (by omega), List.getElem?_drop, Nat.add_zero] at h2
    exact h2
  obtain ⟨l, hll, hcells⟩ : ∃ l : List UInt8, l.length = 16 ∧ v.cells.toList = l.map bv := by
    refine ⟨v.cells.toList.map (fun x => match x with | .int _ z => UInt8.ofNat z.toNat | _ => 0), by rw [List.length_map, hl], ?_⟩
    apply List.ext_getElem?
    intro i
    by_cases hi : i < 16
    · obtain ⟨z, hz, wz⟩ := hcell i hi
      have := u8_wf wz
      rw [List.getElem?_map, List.getElem?_map, hz]
      simp only [Option.map_some]
      have h8 : (UInt8.ofNat z.toNat).toNat = z.toNat := by simp [Nat.mod_eq_of_lt (show z.toNat < 256 by omega)]
      unfold bv
      rw [h8, Int.toNat_of_nonneg this.1]
    · rw [List.getElem?_eq_none (by omega), List.getElem?_eq_none (by rw [List.length_map, List.length_map, hl]; omega)]
  refine ⟨l, hll, ?_⟩
  cases v with
  | agg cs =>
    have h2 : cs.toList = l.map bv := hcells
    congr 1
    exact Array.ext' (by simpa using h2)
  | _ => simp [Value.cells] at hl
end

end Go.Proofs.YtdbdlhgkhnenfaaDoor
