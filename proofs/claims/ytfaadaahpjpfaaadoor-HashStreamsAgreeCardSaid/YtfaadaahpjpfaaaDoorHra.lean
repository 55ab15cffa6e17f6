/-
  Contracts of voxelref02: the small functions.
-/
import Derived.Test.YtfaadaahpjpfaaaDoorChecked
import Derived.Test.YtfaadaahpjpfaaaDoorBasec
import Derived.Test.YtfaadaahpjpfaaaDoorShaMathb
import Derived.Deep.QuietTactic
import Derived.BigQuiet
import Derived.IntWalk
namespace Go.Proofs.YtfaadaahpjpfaaaDoor
open Go.RowKit
open Sha (wv)

set_option maxRecDepth 1000000 in
theorem hrRotr_any (x : BitVec 32) (n : Nat) (w : World) (hn : n ≤ 32) :
    Calls Tryd.prog 29 #[wv x, .int .i64 (n : Int)] w fun e w' => e = .returned (wv (Sha.rotr x n)) ∧ ∃ q, w' = w.drewN q := by
  have E4 : IntKind.i64.wrap (32 - (n : Int)) = 32 - (n : Int) := IntWalk.i64_in _ (by omega)
  have h1 : (x.toNat : Int) / 2 ^ n = ((x >>> n).toNat : Int) := by
    rw [BitVec.toNat_ushiftRight, Nat.shiftRight_eq_div_pow, Int.natCast_ediv, Int.natCast_pow]; rfl
  have h2 : (x.toNat : Int) * 2 ^ (32 - n) % 4294967296 = ((x <<< (32 - n)).toNat : Int) := by
    rw [BitVec.toNat_shiftLeft, Nat.shiftLeft_eq, Int.natCast_emod, Int.natCast_mul, Int.natCast_pow]; rfl
  have E := Lib.hid (show bits .or .u32 ((x.toNat : Int) / 2 ^ n) ((x.toNat : Int) * 2 ^ (32 - n) % 4294967296) = ((Sha.rotr x n).toNat : Int) by
    rw [h1, h2, Sha.bits_or]; rfl)
  clear h1 h2
  unfold Sha.wv
  go_enter Tryd.func29, Tryd.ntmps29
  go_wp2_with fail
  go_quiet (fail)
  go_wp2_with fail
  go_ret
  exact ⟨by rw [← E.out]; rfl, _, rfl⟩

end Go.Proofs.YtfaadaahpjpfaaaDoor
