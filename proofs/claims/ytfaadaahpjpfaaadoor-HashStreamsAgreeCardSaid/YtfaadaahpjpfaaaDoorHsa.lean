/-
  Contracts of package hash: rotations.
-/
import Derived.Test.YtfaadaahpjpfaaaDoorChecked
import Derived.Test.YtfaadaahpjpfaaaDoorBasec
import Derived.Test.YtfaadaahpjpfaaaDoorShaMathb
import Derived.IntWalk
namespace Go.Proofs.YtfaadaahpjpfaaaDoor
open Go.RowKit
open Sha (wv)

set_option maxRecDepth 1000000 in
theorem hsRotl_any (x : BitVec 32) (k : Int) (m : Nat) (w : World) (h1 : 1 ≤ m) (h2 : m ≤ 31) (hm : bits .and .u64 (IntKind.u64.wrap k) 31 = (m : Int)) :
    Calls Tryd.prog 45 #[wv x, .int .i64 k] w fun e w' => e = .returned (wv (Sha.rotr x (32 - m))) ∧ w = w' := by
  have h3 : (x.toNat : Int) / 2 ^ (32 - m) = ((x >>> (32 - m)).toNat : Int) := by
    rw [BitVec.toNat_ushiftRight, Nat.shiftRight_eq_div_pow, Int.natCast_ediv, Int.natCast_pow]; rfl
  have h4 : (x.toNat : Int) * 2 ^ m % 4294967296 = ((x <<< m).toNat : Int) := by
    rw [BitVec.toNat_shiftLeft, Nat.shiftLeft_eq, Int.natCast_emod, Int.natCast_mul, Int.natCast_pow]; rfl
  have E := Lib.hid (show bits .or .u32 ((x.toNat : Int) * 2 ^ m % 4294967296) ((x.toNat : Int) / 2 ^ (32 - m)) = ((Sha.rotr x (32 - m)).toNat : Int) by
    rw [h3, h4, Sha.bits_or]
    unfold Sha.rotr
    rw [show 32 - (32 - m) = m by omega, BitVec.or_comm])
  clear h3 h4
  unfold Sha.wv
  go_enter Tryd.func45, Tryd.ntmps45
  go_wp2_with fail
  go_ret
  exact ⟨by rw [← E.out]; rfl, rfl⟩

theorem neg_and : ∀ n : Fin 32, 1 ≤ n.val → bits .and .u64 (IntKind.u64.wrap (-(n.val : Int))) 31 = ((32 - n.val : Nat) : Int) := by decide +kernel

set_option maxRecDepth 1000000 in
theorem hsRotated_any (x : BitVec 32) (n : Nat) (w : World) (h1 : 1 ≤ n) (h2 : n ≤ 31) :
    Calls Tryd.prog 43 #[wv x, .int .i64 (n : Int)] w fun e w' => e = .returned (wv (Sha.rotr x n)) ∧ w = w' := by
  have C := Lib.hid (hsRotl_any x (-(n : Int)) (32 - n) w (by omega) (by omega) (neg_and ⟨n, by omega⟩ h1))
  rw [show 32 - (32 - n) = n by omega] at C
  unfold Sha.wv at C ⊢
  go_enter Tryd.func43, Tryd.ntmps43
  go_wp2_with fail
  refine C.out.mono ?_
  rintro e w1 ⟨rfl, rfl⟩
  go_wp2_with fail
  go_ret
  exact ⟨rfl, rfl⟩

/-- three rotations of a word, combined -/
def turn3 (x : BitVec 32) (i j k : Nat) : BitVec 32 := Sha.rotr x i ^^^ Sha.rotr x j ^^^ Sha.rotr x k

set_option maxRecDepth 1000000 in
theorem hsTurned_any (x : BitVec 32) (i j k : Nat) (w : World) (hi : 1 ≤ i ∧ i ≤ 31) (hj : 1 ≤ j ∧ j ≤ 31) (hk : 1 ≤ k ∧ k ≤ 31) :
    Calls Tryd.prog 39 #[wv x, .int .i64 (i : Int), .int .i64 (j : Int), .int .i64 (k : Int)] w fun e w' => e = .returned (wv (turn3 x i j k)) ∧ w = w' := by
  have C1 := Lib.hid (hsRotated_any x i w hi.1 hi.2)
  have C2 := Lib.hid (hsRotated_any x j w hj.1 hj.2)
  have C3 := Lib.hid (hsRotated_any x k w hk.1 hk.2)
  have E : bits .xor .u32 (bits .xor .u32 ((Sha.rotr x i).toNat : Int) ((Sha.rotr x j).toNat : Int)) ((Sha.rotr x k).toNat : Int) = ((turn3 x i j k).toNat : Int) := by
    rw [Sha.bits_xor, Sha.bits_xor]; rfl
  generalize turn3 x i j k = T at E ⊢
  generalize Sha.rotr x i = a at C1 E
  generalize Sha.rotr x j = b at C2 E
  generalize Sha.rotr x k = c at C3 E
  have EE := Lib.hid E
  clear E hi hj hk
  unfold Sha.wv at C1 C2 C3 ⊢
  go_enter Tryd.func39, Tryd.ntmps39
  go_wp2_with fail
  refine C1.out.mono ?_
  rintro e w1 ⟨rfl, rfl⟩
  go_wp2_with fail
  refine C2.out.mono ?_
  rintro e w1 ⟨rfl, rfl⟩
  go_wp2_with fail
  refine C3.out.mono ?_
  rintro e w1 ⟨rfl, rfl⟩
  go_wp2_with fail
  go_ret
  exact ⟨by rw [← EE.out]; rfl, rfl⟩

end Go.Proofs.YtfaadaahpjpfaaaDoor
