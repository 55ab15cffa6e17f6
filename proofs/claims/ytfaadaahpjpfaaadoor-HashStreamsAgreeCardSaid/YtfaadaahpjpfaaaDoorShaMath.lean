/-
  Plain mathematics of SHA-256 over words of 32 bits, and how the model's numbers of kind uint32 are words.
-/
import Derived.Test.YtfaadaahpjpfaaaDoorMath
namespace Go.Proofs.YtfaadaahpjpfaaaDoor
namespace Sha

/-- a word as a number of the program -/
abbrev wv (x : BitVec 32) : Value := .int .u32 (x.toNat : Int)

theorem wrap_u32 (n : Nat) (h : n < 4294967296) : IntKind.u32.wrap (n : Int) = (n : Int) := by
  have := Int.emod_eq_of_lt (Int.natCast_nonneg n) (show (n : Int) < 4294967296 by omega)
  simpa [IntKind.wrap, IntKind.signed, IntKind.bits, IntKind.max, IntKind.min] using this
theorem ofInt_toNat (x : BitVec 32) : BitVec.ofInt 32 (x.toNat : Int) = x := by
  apply BitVec.eq_of_toNat_eq
  rw [BitVec.toNat_ofInt]
  have := x.isLt
  omega
theorem bits_and (x y : BitVec 32) : bits .and .u32 (x.toNat : Int) (y.toNat : Int) = ((x &&& y).toNat : Int) := by
  show IntKind.u32.wrap ((BitVec.ofInt 32 (x.toNat : Int) &&& BitVec.ofInt 32 (y.toNat : Int)).toNat : Int) = _
  rw [ofInt_toNat, ofInt_toNat, wrap_u32 _ (BitVec.isLt _)]
theorem bits_or (x y : BitVec 32) : bits .or .u32 (x.toNat : Int) (y.toNat : Int) = ((x ||| y).toNat : Int) := by
  show IntKind.u32.wrap ((BitVec.ofInt 32 (x.toNat : Int) ||| BitVec.ofInt 32 (y.toNat : Int)).toNat : Int) = _
  rw [ofInt_toNat, ofInt_toNat, wrap_u32 _ (BitVec.isLt _)]
theorem bits_xor (x y : BitVec 32) : bits .xor .u32 (x.toNat : Int) (y.toNat : Int) = ((x ^^^ y).toNat : Int) := by
  show IntKind.u32.wrap ((BitVec.ofInt 32 (x.toNat : Int) ^^^ BitVec.ofInt 32 (y.toNat : Int)).toNat : Int) = _
  rw [ofInt_toNat, ofInt_toNat, wrap_u32 _ (BitVec.isLt _)]
theorem wrap_add (x y : BitVec 32) : IntKind.u32.wrap ((x.toNat : Int) + (y.toNat : Int)) = ((x + y).toNat : Int) := by
  rw [BitVec.toNat_add]
  have h : IntKind.u32.wrap ((x.toNat : Int) + (y.toNat : Int)) = ((x.toNat : Int) + (y.toNat : Int)) % 4294967296 := by
    simp [IntKind.wrap, IntKind.signed, IntKind.bits]
  rw [h]; omega
theorem wrap_shl (x : BitVec 32) (n : Nat) : IntKind.u32.wrap ((x.toNat : Int) * 2 ^ n) = ((x <<< n).toNat : Int) := by
  rw [BitVec.toNat_shiftLeft, Nat.shiftLeft_eq]
  have h : IntKind.u32.wrap ((x.toNat : Int) * 2 ^ n) = ((x.toNat : Int) * 2 ^ n) % 4294967296 := by
    simp [IntKind.wrap, IntKind.signed, IntKind.bits]
  rw [h]
  have e : ((x.toNat : Int) * 2 ^ n) = ((x.toNat * 2 ^ n : Nat) : Int) := by push_cast; rfl
  rw [e]
  omega
theorem fdiv_shr (x : BitVec 32) (n : Nat) : ((x.toNat : Int)).fdiv (2 ^ n) = ((x >>> n).toNat : Int) := by
  rw [BitVec.toNat_ushiftRight, Nat.shiftRight_eq_div_pow, Int.fdiv_eq_ediv_of_nonneg _ (by exact_mod_cast Nat.zero_le _)]
  push_cast; rfl

/-- turned right by n places -/
def rotr (x : BitVec 32) (n : Nat) : BitVec 32 := (x >>> n) ||| (x <<< (32 - n))
/-- a word of four bytes, the greatest first -/
def be (a b c d : UInt8) : BitVec 32 := (BitVec.ofNat 32 a.toNat <<< 24) ||| (BitVec.ofNat 32 b.toNat <<< 16) ||| (BitVec.ofNat 32 c.toNat <<< 8) ||| BitVec.ofNat 32 d.toNat
def at_ (w : List (BitVec 32)) (t : Nat) : BitVec 32 := w.getD t 0
/-- the word that follows the words w -/
def next (w : List (BitVec 32)) : BitVec 32 :=
  let t := w.length
  at_ w (t - 16) + (rotr (at_ w (t - 15)) 7 ^^^ rotr (at_ w (t - 15)) 18 ^^^ (at_ w (t - 15) >>> 3)) + at_ w (t - 7) + (rotr (at_ w (t - 2)) 17 ^^^ rotr (at_ w (t - 2)) 19 ^^^ (at_ w (t - 2) >>> 10))
/-- the first words of a block -/
def heads (b : List UInt8) : Nat → List (BitVec 32)
  | 0 => []
  | t + 1 => heads b t ++ [be (b.getD (4 * t) 0) (b.getD (4 * t + 1) 0) (b.getD (4 * t + 2) 0) (b.getD (4 * t + 3) 0)]
/-- n more words -/
def more (w : List (BitVec 32)) : Nat → List (BitVec 32)
  | 0 => w
  | n + 1 => more (w ++ [next w]) n
def words (b : List UInt8) : List (BitVec 32) := more (heads b 16) 48

theorem heads_len (b : List UInt8) : ∀ t, (heads b t).length = t
  | 0 => rfl
  | t + 1 => by rw [heads, List.length_append, heads_len b t]; rfl
theorem more_len : ∀ (n : Nat) (w : List (BitVec 32)), (more w n).length = w.length + n
  | 0, _ => rfl
  | n + 1, w => by rw [more, more_len n, List.length_append]; simp only [List.length_cons, List.length_nil]; omega

/-- a message, 128, zeros up to 56 of 64, and the number of its bits in eight bytes -/
def zeros (n : Nat) : Nat := (119 - n % 64) % 64
def padded (l : List UInt8) : List UInt8 :=
  l ++ [128] ++ List.replicate (zeros l.length) 0 ++ (List.range 8).map (fun i => UInt8.ofNat (8 * l.length / 2 ^ (56 - 8 * i)))
theorem padded_len (l : List UInt8) : (padded l).length % 64 = 0 := by
  unfold padded zeros
  simp only [List.length_append, List.length_cons, List.length_nil, List.length_replicate, List.length_map, List.length_range]
  omega

end Sha
end Go.Proofs.YtfaadaahpjpfaaaDoor
