/-
  Plain mathematics of SHA-256 over a message that comes in pieces: what a stream holds, how a piece is added, how it ends.
-/
import Derived.Test.YtfaadaahpjpfaaaDoorShaMathb
namespace Go.Proofs.YtfaadaahpjpfaaaDoor
namespace Sha

theorem hashed_pre (K : List (BitVec 32)) (m t : List UInt8) : ∀ n, 64 * n ≤ m.length → hashed K (m ++ t) n = hashed K m n
  | 0, _ => rfl
  | n + 1, h => by
    rw [hashed, hashed, hashed_pre K m t n (by omega)]
    congr 1
    rw [List.drop_append_of_le_length (by omega), List.take_append_of_le_length (by rw [List.length_drop]; omega)]

/-- what a stream holds whose message is m: the value after its full blocks, and a block that begins with the rest -/
structure Str (K : List (BitVec 32)) (m : List UInt8) (v : St) (blk : List UInt8) : Prop where
  value : v = hashed K m (m.length / 64)
  len : blk.length = 64
  rest : blk.take (m.length % 64) = m.drop (64 * (m.length / 64))

theorem Str.begin (K : List (BitVec 32)) : Str K [] first (List.replicate 64 0) := ⟨rfl, by simp, by simp⟩

theorem Str.full {K : List (BitVec 32)} {m : List UInt8} {v : St} {blk : List UInt8} (h : Str K m v blk) (t : List UInt8) (ht : m.length % 64 + t.length = 64) :
    Str K (m ++ t) (block K (blk.take (m.length % 64) ++ t) v) (blk.take (m.length % 64) ++ t) := by
  have hl : (m ++ t).length = 64 * (m.length / 64 + 1) := by rw [List.length_append]; omega
  have h1 : (m ++ t).length / 64 = m.length / 64 + 1 := by omega
  have h2 : (m ++ t).length % 64 = 0 := by omega
  have hb : (m ++ t).drop (64 * (m.length / 64)) = blk.take (m.length % 64) ++ t := by
    rw [List.drop_append_of_le_length (by omega), h.rest]
  have hlb : (blk.take (m.length % 64) ++ t).length = 64 := by rw [List.length_append, List.length_take, h.len]; omega
  refine ⟨?_, hlb, ?_⟩
  · rw [h1, hashed, hashed_pre K m t _ (by omega), ← h.value, hb]
    congr 1
    exact (List.take_of_length_le (by omega)).symm
  · rw [h2, h1, List.take_zero, List.drop_of_length_le (by omega)]

theorem Str.part {K : List (BitVec 32)} {m : List UInt8} {v : St} {blk : List UInt8} (h : Str K m v blk) (t : List UInt8) (ht : m.length % 64 + t.length < 64) :
    Str K (m ++ t) v (blk.take (m.length % 64) ++ t ++ blk.drop (m.length % 64 + t.length)) := by
  have hl := List.length_append (as := m) (bs := t)
  have h1 : (m ++ t).length / 64 = m.length / 64 := by omega
  have h2 : (m ++ t).length % 64 = m.length % 64 + t.length := by omega
  have hlt : (blk.take (m.length % 64)).length = m.length % 64 := by rw [List.length_take, h.len]; omega
  refine ⟨?_, ?_, ?_⟩
  · rw [h1, hashed_pre K m t _ (by omega)]; exact h.value
  · rw [List.length_append, List.length_append, hlt, List.length_drop, h.len]; omega
  · rw [h2, h1, List.take_append_of_le_length (by rw [List.length_append, hlt]; omega), List.take_of_length_le (by rw [List.length_append, hlt]; omega), h.rest, List.drop_append_of_le_length (by omega)]

/-- the number of bits in eight bytes -/
def len8 (n : Nat) : List UInt8 := (List.range 8).map (fun i => UInt8.ofNat (8 * n / 2 ^ (56 - 8 * i)))
theorem len8_len (n : Nat) : (len8 n).length = 8 := by simp [len8]
theorem padded_eq (l : List UInt8) : padded l = l ++ (128 :: (List.replicate (zeros l.length) 0 ++ len8 l.length)) := by
  unfold padded len8; simp

theorem cons_eq {a b : UInt8} {l m : List UInt8} (h : a = b) (h2 : l = m) : a :: l = b :: m := by rw [h, h2]
theorem two_words (n : Nat) (h : 8 * n < 18446744073709551616) : bytesOf (BitVec.ofNat 32 (8 * n / 4294967296)) ++ bytesOf (BitVec.ofNat 32 (8 * n)) = len8 n := by
  unfold bytesOf len8
  have e : List.range 8 = [0, 1, 2, 3, 4, 5, 6, 7] := by decide
  rw [e]
  generalize 8 * n = y at h ⊢
  have hs : ∀ (z k : Nat), k < 32 → (BitVec.ofNat 32 z >>> k).toNat = z % 4294967296 / 2 ^ k := by
    intro z k _
    rw [BitVec.toNat_ushiftRight, BitVec.toNat_ofNat, Nat.shiftRight_eq_div_pow]
  have hu : ∀ a b : Nat, a % 256 = b % 256 → UInt8.ofNat a = UInt8.ofNat b := by
    intro a b hab
    apply UInt8.toNat_inj.1
    simp only [UInt8.toNat_ofNat']; exact hab
  simp only [List.map_cons, List.map_nil, List.cons_append, List.nil_append, hs _ 24 (by omega), hs _ 16 (by omega), hs _ 8 (by omega), BitVec.toNat_ofNat]
  refine cons_eq (hu _ _ ?_) (cons_eq (hu _ _ ?_) (cons_eq (hu _ _ ?_) (cons_eq (hu _ _ ?_) (cons_eq (hu _ _ ?_) (cons_eq (hu _ _ ?_) (cons_eq (hu _ _ ?_) (cons_eq (hu _ _ ?_) rfl)))))))
  · show y / 4294967296 % 4294967296 / 16777216 % 256 = y / 72057594037927936 % 256
    omega
  · show y / 4294967296 % 4294967296 / 65536 % 256 = y / 281474976710656 % 256
    omega
  · show y / 4294967296 % 4294967296 / 256 % 256 = y / 1099511627776 % 256
    omega
  · show y / 4294967296 % 4294967296 % 256 = y / 4294967296 % 256
    omega
  · show y % 4294967296 / 16777216 % 256 = y / 16777216 % 256
    omega
  · show y % 4294967296 / 65536 % 256 = y / 65536 % 256
    omega
  · show y % 4294967296 / 256 % 256 = y / 256 % 256
    omega
  · show y % 4294967296 % 256 = y / 1 % 256
    omega

/-- the end where the length has room in the last block -/
theorem Str.short {K : List (BitVec 32)} {m : List UInt8} {v : St} {blk : List UInt8} (h : Str K m v blk) (hr : m.length % 64 < 56) :
    (block K (blk.take (m.length % 64) ++ (128 :: (List.replicate (55 - m.length % 64) 0 ++ len8 m.length))) v).out = sum K m := by
  have hz : zeros m.length = 55 - m.length % 64 := by unfold zeros; omega
  have h8 := len8_len m.length
  have hpl : (padded m).length = 64 * (m.length / 64 + 1) := by
    rw [padded_eq, hz]
    simp only [List.length_append, List.length_cons, List.length_replicate, h8]; omega
  unfold sum
  have e1 : (padded m).length / 64 = m.length / 64 + 1 := by omega
  have e3 : (m ++ (128 :: (List.replicate (55 - m.length % 64) (0 : UInt8) ++ len8 m.length))).drop (64 * (m.length / 64)) = blk.take (m.length % 64) ++ (128 :: (List.replicate (55 - m.length % 64) 0 ++ len8 m.length)) := by
    rw [List.drop_append_of_le_length (by omega), ← h.rest]
  have e4 : (blk.take (m.length % 64) ++ (128 :: (List.replicate (55 - m.length % 64) (0 : UInt8) ++ len8 m.length))).length = 64 := by
    simp only [List.length_append, List.length_take, List.length_cons, List.length_replicate, h8, h.len]; omega
  rw [e1, hashed, padded_eq, hz, hashed_pre K m _ _ (by omega), ← h.value, e3, List.take_of_length_le (Nat.le_of_eq e4)]

/-- the end where the length needs a block of its own -/
theorem Str.long {K : List (BitVec 32)} {m : List UInt8} {v : St} {blk : List UInt8} (h : Str K m v blk) (hr : 56 ≤ m.length % 64) :
    (block K (List.replicate 56 0 ++ len8 m.length) (block K (blk.take (m.length % 64) ++ (128 :: List.replicate (63 - m.length % 64) 0)) v)).out = sum K m := by
  have hz : zeros m.length = (63 - m.length % 64) + 56 := by unfold zeros; omega
  have h8 := len8_len m.length
  have hp : padded m = (m ++ (128 :: List.replicate (63 - m.length % 64) 0)) ++ (List.replicate 56 0 ++ len8 m.length) := by
    rw [padded_eq, hz, ← List.replicate_append_replicate]; simp
  have hl1 : (m ++ (128 :: List.replicate (63 - m.length % 64) 0)).length = 64 * (m.length / 64 + 1) := by
    simp only [List.length_append, List.length_cons, List.length_replicate]; omega
  have hl2 : (List.replicate 56 (0 : UInt8) ++ len8 m.length).length = 64 := by simp only [List.length_append, List.length_replicate, h8]
  have hpl : (padded m).length = 64 * (m.length / 64 + 1) + 64 := by rw [hp, List.length_append, hl1, hl2]
  unfold sum
  have e1 : (padded m).length / 64 = (m.length / 64 + 1) + 1 := by omega
  rw [e1, hp, hashed, hashed_pre K _ _ _ (by omega), hashed, hashed_pre K m _ _ (by omega), ← h.value]
  have e2 : ((m ++ (128 :: List.replicate (63 - m.length % 64) 0)) ++ (List.replicate 56 0 ++ len8 m.length)).drop (64 * (m.length / 64 + 1)) = List.replicate 56 0 ++ len8 m.length := by
    rw [← hl1, List.drop_left]
  have e3 : (m ++ (128 :: List.replicate (63 - m.length % 64) (0 : UInt8))).drop (64 * (m.length / 64)) = blk.take (m.length % 64) ++ (128 :: List.replicate (63 - m.length % 64) 0) := by
    rw [List.drop_append_of_le_length (by omega), ← h.rest]
  have e4 : (blk.take (m.length % 64) ++ (128 :: List.replicate (63 - m.length % 64) (0 : UInt8))).length = 64 := by
    simp only [List.length_append, List.length_take, List.length_cons, List.length_replicate, h.len]; omega
  rw [e2, e3, List.take_of_length_le (Nat.le_of_eq hl2), List.take_of_length_le (Nat.le_of_eq e4)]

theorem not_xor (x : BitVec 32) : x ^^^ 0xffffffff = ~~~x := by
  have : (0xffffffff : BitVec 32) = BitVec.allOnes 32 := by decide
  rw [this, BitVec.xor_allOnes]

/-- what the hash of a message does not depend on: the pieces -/
theorem Str.sum_of {K : List (BitVec 32)} {m m' : List UInt8} (h : m = m') : sum K m = sum K m' := by rw [h]

end Sha
end Go.Proofs.YtfaadaahpjpfaaaDoor
