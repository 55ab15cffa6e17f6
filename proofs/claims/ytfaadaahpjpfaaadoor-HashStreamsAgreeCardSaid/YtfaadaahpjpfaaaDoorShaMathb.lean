/-
  Plain mathematics of SHA-256: the rounds of a block, and the hash of a message.
-/
import Derived.Test.YtfaadaahpjpfaaaDoorShaMath
namespace Go.Proofs.YtfaadaahpjpfaaaDoor
namespace Sha

structure St where
  a : BitVec 32
  b : BitVec 32
  c : BitVec 32
  d : BitVec 32
  e : BitVec 32
  f : BitVec 32
  g : BitVec 32
  h : BitVec 32

def St.cells (s : St) : Array Value := #[wv s.a, wv s.b, wv s.c, wv s.d, wv s.e, wv s.f, wv s.g, wv s.h]
def St.add (s v : St) : St := ⟨s.a + v.a, s.b + v.b, s.c + v.c, s.d + v.d, s.e + v.e, s.f + v.f, s.g + v.g, s.h + v.h⟩
def St.toList (s : St) : List (BitVec 32) := [s.a, s.b, s.c, s.d, s.e, s.f, s.g, s.h]
def first : St := ⟨0x6a09e667, 0xbb67ae85, 0x3c6ef372, 0xa54ff53a, 0x510e527f, 0x9b05688c, 0x1f83d9ab, 0x5be0cd19⟩

def mixE (v : St) (k w : BitVec 32) : BitVec 32 :=
  v.h + (rotr v.e 6 ^^^ rotr v.e 11 ^^^ rotr v.e 25) + ((v.e &&& v.f) ^^^ ((v.e ^^^ 0xffffffff) &&& v.g)) + k + w
def mixA (v : St) : BitVec 32 :=
  (rotr v.a 2 ^^^ rotr v.a 13 ^^^ rotr v.a 22) + ((v.a &&& v.b) ^^^ (v.a &&& v.c) ^^^ (v.b &&& v.c))
def round (v : St) (k w : BitVec 32) : St :=
  ⟨mixE v k w + mixA v, v.a, v.b, v.c, v.d + mixE v k w, v.e, v.f, v.g⟩
/-- t rounds -/
def runs (K ws : List (BitVec 32)) (v : St) : Nat → St
  | 0 => v
  | t + 1 => round (runs K ws v t) (at_ K t) (at_ ws t)
def block (K : List (BitVec 32)) (b : List UInt8) (s : St) : St := s.add (runs K (words b) s 64)
/-- the first n blocks of m -/
def hashed (K : List (BitVec 32)) (m : List UInt8) : Nat → St
  | 0 => first
  | n + 1 => block K ((m.drop (64 * n)).take 64) (hashed K m n)
/-- the bytes of a word, the greatest first -/
def bytesOf (x : BitVec 32) : List UInt8 := [UInt8.ofNat (x >>> 24).toNat, UInt8.ofNat (x >>> 16).toNat, UInt8.ofNat (x >>> 8).toNat, UInt8.ofNat x.toNat]
def St.out (s : St) : List UInt8 := s.toList.flatMap bytesOf
theorem St.out_len (s : St) : s.out.length = 32 := by
  simp [St.out, St.toList, bytesOf]
/-- the hash of a message, K being the constants -/
def sum (K : List (BitVec 32)) (l : List UInt8) : List UInt8 := (hashed K (padded l) ((padded l).length / 64)).out
theorem sum_len (K : List (BitVec 32)) (l : List UInt8) : (sum K l).length = 32 := St.out_len _

/-- a key of a code: the hash of a long one, zeros behind a short one, each byte combined with p -/
def key (K : List (BitVec 32)) (k : List UInt8) (p : UInt8) : List UInt8 :=
  let k' := if 64 < k.length then sum K k else k
  (List.range 64).map (fun i => (k'.getD i 0) ^^^ p)
def mac (K : List (BitVec 32)) (k text : List UInt8) : List UInt8 :=
  sum K (key K k 0x5c ++ sum K (key K k 0x36 ++ text))
theorem mac_len (K : List (BitVec 32)) (k text : List UInt8) : (mac K k text).length = 32 := sum_len _ _
theorem key_len (K : List (BitVec 32)) (k : List UInt8) (p : UInt8) : (key K k p).length = 64 := by simp [key]
/-- a long key has the codes of its hash -/
theorem key_long (K : List (BitVec 32)) (k : List UInt8) (p : UInt8) (h : 64 < k.length) : key K k p = key K (sum K k) p := by
  unfold key
  have h2 : ¬ 64 < (sum K k).length := by rw [sum_len]; omega
  simp only [if_pos h, if_neg h2]
theorem mac_long (K : List (BitVec 32)) (k text : List UInt8) (h : 64 < k.length) : mac K k text = mac K (sum K k) text := by
  unfold mac; rw [key_long K k _ h, key_long K k _ h]
/-- a short key has the codes of the key with a zero behind it -/
theorem key_short (K : List (BitVec 32)) (k : List UInt8) (p : UInt8) (h : k.length < 64) : key K k p = key K (k ++ [0]) p := by
  unfold key
  have h1 : ¬ 64 < k.length := by omega
  have h2 : ¬ 64 < (k ++ [0]).length := by rw [List.length_append]; simp; omega
  simp only [if_neg h1, if_neg h2]
  apply List.map_congr_left
  intro i _
  congr 1
  rw [List.getD_eq_getElem?_getD, List.getD_eq_getElem?_getD, List.getElem?_append]
  split
  · rfl
  · rename_i hi
    rw [List.getElem?_eq_none (by omega)]
    cases hj : i - k.length with
    | zero => rfl
    | succ n => rfl
theorem mac_short (K : List (BitVec 32)) (k text : List UInt8) (h : k.length < 64) : mac K k text = mac K (k ++ [0]) text := by
  unfold mac; rw [key_short K k _ h, key_short K k _ h]

end Sha
end Go.Proofs.YtfaadaahpjpfaaaDoor
