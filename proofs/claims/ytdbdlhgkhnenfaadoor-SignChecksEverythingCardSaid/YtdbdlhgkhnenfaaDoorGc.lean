/-
  Contracts of voxelref02: the small functions.
-/
import Derived.Test.YtdbdlhgkhnenfaaDoorChecked
import Derived.Test.YtdbdlhgkhnenfaaDoorGa
import Derived.Test.YtdbdlhgkhnenfaaDoorGb
import Derived.Deep.QuietTactic
import Derived.BigQuiet
import Derived.IntWalk
import Derived.BigRegion
import Derived.Deep.MidRow
namespace Go.Proofs.YtdbdlhgkhnenfaaDoor
open Go.RowKit
open Sha (wv)

set_option maxRecDepth 1000000 in
theorem hrRotr_any (x : BitVec 32) (n : Nat) (w : World) (hn : n ≤ 32) :
    Calls Tryd.prog 79 #[wv x, .int .i64 (n : Int)] w fun e w' => e = .returned (wv (Sha.rotr x n)) ∧ ∃ q, w' = w.drewN q := by
  have E4 : IntKind.i64.wrap (32 - (n : Int)) = 32 - (n : Int) := IntWalk.i64_in _ (by omega)
  have h1 : (x.toNat : Int) / 2 ^ n = ((x >>> n).toNat : Int) := by
    rw [BitVec.toNat_ushiftRight, Nat.shiftRight_eq_div_pow, Int.natCast_ediv, Int.natCast_pow]; rfl
  have h2 : (x.toNat : Int) * 2 ^ (32 - n) % 4294967296 = ((x <<< (32 - n)).toNat : Int) := by
    rw [BitVec.toNat_shiftLeft, Nat.shiftLeft_eq, Int.natCast_emod, Int.natCast_mul, Int.natCast_pow]; rfl
  have E := Lib.hid (show bits .or .u32 ((x.toNat : Int) / 2 ^ n) ((x.toNat : Int) * 2 ^ (32 - n) % 4294967296) = ((Sha.rotr x n).toNat : Int) by
    rw [h1, h2, Sha.bits_or]; rfl)
  clear h1 h2
  unfold Sha.wv
  go_enter Tryd.func79, Tryd.ntmps79
  go_wp2_with fail
  go_quiet (fail)
  go_wp2_with fail
  go_ret
  exact ⟨by rw [← E.out]; rfl, _, rfl⟩

end Go.Proofs.YtdbdlhgkhnenfaaDoor
/-
  Contracts of voxelref02: the words of a block.
-/
namespace Go.Proofs.YtdbdlhgkhnenfaaDoor
open Go.RowKit
open Sha (wv)

/-- block g holds the values cs, and they may be written -/
def Row (g : Nat) (cs : List Value) (w : World) : Prop := ∀ j v, cs[j]? = some v → w.cell? ⟨g, j, none⟩ = some v ∧ w.frozen? ⟨g, j, none⟩ = false
theorem Row.drewN {g : Nat} {cs : List Value} {w : World} (h : Row g cs w) (q : Nat) : Row g cs (w.drewN q) := h
theorem Row.new (w : World) (c : Array Value) (t : TypeId) : Row w.heap.size c.toList (w.alloc (.cells c t)) := by
  intro j v hj
  refine ⟨?_, ?_⟩
  · rw [World.cell?_alloc_new]; simpa using hj
  · exact World.frozen?_alloc_new w c t j

/-- the words so far, and zeros -/
def fill64 (ws : List (BitVec 32)) : List Value := ws.map wv ++ List.replicate (64 - ws.length) (Value.int .u32 0)

theorem fill64_len (ws : List (BitVec 32)) (h : ws.length ≤ 64) : (fill64 ws).length = 64 := by
  unfold fill64
  rw [List.length_append, List.length_map, List.length_replicate]; omega
theorem fill64_step (ws : List (BitVec 32)) (x : BitVec 32) (h : ws.length < 64) : (fill64 ws).set ws.length (wv x) = fill64 (ws ++ [x]) := by
  unfold fill64
  have h1 : (ws.map wv).length = ws.length := List.length_map _
  rw [List.set_append_right _ _ (by omega), h1, Nat.sub_self, show 64 - ws.length = (64 - (ws ++ [x]).length) + 1 by rw [List.length_append]; simp; omega, List.replicate_succ, List.set_cons_zero, List.map_append, List.append_assoc]
  rfl
theorem Row.set {g : Nat} {cs : List Value} {w : World} (h : Row g cs w) (k : Nat) (v : Value) (hk : k < cs.length) : Row g (cs.set k v) (w.setCell ⟨g, k, none⟩ v) := by
  intro j u hj
  by_cases hjk : j = k
  · subst hjk
    rw [List.getElem?_set_self hk] at hj
    cases hj
    obtain ⟨q1, q2⟩ := h j cs[j] (List.getElem?_eq_getElem hk)
    refine ⟨World.cell?_setCell_same _ _ _ q1, ?_⟩
    rw [World.frozen?_setCell]; exact q2
  · rw [List.getElem?_set_ne (fun e => hjk e.symm)] at hj
    obtain ⟨q1, q2⟩ := h j u hj
    refine ⟨?_, ?_⟩
    · exact (World.cell?_setCell_other _ _ _ _ (by intro e; cases e; exact hjk rfl)).trans q1
    · rw [World.frozen?_setCell]; exact q2
theorem below_drew {B : Nat} {a w : World} (h : Below B a w) : Below B a w.drew := ⟨h.os, h.tape, h.output, h.size, h.block⟩
theorem be_bits (a b c d : UInt8) : bits .or .u32 (bits .or .u32 (bits .or .u32 ((a.toNat : Int) * (16777216 : Int)) ((b.toNat : Int) * (65536 : Int))) ((c.toNat : Int) * (256 : Int))) (d.toNat : Int) = ((Sha.be a b c d).toNat : Int) := by
  have ha := a.toNat_lt
  have hb := b.toNat_lt
  have hc := c.toNat_lt
  have hd := d.toNat_lt
  have e1 : (a.toNat : Int) * (16777216 : Int) = ((BitVec.ofNat 32 a.toNat <<< 24).toNat : Int) := by
    rw [BitVec.toNat_shiftLeft, BitVec.toNat_ofNat, Nat.shiftLeft_eq, Nat.mod_eq_of_lt (a := a.toNat) (by omega), Nat.mod_eq_of_lt (by omega)]; omega
  have e2 : (b.toNat : Int) * (65536 : Int) = ((BitVec.ofNat 32 b.toNat <<< 16).toNat : Int) := by
    rw [BitVec.toNat_shiftLeft, BitVec.toNat_ofNat, Nat.shiftLeft_eq, Nat.mod_eq_of_lt (a := b.toNat) (by omega), Nat.mod_eq_of_lt (by omega)]; omega
  have e3 : (c.toNat : Int) * (256 : Int) = ((BitVec.ofNat 32 c.toNat <<< 8).toNat : Int) := by
    rw [BitVec.toNat_shiftLeft, BitVec.toNat_ofNat, Nat.shiftLeft_eq, Nat.mod_eq_of_lt (a := c.toNat) (by omega), Nat.mod_eq_of_lt (by omega)]; omega
  have e4 : (d.toNat : Int) = ((BitVec.ofNat 32 d.toNat).toNat : Int) := by
    rw [BitVec.toNat_ofNat, Nat.mod_eq_of_lt (by omega)]
  rw [e1, e2, e3, e4, Sha.bits_or, Sha.bits_or, Sha.bits_or]
  rfl


end Go.Proofs.YtdbdlhgkhnenfaaDoor
/-
  Contracts of package hash: rotations.
-/
namespace Go.Proofs.YtdbdlhgkhnenfaaDoor
open Go.RowKit
open Sha (wv)

set_option maxRecDepth 1000000 in
theorem hsRotl_any (x : BitVec 32) (k : Int) (m : Nat) (w : World) (h1 : 1 ≤ m) (h2 : m ≤ 31) (hm : bits .and .u64 (IntKind.u64.wrap k) 31 = (m : Int)) :
    Calls Tryd.prog 85 #[wv x, .int .i64 k] w fun e w' => e = .returned (wv (Sha.rotr x (32 - m))) ∧ w = w' := by
  have h3 : (x.toNat : Int) / 2 ^ (32 - m) = ((x >>> (32 - m)).toNat : Int) := by
    rw [BitVec.toNat_ushiftRight, Nat.shiftRight_eq_div_pow, Int.natCast_ediv, Int.natCast_pow]; rfl
  have h4 : (x.toNat : Int) * 2 ^ m % 4294967296 = ((x <<< m).toNat : Int) := by
    rw [BitVec.toNat_shiftLeft, Nat.shiftLeft_eq, Int.natCast_emod, Int.natCast_mul, Int.natCast_pow]; rfl
  have E := Lib.hid (show bits .or .u32 ((x.toNat : Int) * 2 ^ m % 4294967296) ((x.toNat : Int) / 2 ^ (32 - m)) = ((Sha.rotr x (32 - m)).toNat : Int) by
    rw [h3, h4, Sha.bits_or]
    unfold Sha.rotr
    rw [show 32 - (32 - m) = m by omega, BitVec.or_comm])
  clear h3 h4
  unfold Sha.wv
  go_enter Tryd.func85, Tryd.ntmps85
  go_wp2_with fail
  go_ret
  exact ⟨by rw [← E.out]; rfl, rfl⟩

theorem neg_and : ∀ n : Fin 32, 1 ≤ n.val → bits .and .u64 (IntKind.u64.wrap (-(n.val : Int))) 31 = ((32 - n.val : Nat) : Int) := by decide +kernel

set_option maxRecDepth 1000000 in
theorem hsRotated_any (x : BitVec 32) (n : Nat) (w : World) (h1 : 1 ≤ n) (h2 : n ≤ 31) :
    Calls Tryd.prog 84 #[wv x, .int .i64 (n : Int)] w fun e w' => e = .returned (wv (Sha.rotr x n)) ∧ w = w' := by
  have C := Lib.hid (hsRotl_any x (-(n : Int)) (32 - n) w (by omega) (by omega) (neg_and ⟨n, by omega⟩ h1))
  rw [show 32 - (32 - n) = n by omega] at C
  unfold Sha.wv at C ⊢
  go_enter Tryd.func84, Tryd.ntmps84
  go_wp2_with fail
  refine C.out.mono ?_
  rintro e w1 ⟨rfl, rfl⟩
  go_wp2_with fail
  go_ret
  exact ⟨rfl, rfl⟩

/-- three rotations of a word, combined -/
def turn3 (x : BitVec 32) (i j k : Nat) : BitVec 32 := Sha.rotr x i ^^^ Sha.rotr x j ^^^ Sha.rotr x k

set_option maxRecDepth 1000000 in
theorem hsTurned_any (x : BitVec 32) (i j k : Nat) (w : World) (hi : 1 ≤ i ∧ i ≤ 31) (hj : 1 ≤ j ∧ j ≤ 31) (hk : 1 ≤ k ∧ k ≤ 31) :
    Calls Tryd.prog 82 #[wv x, .int .i64 (i : Int), .int .i64 (j : Int), .int .i64 (k : Int)] w fun e w' => e = .returned (wv (turn3 x i j k)) ∧ w = w' := by
  have C1 := Lib.hid (hsRotated_any x i w hi.1 hi.2)
  have C2 := Lib.hid (hsRotated_any x j w hj.1 hj.2)
  have C3 := Lib.hid (hsRotated_any x k w hk.1 hk.2)
  have E : bits .xor .u32 (bits .xor .u32 ((Sha.rotr x i).toNat : Int) ((Sha.rotr x j).toNat : Int)) ((Sha.rotr x k).toNat : Int) = ((turn3 x i j k).toNat : Int) := by
    rw [Sha.bits_xor, Sha.bits_xor]; rfl
  generalize turn3 x i j k = T at E ⊢
  generalize Sha.rotr x i = a at C1 E
  generalize Sha.rotr x j = b at C2 E
  generalize Sha.rotr x k = c at C3 E
  have EE := Lib.hid E
  clear E hi hj hk
  unfold Sha.wv at C1 C2 C3 ⊢
  go_enter Tryd.func82, Tryd.ntmps82
  go_wp2_with fail
  refine C1.out.mono ?_
  rintro e w1 ⟨rfl, rfl⟩
  go_wp2_with fail
  refine C2.out.mono ?_
  rintro e w1 ⟨rfl, rfl⟩
  go_wp2_with fail
  refine C3.out.mono ?_
  rintro e w1 ⟨rfl, rfl⟩
  go_wp2_with fail
  go_ret
  exact ⟨by rw [← EE.out]; rfl, rfl⟩

end Go.Proofs.YtdbdlhgkhnenfaaDoor
/-
  Contracts of package hash: a word in four bytes.
-/
namespace Go.Proofs.YtdbdlhgkhnenfaaDoor
open Go.RowKit
open Sha (wv)

set_option maxRecDepth 1000000 in
theorem hsWord_any (b0 b1 b2 b3 : UInt8) (b o n c : Nat) (w : World) (hn : 4 ≤ n)
    (h0 : w.cell? ⟨b, o, none⟩ = some (.int .u8 (b0.toNat : Int))) (h1 : w.cell? ⟨b, o + 1, none⟩ = some (.int .u8 (b1.toNat : Int)))
    (h2 : w.cell? ⟨b, o + 2, none⟩ = some (.int .u8 (b2.toNat : Int))) (h3 : w.cell? ⟨b, o + 3, none⟩ = some (.int .u8 (b3.toNat : Int))) :
    Calls Tryd.prog 83 #[.slice (some ⟨b, o, none⟩) n c] w fun e w' => e = .returned (wv (Sha.be b0 b1 b2 b3)) ∧ ∃ q, w' = w.drewN q := by
  have E := Lib.hid (be_bits b0 b1 b2 b3)
  have l0 := b0.toNat_lt
  have l1 := b1.toNat_lt
  have l2 := b2.toNat_lt
  have l3 := b3.toNat_lt
  generalize b0.toNat = x0 at *
  generalize b1.toNat = x1 at *
  generalize b2.toNat = x2 at *
  generalize b3.toNat = x3 at *
  have n0 : (0 : Int) < (n : Int) := by omega
  have n1 : (1 : Int) < (n : Int) := by omega
  have n2 : (2 : Int) < (n : Int) := by omega
  have n3 : (3 : Int) < (n : Int) := by omega
  clear hn
  unfold Sha.wv
  go_enter Tryd.func83, Tryd.ntmps83
  go_wp2_with fail
  go_quiet (fail)
  go_wp2_with fail
  go_ret
  exact ⟨by rw [← E.out]; rfl, _, rfl⟩

end Go.Proofs.YtdbdlhgkhnenfaaDoor
/-
  Contracts of package hash: a word is written.
-/
namespace Go.Proofs.YtdbdlhgkhnenfaaDoor
open Go.RowKit
open Sha (wv)

theorem byte_of (x : BitVec 32) (k : Nat) : ((x.toNat : Int) / 2 ^ k) % 256 = ((UInt8.ofNat (x >>> k).toNat).toNat : Int) := by
  have h : (UInt8.ofNat (x >>> k).toNat).toNat = (x >>> k).toNat % 256 := by simp
  rw [h, BitVec.toNat_ushiftRight, Nat.shiftRight_eq_div_pow, Int.natCast_emod, Int.natCast_ediv, Int.natCast_pow]; rfl

theorem top_of (x : BitVec 32) : (x.toNat : Int) / (16777216 : Int) = ((UInt8.ofNat (x >>> 24).toNat).toNat : Int) := by
  have h := byte_of x 24
  have e : ((2 : Int) ^ 24) = 16777216 := by decide
  rw [e] at h
  have := x.isLt
  omega

set_option maxRecDepth 1000000 in
theorem hsPutWord_any (x : BitVec 32) (g o n c : Nat) (w : World) (hn : 4 ≤ n) (ht : w.there g o 4) :
    Calls Tryd.prog 80 #[.slice (some ⟨g, o, none⟩) n c, wv x] w fun e w' => e = .returned (.tuple #[]) ∧ w' = w.setCells g o ((Sha.bytesOf x).map bv) := by
  obtain ⟨u0, q0⟩ := Option.isSome_iff_exists.1 (ht 0 (by omega)).1
  obtain ⟨u1, q1⟩ := Option.isSome_iff_exists.1 (ht 1 (by omega)).1
  obtain ⟨u2, q2⟩ := Option.isSome_iff_exists.1 (ht 2 (by omega)).1
  obtain ⟨u3, q3⟩ := Option.isSome_iff_exists.1 (ht 3 (by omega)).1
  have f0 := (ht 0 (by omega)).2
  have f1 := (ht 1 (by omega)).2
  have f2 := (ht 2 (by omega)).2
  have f3 := (ht 3 (by omega)).2
  rw [Nat.add_zero] at q0 f0
  have n0 : (0 : Int) < (n : Int) := by omega
  have n1 : (1 : Int) < (n : Int) := by omega
  have n2 : (2 : Int) < (n : Int) := by omega
  have n3 : (3 : Int) < (n : Int) := by omega
  have E0 := Lib.hid (top_of x)
  have E1 := Lib.hid (show (x.toNat : Int) / (65536 : Int) % (256 : Int) = ((UInt8.ofNat (x >>> 16).toNat).toNat : Int) from byte_of x 16)
  have E2 := Lib.hid (show (x.toNat : Int) / (256 : Int) % (256 : Int) = ((UInt8.ofNat (x >>> 8).toNat).toNat : Int) from byte_of x 8)
  have E3 := Lib.hid (show (x.toNat : Int) % 256 = ((UInt8.ofNat x.toNat).toNat : Int) by simp)
  clear hn ht
  unfold Sha.wv
  go_enter Tryd.func80, Tryd.ntmps80
  go_wp2_with fail
  go_end0
  refine ⟨rfl, ?_⟩
  unfold Sha.bytesOf
  simp only [List.map, World.setCells, bv, ← E0.out, ← E1.out, ← E2.out, ← E3.out]

theorem results_cell_mid {fn : Func} {p : Tmp} {ty : TypeId} (h : fn.results = #[.cell p ty]) (tmps : Array Value) (P : Program) (w : World) (b o : Nat) (cs : List Value) (d : TypeDesc)
    (hp : tmps.getD p undef = .pointer (some ⟨b, o, none⟩)) (hc : w.rangeAt b o cs) (hu : P.underlying ty = some d) (hd : d.isRow = true) (hi : (P.info? ty).map (·.size) = some cs.length) :
    (results fn tmps).run P w = .ok (.agg cs.toArray) w := by
  have hp' : tmps[p]?.getD undef = .pointer (some ⟨b, o, none⟩) := by simpa using hp
  simp [results, h, hp', asAddr, run_loadVar_mid w b o ty cs d hc hu hd hi]

theorem Row.range {g : Nat} {cs : List Value} {w : World} (h : Row g cs w) : w.rangeAt g 0 cs := fun j v hj => by rw [Nat.zero_add]; exact (h j v hj).1
theorem Row.there {g : Nat} {cs : List Value} {w : World} (h : Row g cs w) (o n : Nat) (hn : o + n ≤ cs.length) : w.there g o n := fun j hj => by
  obtain ⟨q1, q2⟩ := h (o + j) _ (List.getElem?_eq_getElem (show o + j < cs.length by omega))
  exact ⟨by rw [q1]; rfl, q2⟩
theorem Row.sub {g : Nat} {cs : List Value} {w : World} (h : Row g cs w) (o : Nat) (sub : List Value) (hs : ∀ j, j < sub.length → cs[o + j]? = sub[j]?) : w.rangeAt g o sub := fun j v hj => by
  have hl : j < sub.length := (List.getElem?_eq_some_iff.1 hj).1
  exact (h (o + j) v (by rw [hs j hl]; exact hj)).1
theorem Row.setCells {g : Nat} {cs : List Value} {w : World} (h : Row g cs w) (o : Nat) (vs : List Value) (ho : o + vs.length ≤ cs.length) : Row g (cs.take o ++ vs ++ cs.drop (o + vs.length)) (w.setCells g o vs) := by
  induction vs generalizing o cs w with
  | nil => simpa [World.setCells] using h
  | cons v r ih =>
    rw [List.length_cons] at ho
    have h1 := h.set o v (by omega)
    have h2 := ih h1 (o + 1) (by rw [List.length_set]; omega)
    rw [World.setCells]
    have hk : o < cs.length := by omega
    have e : (cs.set o v).take (o + 1) ++ r ++ (cs.set o v).drop (o + 1 + r.length) = cs.take o ++ (v :: r) ++ cs.drop (o + (v :: r).length) := by
      rw [List.take_succ_eq_append_getElem (by rw [List.length_set]; exact hk), List.take_set_of_le (Nat.le_refl o), List.drop_set_of_lt (by omega)]
      simp [Nat.add_assoc, Nat.add_comm 1]
    rw [e] at h2
    exact h2
theorem Row.below {g : Nat} {cs : List Value} {w w' : World} (h : Row g cs w) (hb : Below w.heap.size w w') : Row g cs w' := fun j v hj => by
  obtain ⟨q1, q2⟩ := h j v hj
  have hl := World.block_lt_of_cell? w _ q1
  exact ⟨(hb.cell hl).trans q1, (hb.frozen hl).trans q2⟩
theorem below_drewN {B : Nat} {a w : World} (h : Below B a w) (q : Nat) : Below B a (w.drewN q) := ⟨h.os, h.tape, h.output, h.size, h.block⟩
theorem Row.alloc {g : Nat} {cs : List Value} {w : World} (h : Row g cs w) (o : Obj) : Row g cs (w.alloc o) := h.below ((Below.refl _ _).alloc (Nat.le_refl _) o)
theorem Row.far {g b : Nat} {cs : List Value} {w : World} (h : Row g cs w) (hg : g ≠ b) (o : Nat) (vs : List Value) : Row g cs (w.setCells b o vs) := fun j v hj => by
  obtain ⟨q1, q2⟩ := h j v hj
  refine ⟨?_, by rw [World.frozen?_setCells]; exact q2⟩
  rw [World.cell?_setCells_out b vs o w ⟨g, j, none⟩ (fun hb _ => absurd hb hg)]
  exact q1

end Go.Proofs.YtdbdlhgkhnenfaaDoor
/-
  Laws: a part of an array, behind a pointer.
-/
namespace Go.Proofs.YtdbdlhgkhnenfaaDoor
open Go.RowKit

theorem run_slice_arr {P : Program} (w : World) (t e : TypeId) (N : Nat) (hu : P.underlying t = some (.array N e)) (hi : (P.info? e).map (·.size) = some 1) (b o : Nat) (kl : IntKind) (l : Int) (m : Nat) (hl : l = (m : Int)) (h : m < N) :
    (Instr.sliceAt t (.pointer (some ⟨b, o, none⟩)) (some (.int kl l)) none none).run P w = .ok (.slice (some ⟨b, o + m, none⟩) (N - m) (N - m)) w := by
  subst hl
  have h1 : P.arrayLen t = N := by simp [Program.arrayLen, hu]
  have h2 : P.elem t = e := by simp [Program.elem, hu]
  rw [run_sliceAt_array_l w t ⟨b, o, none⟩ (by rw [h1, h2]; exact hu) kl (m : Int) (by omega) (by rw [h1]; omega)]
  cases hq : P.info? e with
  | none => simp [hq] at hi
  | some i =>
    have hs : i.size = 1 := by simpa [hq] using hi
    have hne : ¬ N = m := by omega
    simp [sizeOf, typeInfo, h1, h2, hq, hs, slicedAt, hne, Addr.add_lit]

theorem run_slice_arr_end {P : Program} (w : World) (t e : TypeId) (N : Nat) (hu : P.underlying t = some (.array N e)) (hi : (P.info? e).map (·.size) = some 1) (b o : Nat) (kl : IntKind) (l : Int) (hl : l = (N : Int)) :
    (Instr.sliceAt t (.pointer (some ⟨b, o, none⟩)) (some (.int kl l)) none none).run P w = .ok (.slice (some ⟨b, o, none⟩) 0 0) w := by
  subst hl
  have h1 : P.arrayLen t = N := by simp [Program.arrayLen, hu]
  have h2 : P.elem t = e := by simp [Program.elem, hu]
  rw [run_sliceAt_array_l w t ⟨b, o, none⟩ (by rw [h1, h2]; exact hu) kl (N : Int) (by omega) (by rw [h1]; omega)]
  cases hq : P.info? e with
  | none => simp [hq] at hi
  | some i => simp [sizeOf, typeInfo, h1, h2, hq, slicedAt]

theorem run_slice_arr_all {P : Program} (w : World) (t e : TypeId) (N : Nat) (hu : P.underlying t = some (.array N e)) (hi : (P.info? e).map (·.size) = some 1) (b o : Nat) (h : 0 < N) :
    (Instr.sliceAt t (.pointer (some ⟨b, o, none⟩)) none none none).run P w = .ok (.slice (some ⟨b, o, none⟩) N N) w := by
  have h1 : P.arrayLen t = N := by simp [Program.arrayLen, hu]
  have h2 : P.elem t = e := by simp [Program.elem, hu]
  rw [run_sliceAt_array_all w t ⟨b, o, none⟩ (by rw [h1, h2]; exact hu)]
  cases hq : P.info? e with
  | none => simp [hq] at hi
  | some i =>
    have hs : i.size = 1 := by simpa [hq] using hi
    have hne : ¬ N = 0 := by omega
    simp [sizeOf, typeInfo, h1, h2, hq, hs, slicedAt, hne, Addr.add_lit]

/-- a whole array is read, the operation being guarded by a test that came out so -/
theorem wpList_load_mid_g {P : Program} {ops : Array Oper} {rest : List Oper} {op : Oper} {a : Act} {w : World} {Q : Exit → Act → World → Prop} (hw : Region.wanted op (yielded ops a.tmps) = true) (ty : TypeId) (x : Operand) (ho : op.op = .load ty x)
    (b o : Nat) (hx : a.eval x = .pointer (some ⟨b, o, none⟩)) (cs : List Value) (d : TypeDesc) (hc : w.rangeAt b o cs)
    (hu : P.underlying ty = some d) (hd : d.isRow = true) (hi : (P.info? ty).map (·.size) = some cs.length)
    (h : wpList P ops Q rest (a.put op.dst (.agg cs.toArray)) w) : wpList P ops Q (op :: rest) a w :=
  wpList_step fun K hK => by
    rw [if_pos hw]
    exact wp_load_mid ty x ho b o hx cs d hc hu hd hi (hK _ _ h)

end Go.Proofs.YtdbdlhgkhnenfaaDoor
/-
  Contracts of package hash: the words of a block.
-/
namespace Go.Proofs.YtdbdlhgkhnenfaaDoor
open Go.RowKit
open Sha (wv)

theorem three_rows (w : World) (a b c : Array Value) (t1 t2 t3 : TypeId) :
    Row w.heap.size a.toList (((w.alloc (.cells a t1)).alloc (.cells b t2)).alloc (.cells c t3)) ∧ Row (w.heap.size + 1) b.toList (((w.alloc (.cells a t1)).alloc (.cells b t2)).alloc (.cells c t3)) ∧
    Row (w.heap.size + 2) c.toList (((w.alloc (.cells a t1)).alloc (.cells b t2)).alloc (.cells c t3)) ∧ Below w.heap.size w (((w.alloc (.cells a t1)).alloc (.cells b t2)).alloc (.cells c t3)) ∧
    (((w.alloc (.cells a t1)).alloc (.cells b t2)).alloc (.cells c t3)).heap.size = w.heap.size + 3 := by
  have h1 := Row.new w a t1
  have h2 := Row.new (w.alloc (.cells a t1)) b t2
  have h3 := Row.new ((w.alloc (.cells a t1)).alloc (.cells b t2)) c t3
  have e1 : (w.alloc (.cells a t1)).heap.size = w.heap.size + 1 := by simp
  have e2 : ((w.alloc (.cells a t1)).alloc (.cells b t2)).heap.size = w.heap.size + 2 := by simp
  rw [e1] at h2
  rw [e2] at h3
  exact ⟨(h1.alloc _).alloc _, h2.alloc _, h3, (((Below.refl _ _).alloc (Nat.le_refl _) _).alloc (by simp) _).alloc (by simp; omega) _, by simp⟩
theorem zeros_u32 : ((List.replicate 64 (Value.int .u32 0)).toArray).toList = fill64 [] := by simp [fill64]
theorem zeros_lit : (#[Value.int .u32 0, Value.int .u32 0, Value.int .u32 0, Value.int .u32 0, Value.int .u32 0, Value.int .u32 0, Value.int .u32 0, Value.int .u32 0, Value.int .u32 0, Value.int .u32 0, Value.int .u32 0, Value.int .u32 0, Value.int .u32 0, Value.int .u32 0, Value.int .u32 0, Value.int .u32 0, Value.int .u32 0, Value.int .u32 0, Value.int .u32 0, Value.int .u32 0, Value.int .u32 0, Value.int .u32 0, Value.int .u32 0, Value.int .u32 0, Value.int .u32 0, Value.int .u32 0, Value.int .u32 0, Value.int .u32 0, Value.int .u32 0, Value.int .u32 0, Value.int .u32 0, Value.int .u32 0, Value.int .u32 0, Value.int .u32 0, Value.int .u32 0, Value.int .u32 0, Value.int .u32 0, Value.int .u32 0, Value.int .u32 0, Value.int .u32 0, Value.int .u32 0, Value.int .u32 0, Value.int .u32 0, Value.int .u32 0, Value.int .u32 0, Value.int .u32 0, Value.int .u32 0, Value.int .u32 0, Value.int .u32 0, Value.int .u32 0, Value.int .u32 0, Value.int .u32 0, Value.int .u32 0, Value.int .u32 0, Value.int .u32 0, Value.int .u32 0, Value.int .u32 0, Value.int .u32 0, Value.int .u32 0, Value.int .u32 0, Value.int .u32 0, Value.int .u32 0, Value.int .u32 0, Value.int .u32 0] : Array Value).toList = fill64 [] := rfl
theorem fill64_at (ws : List (BitVec 32)) (j : Nat) (h : j < ws.length) : (fill64 ws)[j]? = some (wv (Sha.at_ ws j)) := by
  unfold fill64 Sha.at_
  rw [List.getElem?_append_left (by rw [List.length_map]; omega), List.getElem?_map, List.getD_eq_getElem?_getD, List.getElem?_eq_getElem (by omega)]
  rfl
theorem fill64_zero (ws : List (BitVec 32)) (k : Nat) (h : ws.length = k) (hk : k < 64) : (fill64 ws)[k]? = some (.int .u32 0) := by
  unfold fill64
  rw [List.getElem?_append_right (by rw [List.length_map]; omega), List.length_map, h, Nat.sub_self, List.getElem?_replicate, if_pos (by omega)]
theorem fill64_full (ws : List (BitVec 32)) (h : ws.length = 64) : fill64 ws = ws.map wv := by
  unfold fill64; rw [h]; simp

theorem hsRotated_q (x : BitVec 32) (n : Nat) (W : World) (h1 : 1 ≤ n) (h2 : n ≤ 31) :
    Calls Tryd.prog 84 #[wv x, .int .i64 (n : Int)] W fun e w' => e = .returned (wv (Sha.rotr x n)) ∧ ∃ q, w' = W.drewN q :=
  (hsRotated_any x n W h1 h2).mono fun _ _ ⟨he, hw⟩ => ⟨he, 0, hw.symm⟩

set_option maxRecDepth 1000000 in
set_option maxHeartbeats 2000000 in
theorem hsSchedule_any (l : List UInt8) (w : World) (hn : l.length = 64) :
    Calls Tryd.prog 81 #[.agg (l.map bv).toArray] w fun e w' => e = .returned (.agg ((Sha.words l).map wv).toArray) ∧ Below w.heap.size w w' := by
  have HN := Lib.hid hn
  clear hn
  go_enter Tryd.func81, Tryd.ntmps81
  go_wp2_with fail
  go_loopw [8] (fun i wr => ∃ k : Nat, i = .int .i64 (k : Int) ∧ k ≤ 16 ∧ Row w.heap.size (l.map bv) wr ∧ Row (w.heap.size + 1) (fill64 []) wr ∧ Row (w.heap.size + 1 + 1) (fill64 (Sha.heads l k)) wr ∧ Below w.heap.size w wr ∧ w.heap.size + 1 + 1 < wr.heap.size) (fun i _ => 16 - (intOf i).toNat)
  case atStart =>
    obtain ⟨q1, q2, q3, q4, q5⟩ := three_rows w (l.map bv).toArray (List.replicate 64 (Value.int .u32 0)).toArray (List.replicate 64 (Value.int .u32 0)).toArray 88 102 102
    rw [zeros_u32] at q2 q3
    exact ⟨0, rfl, by omega, q1, q2, q3, q4, by simp⟩
  case round =>
    obtain ⟨k, rfl, hk, hR1, hR2, hR3, hbel, hsz⟩ := hrel
    by_cases hlt : k < 16
    · have hat : ∀ j, j < 64 → wr.cell? ⟨w.heap.size, j, none⟩ = some (.int .u8 ((l.getD j 0).toNat : Int)) := fun j hj => (hR1 j _ (by
        rw [List.getElem?_map, List.getD_eq_getElem?_getD, List.getElem?_eq_getElem (by rw [HN.out]; exact hj)]; rfl)).1
      have hc0 := hat (4 * k) (by omega)
      have hc1 := hat (4 * k + 1) (by omega)
      have hc2 := hat (4 * k + 2) (by omega)
      have hc3 := hat (4 * k + 3) (by omega)
      have C := Lib.hid (hsWord_any (l.getD (4 * k) 0) (l.getD (4 * k + 1) 0) (l.getD (4 * k + 2) 0) (l.getD (4 * k + 3) 0) w.heap.size (4 * k) (64 - 4 * k) (64 - 4 * k) wr (by omega) hc0 hc1 hc2 hc3)
      have hw0 := hR3 k (.int .u32 0) (fill64_zero _ _ (Sha.heads_len l k) (by omega))
      obtain ⟨hw1, hw2⟩ := hw0
      have H1 := Lib.hid hR1
      have H2 := Lib.hid hR2
      have H3 := Lib.hid hR3
      have HB := Lib.hid hbel
      have hki : (k : Int) < 16 := by omega
      have hs := fun W : World => run_slice_arr (P := Tryd.prog) W 88 5 64 Tryd.underlying88 (by kernel_rfl) w.heap.size 0 .i64 ((k : Int) * 4) (4 * k) (by omega) (by omega)
      rw [Nat.zero_add] at hs
      clear hat hc0 hc1 hc2 hc3 hR1 hR2 hR3 hbel
      go_wp2_with fail
      refine C.out.mono ?_
      rintro e w1 ⟨rfl, q, rfl⟩
      go_wp2_with fail
      go_roundw
      case rel =>
        have hlen := Sha.heads_len l k
        have hr := ((H3.out.drewN q).set k (wv (Sha.be (l.getD (4 * k) 0) (l.getD (4 * k + 1) 0) (l.getD (4 * k + 2) 0) (l.getD (4 * k + 3) 0))) (by rw [fill64_len _ (by omega)]; omega))
        have hs := fill64_step (Sha.heads l k) (Sha.be (l.getD (4 * k) 0) (l.getD (4 * k + 1) 0) (l.getD (4 * k + 2) 0) (l.getD (4 * k + 3) 0)) (by omega)
        rw [hlen] at hs
        rw [hs] at hr
        exact ⟨k + 1, by go_num, by omega, (H1.out.drewN q).far (by omega) k [_], (H2.out.drewN q).far (by omega) k [_], hr, (below_drewN HB.out q).setCell (p := ⟨w.heap.size + 1 + 1, k, none⟩) (by simp; omega) _, by simpa using hsz⟩
      case measure => simp [intOf]; omega
    · have hk16 : k = 16 := by omega
      subst hk16
      have H2 := Lib.hid hR2
      have H3 := Lib.hid hR3
      have HB := Lib.hid hbel
      clear hR1 hR2 hR3 hbel
      go_wp2_with fail
      go_loopw [5] (fun i wr => ∃ (k : Nat) (ws : List (BitVec 32)), i = .int .i64 (k : Int) ∧ 16 ≤ k ∧ k ≤ 64 ∧ ws.length = k ∧ Sha.words l = Sha.more ws (64 - k) ∧ Row (w.heap.size + 1) (fill64 []) wr ∧ Row (w.heap.size + 1 + 1) (fill64 ws) wr ∧ Below w.heap.size w wr ∧ w.heap.size + 1 + 1 < wr.heap.size) (fun i _ => 64 - (intOf i).toNat)
      case atStart => exact ⟨16, Sha.heads l 16, rfl, by omega, by omega, Sha.heads_len l 16, rfl, H2.out, H3.out, HB.out, hsz⟩
      case round =>
        obtain ⟨k, ws, rfl, hk16, hk64, hlen, hws, hr2, hrow, hbel, hsz⟩ := hrel
        by_cases hlt : k < 64
        · have hat : ∀ j, j < k → wr.cell? ⟨w.heap.size + 1 + 1, j, none⟩ = some (.int .u32 ((Sha.at_ ws j).toNat : Int)) := by
            intro j hj
            exact (hrow j (wv (Sha.at_ ws j)) (fill64_at ws j (by omega))).1
          have r7 : ∀ (x : BitVec 32) (W : World), Calls Tryd.prog 84 #[wv x, .int .i64 7] W fun e w' => e = .returned (wv (Sha.rotr x 7)) ∧ ∃ q, w' = W.drewN q := fun x W => hsRotated_q x 7 W (by omega) (by omega)
          have r18 : ∀ (x : BitVec 32) (W : World), Calls Tryd.prog 84 #[wv x, .int .i64 18] W fun e w' => e = .returned (wv (Sha.rotr x 18)) ∧ ∃ q, w' = W.drewN q := fun x W => hsRotated_q x 18 W (by omega) (by omega)
          have r17 : ∀ (x : BitVec 32) (W : World), Calls Tryd.prog 84 #[wv x, .int .i64 17] W fun e w' => e = .returned (wv (Sha.rotr x 17)) ∧ ∃ q, w' = W.drewN q := fun x W => hsRotated_q x 17 W (by omega) (by omega)
          have r19 : ∀ (x : BitVec 32) (W : World), Calls Tryd.prog 84 #[wv x, .int .i64 19] W fun e w' => e = .returned (wv (Sha.rotr x 19)) ∧ ∃ q, w' = W.drewN q := fun x W => hsRotated_q x 19 W (by omega) (by omega)
          have H7 := Lib.hid r7
          have H18 := Lib.hid r18
          have H17 := Lib.hid r17
          have H19 := Lib.hid r19
          have H2 := Lib.hid hr2
          clear hr2
          have hc15 := hat (k - 15) (by omega)
          have hc2 := hat (k - 2) (by omega)
          have hc16 := hat (k - 16) (by omega)
          have hc7 := hat (k - 7) (by omega)
          have hw0 := hrow k (.int .u32 0) (fill64_zero _ _ hlen (by omega))
          obtain ⟨hw1, hw2⟩ := hw0
          have HLEN := Lib.hid hlen
          have HWS := Lib.hid hws
          have HROW := Lib.hid hrow
          have HBEL := Lib.hid hbel
          have hki : (k : Int) < 64 := by omega
          have hk1 : (16 : Int) ≤ (k : Int) := by omega
          have n15 : ((k : Int) - 15).toNat = k - 15 := by omega
          have n2 : ((k : Int) - 2).toNat = k - 2 := by omega
          have n16 : ((k : Int) - 16).toNat = k - 16 := by omega
          have n7 : ((k : Int) - 7).toNat = k - 7 := by omega
          have s15 : IntKind.i64.wrap ((k : Int) - 15) = (k : Int) - 15 := IntWalk.i64_in _ (by omega)
          have s2 : IntKind.i64.wrap ((k : Int) - 2) = (k : Int) - 2 := IntWalk.i64_in _ (by omega)
          have s16 : IntKind.i64.wrap ((k : Int) - 16) = (k : Int) - 16 := IntWalk.i64_in _ (by omega)
          have s7 : IntKind.i64.wrap ((k : Int) - 7) = (k : Int) - 7 := IntWalk.i64_in _ (by omega)
          have g15 : (0 : Int) ≤ (k : Int) - 15 := by omega
          have g15' : (k : Int) - 15 < 64 := by omega
          have g2 : (0 : Int) ≤ (k : Int) - 2 := by omega
          have g2' : (k : Int) - 2 < 64 := by omega
          have g16 : (0 : Int) ≤ (k : Int) - 16 := by omega
          have g16' : (k : Int) - 16 < 64 := by omega
          have g7 : (0 : Int) ≤ (k : Int) - 7 := by omega
          have g7' : (k : Int) - 7 < 64 := by omega
          clear hat r7 r18 r17 r19 hlen hws hrow hbel
          go_wp2_with fail
          go_quiet (first | (with_reducible show Calls _ _ #[_, Value.int .i64 7] _ _; exact Calls.quiet_of (H7.out _ _)) | (with_reducible show Calls _ _ #[_, Value.int .i64 18] _ _; exact Calls.quiet_of (H18.out _ _)))
          have E9 : bits .xor .u32 (bits .xor .u32 ((Sha.rotr (Sha.at_ ws (k - 15)) 7).toNat : Int) ((Sha.rotr (Sha.at_ ws (k - 15)) 18).toNat : Int)) (((Sha.at_ ws (k - 15)).toNat : Int) / 8) = ((Sha.rotr (Sha.at_ ws (k - 15)) 7 ^^^ Sha.rotr (Sha.at_ ws (k - 15)) 18 ^^^ (Sha.at_ ws (k - 15) >>> 3)).toNat : Int) := by
            have e : ((Sha.at_ ws (k - 15)).toNat : Int) / (8 : Int) = ((Sha.at_ ws (k - 15) >>> 3).toNat : Int) := by
              rw [BitVec.toNat_ushiftRight, Nat.shiftRight_eq_div_pow, Int.natCast_ediv]; rfl
            rw [e, Sha.bits_xor, Sha.bits_xor]
          have E10 : bits .xor .u32 (bits .xor .u32 ((Sha.rotr (Sha.at_ ws (k - 2)) 17).toNat : Int) ((Sha.rotr (Sha.at_ ws (k - 2)) 19).toNat : Int)) (((Sha.at_ ws (k - 2)).toNat : Int) / 1024) = ((Sha.rotr (Sha.at_ ws (k - 2)) 17 ^^^ Sha.rotr (Sha.at_ ws (k - 2)) 19 ^^^ (Sha.at_ ws (k - 2) >>> 10)).toNat : Int) := by
            have e : ((Sha.at_ ws (k - 2)).toNat : Int) / (1024 : Int) = ((Sha.at_ ws (k - 2) >>> 10).toNat : Int) := by
              rw [BitVec.toNat_ushiftRight, Nat.shiftRight_eq_div_pow, Int.natCast_ediv]; rfl
            rw [e, Sha.bits_xor, Sha.bits_xor]
          obtain ⟨S0, hS0⟩ : ∃ S0, S0 = Sha.rotr (Sha.at_ ws (k - 15)) 7 ^^^ Sha.rotr (Sha.at_ ws (k - 15)) 18 ^^^ (Sha.at_ ws (k - 15) >>> 3) := ⟨_, rfl⟩
          obtain ⟨S1, hS1⟩ : ∃ S1, S1 = Sha.rotr (Sha.at_ ws (k - 2)) 17 ^^^ Sha.rotr (Sha.at_ ws (k - 2)) 19 ^^^ (Sha.at_ ws (k - 2) >>> 10) := ⟨_, rfl⟩
          rw [← hS0] at E9
          rw [← hS1] at E10
          have HS0 := Lib.hid hS0
          have HS1 := Lib.hid hS1
          have F9 := Lib.hid E9
          have F10 := Lib.hid E10
          clear hS0 hS1 E9 E10
          go_wp2_with fail
          rw [F9.out]
          obtain ⟨V1, hV⟩ : ∃ W2, W2 = wr.drewN nq := ⟨_, rfl⟩
          have hc2 : V1.cell? ⟨w.heap.size + 1 + 1, k - 2, none⟩ = some (.int .u32 ((Sha.at_ ws (k - 2)).toNat : Int)) := by rw [hV]; exact hc2
          have hc16 : V1.cell? ⟨w.heap.size + 1 + 1, k - 16, none⟩ = some (.int .u32 ((Sha.at_ ws (k - 16)).toNat : Int)) := by rw [hV]; exact hc16
          have hc7 : V1.cell? ⟨w.heap.size + 1 + 1, k - 7, none⟩ = some (.int .u32 ((Sha.at_ ws (k - 7)).toNat : Int)) := by rw [hV]; exact hc7
          have hw1 : V1.cell? ⟨w.heap.size + 1 + 1, k, none⟩ = some (.int .u32 0) := by rw [hV]; exact hw1
          have hw2 : V1.frozen? ⟨w.heap.size + 1 + 1, k, none⟩ = false := by rw [hV]; exact hw2
          have H2 : Hid (Row (w.heap.size + 1) (fill64 []) V1) := Lib.hid (by rw [hV]; exact H2.out.drewN nq)
          have HROW : Hid (Row (w.heap.size + 1 + 1) (fill64 ws) V1) := Lib.hid (by rw [hV]; exact HROW.out.drewN nq)
          have HBEL : Hid (Below w.heap.size w V1) := Lib.hid (by rw [hV]; exact ⟨HBEL.out.os, HBEL.out.tape, HBEL.out.output, HBEL.out.size, HBEL.out.block⟩)
          have hsz : w.heap.size + 1 + 1 < V1.heap.size := by rw [hV]; exact hsz
          rw [← hV]
          clear hV
          go_quiet (first | (with_reducible show Calls _ _ #[_, Value.int .i64 17] _ _; exact Calls.quiet_of (H17.out _ _)) | (with_reducible show Calls _ _ #[_, Value.int .i64 19] _ _; exact Calls.quiet_of (H19.out _ _)))
          go_wp2_with fail
          rw [F10.out]
          obtain ⟨V2, hV⟩ : ∃ W2, W2 = V1.drewN nq := ⟨_, rfl⟩
          have hc2 : V2.cell? ⟨w.heap.size + 1 + 1, k - 2, none⟩ = some (.int .u32 ((Sha.at_ ws (k - 2)).toNat : Int)) := by rw [hV]; exact hc2
          have hc16 : V2.cell? ⟨w.heap.size + 1 + 1, k - 16, none⟩ = some (.int .u32 ((Sha.at_ ws (k - 16)).toNat : Int)) := by rw [hV]; exact hc16
          have hc7 : V2.cell? ⟨w.heap.size + 1 + 1, k - 7, none⟩ = some (.int .u32 ((Sha.at_ ws (k - 7)).toNat : Int)) := by rw [hV]; exact hc7
          have hw1 : V2.cell? ⟨w.heap.size + 1 + 1, k, none⟩ = some (.int .u32 0) := by rw [hV]; exact hw1
          have hw2 : V2.frozen? ⟨w.heap.size + 1 + 1, k, none⟩ = false := by rw [hV]; exact hw2
          have H2 : Hid (Row (w.heap.size + 1) (fill64 []) V2) := Lib.hid (by rw [hV]; exact H2.out.drewN nq)
          have HROW : Hid (Row (w.heap.size + 1 + 1) (fill64 ws) V2) := Lib.hid (by rw [hV]; exact HROW.out.drewN nq)
          have HBEL : Hid (Below w.heap.size w V2) := Lib.hid (by rw [hV]; exact ⟨HBEL.out.os, HBEL.out.tape, HBEL.out.output, HBEL.out.size, HBEL.out.block⟩)
          have hsz : w.heap.size + 1 + 1 < V2.heap.size := by rw [hV]; exact hsz
          rw [← hV]
          clear hV
          clear F9 F10
          go_region
          have E11 : ((((Sha.at_ ws (k - 16)).toNat : Int) + (S0.toNat : Int) + ((Sha.at_ ws (k - 7)).toNat : Int) + (S1.toNat : Int)) % 4294967296) = ((Sha.next ws).toNat : Int) := by
            have e : Sha.next ws = Sha.at_ ws (k - 16) + S0 + Sha.at_ ws (k - 7) + S1 := by
              rw [HS0.out, HS1.out]; unfold Sha.next; simp only [HLEN.out]
            rw [e]
            simp only [BitVec.toNat_add]
            omega
          rw [E11]
          clear E11
          go_wp2_with fail
          go_roundw
          case rel =>
            have hl := HLEN.out
            have hr := (HROW.out.set k (wv (Sha.next ws)) (by rw [fill64_len _ (by omega)]; omega))
            have hs := fill64_step ws (Sha.next ws) (by omega)
            rw [hl] at hs
            rw [hs] at hr
            refine ⟨k + 1, ws ++ [Sha.next ws], by go_num, by omega, by omega, by rw [List.length_append, hl]; rfl, ?_, (show Row (w.heap.size + 1) (fill64 []) V2.drew from H2.out).far (by omega) k [_], hr, below_drew (HBEL.out.setCell (p := ⟨w.heap.size + 1 + 1, k, none⟩) (by simp; omega) _), by simpa using hsz⟩
            rw [HWS.out, show 64 - k = (64 - (k + 1)) + 1 by omega]; rfl
          case measure => simp [intOf]; omega
        · have hk : k = 64 := by omega
          subst hk
          have e : Sha.words l = ws := by rw [hws]; rfl
          rw [fill64_full ws hlen] at hrow
          have HE := Lib.hid e
          have HW := Lib.hid hlen
          have H2 := Lib.hid hr2
          have H3 := Lib.hid hrow
          have HB := Lib.hid hbel
          clear hlen hws hr2 hrow hbel e
          have I := Lib.hid (show (Tryd.prog.info? 102).map (·.size) = some (ws.map wv).length by rw [List.length_map, HW.out]; kernel_rfl)
          have I2 := Lib.hid (show (Tryd.prog.info? 102).map (·.size) = some (ws.map wv).toArray.size by rw [List.size_toArray, List.length_map, HW.out]; kernel_rfl)
          have T2 := Lib.hid (H2.out.there 0 (ws.map wv).toArray.size (by rw [List.size_toArray, List.length_map, HW.out, fill64_len _ (by simp)]; omega))
          have O1 := Lib.hid (all_oneCell_toArray (cs := ws.map wv) (fun v hv => by obtain ⟨x, _, rfl⟩ := List.mem_map.1 hv; rfl))
          go_wp2_with (first | (with_reducible refine wpList_load_mid rfl 102 (.tmp 3) rfl (w.heap.size + 1 + 1) 0 rfl (ws.map wv) _ H3.out.range Tryd.underlying102 rfl I.out ?_) | (with_reducible refine wpList_store_mid rfl 102 (.tmp 2) (.tmp 71) rfl (w.heap.size + 1) 0 (ws.map wv).toArray rfl rfl T2.out I2.out O1.out ?_))
          have HR := Lib.hid ((World.rangeAt_setCells_same wr (w.heap.size + 1) 0 (ws.map wv).toArray.toList (by simpa using T2.out)))
          have HBB := Lib.hid (below_setCells (b := w.heap.size + 1) (by omega) (ws.map wv).toArray.toList 0 w wr HB.out)
          refine bodyPost_ret (results_cell_mid rfl _ _ _ (w.heap.size + 1) 0 (ws.map wv) _ rfl HR.out Tryd.underlying102 rfl I.out) rfl ?_
          exact ⟨by rw [HE.out], HBB.out⟩

end Go.Proofs.YtdbdlhgkhnenfaaDoor
