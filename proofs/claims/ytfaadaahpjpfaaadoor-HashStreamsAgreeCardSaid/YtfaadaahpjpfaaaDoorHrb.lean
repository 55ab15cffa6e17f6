/-
  Contracts of voxelref02: the words of a block.
-/
import Derived.Test.YtfaadaahpjpfaaaDoorHra
namespace Go.Proofs.YtfaadaahpjpfaaaDoor
open Go.RowKit
open Sha (wv)

/-- block g holds the values cs, and they may be written -/
def Row (g : Nat) (cs : List Value) (w : World) : Prop := ∀ j v, cs[j]? = some v → w.cell? ⟨g, j, none⟩ = some v ∧ w.frozen? ⟨g, j, none⟩ = false
theorem Row.drewN {g : Nat} {cs : List Value} {w : World} (h : Row g cs w) (q : Nat) : Row g cs (w.drewN q) := h
theorem Row.new (w : World) (c : Array Value) (t : TypeId) : Row w.heap.size c.toList (w.alloc (.cells c t)) := by
  intro j v hj
  refine ⟨?_, ?_⟩
  · rw [World.cell?_alloc_new]; simpa using hj
  · exact World.frozen?_alloc_new w c t j

/-- the words so far, and zeros -/
def fill64 (ws : List (BitVec 32)) : List Value := ws.map wv ++ List.replicate (64 - ws.length) (Value.int .u32 0)

theorem fill64_len (ws : List (BitVec 32)) (h : ws.length ≤ 64) : (fill64 ws).length = 64 := by
  unfold fill64
  rw [List.length_append, List.length_map, List.length_replicate]; omega
theorem fill64_step (ws : List (BitVec 32)) (x : BitVec 32) (h : ws.length < 64) : (fill64 ws).set ws.length (wv x) = fill64 (ws ++ [x]) := by
  unfold fill64
  have h1 : (ws.map wv).length = ws.length := List.length_map _
  rw [List.set_append_right _ _ (by omega), h1, Nat.sub_self, show 64 - ws.length = (64 - (ws ++ [x]).length) + 1 by rw [List.length_append]; simp; omega, List.replicate_succ, List.set_cons_zero, List.map_append, List.append_assoc]
  rfl
theorem Row.set {g : Nat} {cs : List Value} {w : World} (h : Row g cs w) (k : Nat) (v : Value) (hk : k < cs.length) : Row g (cs.set k v) (w.setCell ⟨g, k, none⟩ v) := by
  intro j u hj
  by_cases hjk : j = k
  · subst hjk
    rw [List.getElem?_set_self hk] at hj
    cases hj
    obtain ⟨q1, q2⟩ := h j cs[j] (List.getElem?_eq_getElem hk)
    refine ⟨World.cell?_setCell_same _ _ _ q1, ?_⟩
    rw [World.frozen?_setCell]; exact q2
  · rw [List.getElem?_set_ne (fun e => hjk e.symm)] at hj
    obtain ⟨q1, q2⟩ := h j u hj
    refine ⟨?_, ?_⟩
    · exact (World.cell?_setCell_other _ _ _ _ (by intro e; cases e; exact hjk rfl)).trans q1
    · rw [World.frozen?_setCell]; exact q2
theorem below_drew {B : Nat} {a w : World} (h : Below B a w) : Below B a w.drew := ⟨h.os, h.tape, h.output, h.size, h.block⟩
theorem be_bits (a b c d : UInt8) : bits .or .u32 (bits .or .u32 (bits .or .u32 ((a.toNat : Int) * (16777216 : Int)) ((b.toNat : Int) * (65536 : Int))) ((c.toNat : Int) * (256 : Int))) (d.toNat : Int) = ((Sha.be a b c d).toNat : Int) := by
  have ha := a.toNat_lt
  have hb := b.toNat_lt
  have hc := c.toNat_lt
  have hd := d.toNat_lt
  have e1 : (a.toNat : Int) * (16777216 : Int) = ((BitVec.ofNat 32 a.toNat <<< 24).toNat : Int) := by
    rw [BitVec.toNat_shiftLeft, BitVec.toNat_ofNat, Nat.shiftLeft_eq, Nat.mod_eq_of_lt (a := a.toNat) (by omega), Nat.mod_eq_of_lt (by omega)]; omega
  have e2 : (b.toNat : Int) * (65536 : Int) = ((BitVec.ofNat 32 b.toNat <<< 16).toNat : Int) := by
    rw [BitVec.toNat_shiftLeft, BitVec.toNat_ofNat, Nat.shiftLeft_eq, Nat.mod_eq_of_lt (a := b.toNat) (by omega), Nat.mod_eq_of_lt (by omega)]; omega
  have e3 : (c.toNat : Int) * (256 : Int) = ((BitVec.ofNat 32 c.toNat <<< 8).toNat : Int) := by
    rw [BitVec.toNat_shiftLeft, BitVec.toNat_ofNat, Nat.shiftLeft_eq, Nat.mod_eq_of_lt (a := c.toNat) (by omega), Nat.mod_eq_of_lt (by omega)]; omega
  have e4 : (d.toNat : Int) = ((BitVec.ofNat 32 d.toNat).toNat : Int) := by
    rw [BitVec.toNat_ofNat, Nat.mod_eq_of_lt (by omega)]
  rw [e1, e2, e3, e4, Sha.bits_or, Sha.bits_or, Sha.bits_or]
  rfl


end Go.Proofs.YtfaadaahpjpfaaaDoor
