/-
  Contracts of package hash: a word is written.
-/
import Derived.Test.YtfaadaahpjpfaaaDoorHsb
import Derived.Deep.MidRow
namespace Go.Proofs.YtfaadaahpjpfaaaDoor
open Go.RowKit
open Sha (wv)

theorem byte_of (x : BitVec 32) (k : Nat) : ((x.toNat : Int) / 2 ^ k) % 256 = ((UInt8.ofNat (x >>> k).toNat).toNat : Int) := by
  have h : (UInt8.ofNat (x >>> k).toNat).toNat = (x >>> k).toNat % 256 := by simp
  rw [h, BitVec.toNat_ushiftRight, Nat.shiftRight_eq_div_pow, Int.natCast_emod, Int.natCast_ediv, Int.natCast_pow]; rfl

theorem top_of (x : BitVec 32) : (x.toNat : Int) / (16777216 : Int) = ((UInt8.ofNat (x >>> 24).toNat).toNat : Int) := by
  have h := byte_of x 24
  have e : ((2 : Int) ^ 24) = 16777216 := by decide
  rw [e] at h
  have := x.isLt
  omega

set_option maxRecDepth 1000000 in
theorem hsPutWord_any (x : BitVec 32) (g o n c : Nat) (w : World) (hn : 4 ≤ n) (ht : w.there g o 4) :
    Calls Tryd.prog 31 #[.slice (some ⟨g, o, none⟩) n c, wv x] w fun e w' => e = .returned (.tuple #[]) ∧ w' = w.setCells g o ((Sha.bytesOf x).map bv) := by
  obtain ⟨u0, q0⟩ := Option.isSome_iff_exists.1 (ht 0 (by omega)).1
  obtain ⟨u1, q1⟩ := Option.isSome_iff_exists.1 (ht 1 (by omega)).1
  obtain ⟨u2, q2⟩ := Option.isSome_iff_exists.1 (ht 2 (by omega)).1
  obtain ⟨u3, q3⟩ := Option.isSome_iff_exists.1 (ht 3 (by omega)).1
  have f0 := (ht 0 (by omega)).2
  have f1 := (ht 1 (by omega)).2
  have f2 := (ht 2 (by omega)).2
  have f3 := (ht 3 (by omega)).2
  rw [Nat.add_zero] at q0 f0
  have n0 : (0 : Int) < (n : Int) := by omega
  have n1 : (1 : Int) < (n : Int) := by omega
  have n2 : (2 : Int) < (n : Int) := by omega
  have n3 : (3 : Int) < (n : Int) := by omega
  have E0 := Lib.hid (top_of x)
  have E1 := Lib.hid (show (x.toNat : Int) / (65536 : Int) % (256 : Int) = ((UInt8.ofNat (x >>> 16).toNat).toNat : Int) from byte_of x 16)
  have E2 := Lib.hid (show (x.toNat : Int) / (256 : Int) % (256 : Int) = ((UInt8.ofNat (x >>> 8).toNat).toNat : Int) from byte_of x 8)
  have E3 := Lib.hid (show (x.toNat : Int) % 256 = ((UInt8.ofNat x.toNat).toNat : Int) by simp)
  clear hn ht
  unfold Sha.wv
  go_enter Tryd.func31, Tryd.ntmps31
  go_wp2_with fail
  go_end0
  refine ⟨rfl, ?_⟩
  unfold Sha.bytesOf
  simp only [List.map, World.setCells, bv, ← E0.out, ← E1.out, ← E2.out, ← E3.out]

theorem results_cell_mid {fn : Func} {p : Tmp} {ty : TypeId} (h : fn.results = #[.cell p ty]) (tmps : Array Value) (P : Program) (w : World) (b o : Nat) (cs : List Value) (d : TypeDesc)
    (hp : tmps.getD p undef = .pointer (some ⟨b, o, none⟩)) (hc : w.rangeAt b o cs) (hu : P.underlying ty = some d) (hd : d.isRow = true) (hi : (P.info? ty).map (·.size) = some cs.length) :
    (results fn tmps).run P w = .ok (.agg cs.toArray) w := by
  have hp' : tmps[p]?.getD undef = .pointer (some ⟨b, o, none⟩) := by simpa using hp
  simp [results, h, hp', asAddr, run_loadVar_mid w b o ty cs d hc hu hd hi]

theorem Row.range {g : Nat} {cs : List Value} {w : World} (h : Row g cs w) : w.rangeAt g 0 cs := fun j v hj => by rw [Nat.zero_add]; exact (h j v hj).1
theorem Row.there {g : Nat} {cs : List Value} {w : World} (h : Row g cs w) (o n : Nat) (hn : o + n ≤ cs.length) : w.there g o n := fun j hj => by
  obtain ⟨q1, q2⟩ := h (o + j) _ (List.getElem?_eq_getElem (show o + j < cs.length by omega))
  exact ⟨by rw [q1]; rfl, q2⟩
theorem Row.sub {g : Nat} {cs : List Value} {w : World} (h : Row g cs w) (o : Nat) (sub : List Value) (hs : ∀ j, j < sub.length → cs[o + j]? = sub[j]?) : w.rangeAt g o sub := fun j v hj => by
  have hl : j < sub.length := (List.getElem?_eq_some_iff.1 hj).1
  exact (h (o + j) v (by rw [hs j hl]; exact hj)).1
theorem Row.setCells {g : Nat} {cs : List Value} {w : World} (h : Row g cs w) (o : Nat) (vs : List Value) (ho : o + vs.length ≤ cs.length) : Row g (cs.take o ++ vs ++ cs.drop (o + vs.length)) (w.setCells g o vs) := by
  induction vs generalizing o cs w with
  | nil => simpa [World.setCells] using h
  | cons v r ih =>
    rw [List.length_cons] at ho
    have h1 := h.set o v (by omega)
    have h2 := ih h1 (o + 1) (by rw [List.length_set]; omega)
    rw [World.setCells]
    have hk : o < cs.length := by omega
    have e : (cs.set o v).take (o + 1) ++ r ++ (cs.set o v).drop (o + 1 + r.length) = cs.take o ++ (v :: r) ++ cs.drop (o + (v :: r).length) := by
      rw [List.take_succ_eq_append_getElem (by rw [List.length_set]; exact hk), List.take_set_of_le (Nat.le_refl o), List.drop_set_of_lt (by omega)]
      simp [Nat.add_assoc, Nat.add_comm 1]
    rw [e] at h2
    exact h2
theorem Row.below {g : Nat} {cs : List Value} {w w' : World} (h : Row g cs w) (hb : Below w.heap.size w w') : Row g cs w' := fun j v hj => by
  obtain ⟨q1, q2⟩ := h j v hj
  have hl := World.block_lt_of_cell? w _ q1
  exact ⟨(hb.cell hl).trans q1, (hb.frozen hl).trans q2⟩
theorem below_drewN {B : Nat} {a w : World} (h : Below B a w) (q : Nat) : Below B a (w.drewN q) := ⟨h.os, h.tape, h.output, h.size, h.block⟩
theorem Row.alloc {g : Nat} {cs : List Value} {w : World} (h : Row g cs w) (o : Obj) : Row g cs (w.alloc o) := h.below ((Below.refl _ _).alloc (Nat.le_refl _) o)
theorem Row.far {g b : Nat} {cs : List Value} {w : World} (h : Row g cs w) (hg : g ≠ b) (o : Nat) (vs : List Value) : Row g cs (w.setCells b o vs) := fun j v hj => by
  obtain ⟨q1, q2⟩ := h j v hj
  refine ⟨?_, by rw [World.frozen?_setCells]; exact q2⟩
  rw [World.cell?_setCells_out b vs o w ⟨g, j, none⟩ (fun hb _ => absurd hb hg)]
  exact q1

end Go.Proofs.YtfaadaahpjpfaaaDoor
