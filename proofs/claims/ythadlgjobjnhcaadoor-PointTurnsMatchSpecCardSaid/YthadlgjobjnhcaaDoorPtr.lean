/-
  The state of turn's loop.
-/
import Derived.Test.YthadlgjobjnhcaaDoorPto
import Derived.Lib.OthersKept
import Derived.Deep.DeepCutAuto
namespace Go.Proofs.YthadlgjobjnhcaaDoor
open Go.RowKit
set_option linter.unusedVariables false

theorem Row.low {g b : Nat} {cs : List Value} {w w' : World} (h : Row g cs w) (hb : Below b w w') (hg : g < b) : Row g cs w' := fun j v hj => by
  obtain ⟨q1, q2⟩ := h j v hj
  exact ⟨(hb.cell hg).trans q1, (hb.frozen hg).trans q2⟩
theorem Row.cell1 {g : Nat} {cs : List Value} {w : World} (h : Row g cs w) (j : Nat) (v : Value) (hj : cs[j]? = some v) : w.cell? ⟨g, j, none⟩ = some v := (h j v hj).1
theorem Row.soft {g : Nat} {cs : List Value} {w : World} (h : Row g cs w) (j : Nat) (v : Value) (hj : cs[j]? = some v) : w.frozen? ⟨g, j, none⟩ = false := (h j v hj).2
theorem Row.set1 {g k : Nat} {cs : List Value} {w : World} (h : Row g cs w) (v : Value) (hk : k < cs.length) : Row g (cs.set k v) (w.setCell ⟨g, k, none⟩ v) := h.set k v hk

/-- block q: the iterator at i; p: what is read; t: what is written; r: the result -/
structure TR (q t p r : Nat) (S : ByteArray) (i : Nat) (X Z : List Value) (w wr : World) : Prop where
  it : wr.heap[q]? = some (.stringIter S i)
  rp : Row p X wr
  rt : Row t Z wr
  rr : Row r [.int .i64 0, .int .i64 0, .int .i64 0] wr
  bel : Below w.heap.size w wr
  tq : t < q
  pt : p < t
  rt' : r < t
  wt : w.heap.size ≤ t
theorem TR.next {q t p r : Nat} {S : ByteArray} {i : Nat} {X Z : List Value} {w wr : World} (h : TR q t p r S i X Z w wr) (j : Nat) : TR q t p r S j X Z w (wr.iterAt q S j) := by
  have hb : Below q wr (wr.iterAt q S j) := Lib.below_iterAt (Below.refl _ _) (Nat.le_refl _) S j
  have h1 := h.tq
  have h2 := h.pt
  have h3 := h.rt'
  exact ⟨Lib.iterAt_heap wr q S i j h.it, h.rp.low hb (by omega), h.rt.low hb h1, h.rr.low hb (by omega), Lib.below_iterAt h.bel (by have := h.wt; omega) S j, h1, h2, h3, h.wt⟩
theorem TR.set {q t p r : Nat} {S : ByteArray} {i : Nat} {X Z : List Value} {w wr : World} (h : TR q t p r S i X Z w wr) (k : Nat) (v : Value) (hk : k < Z.length) : TR q t p r S i X (Z.set k v) w (wr.setCell ⟨t, k, none⟩ v) := by
  have h1 := h.tq
  have h2 := h.pt
  have h3 := h.rt'
  have fp : Row p X (wr.setCell ⟨t, k, none⟩ v) := h.rp.far (b := t) (by omega) k [v]
  have fr : Row r _ (wr.setCell ⟨t, k, none⟩ v) := h.rr.far (b := t) (by omega) k [v]
  have fb : Below w.heap.size w (wr.setCell ⟨t, k, none⟩ v) := below_setCells h.wt [v] k w wr h.bel
  exact ⟨by rw [Below.heap_setCell _ _ _ _ (by intro e; simp at e; omega)]; exact h.it, fp, h.rt.set k v hk, fr, fb, h1, h2, h3, h.wt⟩
theorem TR.begin {t p r : Nat} {S : ByteArray} {X Z : List Value} {w V : World} (ty : TypeId) (ht : V.heap.size = t) (hp : Row p X V) (hr : Row r [.int .i64 0, .int .i64 0, .int .i64 0] V) (hpl : p < t) (hrl : r < t) (hb : Below w.heap.size w V) :
    TR (t + 1) t p r S 0 X Z w ((V.alloc (.cells Z.toArray ty)).iter S 0) := by
  subst ht
  have hn := Row.newl V Z ty
  have hs : (V.alloc (.cells Z.toArray ty)).heap.size = V.heap.size + 1 := by simp
  have hb2 : Below (V.alloc (.cells Z.toArray ty)).heap.size (V.alloc (.cells Z.toArray ty)) ((V.alloc (.cells Z.toArray ty)).iter S 0) := (Below.refl _ _).alloc (Nat.le_refl _) _
  have g : Gr V ((V.alloc (.cells Z.toArray ty)).iter S 0) := (Gr.al V _).trans hb2
  refine ⟨?_, hp.below g, hn.below hb2, hr.below g, Gr.to hb g, by omega, hpl, hrl, hb.size⟩
  have := World.iter_heap (V.alloc (.cells Z.toArray ty)) S 0
  rwa [hs] at this
theorem TR.pos {q t p r : Nat} {S : ByteArray} {i : Nat} {X Z : List Value} {w wr : World} (h : TR q t p r S i X Z w wr) : wr.iterPos q = i := by
  unfold World.iterPos; rw [h.it]
end Go.Proofs.YthadlgjobjnhcaaDoor
