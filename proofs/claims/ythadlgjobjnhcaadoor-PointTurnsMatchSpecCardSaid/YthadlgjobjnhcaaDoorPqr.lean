/-
  The state of the specification's loop that turns a point.
-/
import Derived.Test.YthadlgjobjnhcaaDoorPtr
import Derived.Test.YthadlgjobjnhcaaDoorRoz
import Derived.Test.YthadlgjobjnhcaaDoorPra
namespace Go.Proofs.YthadlgjobjnhcaaDoor
open Go.RowKit
set_option linter.unusedVariables false

/-- p: the coordinates; q: the axes; t: what is written; r: the result -/
structure RR (p q t r : Nat) (X A Z : List Value) (w wr : World) : Prop where
  rp : Row p X wr
  rq : Row q A wr
  rt : Row t Z wr
  rr : Row r [.int .i64 0, .int .i64 0, .int .i64 0] wr
  bel : Below w.heap.size w wr
  pt : p < t
  qt : q < t
  rt' : r < t
  wt : w.heap.size ≤ t
theorem RR.set {p q t r : Nat} {X A Z : List Value} {w wr : World} (h : RR p q t r X A Z w wr) (k : Nat) (v : Value) (hk : k < Z.length) : RR p q t r X A (Z.set k v) w (wr.setCell ⟨t, k, none⟩ v) := by
  have h1 := h.pt
  have h2 := h.qt
  have h3 := h.rt'
  have fp : Row p X (wr.setCell ⟨t, k, none⟩ v) := h.rp.far (b := t) (by omega) k [v]
  have fq : Row q A (wr.setCell ⟨t, k, none⟩ v) := h.rq.far (b := t) (by omega) k [v]
  have fr : Row r _ (wr.setCell ⟨t, k, none⟩ v) := h.rr.far (b := t) (by omega) k [v]
  have fb : Below w.heap.size w (wr.setCell ⟨t, k, none⟩ v) := below_setCells h.wt [v] k w wr h.bel
  exact ⟨fp, fq, h.rt.set k v hk, fr, fb, h1, h2, h3, h.wt⟩
theorem RR.begin {p q r : Nat} {X A Z : List Value} {w V : World} (ty : TypeId) (hp : Row p X V) (hq : Row q A V) (hr : Row r [.int .i64 0, .int .i64 0, .int .i64 0] V) (hpl : p < V.heap.size) (hql : q < V.heap.size) (hrl : r < V.heap.size) (hb : Below w.heap.size w V) :
    RR p q V.heap.size r X A Z w (V.alloc (.cells Z.toArray ty)) :=
  ⟨hp.alloc _, hq.alloc _, Row.newl V Z ty, hr.alloc _, Gr.to hb (Gr.al V _), hpl, hql, hrl, hb.size⟩
theorem RR.below {p q t r : Nat} {X A Z : List Value} {w wr w2 : World} (h : RR p q t r X A Z w wr) (g : Gr wr w2) : RR p q t r X A Z w w2 :=
  ⟨h.rp.below g, h.rq.below g, h.rt.below g, h.rr.below g, Gr.to h.bel g, h.pt, h.qt, h.rt', h.wt⟩
end Go.Proofs.YthadlgjobjnhcaaDoor
