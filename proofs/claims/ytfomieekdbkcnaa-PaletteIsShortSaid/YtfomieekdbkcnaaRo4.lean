/-
  Four blocks made one after the other.
-/
import Derived.Test.YtfomieekdbkcnaaRow
namespace Go.Proofs.Ytfomieekdbkcnaa
open Go.RowKit

theorem rows4 (w : World) (l0 : List Value) (t0 : TypeId) (l1 : List Value) (t1 : TypeId) (l2 : List Value) (t2 : TypeId) (l3 : List Value) (t3 : TypeId) :
    ∃ u, u = (((w.alloc (.cells l0.toArray t0)).alloc (.cells l1.toArray t1)).alloc (.cells l2.toArray t2)).alloc (.cells l3.toArray t3) ∧ Row w.heap.size l0 u ∧ Row (w.heap.size + 1) l1 u ∧ Row (w.heap.size + 1 + 1) l2 u ∧ Row (w.heap.size + 1 + 1 + 1) l3 u ∧ Below w.heap.size w u := by
  obtain ⟨u, hu, r0, r1, r2, g0⟩ := rows3 w l0 t0 l1 t1 l2 t2
  have hs : u.heap.size = w.heap.size + 1 + 1 + 1 := by rw [hu]; simp
  refine ⟨u.alloc (.cells l3.toArray t3), by rw [hu], r0.alloc _, r1.alloc _, r2.alloc _, ?_, Gr.to g0 (Gr.al u _)⟩
  have := Row.newl u l3 t3
  rwa [hs] at this
end Go.Proofs.Ytfomieekdbkcnaa
