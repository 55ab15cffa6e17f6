/-
  Laws for the walk: a conversion of bytes to a string; append of a string.
-/
import Derived.Test.YtmjjkloeipoefaaBase
import Derived.Deep.MidRow
import Derived.Deep.WholeRow
namespace Go.Proofs.Ytmjjkloeipoefaa
open Go.RowKit

theorem Lies.new (w : World) (l : List Value) (t : TypeId) : Lies (w.alloc (.cells l.toArray t)) (some ⟨w.heap.size, 0, none⟩) l :=
  .inr ⟨_, _, rfl, fun j u hu => by rw [cell_of_row _ _ _ _ _ _ (heap_alloc_last w _)]; simpa using hu⟩
theorem Lies.range {w : World} {b o : Nat} {l : List Value} (h : Lies w (some ⟨b, o, none⟩) l) : w.rangeAt b o l := by
  rcases h with h | ⟨b', o', hA, hc⟩
  · subst h; intro j v hj; simp at hj
  · injection hA with hA
    injection hA with h1 h2
    subst h1 h2
    exact hc

end Go.Proofs.Ytmjjkloeipoefaa
