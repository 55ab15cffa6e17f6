/-
  Runs read out of a slice; remainders.
-/
import Derived.Test.YtmjjkloeipoefaaKqv
import Derived.Test.YtmjjkloeipoefaaMo15
import Derived.Handy
namespace Go.Proofs.Ytmjjkloeipoefaa
open Go Go.RowKit
set_option linter.unusedVariables false
theorem run_c0 {w : World} {g : Nat} {l : List (Int × Int)} (h : Lies w (some ⟨g, 0, none⟩) (rcs l)) {k : Nat} {e : Int × Int} (hk : l[k]? = some e) : w.cell? ⟨g, k * 2, none⟩ = some (.int .i64 e.1) :=
  lies_range rc_len h hk 0 _ rfl
theorem run_c1 {w : World} {g : Nat} {l : List (Int × Int)} (h : Lies w (some ⟨g, 0, none⟩) (rcs l)) {k : Nat} {e : Int × Int} (hk : l[k]? = some e) : w.cell? ⟨g, k * 2 + 1, none⟩ = some (.int .i64 e.2) :=
  lies_range rc_len h hk 1 _ rfl
theorem al_mod {x y z : Int} {l : Nat} (h : Mo.al x y z l) : x % Mo.pw l = 0 ∧ y % Mo.pw l = 0 ∧ z % Mo.pw l = 0 := by
  obtain ⟨X, Y, Z, rfl, rfl, rfl, _⟩ := h
  unfold Mo.pw
  refine ⟨?_, ?_, ?_⟩ <;> simp
/-- the state of the law's loops -/
structure TSt (w : World) (b p : List Value) (A1 A3 : Option Addr) (n m c1 c3 : Nat) (cl : List Mo.Cb) (rl : List (Int × Int)) (q : Nat) (wr : World) : Prop where
  rb : Row w.heap.size b wr
  rp : Row q p wr
  o1 : wr.ownsRow w.heap.size 27 4 (.slice A1 n c1) n (ccs cl)
  o3 : wr.ownsRow w.heap.size 54 2 (.slice A3 m c3) m (rcs rl)
  bel : Below w.heap.size w wr
end Go.Proofs.Ytmjjkloeipoefaa
