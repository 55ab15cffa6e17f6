/-
  The state of the loop that makes runs out of cubes.
-/
import Derived.Test.YtmjjkloeipoefaaKqu
import Derived.Test.YtmjjkloeipoefaaMo9
import Derived.Laws.OwnMore
namespace Go.Proofs.Ytmjjkloeipoefaa
open Go Go.RowKit
set_option linter.unusedVariables false

structure RSt (w : World) (A : Option Addr) (n c : Nat) (cl : List Mo.Cb) (k : Nat) (A2 : Option Addr) (n2 c2 : Nat) (wr : World) : Prop where
  kn : k ≤ n
  len : n2 = (Mo.runsF (cl.take k)).length
  own2 : wr.ownsRow w.heap.size 54 2 (.slice A2 n2 c2) n2 (rcs (Mo.runsF (cl.take k)))
  own1 : wr.ownsRow w.heap.size 27 4 (.slice A n c) n (ccs cl)
  sep : ∀ g, (Value.slice A n c).ownBlock = some g → (Value.slice A2 n2 c2).ownBlock ≠ some g
  bel : Chg (fun _ => False) w wr
theorem infoRun : (Try.prog.info? 54).map (fun i => (i.zero, i.size, i.bytes)) = some (some (.agg #[.int .i64 0, .int .i64 0]), 2, 16) := by kernel_rfl
theorem chg_below {w w' : World} (h : Chg (fun _ => False) w w') : Below w.heap.size w w' := h.below (Nat.le_refl _) (fun _ _ h => h)
theorem rcs_last (pre : List (Int × Int)) (a b : Int) : (rcs (pre ++ [(a, b)]))[pre.length * 2 + 1]? = some (.int .i64 b) := by
  rw [rcs_append, List.getElem?_append_right (by rw [rcs_len]; omega), rcs_len, rcs_one]
  simp
theorem rcs_set (pre : List (Int × Int)) (a b t : Int) : (rcs (pre ++ [(a, b)])).set (pre.length * 2 + 1) (.int .i64 t) = rcs (pre ++ [(a, t)]) := by
  rw [rcs_append, rcs_append, List.set_append_right _ _ (by rw [rcs_len]; omega), rcs_len, rcs_one, rcs_one]
  simp
theorem rcs_set2 (pre : List (Int × Int)) (a b t : Int) (j : Nat) (hj : j = pre.length) : (rcs (pre ++ [(a, b)])).set (j * 2 + 1) (.int .i64 t) = rcs (pre ++ [(a, t)]) := by
  subst hj; exact rcs_set pre a b t
theorem cube_pt {w : World} {g : Nat} {l : List Mo.Cb} (h : Lies w (some ⟨g, 0, none⟩) (ccs l)) {k : Nat} {e : Mo.Cb} (hk : l[k]? = some e) : w.rangeAt g (k * 4) [.int .i64 e.1, .int .i64 e.2.1, .int .i64 e.2.2.1] := by
  have h4 := lies_range cc_len h hk
  intro j v hj
  refine h4 j v ?_
  match j, hj with
  | 0, hj => exact hj
  | 1, hj => exact hj
  | 2, hj => exact hj
  | _ + 3, hj => simp at hj
theorem cube_lv {w : World} {g : Nat} {l : List Mo.Cb} (h : Lies w (some ⟨g, 0, none⟩) (ccs l)) {k : Nat} {e : Mo.Cb} (hk : l[k]? = some e) {lv : Nat} (hl : e.2.2.2 = (lv : Int)) : w.cell? ⟨g, k * 4 + 3, none⟩ = some (.int .i64 (lv : Int)) := by
  have h4 := lies_range cc_len h hk 3 (.int .i64 e.2.2.2) rfl
  rw [hl] at h4
  exact h4
end Go.Proofs.Ytmjjkloeipoefaa
