/-
  Small contracts on symmetries; the table of orders.
-/
import Derived.Test.YthadlgjobjnhcaaDoorRow
import Derived.Test.YthadlgjobjnhcaaDoorPtn
import Derived.Handy
namespace Go.Proofs.YthadlgjobjnhcaaDoor
open Go.RowKit
set_option linter.unusedVariables false

def ords : List Value := [.string ⟨#[120, 121, 122]⟩, .string ⟨#[120, 122, 121]⟩, .string ⟨#[121, 120, 122]⟩, .string ⟨#[121, 122, 120]⟩, .string ⟨#[122, 120, 121]⟩, .string ⟨#[122, 121, 120]⟩]
/-- the table of orders lies as it was laid -/
def Tab (w : World) : Prop := w.rangeAt 0 0 ords
theorem Tab.below {w w' : World} (h : Tab w) (hb : Below w.heap.size w w') : Tab w' :=
  fun j v hj => (hb.cell (World.block_lt_of_cell? w _ (h j v hj))).trans (h j v hj)

theorem symmetry_same (s : Int) (w : World) :
    Calls Tryd.prog 80 #[.int .i64 s] w fun e w' => e = .returned (.bool (decide (0 ≤ s ∧ s < 48))) ∧ w' = w := by
  go_enter Tryd.func80, Tryd.ntmps80
  go_wp2_with fail
  all_goals (go_ret; exact ⟨ret_bool (by first | (symm; apply decide_eq_true; omega) | (symm; apply decide_eq_false; omega) | (apply decide_eq_decide.2; omega) | (simp; omega)), rfl⟩)
theorem symmetry_any (s : Int) (w : World) :
    Calls Tryd.prog 80 #[.int .i64 s] w fun e w' => e = .returned (.bool (decide (0 ≤ s ∧ s < 48))) ∧ Below w.heap.size w w' := by
  exact (symmetry_same s w).mono fun e w1 ⟨h1, h2⟩ => ⟨h1, by rw [h2]; exact Below.refl _ _⟩
theorem is_same (s : Int) (w : World) :
    Calls Tryd.prog 81 #[.int .i64 s] w fun e w' => e = .returned (.bool (decide (0 ≤ s ∧ s < 48))) ∧ w' = w := by
  go_enter Tryd.func81, Tryd.ntmps81
  go_wp2_with fail
  all_goals (go_ret; exact ⟨ret_bool (by first | (symm; apply decide_eq_true; omega) | (symm; apply decide_eq_false; omega) | (apply decide_eq_decide.2; omega) | (simp; omega)), rfl⟩)
theorem is_any (s : Int) (w : World) :
    Calls Tryd.prog 81 #[.int .i64 s] w fun e w' => e = .returned (.bool (decide (0 ≤ s ∧ s < 48))) ∧ Below w.heap.size w w' := by
  exact (is_same s w).mono fun e w1 ⟨h1, h2⟩ => ⟨h1, by rw [h2]; exact Below.refl _ _⟩
theorem neg0_same (v : Int) (w : World) (h : -2097152 ≤ v ∧ v ≤ 2097152) :
    Calls Tryd.prog 77 #[.int .i64 v] w fun e w' => e = .returned (.int .i64 (-v - 0)) ∧ w' = w := by
  go_enter Tryd.func77, Tryd.ntmps77
  go_wp2_with fail
  go_ret
  exact ⟨ret_int (by omega), rfl⟩
theorem neg0_any (v : Int) (w : World) (h : -2097152 ≤ v ∧ v ≤ 2097152) :
    Calls Tryd.prog 77 #[.int .i64 v] w fun e w' => e = .returned (.int .i64 (-v - 0)) ∧ Below w.heap.size w w' := by
  exact (neg0_same v w h).mono fun e w1 ⟨h1, h2⟩ => ⟨h1, by rw [h2]; exact Below.refl _ _⟩
theorem neg1_same (v : Int) (w : World) (h : -2097152 ≤ v ∧ v ≤ 2097152) :
    Calls Tryd.prog 79 #[.int .i64 v] w fun e w' => e = .returned (.int .i64 (-v - 1)) ∧ w' = w := by
  go_enter Tryd.func79, Tryd.ntmps79
  go_wp2_with fail
  go_ret
  exact ⟨ret_int (by omega), rfl⟩
theorem neg1_any (v : Int) (w : World) (h : -2097152 ≤ v ∧ v ≤ 2097152) :
    Calls Tryd.prog 79 #[.int .i64 v] w fun e w' => e = .returned (.int .i64 (-v - 1)) ∧ Below w.heap.size w w' := by
  exact (neg1_same v w h).mono fun e w1 ⟨h1, h2⟩ => ⟨h1, by rw [h2]; exact Below.refl _ _⟩
theorem and_bit : ∀ s : Fin 48, ∀ i : Fin 3, (bits .and .i64 ((s.val : Int) / 2 ^ i.val) 1 == 1) = Pt.bit s i := by decide +kernel
theorem mod_bit : ∀ s : Fin 48, ∀ i : Fin 3, (((s.val : Int) / 2 ^ i.val).tmod 2 == 1) = Pt.bit s i := by decide +kernel
theorem negates_same (s i : Nat) (w : World) (hs : s < 48) (hi : i < 3) :
    Calls Tryd.prog 89 #[.int .i64 (s : Int), .int .i64 (i : Int)] w fun e w' => e = .returned (.bool (Pt.bit s i)) ∧ w' = w := by
  go_enter Tryd.func89, Tryd.ntmps89
  go_wp2_with fail
  go_ret
  exact ⟨ret_bool (and_bit ⟨s, hs⟩ ⟨i, hi⟩), rfl⟩
theorem negates_any (s i : Nat) (w : World) (hs : s < 48) (hi : i < 3) :
    Calls Tryd.prog 89 #[.int .i64 (s : Int), .int .i64 (i : Int)] w fun e w' => e = .returned (.bool (Pt.bit s i)) ∧ Below w.heap.size w w' := by
  exact (negates_same s i w hs hi).mono fun e w1 ⟨h1, h2⟩ => ⟨h1, by rw [h2]; exact Below.refl _ _⟩
theorem rnegates_same (s i : Nat) (w : World) (hs : s < 48) (hi : i < 3) :
    Calls Tryd.prog 88 #[.int .i64 (s : Int), .int .i64 (i : Int)] w fun e w' => e = .returned (.bool (Pt.bit s i)) ∧ w' = w := by
  go_enter Tryd.func88, Tryd.ntmps88
  go_wp2_with fail
  go_ret
  exact ⟨ret_bool (mod_bit ⟨s, hs⟩ ⟨i, hi⟩), rfl⟩
theorem rnegates_any (s i : Nat) (w : World) (hs : s < 48) (hi : i < 3) :
    Calls Tryd.prog 88 #[.int .i64 (s : Int), .int .i64 (i : Int)] w fun e w' => e = .returned (.bool (Pt.bit s i)) ∧ Below w.heap.size w w' := by
  exact (rnegates_same s i w hs hi).mono fun e w1 ⟨h1, h2⟩ => ⟨h1, by rw [h2]; exact Below.refl _ _⟩
theorem order_any (k : Nat) (w : World) (hk : k < 6) :
    Calls Tryd.prog 87 #[.int .i64 (k : Int)] w fun e w' => e = .returned (.agg #[.int .i64 (Pt.axis k 0 : Nat), .int .i64 (Pt.axis k 1 : Nat), .int .i64 (Pt.axis k 2 : Nat)]) ∧ Below w.heap.size w w' := by
  have h : k = 0 ∨ k = 1 ∨ k = 2 ∨ k = 3 ∨ k = 4 ∨ k = 5 := by omega
  rcases h with rfl | rfl | rfl | rfl | rfl | rfl
  all_goals
    go_enter Tryd.func87, Tryd.ntmps87
    go_wp2_with fail
    go_returns
    exact ⟨rfl, by go_grown⟩
end Go.Proofs.YthadlgjobjnhcaaDoor
