/-
  Contracts of package point: reflections.
-/
import Derived.Test.YthadlgjobjnhcaaDoorPtr
import Derived.Test.YthadlgjobjnhcaaDoorPts
namespace Go.Proofs.YthadlgjobjnhcaaDoor
open Go.RowKit
set_option linter.unusedVariables false

def pop (m : Nat) : Nat := m % 2 + m / 2 % 2 + m / 4 % 2
set_option maxRecDepth 1000000 in
theorem ones64 (m : Nat) (w : World) (h : m < 8) :
    Calls Tryd.prog 93 #[.int .u64 (m : Int)] w fun e w' => e = .returned (.int .i64 (pop m : Int)) ∧ w' = w := by
  have hc : m = 0 ∨ m = 1 ∨ m = 2 ∨ m = 3 ∨ m = 4 ∨ m = 5 ∨ m = 6 ∨ m = 7 := by omega
  rcases hc with rfl | rfl | rfl | rfl | rfl | rfl | rfl | rfl
  all_goals
    go_enter Tryd.func93, Tryd.ntmps93
    go_wp2_with fail
    go_ret
    exact ⟨ret_int (by decide +kernel), rfl⟩
set_option maxRecDepth 1000000 in
theorem ones_any (m : Nat) (w : World) (h : m < 8) :
    Calls Tryd.prog 86 #[.int .u64 (m : Int)] w fun e w' => e = .returned (.int .i64 (pop m : Int)) ∧ w' = w := by
  have C := Lib.hid (fun W => ones64 m W h)
  go_enter Tryd.func86, Tryd.ntmps86
  go_wp2_with fail
  refine (C.out _).mono ?_
  rintro e w1 ⟨rfl, rfl⟩
  go_wp2_with fail
  go_ret
  exact ⟨rfl, rfl⟩
end Go.Proofs.YthadlgjobjnhcaaDoor
