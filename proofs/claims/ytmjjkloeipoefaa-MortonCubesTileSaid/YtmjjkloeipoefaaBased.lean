/-
  Laws: append onto a slice whose capacity is its length; rows of bytes and integers that came in.
-/
import Derived.Test.YtmjjkloeipoefaaBasec
namespace Go.Proofs.Ytmjjkloeipoefaa
open Go.RowKit

theorem i64_wf {z : Int} (h : (Lit.int .i64 z).wf = true) : -9223372036854775808 ≤ z ∧ z ≤ 9223372036854775807 := by
  simp only [Lit.wf, Bool.and_eq_true, decide_eq_true_eq] at h
  have h1 : IntKind.i64.min = -9223372036854775808 := rfl
  have h2 : IntKind.i64.max = 9223372036854775807 := rfl
  omega

end Go.Proofs.Ytmjjkloeipoefaa
