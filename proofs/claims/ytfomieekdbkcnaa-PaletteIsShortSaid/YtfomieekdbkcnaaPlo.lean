/-
  Slices of integers that come in, opened.
-/
import Derived.Test.YtfomieekdbkcnaaSxc
import Derived.Test.YtfomieekdbkcnaaOrow
namespace Go.Proofs.Ytfomieekdbkcnaa
open Go.ChangeShapes Go.WideShapes Go.ChangeAt Go.RowKit
set_option linter.unusedVariables false
section
variable {H : Type} {enc : TypeId × Value → H} {W : World} {d : DataW H} {ps : List MemPlace}
theorem opened_ints {a : Option Addr} {len cap : Nat} (hd : DataW.Trod enc Try.prog W 0 (fun _ => true) true 22 (.slice a len cap) d ps) : ∃ l : List Int, SL W 1 a len cap (ic l) := by
  obtain ⟨l, h1, h2, h3, h4⟩ := opened_rows (fun x : Int => [Value.int .i64 x]) 1 (by decide) hd Try.underlying22 (by kernel_rfl) (fun _ => rfl) (fun fuel cs x h => by
    obtain ⟨p, hp, _, _⟩ := DataW.trod_int Try.underlying3 h
    exact ⟨p, hp⟩)
  have e : l.flatMap (fun x : Int => [Value.int .i64 x]) = ic l := by
    clear h1 h2
    unfold ic
    induction l with
    | nil => rfl
    | cons y r ih => simp [ih]
  rw [e] at h2
  exact ⟨l, by rw [ic_len]; omega, h2, h3, Nat.le_trans h4 (by simp [maxLen])⟩
end
end Go.Proofs.Ytfomieekdbkcnaa
