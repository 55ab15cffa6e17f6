/-
  The number of bits of an integer: contracts of math/bits.Len64 and Len below 2^42.
-/
import Derived.Test.YtmjjkloeipoefaaMob
import Derived.Lib.BitFns
import Derived.Handy
namespace Go.Proofs.Ytmjjkloeipoefaa
open Go.RowKit
set_option linter.unusedVariables false

theorem bitLen_zero : Lib.bitLen 0 = 0 := by decide
theorem bitLen_le : ∀ (k x : Nat), x < 2 ^ 64 → (Lib.bitLen x ≤ k ↔ x < 2 ^ k)
  | 0, x, h => by
    by_cases h0 : x = 0
    · subst h0; simp [bitLen_zero]
    · rw [Lib.bitLen_half x h0 h]; simp; omega
  | k + 1, x, h => by
    by_cases h0 : x = 0
    · subst h0; simp [bitLen_zero]; exact Nat.two_pow_pos _
    · have := bitLen_le k (x / 2) (by omega)
      rw [Lib.bitLen_half x h0 h, Nat.pow_succ]
      omega
theorem len8_nat (y : Nat) (h : y < 256) : Lib.len8 (y : Int) = (Lib.bitLen y : Int) ∧ Lib.bitLen y ≤ 8 := ⟨Lib.len8_eq ⟨y, h⟩, Lib.bitLen_le8 ⟨y, h⟩⟩
theorem tab_at (y : Nat) (h : y < 256) (h2 : y < Lib.len8tab.size) : (Lib.len8tab[y]'h2).toNat = Lib.bitLen y := by
  have e := (len8_nat y h).1
  unfold Lib.len8 at e
  rw [Int.toNat_natCast, getElem?_pos Lib.len8tab y h2, Option.getD_some] at e
  omega
theorem wrap_u8 (y : Nat) (h : y < 256) : IntKind.u8.wrap (y : Int) = y := by
  simp only [IntKind.wrap, IntKind.bits, IntKind.signed]
  simp; omega

end Go.Proofs.Ytmjjkloeipoefaa
