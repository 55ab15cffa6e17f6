/-
  What is written on a builder, and what it answers; small facts on read tables.
-/
import Derived.Test.YtpjjddjoegnipaaDoorBld
import Derived.Test.YtpjjddjoegnipaaDoorMaf
import Derived.Test.YtpjjddjoegnipaaDoorMa6
namespace Go.Proofs.YtpjjddjoegnipaaDoor
open Go Go.RowKit
set_option linter.unusedVariables false
abbrev bldr (b : Nat) (l : List UInt8) : HP := bld 54 5 b (Lib.byteCells l)
theorem write_b (b : Nat) (a x : List UInt8) (w0 w : World) (h : St w0 noB [bldr b a] w) (hl : a.length + x.length ≤ 140737488355328) :
    Calls Tryd.prog 33 #[.pointer (some ⟨b, 0, none⟩), .string (bstr x)] w fun e w' => (∃ v, e = .returned v) ∧ St w0 noB [bldr b (a ++ x)] w' := by
  obtain ⟨hi, h1, h2⟩ := h.isBld
  refine (Tryd.Builder_WriteString_k b b (Lib.byteCells a) (bstr x) w hi (by rw [bstr_size]; simp [Lib.byteCells]; omega) h2).mono ?_
  rintro e w' ⟨rfl, hi', hb, _⟩
  refine ⟨⟨_, rfl⟩, ?_⟩
  have e1 : Lib.byteCells a ++ Lib.strCells (bstr x) = Lib.byteCells (a ++ x) := by rw [Lib.byteCells_append]; rfl
  rw [e1] at hi'
  exact h.wrote hb (.inr hi')
theorem string_b (b : Nat) (a : List UInt8) (w0 w : World) (h : St w0 noB [bldr b a] w) :
    Calls Tryd.prog 35 #[.pointer (some ⟨b, 0, none⟩)] w fun e w' => e = .returned (.string (bstr a)) ∧ St w0 noB [bldr b a] w' := by
  obtain ⟨hi, h1, h2⟩ := h.isBld
  refine (Tryd.Builder_String_any_k b b a w hi h2).mono ?_
  rintro e w' ⟨rfl, hi', hb, _⟩
  exact ⟨rfl, h.wrote hb hi'⟩
namespace Ma
theorem matz_is {x : By} (h : (mat x).isSome = true) : mat x = some (matz x) := by
  obtain ⟨m, hm⟩ := some_of h
  rw [hm, matz_some hm]
theorem mats_le (ls : List By) : (mats ls).length ≤ ls.length := List.length_filterMap_le _ _
theorem mat_is {x : By} {m : Mt} (h : (mat x).isSome = true) (hm : ∀ m', mat x = some m' → m' = m) : mat x = some m := by
  obtain ⟨v, hv⟩ := some_of h
  rw [hv, hm v hv]
theorem pos_of {y : By} (h : ¬ y = []) : 1 ≤ y.length := by cases y; exact absurd rfl h; simp
theorem check_rng (ms : List Mt) : -1 ≤ (check ms).1 ∧ (check ms).1 ≤ 256 := by
  have h := @ff_le (okAt ms) ms.length
  unfold check
  split
  · decide
  split
  · decide
  split
  · decide
  split
  · decide
  split <;> simp only <;> omega
theorem mats_nil : mats [] = [] := rfl
end Ma
theorem own_mcs {w : World} {e : TypeId} {A : Option Addr} {n c : Nat} {l : List Ma.Mt} (h : w.ownsRow 0 e 8 (.slice A n c) n (mcs l)) : n = l.length := by
  have h1 := h.1
  rw [mcs_len] at h1
  omega
end Go.Proofs.YtpjjddjoegnipaaDoor
