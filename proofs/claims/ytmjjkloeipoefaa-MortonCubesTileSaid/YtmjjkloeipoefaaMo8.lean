/-
  The answers of Cubes. No program is mentioned here.
-/
import Derived.Test.YtmjjkloeipoefaaMo7
namespace Go.Proofs.Ytmjjkloeipoefaa.Mo
theorem cubes_yes {b1 b2 b3 b4 b5 b6 : Int} {cl : List Cb} (h : cl = cut ([] ++ cubesL b1 b2 b3 b4 b5 b6)) (hl : cl.length ≤ 4096) : cubesA b1 b2 b3 b4 b5 b6 = cl ∧ cubesE b1 b2 b3 b4 b5 b6 = 0 := by
  have h1 : (cubesL b1 b2 b3 b4 b5 b6).length ≤ 4096 := by
    rw [h, List.nil_append] at hl; unfold cut at hl; rw [List.length_take] at hl; omega
  rw [List.nil_append, cut_small (by omega)] at h
  unfold cubesA cubesE
  rw [if_pos h1, if_pos h1]
  exact ⟨h.symm, rfl⟩
theorem cubes_no {b1 b2 b3 b4 b5 b6 : Int} {cl : List Cb} (h : cl = cut ([] ++ cubesL b1 b2 b3 b4 b5 b6)) (hl : ¬ cl.length ≤ 4096) : cubesA b1 b2 b3 b4 b5 b6 = [] ∧ cubesE b1 b2 b3 b4 b5 b6 = 2 := by
  have h1 : ¬ (cubesL b1 b2 b3 b4 b5 b6).length ≤ 4096 := by
    rw [h, List.nil_append] at hl; unfold cut at hl; rw [List.length_take] at hl; omega
  unfold cubesA cubesE
  rw [if_neg h1, if_neg h1]
  exact ⟨rfl, rfl⟩
theorem cubesA_len (b1 b2 b3 b4 b5 b6 : Int) : (cubesA b1 b2 b3 b4 b5 b6).length ≤ 4096 := by
  unfold cubesA
  by_cases h : (cubesL b1 b2 b3 b4 b5 b6).length ≤ 4096
  · rw [if_pos h]; exact h
  · rw [if_neg h]; simp
end Go.Proofs.Ytmjjkloeipoefaa.Mo
