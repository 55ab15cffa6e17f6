/-
  Lines and printed tables as mathematics. (No program.)
-/
import Derived.Test.YtpjjddjoegnipaaDoorMa4
import Derived.Lib.Join
namespace Go.Proofs.YtpjjddjoegnipaaDoor.Ma
open Go
set_option linter.unusedVariables false
theorem join4 (a b c d : By) : Lib.join [a, b, c, d] [32] = a ++ [32] ++ b ++ [32] ++ c ++ [32] ++ d := by
  rw [Lib.join_cons]; simp [Lib.joinTail]
theorem join8 (a b c d e f g h : By) : Lib.join [a, b, c, d, e, f, g, h] [32] = a ++ [32] ++ b ++ [32] ++ c ++ [32] ++ d ++ [32] ++ e ++ [32] ++ f ++ [32] ++ g ++ [32] ++ h := by
  rw [Lib.join_cons]; simp [Lib.joinTail]
theorem itoa2 : ∀ i : Fin 100, (Lib.itoa (i.val : Int)).length ≤ 2 := by decide +kernel
theorem itoa_le {n : Int} (h : 0 ≤ n) (h2 : n < 100) : (Lib.itoa n).length ≤ 2 := by
  obtain ⟨i, rfl⟩ : ∃ i : Nat, n = (i : Int) := ⟨n.toNat, by omega⟩
  exact itoa2 ⟨i, by omega⟩
theorem kw_le (m : Mt) : (kw m).length ≤ 7 := by unfold kw; split; decide; split; decide; split <;> decide
theorem kdn_le (s l f : Bool) : (kdn s l f).length ≤ 7 := by cases s <;> cases l <;> cases f <;> decide
theorem kdn_kw {m : Mt} (h : (kd m.s m.l m.f).isSome = true) : kdn m.s m.l m.f = kw m := by unfold kdn; rw [kd_kw h]; rfl
theorem line_dark {m : Mt} (h : m.a = 0 ∧ m.b = 0 ∧ m.c = 0) : line m = m.n ++ [32] ++ kw m ++ [32] ++ wFade ++ [32] ++ Lib.itoa m.fd := by
  unfold line dark3; rw [decide_eq_true h]; simp
theorem line_light {m : Mt} (h : ¬ (m.a = 0 ∧ m.b = 0 ∧ m.c = 0)) : line m = m.n ++ [32] ++ kw m ++ [32] ++ wFade ++ [32] ++ Lib.itoa m.fd ++ ([32] ++ wEmit ++ [32] ++ Lib.itoa m.a ++ [32] ++ Lib.itoa m.b ++ [32] ++ Lib.itoa m.c) := by
  unfold line dark3; rw [decide_eq_false h]; simp
theorem name_le {x : By} (h : nameOk x = true) : 1 ≤ x.length ∧ x.length ≤ 32 := by
  unfold nameOk at h
  simp only [Bool.and_eq_true, decide_eq_true_eq] at h
  exact h.1
theorem line_le {m : Mt} (h : vld m = true) : (line m).length ≤ 100 := by
  obtain ⟨_, ha, hb, hc, hn, hf⟩ := vld_of h
  have h1 := name_le hn
  have h2 := kw_le m
  have h3 := itoa_le (n := m.fd) (by omega) (by omega)
  have h4 := itoa_le (n := m.a) (by omega) (by omega)
  have h5 := itoa_le (n := m.b) (by omega) (by omega)
  have h6 := itoa_le (n := m.c) (by omega) (by omega)
  by_cases hd : m.a = 0 ∧ m.b = 0 ∧ m.c = 0
  · rw [line_dark hd]; simp [wFade]; omega
  · rw [line_light hd]; simp [wFade, wEmit]; omega
section
variable {ms : List Mt} {k : Nat}
theorem take_tat (h : k < ms.length) : ms.take (k + 1) = ms.take k ++ [tat ms k] := by
  rw [List.take_succ_eq_append_getElem h]; congr 2
  unfold tat; rw [List.getD_eq_getElem?_getD, List.getElem?_eq_getElem h]; rfl
theorem lines_succ (h : k < ms.length) : lines (ms.take (k + 1)) = lines (ms.take k) ++ line (tat ms k) ++ [10] := by
  rw [take_tat h]; simp [lines]
theorem lines_all (h : ¬ k < ms.length) : lines (ms.take k) = lines ms := by rw [List.take_of_length_le (by omega)]
theorem print_bad (h : ¬ (check ms).2 = 0) : print ms = ([], (check ms).2) := by unfold print; rw [if_neg h]
theorem print_good (h : (check ms).2 = 0) : print ms = (lines ms, 0) := by unfold print; rw [if_pos h]
end
end Go.Proofs.YtpjjddjoegnipaaDoor.Ma
