/-
  voxellaw01.few, for any list whose sum can be counted.
-/
import Derived.Test.YtchlomkohjjpmaaFew
namespace Go.Proofs.Ytchlomkohjjpmaa
open Go.RowKit

theorem total_bd (l : List (List UInt8)) (b : Nat) (h : ∀ s ∈ l, s.length ≤ b) : total l ≤ l.length * (b + 1) := by
  induction l with
  | nil => simp [total]
  | cons x r ih =>
    have h1 := h x (by simp)
    have h2 := ih (fun s hs => h s (by simp [hs]))
    rw [total, List.length_cons, Nat.add_mul]
    omega

set_option maxRecDepth 1000000 in
set_option maxHeartbeats 400000 in
theorem few_wide (l : List (List UInt8)) (A : Option Addr) (n c : Nat) (w : World) (hn : l.length = n) (ht : total l ≤ 1000000000000000000) (hl : Lies w A (l.map sv)) :
    Calls Try.prog 11 #[.slice A n c] w fun e w' => e = .returned (.bool (decide (total l ≤ 2000))) ∧ w = w' := by
  have HL := Lib.hid hl
  have HN := Lib.hid hn
  have hn2 : n ≤ 1000000000000000000 := by have := total_len l; omega
  have HT := Lib.hid ht
  clear hl hn ht
  go_enter Try.func11, Try.ntmps11
  go_wp2_with fail
  go_loop [3, 10] (fun t i => ∃ (k m : Nat), i = .int .i64 (k : Int) ∧ t = .int .i64 (m : Int) ∧ k ≤ n ∧ m + k = n + total (l.take k) ∧ m ≤ 2000000000000000000) (fun _ i => n - (intOf i).toNat)
  case atStart => exact ⟨0, n, rfl, rfl, by omega, by simp [total], by omega⟩
  case round =>
    obtain ⟨k, m, rfl, rfl, hk, hm, hm2⟩ := hrel
    have HM := Lib.hid hm
    clear hm
    by_cases hlt : k < n
    · have hkl : k < l.length := by rw [HN.out]; exact hlt
      obtain ⟨b, o, hA, _⟩ := HL.out.at_ (by simpa using List.ne_nil_of_length_pos (show 0 < l.length by omega))
      subst hA
      have hx := List.getElem?_eq_getElem hkl
      generalize l[k] = x at hx
      have hc : w.cell? ⟨b, o + k, none⟩ = some (.string (bstr x)) := HL.out.at1 (by rw [List.getElem?_map, hx]; rfl)
      have hs := total_succ l k x hx
      have hle := total_take l (k + 1)
      have hxs : (bstr x).size = x.length := bstr_size x
      have h9 : (bstr x).size ≤ 1000000000000000000 := by have := HT.out; omega
      have H9 := Lib.hid (show m + x.length + (k + 1) = n + total (l.take (k + 1)) ∧ m + x.length ≤ 2000000000000000000 by have := HT.out; have := HM.out; omega)
      have HX := Lib.hid hxs
      clear hx hkl hs hle hxs
      go_wp2_with fail
      go_round
      case rel =>
        refine ⟨k + 1, m + x.length, by go_num, ?_, by omega, H9.out.1, H9.out.2⟩
        rw [HX.out]; go_num
      case measure => simp [intOf]; omega
    · have hkn : k = n := by omega
      subst hkn
      have hmt : m = total l := by
        have h1 := HM.out
        rw [List.take_of_length_le (by rw [HN.out]; exact Nat.le_refl _)] at h1
        omega
      have E := Lib.hid (show decide ((m : Int) ≤ 2000) = decide (total l ≤ 2000) by rw [hmt]; simp; omega)
      clear hmt
      go_wp2
      go_ret
      exact ⟨by rw [← E.out]; rfl, rfl⟩

section
variable {H : Type} {P : Program} {ts : List TypeId} {ds : List (DataW H)}

/-- each string of a list that comes in is of a length that can be reached -/
theorem sized_strs (h : (DataW.weightsEach P ts ds).all (· ≤ reachBytes) = true) {j : Nat} {t e : TypeId} {l : List (List UInt8)} {spare : List (DataW H)} (ht : ts[j]? = some t) (hd : ds[j]? = some (.slice (l.map fun s => .lit (.string s)) spare)) (hu : P.underlying t = some (.slice e)) :
    ∀ s ∈ l, s.length ≤ 140737488351232 := by
  intro s hs
  have hin : ∀ l : List (List UInt8), s ∈ l → s.length ∈ DataW.weightsAll P e (l.map fun s => (.lit (.string s) : DataW H)) := by
    intro l
    induction l with
    | nil => intro h; simp at h
    | cons x r ih =>
      intro h
      rcases List.mem_cons.1 h with rfl | h
      · simp [DataW.weightsAll, DataW.weights]
      · simp only [List.map_cons, DataW.weightsAll, List.mem_append]; exact .inr (ih h)
  have := List.all_eq_true.1 h _ (DataW.weights_mem_each ht hd s.length (by simp only [DataW.weights, hu, List.mem_cons, List.mem_append]; exact .inr (.inl (hin l hs))))
  exact of_decide_eq_true this
end

end Go.Proofs.Ytchlomkohjjpmaa
