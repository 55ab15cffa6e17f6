/-
  Contracts of the laws' helpers: points in range.
-/
import Derived.Test.YthadlgjobjnhcaaDoorPre
import Derived.Test.YthadlgjobjnhcaaDoorRoz
namespace Go.Proofs.YthadlgjobjnhcaaDoor
open Go.RowKit
set_option linter.unusedVariables false

def pcells (l : List (Int × Int × Int)) : List Value := l.flatMap fun p => [.int .i64 p.1, .int .i64 p.2.1, .int .i64 p.2.2]
theorem pcells_len (l : List (Int × Int × Int)) : (pcells l).length = l.length * 3 := by
  induction l with
  | nil => rfl
  | cons p r ih => simp only [pcells, List.flatMap_cons, List.length_append, List.length_cons, List.length_nil] at *; omega
theorem pcells_at : ∀ (l : List (Int × Int × Int)) (k : Nat) (p : Int × Int × Int), l[k]? = some p → (pcells l)[k * 3]? = some (.int .i64 p.1) ∧ (pcells l)[k * 3 + 1]? = some (.int .i64 p.2.1) ∧ (pcells l)[k * 3 + 2]? = some (.int .i64 p.2.2)
  | [], _, _, h => by simp at h
  | x :: r, 0, p, h => by
    simp only [List.getElem?_cons_zero, Option.some.injEq] at h
    subst h
    exact ⟨rfl, rfl, rfl⟩
  | x :: r, k + 1, p, h => by
    have ih := pcells_at r k p (by simpa using h)
    have e : pcells (x :: r) = .int .i64 x.1 :: .int .i64 x.2.1 :: .int .i64 x.2.2 :: pcells r := rfl
    rw [e, show (k + 1) * 3 = k * 3 + 3 by omega]
    exact ih
def In64 (p : Int × Int × Int) : Prop := (-9223372036854775808 ≤ p.1 ∧ p.1 ≤ 9223372036854775807) ∧ (-9223372036854775808 ≤ p.2.1 ∧ p.2.1 ≤ 9223372036854775807) ∧ (-9223372036854775808 ≤ p.2.2 ∧ p.2.2 ≤ 9223372036854775807)
def inR (p : Int × Int × Int) : Bool := decide ((-1048575 ≤ p.1 ∧ p.1 ≤ 1048575) ∧ (-1048575 ≤ p.2.1 ∧ p.2.1 ≤ 1048575) ∧ (-1048575 ≤ p.2.2 ∧ p.2.2 ≤ 1048575))
theorem inR_true {a b c : Int} : inR (a, b, c) = true ↔ (-1048575 ≤ a ∧ a ≤ 1048575) ∧ (-1048575 ≤ b ∧ b ≤ 1048575) ∧ (-1048575 ≤ c ∧ c ≤ 1048575) := by
  unfold inR; exact decide_eq_true_iff
theorem inR_false {a b c : Int} : inR (a, b, c) = false ↔ ¬ ((-1048575 ≤ a ∧ a ≤ 1048575) ∧ (-1048575 ≤ b ∧ b ≤ 1048575) ∧ (-1048575 ≤ c ∧ c ≤ 1048575)) := by
  unfold inR; exact decide_eq_false_iff_not
def AllTo (l : List (Int × Int × Int)) (k : Nat) : Prop := (l.take k).all inR = true
theorem AllTo.succ {l : List (Int × Int × Int)} {k : Nat} {p : Int × Int × Int} (h : AllTo l k) (hk : l[k]? = some p) (hp : inR p = true) : AllTo l (k + 1) := by
  unfold AllTo at *
  rw [List.take_add_one, hk]
  simp [List.all_append, hp, h]
theorem all_false {l : List (Int × Int × Int)} {k : Nat} {p : Int × Int × Int} (hk : l[k]? = some p) (hp : inR p = false) : l.all inR = false := by
  rw [List.all_eq_false]
  exact ⟨p, List.mem_of_getElem? hk, by rw [hp]; decide⟩

set_option maxRecDepth 1000000 in
set_option maxHeartbeats 4000000 in
theorem small_any (l : List (Int × Int × Int)) (q n : Nat) (w : World) (hn : l.length = n) (hb : n ≤ 1000) (hR : Row q (pcells l) w) (h64 : ∀ p ∈ l, In64 p) :
    Calls Tryd.prog 11 #[.slice (some ⟨q, 0, none⟩) n n] w fun e w' => e = .returned (.bool (l.all inR)) ∧ Below w.heap.size w w' := by
  have HL := Lib.hid hR
  have HN := Lib.hid hn
  have H6 := Lib.hid h64
  clear hR hn h64
  go_enter Tryd.func11, Tryd.ntmps11
  go_wp2_with fail
  go_loopw [7] (fun i wr => ∃ k : Nat, i = .int .i64 (k : Int) ∧ k ≤ n ∧ AllTo l k ∧ Gr w wr) (fun i _ => n - (intOf i).toNat)
  case atStart => exact ⟨0, rfl, by omega, rfl, Gr.refl _⟩
  case round =>
    obtain ⟨k, rfl, hk, hA, hG⟩ := hrel
    have HA := Lib.hid hA
    have HG := Lib.hid hG
    clear hA hG
    by_cases hlt : k < n
    · have hkl : k < l.length := by rw [HN.out]; exact hlt
      have hx := List.getElem?_eq_getElem hkl
      obtain ⟨⟨a, b, c⟩, hp⟩ : ∃ p, l[k]? = some p := ⟨_, hx⟩
      clear hx hkl
      have hcs := pcells_at l k _ hp
      have h6 : In64 (a, b, c) := H6.out _ (List.mem_of_getElem? hp)
      unfold In64 at h6
      simp only at h6 hcs
      have c0 := ((HL.out.below HG.out) _ _ hcs.1).1
      have c1 := ((HL.out.below HG.out) _ _ hcs.2.1).1
      have c2 := ((HL.out.below HG.out) _ _ hcs.2.2).1
      have HP := Lib.hid hp
      have CR := Lib.hid (fun W => rdistance_zero a b c W (by omega))
      clear hcs hp
      cases hin : inR (a, b, c) with
      | true =>
        have hr := inR_true.1 hin
        have hrd := rd_in hr
        generalize rd a b c = z at hrd CR
        have HA2 := Lib.hid (HA.out.succ HP.out hin)
        clear hin
        go_wp2_with fail
        refine (CR.out _).mono ?_
        rintro e w2 ⟨rfl, b2⟩
        have rw2 := (Row.newl wr [.int .i64 a, .int .i64 b, .int .i64 c] 23).below b2
        have e0 := (rw2 0 _ rfl).1
        have e1 := (rw2 1 _ rfl).1
        have e2 := (rw2 2 _ rfl).1
        have HG2 := Lib.hid (HG.out.trans ((Gr.al _ _).trans b2))
        clear b2 rw2 c0 c1 c2 CR
        go_wp2_with fail
        first
          | exact ⟨⟨k + 1, by go_num, by omega, HA2.out, HG2.out⟩, by simp [intOf]; omega⟩
          | (go_roundw
             case rel => exact ⟨k + 1, by go_num, by omega, HA2.out, HG2.out⟩
             case measure => simp [intOf]; omega)
      | false =>
        have hr := inR_false.1 hin
        have HF := Lib.hid (all_false HP.out hin)
        generalize rd a b c = z at CR
        clear hin
        go_wp2_with fail
        refine (CR.out _).mono ?_
        rintro e w2 ⟨rfl, b2⟩
        have rw2 := (Row.newl wr [.int .i64 a, .int .i64 b, .int .i64 c] 23).below b2
        have e0 := (rw2 0 _ rfl).1
        have e1 := (rw2 1 _ rfl).1
        have e2 := (rw2 2 _ rfl).1
        have HG2 := Lib.hid (HG.out.trans ((Gr.al _ _).trans b2))
        have HR := Lib.hid hr
        clear b2 rw2 c0 c1 c2 CR hr
        go_wp2_with fail
        all_goals first
          | (go_ret; exact ⟨by rw [HF.out]; rfl, HG2.out⟩)
          | (exfalso; have := HR.out; omega)
    · have hkn : k = n := by omega
      subst hkn
      have E := Lib.hid (show l.all inR = true by have := HA.out; unfold AllTo at this; rwa [← HN.out, List.take_length] at this)
      go_wp2_with fail
      go_ret
      exact ⟨by rw [E.out]; rfl, HG.out⟩
end Go.Proofs.YthadlgjobjnhcaaDoor
