/-
  Contracts of the laws' helpers: points with coordinates less than 2^19.
-/
import Derived.Test.YthadlgjobjnhcaaDoorPsm
namespace Go.Proofs.YthadlgjobjnhcaaDoor
open Go.RowKit
set_option linter.unusedVariables false

def inI (p : Int × Int × Int) : Bool := decide ((-524287 ≤ p.1 ∧ p.1 ≤ 524287) ∧ (-524287 ≤ p.2.1 ∧ p.2.1 ≤ 524287) ∧ (-524287 ≤ p.2.2 ∧ p.2.2 ≤ 524287))
theorem inI_true {a b c : Int} : inI (a, b, c) = true ↔ (-524287 ≤ a ∧ a ≤ 524287) ∧ (-524287 ≤ b ∧ b ≤ 524287) ∧ (-524287 ≤ c ∧ c ≤ 524287) := by
  unfold inI; exact decide_eq_true_iff
theorem inI_rd {a b c : Int} (h : inI (a, b, c) = true) : inR (a, b, c) = true ∧ rd a b c ≤ 524287 := by
  have h1 := inI_true.1 h
  exact ⟨inR_true.2 (by omega), (rd_inner (by omega)).2 h1⟩
theorem rd_inI {a b c : Int} (h : inR (a, b, c) = true) (h2 : rd a b c ≤ 524287) : inI (a, b, c) = true := inI_true.2 ((rd_inner (inR_true.1 h)).1 h2)
def FarTo (l : List (Int × Int × Int)) (k : Nat) : Prop := ∀ j a b c, j < k → l[j]? = some (a, b, c) → rd a b c ≤ 524287
theorem FarTo.zero (l : List (Int × Int × Int)) : FarTo l 0 := fun _ _ _ _ h => absurd h (Nat.not_lt_zero _)
theorem FarTo.succ {l : List (Int × Int × Int)} {k : Nat} {a b c : Int} (h : FarTo l k) (hk : l[k]? = some (a, b, c)) (hp : rd a b c ≤ 524287) : FarTo l (k + 1) := fun j x y z hj hl => by
  rcases Nat.lt_or_ge j k with q | q
  · exact h j x y z q hl
  · obtain rfl : j = k := by omega
    rw [hk] at hl
    cases hl
    exact hp
theorem far_false {l : List (Int × Int × Int)} {k : Nat} {a b c : Int} (hk : l[k]? = some (a, b, c)) (hp : ¬ rd a b c ≤ 524287) : l.all inI = false := by
  rw [List.all_eq_false]
  exact ⟨_, List.mem_of_getElem? hk, fun h => hp (inI_rd h).2⟩
theorem far_all {l : List (Int × Int × Int)} (h : FarTo l l.length) : l.all inR = l.all inI := by
  rw [Bool.eq_iff_iff, List.all_eq_true, List.all_eq_true]
  constructor
  · rintro h1 ⟨a, b, c⟩ hm
    obtain ⟨j, hj, he⟩ := List.mem_iff_getElem.1 hm
    exact rd_inI (h1 _ hm) (h j a b c hj (by rw [List.getElem?_eq_getElem hj, he]))
  · rintro h1 ⟨a, b, c⟩ hm
    exact (inI_rd (h1 _ hm)).1

set_option maxRecDepth 1000000 in
set_option maxHeartbeats 4000000 in
theorem inner_any (l : List (Int × Int × Int)) (q n : Nat) (w : World) (hn : l.length = n) (hb : n ≤ 1000) (hR : Row q (pcells l) w) (h64 : ∀ p ∈ l, In64 p) :
    Calls Tryd.prog 61 #[.slice (some ⟨q, 0, none⟩) n n] w fun e w' => e = .returned (.bool (l.all inI)) ∧ Below w.heap.size w w' := by
  have HL := Lib.hid hR
  have HN := Lib.hid hn
  have H6 := Lib.hid h64
  clear hR hn h64
  go_enter Tryd.func61, Tryd.ntmps61
  go_wp2_with fail
  go_loopw [7] (fun i wr => ∃ k : Nat, i = .int .i64 (k : Int) ∧ k ≤ n ∧ FarTo l k ∧ Gr w wr) (fun i _ => n - (intOf i).toNat)
  case atStart => exact ⟨0, rfl, by omega, FarTo.zero l, Gr.refl _⟩
  case round =>
    obtain ⟨k, rfl, hk, hA, hG⟩ := hrel
    have HA := Lib.hid hA
    have HG := Lib.hid hG
    clear hA hG
    by_cases hlt : k < n
    · have hkl : k < l.length := by rw [HN.out]; exact hlt
      have hx := List.getElem?_eq_getElem hkl
      obtain ⟨⟨a, b, c⟩, hp⟩ : ∃ p, l[k]? = some p := ⟨_, hx⟩
      clear hx hkl
      have hcs := pcells_at l k _ hp
      have h6 : In64 (a, b, c) := H6.out _ (List.mem_of_getElem? hp)
      unfold In64 at h6
      simp only at h6 hcs
      have c0 := ((HL.out.below HG.out) _ _ hcs.1).1
      have c1 := ((HL.out.below HG.out) _ _ hcs.2.1).1
      have c2 := ((HL.out.below HG.out) _ _ hcs.2.2).1
      have HP := Lib.hid hp
      have CR := Lib.hid (fun W => rdistance_zero a b c W (by omega))
      clear hcs hp
      generalize hz : rd a b c = z at CR
      have HZ := Lib.hid hz
      clear hz
      by_cases hin : z ≤ 524287
      · have HA2 := Lib.hid (HA.out.succ HP.out (by rw [HZ.out]; exact hin))
        go_wp2_with fail
        refine (CR.out _).mono ?_
        rintro e w2 ⟨rfl, b2⟩
        have HG2 := Lib.hid (HG.out.trans ((Gr.al _ _).trans b2))
        clear b2 c0 c1 c2 CR
        go_wp2_with fail
        first
          | exact ⟨⟨k + 1, by go_num, by omega, HA2.out, HG2.out⟩, by simp [intOf]; omega⟩
          | (go_roundw
             case rel => exact ⟨k + 1, by go_num, by omega, HA2.out, HG2.out⟩
             case measure => simp [intOf]; omega)
      · have HF := Lib.hid (far_false HP.out (by rw [HZ.out]; omega))
        go_wp2_with fail
        refine (CR.out _).mono ?_
        rintro e w2 ⟨rfl, b2⟩
        have HG2 := Lib.hid (HG.out.trans ((Gr.al _ _).trans b2))
        clear b2 c0 c1 c2 CR
        go_wp2_with fail
        go_ret
        exact ⟨by rw [HF.out]; rfl, HG2.out⟩
    · have hkn : k = n := by omega
      subst hkn
      have E := Lib.hid (show l.all inR = l.all inI from far_all (by rw [HN.out]; exact HA.out))
      have CM := Lib.hid (fun W hW => small_any l q k W HN.out hb (HL.out.below (HG.out.trans hW)) H6.out)
      rw [E.out] at CM
      clear E
      go_wp2_with fail
      refine (CM.out _ (Gr.refl _)).mono ?_
      rintro e w2 ⟨rfl, b2⟩
      have HG2 := Lib.hid (HG.out.trans b2)
      clear b2
      go_wp2_with fail
      go_ret
      exact ⟨rfl, HG2.out⟩

theorem small_is (l : List (Int × Int × Int)) (q n : Nat) (r : Bool) (w : World) (hn : l.length = n) (hb : n ≤ 1000) (hR : Row q (pcells l) w) (h64 : ∀ p ∈ l, In64 p) (h : l.all inR = r) :
    Calls Tryd.prog 11 #[.slice (some ⟨q, 0, none⟩) n n] w fun e w' => e = .returned (.bool r) ∧ Below w.heap.size w w' := by
  subst h; exact small_any l q n w hn hb hR h64
theorem inner_is (l : List (Int × Int × Int)) (q n : Nat) (r : Bool) (w : World) (hn : l.length = n) (hb : n ≤ 1000) (hR : Row q (pcells l) w) (h64 : ∀ p ∈ l, In64 p) (h : l.all inI = r) :
    Calls Tryd.prog 61 #[.slice (some ⟨q, 0, none⟩) n n] w fun e w' => e = .returned (.bool r) ∧ Below w.heap.size w w' := by
  subst h; exact inner_any l q n w hn hb hR h64
end Go.Proofs.YthadlgjobjnhcaaDoor
