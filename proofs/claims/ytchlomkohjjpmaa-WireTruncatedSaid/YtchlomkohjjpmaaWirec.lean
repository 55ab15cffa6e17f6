/-
  Contracts: byte strings, and the number of elements of a list.
-/
import Derived.Test.YtchlomkohjjpmaaWireb
namespace Go.Proofs.Ytchlomkohjjpmaa
open Go.RowKit

set_option maxRecDepth 1000000 in
set_option maxHeartbeats 400000 in
theorem getInt_nil (A : Option Addr) (c : Nat) (w : World) :
    Calls Try.prog 24 #[.slice A 0 c] w (IntPost (Wm.getI []) w) := by
  go_enter Try.func24, Try.ntmps24
  go_wp2
  go_step3
  go_wp2
  go_step3
  go_wp2
  refine wp_loop_rounds 1 ?_
  rw [rounds_succ]
  go_wp2
  go_ret3
  exact ⟨rfl, rfl⟩

theorem getInt_any (l : List UInt8) (A : Option Addr) (n c : Nat) (w : World) (hn : l.length = n) (hlen : n ≤ 140737488355328) (h : Lies w A (l.map bv)) :
    Calls Try.prog 24 #[.slice A n c] w (IntPost (Wm.getI l) w) := by
  subst hn
  by_cases hl : l = []
  · subst hl; exact getInt_nil A c w
  · obtain ⟨b, o, rfl, _⟩ := h.at_ (by simpa using hl)
    exact getInt_some l b o c w hlen h.cells8

set_option maxRecDepth 1000000 in
set_option maxHeartbeats 400000 in
theorem getLength_any (l : List UInt8) (A : Option Addr) (n c : Nat) (size : Int) (w : World) (hn : l.length = n) (hlen : n ≤ 140737488355328) (h : Lies w A (l.map bv)) (hs : 1 ≤ size) (hs2 : size ≤ 1000) :
    Calls Try.prog 45 #[.slice A n c, .int .i64 size] w (IntPost (Wm.getLen size.toNat l) w) := by
  have C := Lib.hid (getInt_any l A n c w hn hlen h)
  obtain ⟨hI1, hI2⟩ := @Wm.getI_used l
  obtain ⟨hB1, hB2⟩ := @Wm.getI_bd l
  have HG : Hid (Wm.getLen size.toNat l = _) := Lib.hid (by unfold Wm.getLen; rfl)
  generalize Wm.getLen size.toNat l = T at HG ⊢
  rw [hn] at hI1 HG
  generalize Wm.getI l = R at *
  obtain ⟨x, u, er⟩ := R
  clear h hn
  simp only at hI1 hI2 hB1 hB2 HG
  go_enter Try.func45, Try.ntmps45
  go_wp2_with fail
  refine C.out.mono ?_
  rintro e w1 ⟨rfl, rfl⟩
  clear C
  go_wp2_with fail
  · have h1 : (er != 0) = true := by assumption
    go_ret3
    exact ⟨by rw [HG.out, if_pos (by simpa using h1)]; rfl, rfl⟩
  · have h1 : (er != 0) = false := by assumption
    have h2 : x < 0 := by assumption
    go_ret3
    exact ⟨by rw [HG.out, if_neg (by simpa using h1), if_pos h2]; rfl, rfl⟩
  · have h1 : (er != 0) = false := by assumption
    have h2 : 0 ≤ x := by assumption
    have h3 : ((n : Int) - (u : Int)) / size < x := by assumption
    have h4 : (((n - u) / size.toNat : Nat) : Int) < x := by
      rw [Int.natCast_ediv, Int.toNat_of_nonneg (by omega), Int.natCast_sub hI1]; exact h3
    go_ret3
    exact ⟨by rw [HG.out, if_neg (by simpa using h1), if_neg (by omega), if_pos h4]; rfl, rfl⟩
  · have h1 : (er != 0) = false := by assumption
    have h2 : 0 ≤ x := by assumption
    have h3 : x ≤ ((n : Int) - (u : Int)) / size := by assumption
    have h4 : ¬ (((n - u) / size.toNat : Nat) : Int) < x := by
      rw [Int.natCast_ediv, Int.toNat_of_nonneg (by omega), Int.natCast_sub hI1]; omega
    go_ret3
    exact ⟨by rw [HG.out, if_neg (by simpa using h1), if_neg (by omega), if_neg h4]; rfl, rfl⟩

end Go.Proofs.Ytchlomkohjjpmaa
