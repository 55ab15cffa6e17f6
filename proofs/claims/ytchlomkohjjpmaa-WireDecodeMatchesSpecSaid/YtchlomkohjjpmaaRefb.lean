/-
  Contracts of the reference's decoders: an integer.
-/
import Derived.Test.YtchlomkohjjpmaaRefa
import Derived.Test.YtchlomkohjjpmaaMathd
namespace Go.Proofs.Ytchlomkohjjpmaa
open Go.RowKit

set_option maxRecDepth 1000000 in
set_option maxHeartbeats 400000 in
theorem refGetInt_nil (A : Option Addr) (c : Nat) (w : World) :
    Calls Try.prog 25 #[.slice A 0 c] w (IntPost (Wm.getI []) w) := by
  go_enter Try.func25, Try.ntmps25
  go_wp2_with fail
  refine wp_loop_rounds 1 ?_
  rw [rounds_succ]
  go_wp2_with fail
  go_ret3
  exact ⟨rfl, rfl⟩

set_option maxRecDepth 1000000 in
set_option maxHeartbeats 1000000 in
theorem refGetInt_some (l : List UInt8) (b o c : Nat) (w : World) (hlen : l.length ≤ 140737488355328)
    (hc : ∀ j, j < l.length → w.cell? ⟨b, o + j, none⟩ = some (.int .u8 ((l.getD j 0).toNat : Int))) :
    Calls Try.prog 25 #[.slice (some ⟨b, o, none⟩) l.length c] w (IntPost (Wm.getI l) w) := by
  have HC := Lib.hid hc
  clear hc
  go_enter Try.func25, Try.ntmps25
  go_wp2_with fail
  go_loop [5] (fun i => ∃ k : Nat, i = .int .i64 (k : Int) ∧ k ≤ 10 ∧ k ≤ l.length ∧ ∀ j, j < k → 128 ≤ (l.getD j 0).toNat) (fun i => 10 - (intOf i).toNat)
  case atStart => exact ⟨0, rfl, by omega, by omega, fun j hj => by omega⟩
  case round =>
    obtain ⟨k, rfl, hk10, hkl, hd⟩ := hrel
    have HD := Lib.hid hd
    clear hd
    by_cases hten : k = 10
    · subst hten
      have G := Lib.hid (Wm.ref_ten l hkl HD.out)
      clear HD
      by_cases hlt : 10 < l.length
      · have hli : (10 : Int) < (l.length : Int) := by omega
        go_wp2_with fail
        go_ret3
        exact ⟨by rw [G.out]; rfl, rfl⟩
      · have hli : ¬ (10 : Int) < (l.length : Int) := by omega
        go_wp2_with fail
        go_ret3
        exact ⟨by rw [G.out]; rfl, rfl⟩
    · by_cases hlt : k < l.length
      · have hcx := HC.out k hlt
        have h256 := (l.getD k 0).toNat_lt
        have hki : (k : Int) < (l.length : Int) := by omega
        have hk9i : (k : Int) < 10 := by omega
        have hten2 : ((k : Int) == 10) = false := by simp; omega
        have hne : ((k : Int) == (l.length : Int)) = false := by simp; omega
        generalize hx : (l.getD k 0).toNat = d at hcx h256
        have HX := Lib.hid hx
        clear hx
        by_cases hge : 128 ≤ d
        · go_wp2_with fail
          go_round
          case rel =>
            refine ⟨k + 1, by go_num, by omega, by omega, fun j hj => ?_⟩
            rcases Nat.lt_or_ge j k with h | h
            · exact HD.out j h
            · rw [show j = k from by omega, HX.out]; exact hge
          case measure => simp [intOf]; omega
        · have hlt128 : (d : Int) < 128 := by omega
          by_cases hbad : k = 9 ∧ 1 < d ∨ 0 < k ∧ d = 0
          · have G := Lib.hid (Wm.ref_bad l k hlt (by omega) HD.out (by rw [HX.out]; exact hbad))
            clear HD
            by_cases h9 : k = 9
            · subst h9
              rcases Nat.lt_or_ge 1 d with hd1 | hd1
              · go_wp2_with fail
                go_ret3
                exact ⟨by rw [G.out]; rfl, rfl⟩
              · obtain rfl : d = 0 := by omega
                clear hbad
                go_wp2_with fail
                go_ret3
                exact ⟨by rw [G.out]; rfl, rfl⟩
            · have hk0 : 0 < k := by omega
              have hd0 : ((d : Int) == 0) = true := by simp; omega
              have h9b : ((k : Int) == 9) = false := by simp; omega
              clear hbad h9
              go_wp2_with fail
              go_ret3
              exact ⟨by rw [G.out]; rfl, rfl⟩
          · have hg := Wm.ref_good l k hlt (by omega) HD.out (by rw [HX.out]; omega) (by rw [HX.out]; omega) (by rw [HX.out]; omega)
            obtain ⟨hg1, hg2⟩ := hg
            have G := Lib.hid hg1
            have HB := Lib.hid hg2
            clear hg1 hg2 HD
            have hd9 : k = 9 → d ≤ 1 := by omega
            have hd0 : 0 < k → 0 < d := by omega
            clear hbad
            have H3 : (((k : Int) == 9) = true ∧ 0 < k ∧ ((d : Int) == 0) = false ∧ d ≤ 1) ∨ (((k : Int) == 9) = false ∧ 0 < k ∧ ((d : Int) == 0) = false) ∨ (((k : Int) == 9) = false ∧ ¬ 0 < k) := by
              by_cases q1 : k = 9
              · exact .inl ⟨by simp; omega, by omega, by simp; omega, hd9 q1⟩
              · by_cases q2 : 0 < k
                · exact .inr (.inl ⟨by simp; omega, q2, by have := hd0 q2; simp; omega⟩)
                · exact .inr (.inr ⟨by simp; omega, q2⟩)
            clear hd9 hd0
            rcases H3 with ⟨t1, t2, t3, t4⟩ | ⟨t1, t2, t3⟩ | ⟨t1, t2⟩
            all_goals
              go_wp2_with fail
              go_loop [6, 7] (fun z i => ∃ z' m : Nat, z = .int .u64 (z' : Int) ∧ i = .int .i64 ((m : Int) - 1) ∧ m ≤ k + 1 ∧ z' * 128 ^ m + Wm.low l m = Wm.low l (k + 1)) (fun _ i => (intOf i + 1).toNat)
              case atStart => exact ⟨0, k + 1, rfl, by go_num, by omega, by simp⟩
              case round =>
                obtain ⟨z', m, rfl, rfl, hm, hz⟩ := hrel
                have HZ := Lib.hid hz
                have hzb := Wm.low_bd z' m _ _ hz
                have HB2 := HB.out
                clear hz
                by_cases hm0 : m = 0
                · subst hm0
                  have hz0 : z' = Wm.low l (k + 1) := by have := HZ.out; simpa [Wm.low] using this
                  have HZ0 := Lib.hid hz0
                  have hz64 : z' < 18446744073709551616 := by omega
                  clear hz0 hzb HB2
                  by_cases hodd : z' % 2 = 1
                  · have hob : ((z' : Int) % 2 == 1) = true := by simp; omega
                    have E := Lib.hid (show -1 - (z' : Int) / 2 = Wm.zag z' by unfold Wm.zag; rw [if_pos hodd]; omega)
                    clear hodd
                    go_wp2_with fail
                    go_ret3
                    refine ⟨?_, rfl⟩
                    rw [G.out, ← HZ0.out, ← E.out]
                    rfl
                  · have hob : ((z' : Int) % 2 == 1) = false := by simp; omega
                    have E := Lib.hid (show (z' : Int) / 2 = Wm.zag z' by unfold Wm.zag; rw [if_neg hodd]; omega)
                    clear hodd
                    go_wp2_with fail
                    go_ret3
                    refine ⟨?_, rfl⟩
                    rw [G.out, ← HZ0.out, ← E.out]
                    rfl
                · obtain ⟨p, rfl⟩ : ∃ p, m = p + 1 := ⟨m - 1, by omega⟩
                  have hcp := HC.out p (by omega)
                  have h256p := (l.getD p 0).toNat_lt
                  have hs := Wm.low_step l p z' _ HZ.out
                  have hsb := Wm.low_bd _ p _ _ hs
                  generalize hy : (l.getD p 0).toNat = y at hcp h256p hs hsb
                  have HS := Lib.hid hs
                  have hzz : z' * 128 + y % 128 < 18446744073709551616 := by omega
                  have hzi : (z' : Int) * 128 + (y : Int) % 128 < 18446744073709551616 := by omega
                  have hpi : (p : Int) < (l.length : Int) := by omega
                  have ep : ((p + 1 : Nat) : Int) - 1 = (p : Int) := by omega
                  rw [ep]
                  clear hs hsb hy hzb HB2 hm0 hzz
                  go_wp2_with fail
                  go_round
                  case rel => exact ⟨z' * 128 + y % 128, p, by go_num, by go_num, by omega, HS.out⟩
                  case measure => simp [intOf]
      · have hkn : k = l.length := by omega
        have G := Lib.hid (Wm.ref_cut l (by omega) (by rw [← hkn]; exact HD.out))
        subst hkn
        clear HD
        have hten2 : ((l.length : Int) == 10) = false := by simp; omega
        go_wp2_with fail
        go_ret3
        exact ⟨by rw [G.out]; rfl, rfl⟩

end Go.Proofs.Ytchlomkohjjpmaa
