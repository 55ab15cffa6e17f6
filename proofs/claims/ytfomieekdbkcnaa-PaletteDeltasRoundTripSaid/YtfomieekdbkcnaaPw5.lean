/-
  PaletteDeltasRoundTrip: the walk.
-/
import Derived.Test.YtfomieekdbkcnaaPm1
import Derived.Test.YtfomieekdbkcnaaPw0
import Derived.Handy
namespace Go.Proofs.Ytfomieekdbkcnaa
open Go Go.RowKit
set_option linter.unusedVariables false
set_option linter.unusedSimpArgs false
set_option maxRecDepth 1000000 in
set_option maxHeartbeats 4000000 in
theorem law_pw5 (A : Option Addr) (n c : Nat) (l : List Int) (A2 : Option Addr) (m2 c2 : Nat) (l2 : List Int) (x : List UInt8) (w : World) (hG : SL w 1 A n c (ic l)) (hG2 : SL w 1 A2 m2 c2 (ic l2)) :
    Calls Try.prog 7 #[.slice A n c, .slice A2 m2 c2, .string (bstr x)] w fun e w' => e = .returned (.bool true) ∧ Below w.heap.size w w' := by
  have HGA := Lib.hid hG
  have HLEN : Hid (l.length = n) := Lib.hid (by have h_ := hG.len; rw [ic_len] at h_; omega)
  have hnbHGA : n ≤ 9223372036854775807 := Nat.le_trans hG.cap hG.bnd
  clear hG
  have HGB := Lib.hid hG2
  have HLEN2 : Hid (l2.length = m2) := Lib.hid (by have h_ := hG2.len; rw [ic_len] at h_; omega)
  have hnbHGB : m2 ≤ 9223372036854775807 := Nat.le_trans hG2.cap hG2.bnd
  clear hG2
  have S1 : Hid (St w noB [] w) := Lib.hid (St.start w)
  go_enter Try.func7, Try.ntmps7
  go_upto_region 0 with fail
  refine wpG_region_k (fun K hK => ?_)
  refine @wpG_p _ _ _ _ _ (some 6) (.bool false) _ _ rfl (by rfl) (fun _ => rfl) ?_
  simp only [n1, n3, n4]
  refine wpG_done (fun V2 hv3 => ?_)
  have S4 : Hid (St w noB [] V2) := Lib.hid (S1.out.gr hv3)
  clear S1
  clear hv3
  refine ⟨rfl, hK _ _ ?_⟩
  clear hK
  go_upto_region 1 with fail
  refine wpG_region_k (fun K hK => ?_)
  refine @wpG_p _ _ _ _ _ (some 15) (.slice A n c) _ _ rfl (by rfl) (fun _ => rfl) ?_
  simp only [n1, n3, n4]
  refine @wpG_p _ _ _ _ _ (some 16) (.int .i64 (n : Int)) _ _ rfl (by rfl) (fun W => by go_simp) ?_
  simp only [n1, n3, n4]
  refine @wpG_p _ _ _ _ _ (some 17) (.bool (decide ((n : Int) > 100))) _ _ rfl (by rfl) (fun W => op_int_gtr W (n : Int) 100 rfl rfl rfl Try.underlying3) ?_
  simp only [n1, n3, n4]
  refine @wpG_p _ _ _ _ _ (some 18) (.bool (decide ((n : Int) > 100))) _ _ rfl (by rfl) (fun _ => rfl) ?_
  simp only [n1, n3, n4]
  obtain ⟨c5, hc5⟩ : ∃ q_, q_ = (decide ((n : Int) > 100)) := ⟨_, rfl⟩
  rw [← hc5]
  have Hc5 := Lib.hid hc5
  clear hc5
  cases c5 with
  | true =>
    have f6 := of_decide_eq_true Hc5.out.symm
    refine @wpG_no _ _ _ _ _ (some 19) _ _ rfl (by rfl) ?_
    simp only [n1, n3, n4]
    refine @wpG_no _ _ _ _ _ (some 20) _ _ rfl (by rfl) ?_
    simp only [n1, n3, n4]
    refine @wpG_no _ _ _ _ _ (some 21) _ _ rfl (by rfl) ?_
    simp only [n1, n3, n4]
    refine @wpG_p _ _ _ _ _ (some 22) (.bool true) _ _ rfl (by rfl) (fun W => by go_simp) ?_
    simp only [n1, n3, n4]
    refine @wpG_p _ _ _ _ _ (some 23) (.bool true) _ _ rfl (by rfl) (fun _ => rfl) ?_
    simp only [n1, n3, n4]
    refine @wpG_no _ _ _ _ _ (some 24) _ _ rfl (by rfl) ?_
    simp only [n1, n3, n4]
    refine @wpG_no _ _ _ _ _ (some 25) _ _ rfl (by rfl) ?_
    simp only [n1, n3, n4]
    refine @wpG_no _ _ _ _ _ (some 26) _ _ rfl (by rfl) ?_
    simp only [n1, n3, n4]
    refine @wpG_p _ _ _ _ _ (some 27) (.bool true) _ _ rfl (by rfl) (fun W => by go_simp) ?_
    simp only [n1, n3, n4]
    refine wpG_done (fun V7 hv8 => ?_)
    have S9 : Hid (St w noB [] V7) := Lib.hid (S4.out.gr hv8)
    clear S4
    clear hv8
    refine ⟨rfl, hK _ _ ?_⟩
    clear hK
    go_upto_region 2 with fail
    refine wpG_region_k (fun K hK => ?_)
    refine @wpG_tk _ _ _ _ _ (some 28) (.bool true) _ _ rfl (.call (f := 10) (args := #[]) (by rfl) (fun W => by go_simp) (fun W hg => sanity_any W)) ?_
    simp only [n1, n3, n4]
    refine @wpG_p _ _ _ _ _ (some 6) (.bool true) _ _ rfl (by rfl) (fun _ => rfl) ?_
    simp only [n1, n3, n4]
    refine wpG_done (fun V10 hv11 => ?_)
    have S12 : Hid (St w noB [] V10) := Lib.hid (S9.out.gr hv11)
    clear S9
    clear hv11
    refine ⟨rfl, hK _ _ ?_⟩
    clear hK
    go_wp2_with fail
    go_ret
    refine ⟨?_, S12.out.bel⟩
    show Ending.returned (.bool true) = _
    (first | rfl | (rfl))
  | false =>
    have f13 := of_decide_eq_false Hc5.out.symm
    refine @wpG_p _ _ _ _ _ (some 19) (.slice A2 m2 c2) _ _ rfl (by rfl) (fun _ => rfl) ?_
    simp only [n1, n3, n4]
    refine @wpG_p _ _ _ _ _ (some 20) (.int .i64 (m2 : Int)) _ _ rfl (by rfl) (fun W => by go_simp) ?_
    simp only [n1, n3, n4]
    refine @wpG_p _ _ _ _ _ (some 21) (.bool (decide ((m2 : Int) > 100))) _ _ rfl (by rfl) (fun W => op_int_gtr W (m2 : Int) 100 rfl rfl rfl Try.underlying3) ?_
    simp only [n1, n3, n4]
    refine @wpG_p _ _ _ _ _ (some 22) (.bool (decide ((m2 : Int) > 100))) _ _ rfl (by rfl) (fun W => by go_simp) ?_
    simp only [n1, n3, n4]
    refine @wpG_p _ _ _ _ _ (some 23) (.bool (decide ((m2 : Int) > 100))) _ _ rfl (by rfl) (fun _ => rfl) ?_
    simp only [n1, n3, n4]
    obtain ⟨c14, hc14⟩ : ∃ q_, q_ = (decide ((m2 : Int) > 100)) := ⟨_, rfl⟩
    rw [← hc14]
    have Hc14 := Lib.hid hc14
    clear hc14
    cases c14 with
    | true =>
      have f15 := of_decide_eq_true Hc14.out.symm
      refine @wpG_no _ _ _ _ _ (some 24) _ _ rfl (by rfl) ?_
      simp only [n1, n3, n4]
      refine @wpG_no _ _ _ _ _ (some 25) _ _ rfl (by rfl) ?_
      simp only [n1, n3, n4]
      refine @wpG_no _ _ _ _ _ (some 26) _ _ rfl (by rfl) ?_
      simp only [n1, n3, n4]
      refine @wpG_p _ _ _ _ _ (some 27) (.bool true) _ _ rfl (by rfl) (fun W => by go_simp) ?_
      simp only [n1, n3, n4]
      refine wpG_done (fun V16 hv17 => ?_)
      have S18 : Hid (St w noB [] V16) := Lib.hid (S4.out.gr hv17)
      clear S4
      clear hv17
      refine ⟨rfl, hK _ _ ?_⟩
      clear hK
      go_upto_region 2 with fail
      refine wpG_region_k (fun K hK => ?_)
      refine @wpG_tk _ _ _ _ _ (some 28) (.bool true) _ _ rfl (.call (f := 10) (args := #[]) (by rfl) (fun W => by go_simp) (fun W hg => sanity_any W)) ?_
      simp only [n1, n3, n4]
      refine @wpG_p _ _ _ _ _ (some 6) (.bool true) _ _ rfl (by rfl) (fun _ => rfl) ?_
      simp only [n1, n3, n4]
      refine wpG_done (fun V19 hv20 => ?_)
      have S21 : Hid (St w noB [] V19) := Lib.hid (S18.out.gr hv20)
      clear S18
      clear hv20
      refine ⟨rfl, hK _ _ ?_⟩
      clear hK
      go_wp2_with fail
      go_ret
      refine ⟨?_, S21.out.bel⟩
      show Ending.returned (.bool true) = _
      (first | rfl | (rfl))
    | false =>
      have f22 := of_decide_eq_false Hc14.out.symm
      refine @wpG_p _ _ _ _ _ (some 24) (.string (bstr x)) _ _ rfl (by rfl) (fun _ => rfl) ?_
      simp only [n1, n3, n4]
      refine @wpG_p _ _ _ _ _ (some 25) (.int .i64 (x.length : Int)) _ _ rfl (by rfl) (fun W => op_str_len W x rfl rfl Try.underlying9) ?_
      simp only [n1, n3, n4]
      refine @wpG_p _ _ _ _ _ (some 26) (.bool (decide ((x.length : Int) > 300))) _ _ rfl (by rfl) (fun W => op_int_gtr W (x.length : Int) 300 rfl rfl rfl Try.underlying3) ?_
      simp only [n1, n3, n4]
      refine @wpG_p _ _ _ _ _ (some 27) (.bool (decide ((x.length : Int) > 300))) _ _ rfl (by rfl) (fun W => by go_simp) ?_
      simp only [n1, n3, n4]
      refine wpG_done (fun V23 hv24 => ?_)
      have S25 : Hid (St w noB [] V23) := Lib.hid (S4.out.gr hv24)
      clear S4
      clear hv24
      refine ⟨rfl, hK _ _ ?_⟩
      clear hK
      obtain ⟨c26, hc26⟩ : ∃ q_, q_ = (decide ((x.length : Int) > 300)) := ⟨_, rfl⟩
      rw [← hc26]
      have Hc26 := Lib.hid hc26
      clear hc26
      cases c26 with
      | true =>
        have f27 := of_decide_eq_true Hc26.out.symm
        go_upto_region 2 with fail
        refine wpG_region_k (fun K hK => ?_)
        refine @wpG_tk _ _ _ _ _ (some 28) (.bool true) _ _ rfl (.call (f := 10) (args := #[]) (by rfl) (fun W => by go_simp) (fun W hg => sanity_any W)) ?_
        simp only [n1, n3, n4]
        refine @wpG_p _ _ _ _ _ (some 6) (.bool true) _ _ rfl (by rfl) (fun _ => rfl) ?_
        simp only [n1, n3, n4]
        refine wpG_done (fun V28 hv29 => ?_)
        have S30 : Hid (St w noB [] V28) := Lib.hid (S25.out.gr hv29)
        clear S25
        clear hv29
        refine ⟨rfl, hK _ _ ?_⟩
        clear hK
        go_wp2_with fail
        go_ret
        refine ⟨?_, S30.out.bel⟩
        show Ending.returned (.bool true) = _
        (first | rfl | (rfl))
      | false =>
        have f31 := of_decide_eq_false Hc26.out.symm
        go_upto_region 3 with fail
        refine wpG_region_k (fun K hK => ?_)
        refine @wpG_p _ _ _ _ _ (some 30) (.slice A n c) _ _ rfl (by rfl) (fun _ => rfl) ?_
        simp only [n1, n3, n4]
        refine @wpG_p _ _ _ _ _ (some 31) (.slice A2 m2 c2) _ _ rfl (by rfl) (fun _ => rfl) ?_
        simp only [n1, n3, n4]
        refine @wpG_tk _ _ _ _ _ (some 32) (.tuple #[.string (bstr (Pl.dS l l2)), .int .i64 (Pl.dE l l2)]) _ _ rfl (.call (f := 22) (args := #[.slice A n c, .slice A2 m2 c2]) (by rfl) (fun W => by go_simp) (fun W hg => delta_any _ _ _ l _ _ _ l2 W (HGA.out.gr (S25.out.gr hg).bel) (HGB.out.gr (S25.out.gr hg).bel) (by omega) (by omega))) ?_
        simp only [n1, n3, n4]
        refine @wpG_p _ _ _ _ _ (some 29) (.tuple #[.string (bstr (Pl.dS l l2)), .int .i64 (Pl.dE l l2)]) _ _ rfl (by rfl) (fun _ => rfl) ?_
        simp only [n1, n3, n4]
        refine @wpG_p _ _ _ _ _ (some 33) (.string (bstr (Pl.dS l l2))) _ _ rfl (by rfl) (fun W => by go_simp) ?_
        simp only [n1, n3, n4]
        refine @wpG_p _ _ _ _ _ (some 34) (.int .i64 (Pl.dE l l2)) _ _ rfl (by rfl) (fun W => by go_simp) ?_
        simp only [n1, n3, n4]
        refine @wpG_p _ _ _ _ _ (some 7) (.string (bstr (Pl.dS l l2))) _ _ rfl (by rfl) (fun _ => rfl) ?_
        simp only [n1, n3, n4]
        refine @wpG_p _ _ _ _ _ (some 8) (.int .i64 (Pl.dE l l2)) _ _ rfl (by rfl) (fun _ => rfl) ?_
        simp only [n1, n3, n4]
        refine wpG_done (fun V32 hv33 => ?_)
        have S34 : Hid (St w noB [] V32) := Lib.hid (S25.out.gr hv33)
        clear S25
        clear hv33
        refine ⟨rfl, hK _ _ ?_⟩
        clear hK
        go_upto_region 4 with fail
        refine wpG_region_k (fun K hK => ?_)
        refine @wpG_p _ _ _ _ _ (some 35) (.int .i64 (Pl.dE l l2)) _ _ rfl (by rfl) (fun _ => rfl) ?_
        simp only [n1, n3, n4]
        refine @wpG_p _ _ _ _ _ (some 36) (.bool (decide (Pl.dE l l2 = 0))) _ _ rfl (by rfl) (fun W => op_int_eql W (Pl.dE l l2) 0 rfl rfl rfl Try.underlying24) ?_
        simp only [n1, n3, n4]
        refine wpG_done (fun V35 hv36 => ?_)
        have S37 : Hid (St w noB [] V35) := Lib.hid (S34.out.gr hv36)
        clear S34
        clear hv36
        refine ⟨rfl, hK _ _ ?_⟩
        clear hK
        obtain ⟨c38, hc38⟩ : ∃ q_, q_ = (decide (Pl.dE l l2 = 0)) := ⟨_, rfl⟩
        rw [← hc38]
        have Hc38 := Lib.hid hc38
        clear hc38
        cases c38 with
        | true =>
          have f39 := Lib.hid (of_decide_eq_true Hc38.out.symm)
          have f39a := Int.le_of_eq f39.out
          have f39b := Int.le_of_eq f39.out.symm
          go_upto_region 5 with fail
          refine wpG_region_k (fun K hK => ?_)
          refine @wpG_p _ _ _ _ _ (some 38) (.slice A n c) _ _ rfl (by rfl) (fun _ => rfl) ?_
          simp only [n1, n3, n4]
          refine @wpG_p _ _ _ _ _ (some 39) (.string (bstr (Pl.dS l l2))) _ _ rfl (by rfl) (fun _ => rfl) ?_
          simp only [n1, n3, n4]
          have hds_ := Pl.dS_len l l2
          refine wpG_call (some 40) 24 #[.slice A n c, .string (bstr (Pl.dS l l2))] rfl (by rfl) (fun W => by go_simp) (fun W40 hg41 => ?_)
          refine (patch_c _ _ _ l (Pl.dS l l2) l2 0 W40 (HGA.out.gr (S37.out.gr hg41).bel) (by rw [Pl.pP_dS f39.out]; exact ⟨rfl, rfl⟩) (by omega) (by omega)).mono ?_
          rintro e w42 ⟨D1, mm1, dc1, rfl, hS_⟩
          refine ⟨_, rfl, ?_⟩
          have hT_ := (S37.out.gr hg41).got hS_
          simp only [n1, n3, n4]
          have S43 : Hid (St w noB [own (.slice D1 mm1 dc1) 3 1 mm1 (ic l2)] w42) := Lib.hid hT_
          clear S37
          clear hT_ hS_ hg41
          refine @wpG_p _ _ _ _ _ (some 37) (.tuple #[.slice D1 mm1 dc1, .int .i64 0]) _ _ rfl (by rfl) (fun _ => rfl) ?_
          simp only [n1, n3, n4]
          refine @wpG_p _ _ _ _ _ (some 41) (.slice D1 mm1 dc1) _ _ rfl (by rfl) (fun W => by go_simp) ?_
          simp only [n1, n3, n4]
          refine @wpG_p _ _ _ _ _ (some 42) (.int .i64 0) _ _ rfl (by rfl) (fun W => by go_simp) ?_
          simp only [n1, n3, n4]
          refine @wpG_p _ _ _ _ _ (some 9) (.slice D1 mm1 dc1) _ _ rfl (by rfl) (fun _ => rfl) ?_
          simp only [n1, n3, n4]
          refine @wpG_p _ _ _ _ _ (some 10) (.int .i64 0) _ _ rfl (by rfl) (fun _ => rfl) ?_
          simp only [n1, n3, n4]
          refine wpG_done (fun V44 hv45 => ?_)
          have S46 : Hid (St w noB [own (.slice D1 mm1 dc1) 3 1 mm1 (ic l2)] V44) := Lib.hid (S43.out.gr hv45)
          clear S43
          clear hv45
          refine ⟨rfl, hK _ _ ?_⟩
          clear hK
          go_upto_region 6 with fail
          refine wpG_region_k (fun K hK => ?_)
          refine @wpG_p _ _ _ _ _ (some 43) (.int .i64 0) _ _ rfl (by rfl) (fun _ => rfl) ?_
          simp only [n1, n3, n4]
          refine @wpG_p _ _ _ _ _ (some 44) (.bool false) _ _ rfl (by rfl) (fun W => by go_simp) ?_
          simp only [n1, n3, n4]
          refine @wpG_p _ _ _ _ _ (some 45) (.bool false) _ _ rfl (by rfl) (fun _ => rfl) ?_
          simp only [n1, n3, n4]
          refine @wpG_p _ _ _ _ _ (some 46) (.slice D1 mm1 dc1) _ _ rfl (by rfl) (fun _ => rfl) ?_
          simp only [n1, n3, n4]
          refine @wpG_p _ _ _ _ _ (some 47) (.slice A2 m2 c2) _ _ rfl (by rfl) (fun _ => rfl) ?_
          simp only [n1, n3, n4]
          refine @wpG_tk _ _ _ _ _ (some 48) (.bool true) _ _ rfl (.call (f := 15) (args := #[.slice D1 mm1 dc1, .slice A2 m2 c2]) (by rfl) (fun W => by go_simp) (fun W hg => ((same_any _ _ _ l2 _ _ _ l2 W (SL.ofOwn ((S46.out.gr hg).ownr 0 rfl)) (HGB.out.gr (S46.out.gr hg).bel)).mono (fun e w' h => ⟨h.1.trans (by rw [decide_eq_true rfl]), h.2⟩)))) ?_
          simp only [n1, n3, n4]
          refine @wpG_p _ _ _ _ _ (some 49) (.bool false) _ _ rfl (by rfl) (fun W => by first | (go_simp; done) | (cases true <;> rfl)) ?_
          simp only [n1, n3, n4]
          refine @wpG_p _ _ _ _ _ (some 50) (.bool false) _ _ rfl (by rfl) (fun W => by go_simp) ?_
          simp only [n1, n3, n4]
          refine wpG_done (fun V47 hv48 => ?_)
          have S49 : Hid (St w noB [own (.slice D1 mm1 dc1) 3 1 mm1 (ic l2)] V47) := Lib.hid (S46.out.gr hv48)
          clear S46
          clear hv48
          refine ⟨rfl, hK _ _ ?_⟩
          clear hK
          go_upto_region 8 with fail
          refine wpG_region_k (fun K hK => ?_)
          refine @wpG_p _ _ _ _ _ (some 52) (.slice A n c) _ _ rfl (by rfl) (fun _ => rfl) ?_
          simp only [n1, n3, n4]
          refine @wpG_p _ _ _ _ _ (some 53) (.string (bstr x)) _ _ rfl (by rfl) (fun _ => rfl) ?_
          simp only [n1, n3, n4]
          refine wpG_call (some 54) 24 #[.slice A n c, .string (bstr x)] rfl (by rfl) (fun W => by go_simp) (fun W50 hg51 => ?_)
          refine (patch_any _ _ _ l x W50 (HGA.out.gr (S49.out.gr hg51).bel) (by omega) (by omega)).mono ?_
          rintro e w52 ⟨D2, mm2, dc2, rfl, hS_⟩
          refine ⟨_, rfl, ?_⟩
          have hT_ := (S49.out.gr hg51).got hS_
          simp only [n1, n3, n4]
          have S53 : Hid (St w noB [own (.slice D2 mm2 dc2) 3 1 mm2 (ic ((Pl.pP l x).1)), own (.slice D1 mm1 dc1) 3 1 mm1 (ic l2)] w52) := Lib.hid hT_
          clear S49
          clear hT_ hS_ hg51
          have hlmm2 : Hid (mm2 = ((Pl.pP l x).1).length) := Lib.hid (own_icl (S53.out.ownr 0 rfl))
          refine @wpG_p _ _ _ _ _ (some 51) (.tuple #[.slice D2 mm2 dc2, .int .i64 ((Pl.pP l x).2 : Int)]) _ _ rfl (by rfl) (fun _ => rfl) ?_
          simp only [n1, n3, n4]
          refine @wpG_p _ _ _ _ _ (some 55) (.slice D2 mm2 dc2) _ _ rfl (by rfl) (fun W => by go_simp) ?_
          simp only [n1, n3, n4]
          refine @wpG_p _ _ _ _ _ (some 56) (.int .i64 ((Pl.pP l x).2 : Int)) _ _ rfl (by rfl) (fun W => by go_simp) ?_
          simp only [n1, n3, n4]
          refine @wpG_p _ _ _ _ _ (some 11) (.slice D2 mm2 dc2) _ _ rfl (by rfl) (fun _ => rfl) ?_
          simp only [n1, n3, n4]
          refine @wpG_p _ _ _ _ _ (some 12) (.int .i64 ((Pl.pP l x).2 : Int)) _ _ rfl (by rfl) (fun _ => rfl) ?_
          simp only [n1, n3, n4]
          refine wpG_done (fun V54 hv55 => ?_)
          have S56 : Hid (St w noB [own (.slice D2 mm2 dc2) 3 1 mm2 (ic ((Pl.pP l x).1)), own (.slice D1 mm1 dc1) 3 1 mm1 (ic l2)] V54) := Lib.hid (S53.out.gr hv55)
          clear S53
          clear hv55
          refine ⟨rfl, hK _ _ ?_⟩
          clear hK
          go_upto_region 9 with fail
          refine wpG_region_k (fun K hK => ?_)
          refine @wpG_p _ _ _ _ _ (some 57) (.int .i64 ((Pl.pP l x).2 : Int)) _ _ rfl (by rfl) (fun _ => rfl) ?_
          simp only [n1, n3, n4]
          refine @wpG_p _ _ _ _ _ (some 58) (.bool (decide (((Pl.pP l x).2 : Int) ≠ 0))) _ _ rfl (by rfl) (fun W => op_int_neq W ((Pl.pP l x).2 : Int) 0 rfl rfl rfl Try.underlying24) ?_
          simp only [n1, n3, n4]
          refine wpG_done (fun V57 hv58 => ?_)
          have S59 : Hid (St w noB [own (.slice D2 mm2 dc2) 3 1 mm2 (ic ((Pl.pP l x).1)), own (.slice D1 mm1 dc1) 3 1 mm1 (ic l2)] V57) := Lib.hid (S56.out.gr hv58)
          clear S56
          clear hv58
          refine ⟨rfl, hK _ _ ?_⟩
          clear hK
          obtain ⟨c60, hc60⟩ : ∃ q_, q_ = (decide (((Pl.pP l x).2 : Int) ≠ 0)) := ⟨_, rfl⟩
          rw [← hc60]
          have Hc60 := Lib.hid hc60
          clear hc60
          cases c60 with
          | true =>
            have f61 := of_decide_eq_true Hc60.out.symm
            go_upto_region 10 with fail
            refine wpG_region_k (fun K hK => ?_)
            have hue_ : mm2 ≤ 0 := by have e_f39 := f39.out; have h1_ := hlmm2.out; have h2_ := Pl.pP_e (a := l) (x := x) (by omega); rw [h2_] at h1_; simp at h1_; omega
            refine @wpG_tk _ _ _ _ _ (some 59) (.bool true) _ _ rfl (.call (f := 10) (args := #[]) (by rfl) (fun W => by go_simp) (fun W hg => sanity_any W)) ?_
            simp only [n1, n3, n4]
            refine @wpG_p _ _ _ _ _ (some 60) (.bool true) _ _ rfl (by rfl) (fun _ => rfl) ?_
            simp only [n1, n3, n4]
            refine @wpG_p _ _ _ _ _ (some 61) (.slice D2 mm2 dc2) _ _ rfl (by rfl) (fun _ => rfl) ?_
            simp only [n1, n3, n4]
            refine @wpG_p _ _ _ _ _ (some 62) (.int .i64 (mm2 : Int)) _ _ rfl (by rfl) (fun W => by go_simp) ?_
            simp only [n1, n3, n4]
            refine @wpG_p _ _ _ _ _ (some 63) (.bool true) _ _ rfl (by rfl) (fun W => by have hq : ((mm2 : Int) = 0) := (by omega); first | (go_simp; done) | (go_simp <;> omega)) ?_
            simp only [n1, n3, n4]
            refine @wpG_p _ _ _ _ _ (some 64) (.bool true) _ _ rfl (by rfl) (fun W => by go_simp) ?_
            simp only [n1, n3, n4]
            refine @wpG_p _ _ _ _ _ (some 6) (.bool true) _ _ rfl (by rfl) (fun _ => rfl) ?_
            simp only [n1, n3, n4]
            refine wpG_done (fun V62 hv63 => ?_)
            have S64 : Hid (St w noB [own (.slice D2 mm2 dc2) 3 1 mm2 (ic ((Pl.pP l x).1)), own (.slice D1 mm1 dc1) 3 1 mm1 (ic l2)] V62) := Lib.hid (S59.out.gr hv63)
            clear S59
            clear hv63
            refine ⟨rfl, hK _ _ ?_⟩
            clear hK
            go_wp2_with fail
            go_ret
            refine ⟨?_, S64.out.bel⟩
            show Ending.returned (.bool true) = _
            (first | rfl | (have e_f39 := f39.out; rfl))
          | false =>
            have f65 := Lib.hid (Decidable.not_not.1 (of_decide_eq_false Hc60.out.symm))
            have f65a := Int.le_of_eq f65.out
            have f65b := Int.le_of_eq f65.out.symm
            go_upto_region 11 with fail
            refine wpG_region_k (fun K hK => ?_)
            have hu0_ : (Pl.pP l x).2 = 0 := by have e_f39 := f39.out; have e_f65 := f65.out; omega
            have HU0 := Lib.hid hu0_
            have hmm_ : mm2 ≤ 64 := by have h1_ := hlmm2.out; have h2_ := (Pl.dS_pP hu0_).2.2; omega
            clear hu0_
            refine @wpG_p _ _ _ _ _ (some 66) (.slice A n c) _ _ rfl (by rfl) (fun _ => rfl) ?_
            simp only [n1, n3, n4]
            refine @wpG_p _ _ _ _ _ (some 67) (.slice D2 mm2 dc2) _ _ rfl (by rfl) (fun _ => rfl) ?_
            simp only [n1, n3, n4]
            refine @wpG_tk _ _ _ _ _ (some 68) (.tuple #[.string (bstr x), .int .i64 0]) _ _ rfl (.call (f := 22) (args := #[.slice A n c, .slice D2 mm2 dc2]) (by rfl) (fun W => by go_simp) (fun W hg => ((delta_any _ _ _ l _ _ _ ((Pl.pP l x).1) W (HGA.out.gr (S59.out.gr hg).bel) (SL.ofOwn ((S59.out.gr hg).ownr 0 rfl)) (by omega) (by omega)).mono (fun e w' h => ⟨h.1.trans (by rw [(Pl.dS_pP HU0.out).1, (Pl.dS_pP HU0.out).2.1]), h.2⟩)))) ?_
            simp only [n1, n3, n4]
            refine @wpG_p _ _ _ _ _ (some 65) (.tuple #[.string (bstr x), .int .i64 0]) _ _ rfl (by rfl) (fun _ => rfl) ?_
            simp only [n1, n3, n4]
            refine @wpG_p _ _ _ _ _ (some 69) (.string (bstr x)) _ _ rfl (by rfl) (fun W => by go_simp) ?_
            simp only [n1, n3, n4]
            refine @wpG_p _ _ _ _ _ (some 70) (.int .i64 0) _ _ rfl (by rfl) (fun W => by go_simp) ?_
            simp only [n1, n3, n4]
            refine @wpG_p _ _ _ _ _ (some 13) (.string (bstr x)) _ _ rfl (by rfl) (fun _ => rfl) ?_
            simp only [n1, n3, n4]
            refine @wpG_p _ _ _ _ _ (some 14) (.int .i64 0) _ _ rfl (by rfl) (fun _ => rfl) ?_
            simp only [n1, n3, n4]
            refine wpG_done (fun V66 hv67 => ?_)
            have S68 : Hid (St w noB [own (.slice D2 mm2 dc2) 3 1 mm2 (ic ((Pl.pP l x).1)), own (.slice D1 mm1 dc1) 3 1 mm1 (ic l2)] V66) := Lib.hid (S59.out.gr hv67)
            clear S59
            clear hv67
            refine ⟨rfl, hK _ _ ?_⟩
            clear hK
            go_upto_region 12 with fail
            refine wpG_region_k (fun K hK => ?_)
            refine @wpG_tk _ _ _ _ _ (some 71) (.bool true) _ _ rfl (.call (f := 10) (args := #[]) (by rfl) (fun W => by go_simp) (fun W hg => sanity_any W)) ?_
            simp only [n1, n3, n4]
            refine @wpG_p _ _ _ _ _ (some 72) (.bool true) _ _ rfl (by rfl) (fun _ => rfl) ?_
            simp only [n1, n3, n4]
            refine @wpG_p _ _ _ _ _ (some 73) (.int .i64 0) _ _ rfl (by rfl) (fun _ => rfl) ?_
            simp only [n1, n3, n4]
            refine @wpG_p _ _ _ _ _ (some 74) (.bool true) _ _ rfl (by rfl) (fun W => by go_simp) ?_
            simp only [n1, n3, n4]
            refine @wpG_p _ _ _ _ _ (some 75) (.bool true) _ _ rfl (by rfl) (fun W => by go_simp) ?_
            simp only [n1, n3, n4]
            refine @wpG_p _ _ _ _ _ (some 76) (.bool true) _ _ rfl (by rfl) (fun _ => rfl) ?_
            simp only [n1, n3, n4]
            refine @wpG_p _ _ _ _ _ (some 77) (.string (bstr x)) _ _ rfl (by rfl) (fun _ => rfl) ?_
            simp only [n1, n3, n4]
            refine @wpG_p _ _ _ _ _ (some 78) (.string (bstr x)) _ _ rfl (by rfl) (fun _ => rfl) ?_
            simp only [n1, n3, n4]
            refine @wpG_p _ _ _ _ _ (some 79) (.bool true) _ _ rfl (by rfl) (fun W => op_str_same W x rfl rfl rfl Try.underlying9) ?_
            simp only [n1, n3, n4]
            refine @wpG_p _ _ _ _ _ (some 80) (.bool true) _ _ rfl (by rfl) (fun W => by go_simp) ?_
            simp only [n1, n3, n4]
            refine @wpG_p _ _ _ _ _ (some 6) (.bool true) _ _ rfl (by rfl) (fun _ => rfl) ?_
            simp only [n1, n3, n4]
            refine wpG_done (fun V69 hv70 => ?_)
            have S71 : Hid (St w noB [own (.slice D2 mm2 dc2) 3 1 mm2 (ic ((Pl.pP l x).1)), own (.slice D1 mm1 dc1) 3 1 mm1 (ic l2)] V69) := Lib.hid (S68.out.gr hv70)
            clear S68
            clear hv70
            refine ⟨rfl, hK _ _ ?_⟩
            clear hK
            go_wp2_with fail
            go_ret
            refine ⟨?_, S71.out.bel⟩
            show Ending.returned (.bool true) = _
            (first | rfl | (have e_f39 := f39.out; have e_f65 := f65.out; rfl))
        | false =>
          have f72 := of_decide_eq_false Hc38.out.symm
          go_upto_region 8 with fail
          refine wpG_region_k (fun K hK => ?_)
          refine @wpG_p _ _ _ _ _ (some 52) (.slice A n c) _ _ rfl (by rfl) (fun _ => rfl) ?_
          simp only [n1, n3, n4]
          refine @wpG_p _ _ _ _ _ (some 53) (.string (bstr x)) _ _ rfl (by rfl) (fun _ => rfl) ?_
          simp only [n1, n3, n4]
          refine wpG_call (some 54) 24 #[.slice A n c, .string (bstr x)] rfl (by rfl) (fun W => by go_simp) (fun W73 hg74 => ?_)
          refine (patch_any _ _ _ l x W73 (HGA.out.gr (S37.out.gr hg74).bel) (by omega) (by omega)).mono ?_
          rintro e w75 ⟨D2, mm2, dc2, rfl, hS_⟩
          refine ⟨_, rfl, ?_⟩
          have hT_ := (S37.out.gr hg74).got hS_
          simp only [n1, n3, n4]
          have S76 : Hid (St w noB [own (.slice D2 mm2 dc2) 3 1 mm2 (ic ((Pl.pP l x).1))] w75) := Lib.hid hT_
          clear S37
          clear hT_ hS_ hg74
          have hlmm2 : Hid (mm2 = ((Pl.pP l x).1).length) := Lib.hid (own_icl (S76.out.ownr 0 rfl))
          refine @wpG_p _ _ _ _ _ (some 51) (.tuple #[.slice D2 mm2 dc2, .int .i64 ((Pl.pP l x).2 : Int)]) _ _ rfl (by rfl) (fun _ => rfl) ?_
          simp only [n1, n3, n4]
          refine @wpG_p _ _ _ _ _ (some 55) (.slice D2 mm2 dc2) _ _ rfl (by rfl) (fun W => by go_simp) ?_
          simp only [n1, n3, n4]
          refine @wpG_p _ _ _ _ _ (some 56) (.int .i64 ((Pl.pP l x).2 : Int)) _ _ rfl (by rfl) (fun W => by go_simp) ?_
          simp only [n1, n3, n4]
          refine @wpG_p _ _ _ _ _ (some 11) (.slice D2 mm2 dc2) _ _ rfl (by rfl) (fun _ => rfl) ?_
          simp only [n1, n3, n4]
          refine @wpG_p _ _ _ _ _ (some 12) (.int .i64 ((Pl.pP l x).2 : Int)) _ _ rfl (by rfl) (fun _ => rfl) ?_
          simp only [n1, n3, n4]
          refine wpG_done (fun V77 hv78 => ?_)
          have S79 : Hid (St w noB [own (.slice D2 mm2 dc2) 3 1 mm2 (ic ((Pl.pP l x).1))] V77) := Lib.hid (S76.out.gr hv78)
          clear S76
          clear hv78
          refine ⟨rfl, hK _ _ ?_⟩
          clear hK
          go_upto_region 9 with fail
          refine wpG_region_k (fun K hK => ?_)
          refine @wpG_p _ _ _ _ _ (some 57) (.int .i64 ((Pl.pP l x).2 : Int)) _ _ rfl (by rfl) (fun _ => rfl) ?_
          simp only [n1, n3, n4]
          refine @wpG_p _ _ _ _ _ (some 58) (.bool (decide (((Pl.pP l x).2 : Int) ≠ 0))) _ _ rfl (by rfl) (fun W => op_int_neq W ((Pl.pP l x).2 : Int) 0 rfl rfl rfl Try.underlying24) ?_
          simp only [n1, n3, n4]
          refine wpG_done (fun V80 hv81 => ?_)
          have S82 : Hid (St w noB [own (.slice D2 mm2 dc2) 3 1 mm2 (ic ((Pl.pP l x).1))] V80) := Lib.hid (S79.out.gr hv81)
          clear S79
          clear hv81
          refine ⟨rfl, hK _ _ ?_⟩
          clear hK
          obtain ⟨c83, hc83⟩ : ∃ q_, q_ = (decide (((Pl.pP l x).2 : Int) ≠ 0)) := ⟨_, rfl⟩
          rw [← hc83]
          have Hc83 := Lib.hid hc83
          clear hc83
          cases c83 with
          | true =>
            have f84 := of_decide_eq_true Hc83.out.symm
            go_upto_region 10 with fail
            refine wpG_region_k (fun K hK => ?_)
            have hue_ : mm2 ≤ 0 := by have h1_ := hlmm2.out; have h2_ := Pl.pP_e (a := l) (x := x) (by omega); rw [h2_] at h1_; simp at h1_; omega
            refine @wpG_tk _ _ _ _ _ (some 59) (.bool true) _ _ rfl (.call (f := 10) (args := #[]) (by rfl) (fun W => by go_simp) (fun W hg => sanity_any W)) ?_
            simp only [n1, n3, n4]
            refine @wpG_p _ _ _ _ _ (some 60) (.bool true) _ _ rfl (by rfl) (fun _ => rfl) ?_
            simp only [n1, n3, n4]
            refine @wpG_p _ _ _ _ _ (some 61) (.slice D2 mm2 dc2) _ _ rfl (by rfl) (fun _ => rfl) ?_
            simp only [n1, n3, n4]
            refine @wpG_p _ _ _ _ _ (some 62) (.int .i64 (mm2 : Int)) _ _ rfl (by rfl) (fun W => by go_simp) ?_
            simp only [n1, n3, n4]
            refine @wpG_p _ _ _ _ _ (some 63) (.bool true) _ _ rfl (by rfl) (fun W => by have hq : ((mm2 : Int) = 0) := (by omega); first | (go_simp; done) | (go_simp <;> omega)) ?_
            simp only [n1, n3, n4]
            refine @wpG_p _ _ _ _ _ (some 64) (.bool true) _ _ rfl (by rfl) (fun W => by go_simp) ?_
            simp only [n1, n3, n4]
            refine @wpG_p _ _ _ _ _ (some 6) (.bool true) _ _ rfl (by rfl) (fun _ => rfl) ?_
            simp only [n1, n3, n4]
            refine wpG_done (fun V85 hv86 => ?_)
            have S87 : Hid (St w noB [own (.slice D2 mm2 dc2) 3 1 mm2 (ic ((Pl.pP l x).1))] V85) := Lib.hid (S82.out.gr hv86)
            clear S82
            clear hv86
            refine ⟨rfl, hK _ _ ?_⟩
            clear hK
            go_wp2_with fail
            go_ret
            refine ⟨?_, S87.out.bel⟩
            show Ending.returned (.bool true) = _
            (first | rfl | (rfl))
          | false =>
            have f88 := Lib.hid (Decidable.not_not.1 (of_decide_eq_false Hc83.out.symm))
            have f88a := Int.le_of_eq f88.out
            have f88b := Int.le_of_eq f88.out.symm
            go_upto_region 11 with fail
            refine wpG_region_k (fun K hK => ?_)
            have hu0_ : (Pl.pP l x).2 = 0 := by have e_f88 := f88.out; omega
            have HU0 := Lib.hid hu0_
            have hmm_ : mm2 ≤ 64 := by have h1_ := hlmm2.out; have h2_ := (Pl.dS_pP hu0_).2.2; omega
            clear hu0_
            refine @wpG_p _ _ _ _ _ (some 66) (.slice A n c) _ _ rfl (by rfl) (fun _ => rfl) ?_
            simp only [n1, n3, n4]
            refine @wpG_p _ _ _ _ _ (some 67) (.slice D2 mm2 dc2) _ _ rfl (by rfl) (fun _ => rfl) ?_
            simp only [n1, n3, n4]
            refine @wpG_tk _ _ _ _ _ (some 68) (.tuple #[.string (bstr x), .int .i64 0]) _ _ rfl (.call (f := 22) (args := #[.slice A n c, .slice D2 mm2 dc2]) (by rfl) (fun W => by go_simp) (fun W hg => ((delta_any _ _ _ l _ _ _ ((Pl.pP l x).1) W (HGA.out.gr (S82.out.gr hg).bel) (SL.ofOwn ((S82.out.gr hg).ownr 0 rfl)) (by omega) (by omega)).mono (fun e w' h => ⟨h.1.trans (by rw [(Pl.dS_pP HU0.out).1, (Pl.dS_pP HU0.out).2.1]), h.2⟩)))) ?_
            simp only [n1, n3, n4]
            refine @wpG_p _ _ _ _ _ (some 65) (.tuple #[.string (bstr x), .int .i64 0]) _ _ rfl (by rfl) (fun _ => rfl) ?_
            simp only [n1, n3, n4]
            refine @wpG_p _ _ _ _ _ (some 69) (.string (bstr x)) _ _ rfl (by rfl) (fun W => by go_simp) ?_
            simp only [n1, n3, n4]
            refine @wpG_p _ _ _ _ _ (some 70) (.int .i64 0) _ _ rfl (by rfl) (fun W => by go_simp) ?_
            simp only [n1, n3, n4]
            refine @wpG_p _ _ _ _ _ (some 13) (.string (bstr x)) _ _ rfl (by rfl) (fun _ => rfl) ?_
            simp only [n1, n3, n4]
            refine @wpG_p _ _ _ _ _ (some 14) (.int .i64 0) _ _ rfl (by rfl) (fun _ => rfl) ?_
            simp only [n1, n3, n4]
            refine wpG_done (fun V89 hv90 => ?_)
            have S91 : Hid (St w noB [own (.slice D2 mm2 dc2) 3 1 mm2 (ic ((Pl.pP l x).1))] V89) := Lib.hid (S82.out.gr hv90)
            clear S82
            clear hv90
            refine ⟨rfl, hK _ _ ?_⟩
            clear hK
            go_upto_region 12 with fail
            refine wpG_region_k (fun K hK => ?_)
            refine @wpG_tk _ _ _ _ _ (some 71) (.bool true) _ _ rfl (.call (f := 10) (args := #[]) (by rfl) (fun W => by go_simp) (fun W hg => sanity_any W)) ?_
            simp only [n1, n3, n4]
            refine @wpG_p _ _ _ _ _ (some 72) (.bool true) _ _ rfl (by rfl) (fun _ => rfl) ?_
            simp only [n1, n3, n4]
            refine @wpG_p _ _ _ _ _ (some 73) (.int .i64 0) _ _ rfl (by rfl) (fun _ => rfl) ?_
            simp only [n1, n3, n4]
            refine @wpG_p _ _ _ _ _ (some 74) (.bool true) _ _ rfl (by rfl) (fun W => by go_simp) ?_
            simp only [n1, n3, n4]
            refine @wpG_p _ _ _ _ _ (some 75) (.bool true) _ _ rfl (by rfl) (fun W => by go_simp) ?_
            simp only [n1, n3, n4]
            refine @wpG_p _ _ _ _ _ (some 76) (.bool true) _ _ rfl (by rfl) (fun _ => rfl) ?_
            simp only [n1, n3, n4]
            refine @wpG_p _ _ _ _ _ (some 77) (.string (bstr x)) _ _ rfl (by rfl) (fun _ => rfl) ?_
            simp only [n1, n3, n4]
            refine @wpG_p _ _ _ _ _ (some 78) (.string (bstr x)) _ _ rfl (by rfl) (fun _ => rfl) ?_
            simp only [n1, n3, n4]
            refine @wpG_p _ _ _ _ _ (some 79) (.bool true) _ _ rfl (by rfl) (fun W => op_str_same W x rfl rfl rfl Try.underlying9) ?_
            simp only [n1, n3, n4]
            refine @wpG_p _ _ _ _ _ (some 80) (.bool true) _ _ rfl (by rfl) (fun W => by go_simp) ?_
            simp only [n1, n3, n4]
            refine @wpG_p _ _ _ _ _ (some 6) (.bool true) _ _ rfl (by rfl) (fun _ => rfl) ?_
            simp only [n1, n3, n4]
            refine wpG_done (fun V92 hv93 => ?_)
            have S94 : Hid (St w noB [own (.slice D2 mm2 dc2) 3 1 mm2 (ic ((Pl.pP l x).1))] V92) := Lib.hid (S91.out.gr hv93)
            clear S91
            clear hv93
            refine ⟨rfl, hK _ _ ?_⟩
            clear hK
            go_wp2_with fail
            go_ret
            refine ⟨?_, S94.out.bel⟩
            show Ending.returned (.bool true) = _
            (first | rfl | (have e_f88 := f88.out; rfl))

end Go.Proofs.Ytfomieekdbkcnaa
