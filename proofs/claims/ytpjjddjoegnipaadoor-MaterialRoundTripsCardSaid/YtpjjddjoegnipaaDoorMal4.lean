/-
  MaterialRoundTrips: the walk.
-/
import Derived.Test.YtpjjddjoegnipaaDoorMai
import Derived.Handy
namespace Go.Proofs.YtpjjddjoegnipaaDoor
open Go Go.RowKit
set_option linter.unusedVariables false
set_option linter.unusedSimpArgs false
set_option maxRecDepth 1000000 in
set_option maxHeartbeats 4000000 in
theorem law4 (A : Option Addr) (n c : Nat) (ms : List Ma.Mt) (w : World) (hT : Tbl w A n c ms) (hE : Ev w) :
    Calls Tryd.prog 6 #[.slice A n c] w fun e w' => e = .returned (.bool true) ∧ Below w.heap.size w w' := by
  have HTA := Lib.hid hT
  have HLEN := Lib.hid hT.len
  have hnb : n ≤ 9223372036854775807 := Nat.le_trans hT.cap hT.bnd
  clear hT
  have HE := Lib.hid hE
  have HK := Lib.hid hE.k
  clear hE
  have S1 : Hid (St w noB [] w) := Lib.hid (St.start w)
  go_enter Tryd.func6, Tryd.ntmps6
  go_upto_region 0 with fail
  refine wpG_region_k (fun K hK => ?_)
  refine @wpG_p _ _ _ _ _ (some 2) (.bool false) _ _ rfl (by rfl) (fun _ => rfl) ?_
  simp only [n1, n3, n4]
  refine wpG_done (fun V2 hv3 => ?_)
  have S4 : Hid (St w noB [] V2) := Lib.hid (S1.out.gr hv3)
  clear S1
  clear hv3
  refine ⟨rfl, hK _ _ ?_⟩
  clear hK
  go_upto_region 1 with fail
  refine wpG_region_k (fun K hK => ?_)
  refine @wpG_tk _ _ _ _ _ (some 12) (.bool true) _ _ rfl (.call (f := 9) (args := #[]) (by rfl) (fun W => by go_simp) (fun W hg => sanity_any W (HE.out.st (S4.out.gr hg) noGlob))) ?_
  simp only [n1, n3, n4]
  refine @wpG_p _ _ _ _ _ (some 3) (.bool true) _ _ rfl (by rfl) (fun _ => rfl) ?_
  simp only [n1, n3, n4]
  refine wpG_done (fun V5 hv6 => ?_)
  have S7 : Hid (St w noB [] V5) := Lib.hid (S4.out.gr hv6)
  clear S4
  clear hv6
  refine ⟨rfl, hK _ _ ?_⟩
  clear hK
  go_upto_region 2 with fail
  refine wpG_region_k (fun K hK => ?_)
  refine @wpG_p _ _ _ _ _ (some 13) (.slice A n c) _ _ rfl (by rfl) (fun _ => rfl) ?_
  simp only [n1, n3, n4]
  refine @wpG_tk _ _ _ _ _ (some 14) (.bool (Ma.few ms)) _ _ rfl (.call (f := 10) (args := #[.slice A n c]) (by rfl) (fun W => by go_simp) (fun W hg => few_any _ _ _ ms W (HTA.out.gr (S7.out.gr hg).bel))) ?_
  simp only [n1, n3, n4]
  refine @wpG_p _ _ _ _ _ (some 15) (.bool (!(Ma.few ms))) _ _ rfl (by rfl) (fun W => by go_simp) ?_
  simp only [n1, n3, n4]
  refine wpG_done (fun V8 hv9 => ?_)
  have S10 : Hid (St w noB [] V8) := Lib.hid (S7.out.gr hv9)
  clear S7
  clear hv9
  refine ⟨rfl, hK _ _ ?_⟩
  clear hK
  obtain ⟨c11, hc11⟩ : ∃ q_, q_ = (!(Ma.few ms)) := ⟨_, rfl⟩
  rw [← hc11]
  have Hc11 := Lib.hid hc11
  clear hc11
  cases c11 with
  | true =>
    have f12 := Lib.hid ((bnt Hc11.out))
    go_upto_region 3 with fail
    refine wpG_region_k (fun K hK => ?_)
    refine @wpG_p _ _ _ _ _ (some 16) (.bool true) _ _ rfl (by rfl) (fun _ => rfl) ?_
    simp only [n1, n3, n4]
    refine @wpG_p _ _ _ _ _ (some 2) (.bool true) _ _ rfl (by rfl) (fun _ => rfl) ?_
    simp only [n1, n3, n4]
    refine wpG_done (fun V13 hv14 => ?_)
    have S15 : Hid (St w noB [] V13) := Lib.hid (S10.out.gr hv14)
    clear S10
    clear hv14
    refine ⟨rfl, hK _ _ ?_⟩
    clear hK
    go_wp2_with fail
    go_ret
    refine ⟨?_, S15.out.bel⟩
    show Ending.returned (.bool true) = _
    (first | rfl | (have e_f12 := f12.out; rfl))
  | false =>
    have f16 := Lib.hid ((bnf Hc11.out))
    go_upto_region 4 with fail
    refine wpG_region_k (fun K hK => ?_)
    refine @wpG_p _ _ _ _ _ (some 18) (.slice A n c) _ _ rfl (by rfl) (fun _ => rfl) ?_
    simp only [n1, n3, n4]
    refine @wpG_tk _ _ _ _ _ (some 19) (.tuple #[.int .i64 ((Ma.check ms).1), .int .i64 ((Ma.check ms).2)]) _ _ rfl (.call (f := 11) (args := #[.slice A n c]) (by rfl) (fun W => by go_simp) (fun W hg => check_any _ _ _ ms W (HTA.out.gr (S10.out.gr hg).bel) (HK.out.gr (S10.out.gr hg).bel))) ?_
    simp only [n1, n3, n4]
    refine @wpG_p _ _ _ _ _ (some 17) (.tuple #[.int .i64 ((Ma.check ms).1), .int .i64 ((Ma.check ms).2)]) _ _ rfl (by rfl) (fun _ => rfl) ?_
    simp only [n1, n3, n4]
    refine @wpG_p _ _ _ _ _ (some 20) (.int .i64 ((Ma.check ms).1)) _ _ rfl (by rfl) (fun W => by go_simp) ?_
    simp only [n1, n3, n4]
    refine @wpG_p _ _ _ _ _ (some 21) (.int .i64 ((Ma.check ms).2)) _ _ rfl (by rfl) (fun W => by go_simp) ?_
    simp only [n1, n3, n4]
    refine @wpG_p _ _ _ _ _ (some 4) (.int .i64 ((Ma.check ms).1)) _ _ rfl (by rfl) (fun _ => rfl) ?_
    simp only [n1, n3, n4]
    refine @wpG_p _ _ _ _ _ (some 5) (.int .i64 ((Ma.check ms).2)) _ _ rfl (by rfl) (fun _ => rfl) ?_
    simp only [n1, n3, n4]
    refine wpG_done (fun V17 hv18 => ?_)
    have S19 : Hid (St w noB [] V17) := Lib.hid (S10.out.gr hv18)
    clear S10
    clear hv18
    refine ⟨rfl, hK _ _ ?_⟩
    clear hK
    go_upto_region 5 with fail
    refine wpG_region_k (fun K hK => ?_)
    refine @wpG_p _ _ _ _ _ (some 23) (.slice A n c) _ _ rfl (by rfl) (fun _ => rfl) ?_
    simp only [n1, n3, n4]
    refine @wpG_tk _ _ _ _ _ (some 24) (.tuple #[.string (bstr ((Ma.print ms).1)), .int .i64 ((Ma.check ms).2)]) _ _ rfl (.call (f := 13) (args := #[.slice A n c]) (by rfl) (fun W => by go_simp) (fun W hg => ((print_any _ _ _ ms W (HTA.out.gr (S19.out.gr hg).bel) (HK.out.gr (S19.out.gr hg).bel)).mono (fun e w' h => ⟨h.1.trans (by rw [Ma.print_e]), h.2⟩)))) ?_
    simp only [n1, n3, n4]
    refine @wpG_p _ _ _ _ _ (some 22) (.tuple #[.string (bstr ((Ma.print ms).1)), .int .i64 ((Ma.check ms).2)]) _ _ rfl (by rfl) (fun _ => rfl) ?_
    simp only [n1, n3, n4]
    refine @wpG_p _ _ _ _ _ (some 25) (.string (bstr ((Ma.print ms).1))) _ _ rfl (by rfl) (fun W => by go_simp) ?_
    simp only [n1, n3, n4]
    refine @wpG_p _ _ _ _ _ (some 26) (.int .i64 ((Ma.check ms).2)) _ _ rfl (by rfl) (fun W => by go_simp) ?_
    simp only [n1, n3, n4]
    refine @wpG_p _ _ _ _ _ (some 6) (.string (bstr ((Ma.print ms).1))) _ _ rfl (by rfl) (fun _ => rfl) ?_
    simp only [n1, n3, n4]
    refine @wpG_p _ _ _ _ _ (some 7) (.int .i64 ((Ma.check ms).2)) _ _ rfl (by rfl) (fun _ => rfl) ?_
    simp only [n1, n3, n4]
    refine wpG_done (fun V20 hv21 => ?_)
    have S22 : Hid (St w noB [] V20) := Lib.hid (S19.out.gr hv21)
    clear S19
    clear hv21
    refine ⟨rfl, hK _ _ ?_⟩
    clear hK
    go_upto_region 6 with fail
    refine wpG_region_k (fun K hK => ?_)
    refine @wpG_p _ _ _ _ _ (some 27) (.int .i64 ((Ma.check ms).2)) _ _ rfl (by rfl) (fun _ => rfl) ?_
    simp only [n1, n3, n4]
    refine @wpG_p _ _ _ _ _ (some 28) (.int .i64 ((Ma.check ms).2)) _ _ rfl (by rfl) (fun _ => rfl) ?_
    simp only [n1, n3, n4]
    refine @wpG_p _ _ _ _ _ (some 29) (.bool false) _ _ rfl (by rfl) (fun W => by go_simp) ?_
    simp only [n1, n3, n4]
    refine wpG_done (fun V23 hv24 => ?_)
    have S25 : Hid (St w noB [] V23) := Lib.hid (S22.out.gr hv24)
    clear S22
    clear hv24
    refine ⟨rfl, hK _ _ ?_⟩
    clear hK
    go_upto_region 8 with fail
    refine wpG_region_k (fun K hK => ?_)
    refine @wpG_p _ _ _ _ _ (some 30) (.int .i64 ((Ma.check ms).2)) _ _ rfl (by rfl) (fun _ => rfl) ?_
    simp only [n1, n3, n4]
    refine @wpG_p _ _ _ _ _ (some 31) (.bool (decide ((Ma.check ms).2 ≠ 0))) _ _ rfl (by rfl) (fun W => op_int_neq W ((Ma.check ms).2) 0 rfl rfl rfl Tryd.underlying25) ?_
    simp only [n1, n3, n4]
    refine wpG_done (fun V26 hv27 => ?_)
    have S28 : Hid (St w noB [] V26) := Lib.hid (S25.out.gr hv27)
    clear S25
    clear hv27
    refine ⟨rfl, hK _ _ ?_⟩
    clear hK
    obtain ⟨c29, hc29⟩ : ∃ q_, q_ = (decide ((Ma.check ms).2 ≠ 0)) := ⟨_, rfl⟩
    rw [← hc29]
    have Hc29 := Lib.hid hc29
    clear hc29
    cases c29 with
    | true =>
      have f30 := of_decide_eq_true Hc29.out.symm
      go_upto_region 9 with fail
      refine wpG_region_k (fun K hK => ?_)
      refine @wpG_p _ _ _ _ _ (some 32) (.bool true) _ _ rfl (by rfl) (fun _ => rfl) ?_
      simp only [n1, n3, n4]
      refine @wpG_p _ _ _ _ _ (some 33) (.bool true) _ _ rfl (by rfl) (fun _ => rfl) ?_
      simp only [n1, n3, n4]
      refine @wpG_p _ _ _ _ _ (some 34) (.string (bstr ((Ma.print ms).1))) _ _ rfl (by rfl) (fun _ => rfl) ?_
      simp only [n1, n3, n4]
      refine @wpG_p _ _ _ _ _ (some 35) (.bool (decide ((Ma.print ms).1 = []))) _ _ rfl (by rfl) (fun W => op_str_eql W ((Ma.print ms).1) [] rfl rfl rfl Tryd.underlying9) ?_
      simp only [n1, n3, n4]
      refine @wpG_p _ _ _ _ _ (some 36) (.bool (decide ((Ma.print ms).1 = []))) _ _ rfl (by rfl) (fun W => by go_simp) ?_
      simp only [n1, n3, n4]
      refine @wpG_p _ _ _ _ _ (some 2) (.bool (decide ((Ma.print ms).1 = []))) _ _ rfl (by rfl) (fun _ => rfl) ?_
      simp only [n1, n3, n4]
      refine wpG_done (fun V31 hv32 => ?_)
      have S33 : Hid (St w noB [] V31) := Lib.hid (S28.out.gr hv32)
      clear S28
      clear hv32
      refine ⟨rfl, hK _ _ ?_⟩
      clear hK
      go_wp2_with fail
      go_ret
      obtain ⟨c34, hc34⟩ : ∃ q_, q_ = (decide ((Ma.print ms).1 = [])) := ⟨_, rfl⟩
      rw [← hc34]
      have Hc34 := Lib.hid hc34
      clear hc34
      cases c34 with
      | true =>
        have f35 := Lib.hid (of_decide_eq_true Hc34.out.symm)
        refine ⟨?_, S33.out.bel⟩
        show Ending.returned (.bool true) = _
        (first | rfl | (have e_f16 := f16.out; have e_f35 := f35.out; rfl))
      | false =>
        have f36 := of_decide_eq_false Hc34.out.symm
        refine ⟨?_, S33.out.bel⟩
        show Ending.returned (.bool false) = _
        (first | rfl | (have e_f16 := f16.out; exact absurd (Ma.print_no f30) f36))
    | false =>
      have f37 := Lib.hid (Decidable.not_not.1 (of_decide_eq_false Hc29.out.symm))
      have f37a := Int.le_of_eq f37.out
      have f37b := Int.le_of_eq f37.out.symm
      go_upto_region 10 with fail
      refine wpG_region_k (fun K hK => ?_)
      refine @wpG_p _ _ _ _ _ (some 38) (.string (bstr ((Ma.print ms).1))) _ _ rfl (by rfl) (fun _ => rfl) ?_
      simp only [n1, n3, n4]
      refine wpG_call (some 39) 27 #[.string (bstr ((Ma.print ms).1))] rfl (by rfl) (fun W => by go_simp) (fun W41 hg42 => ?_)
      refine (parse_v ((Ma.print ms).1) ms 0 0 W41 (by have e_f16 := f16.out; have e_f37 := f37.out; exact Ma.round_trip e_f37) (by exact Nat.le_trans (Ma.print_le ms) (by decide)) (HE.out.st (S28.out.gr hg42) noGlob)).mono ?_
      rintro e w43 ⟨pA38, pn39, pc40, rfl, hS_⟩
      refine ⟨_, rfl, ?_⟩
      have hT_ := (S28.out.gr hg42).got hS_
      simp only [n1, n3, n4]
      have S44 : Hid (St w noB [own (.slice pA38 pn39 pc40) 35 8 pn39 (mcs ms)] w43) := Lib.hid hT_
      clear S28
      clear hT_ hS_ hg42
      refine @wpG_p _ _ _ _ _ (some 37) (.tuple #[.slice pA38 pn39 pc40, .int .i64 0, .int .i64 0]) _ _ rfl (by rfl) (fun _ => rfl) ?_
      simp only [n1, n3, n4]
      refine @wpG_p _ _ _ _ _ (some 40) (.slice pA38 pn39 pc40) _ _ rfl (by rfl) (fun W => by go_simp) ?_
      simp only [n1, n3, n4]
      refine @wpG_p _ _ _ _ _ (some 41) (.int .i64 0) _ _ rfl (by rfl) (fun W => by go_simp) ?_
      simp only [n1, n3, n4]
      refine @wpG_p _ _ _ _ _ (some 42) (.int .i64 0) _ _ rfl (by rfl) (fun W => by go_simp) ?_
      simp only [n1, n3, n4]
      refine @wpG_p _ _ _ _ _ (some 8) (.slice pA38 pn39 pc40) _ _ rfl (by rfl) (fun _ => rfl) ?_
      simp only [n1, n3, n4]
      refine @wpG_p _ _ _ _ _ (some 9) (.int .i64 0) _ _ rfl (by rfl) (fun _ => rfl) ?_
      simp only [n1, n3, n4]
      refine @wpG_p _ _ _ _ _ (some 10) (.int .i64 0) _ _ rfl (by rfl) (fun _ => rfl) ?_
      simp only [n1, n3, n4]
      refine wpG_done (fun V45 hv46 => ?_)
      have S47 : Hid (St w noB [own (.slice pA38 pn39 pc40) 35 8 pn39 (mcs ms)] V45) := Lib.hid (S44.out.gr hv46)
      clear S44
      clear hv46
      refine ⟨rfl, hK _ _ ?_⟩
      clear hK
      go_upto_region 11 with fail
      refine wpG_region_k (fun K hK => ?_)
      refine @wpG_p _ _ _ _ _ (some 43) (.slice A n c) _ _ rfl (by rfl) (fun _ => rfl) ?_
      simp only [n1, n3, n4]
      refine @wpG_p _ _ _ _ _ (some 44) (.slice pA38 pn39 pc40) _ _ rfl (by rfl) (fun _ => rfl) ?_
      simp only [n1, n3, n4]
      refine @wpG_tk _ _ _ _ _ (some 45) (.bool true) _ _ rfl (.call (f := 16) (args := #[.slice A n c, .slice pA38 pn39 pc40]) (by rfl) (fun W => by go_simp) (fun W hg => ((rsame_any _ _ _ ms _ _ _ ms W (HTA.out.gr (S47.out.gr hg).bel) (Tbl.ofOwn ((S47.out.gr hg).ownr 0 rfl))).mono (fun e w' h => ⟨h.1.trans (by rw [Ma.same_self]), h.2⟩)))) ?_
      simp only [n1, n3, n4]
      refine @wpG_p _ _ _ _ _ (some 11) (.bool true) _ _ rfl (by rfl) (fun _ => rfl) ?_
      simp only [n1, n3, n4]
      refine wpG_done (fun V48 hv49 => ?_)
      have S50 : Hid (St w noB [own (.slice pA38 pn39 pc40) 35 8 pn39 (mcs ms)] V48) := Lib.hid (S47.out.gr hv49)
      clear S47
      clear hv49
      refine ⟨rfl, hK _ _ ?_⟩
      clear hK
      go_upto_region 12 with fail
      refine wpG_region_k (fun K hK => ?_)
      refine @wpG_p _ _ _ _ _ (some 46) (.bool true) _ _ rfl (by rfl) (fun _ => rfl) ?_
      simp only [n1, n3, n4]
      refine @wpG_p _ _ _ _ _ (some 47) (.bool true) _ _ rfl (by rfl) (fun _ => rfl) ?_
      simp only [n1, n3, n4]
      refine @wpG_p _ _ _ _ _ (some 48) (.bool true) _ _ rfl (by rfl) (fun _ => rfl) ?_
      simp only [n1, n3, n4]
      refine @wpG_p _ _ _ _ _ (some 49) (.bool true) _ _ rfl (by rfl) (fun W => by go_simp) ?_
      simp only [n1, n3, n4]
      refine @wpG_p _ _ _ _ _ (some 50) (.bool true) _ _ rfl (by rfl) (fun _ => rfl) ?_
      simp only [n1, n3, n4]
      refine @wpG_p _ _ _ _ _ (some 51) (.int .i64 0) _ _ rfl (by rfl) (fun _ => rfl) ?_
      simp only [n1, n3, n4]
      refine @wpG_p _ _ _ _ _ (some 52) (.bool true) _ _ rfl (by rfl) (fun W => by go_simp) ?_
      simp only [n1, n3, n4]
      refine @wpG_p _ _ _ _ _ (some 53) (.bool true) _ _ rfl (by rfl) (fun W => by go_simp) ?_
      simp only [n1, n3, n4]
      refine @wpG_p _ _ _ _ _ (some 54) (.bool true) _ _ rfl (by rfl) (fun _ => rfl) ?_
      simp only [n1, n3, n4]
      refine @wpG_p _ _ _ _ _ (some 55) (.int .i64 0) _ _ rfl (by rfl) (fun _ => rfl) ?_
      simp only [n1, n3, n4]
      refine @wpG_p _ _ _ _ _ (some 56) (.bool true) _ _ rfl (by rfl) (fun W => by go_simp) ?_
      simp only [n1, n3, n4]
      refine @wpG_p _ _ _ _ _ (some 57) (.bool true) _ _ rfl (by rfl) (fun W => by go_simp) ?_
      simp only [n1, n3, n4]
      refine @wpG_p _ _ _ _ _ (some 2) (.bool true) _ _ rfl (by rfl) (fun _ => rfl) ?_
      simp only [n1, n3, n4]
      refine wpG_done (fun V51 hv52 => ?_)
      have S53 : Hid (St w noB [own (.slice pA38 pn39 pc40) 35 8 pn39 (mcs ms)] V51) := Lib.hid (S50.out.gr hv52)
      clear S50
      clear hv52
      refine ⟨rfl, hK _ _ ?_⟩
      clear hK
      go_wp2_with fail
      go_ret
      refine ⟨?_, S53.out.bel⟩
      show Ending.returned (.bool true) = _
      (first | rfl | (have e_f16 := f16.out; have e_f37 := f37.out; rfl))

end Go.Proofs.YtpjjddjoegnipaaDoor
