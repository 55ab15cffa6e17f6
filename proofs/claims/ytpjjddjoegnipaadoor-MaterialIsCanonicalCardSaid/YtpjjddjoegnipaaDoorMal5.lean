/-
  MaterialIsCanonical: the walk.
-/
import Derived.Test.YtpjjddjoegnipaaDoorMai
import Derived.Handy
namespace Go.Proofs.YtpjjddjoegnipaaDoor
open Go Go.RowKit
set_option linter.unusedVariables false
set_option linter.unusedSimpArgs false
set_option maxRecDepth 1000000 in
set_option maxHeartbeats 4000000 in
theorem law5 (x : List UInt8) (w : World) (hE : Ev w) :
    Calls Tryd.prog 7 #[.string (bstr x)] w fun e w' => e = .returned (.bool true) ∧ Below w.heap.size w w' := by
  have HE := Lib.hid hE
  have HK := Lib.hid hE.k
  clear hE
  have S1 : Hid (St w noB [] w) := Lib.hid (St.start w)
  go_enter Tryd.func7, Tryd.ntmps7
  go_upto_region 0 with fail
  refine wpG_region_k (fun K hK => ?_)
  refine @wpG_p _ _ _ _ _ (some 2) (.bool false) _ _ rfl (by rfl) (fun _ => rfl) ?_
  simp only [n1, n3, n4]
  refine wpG_done (fun V2 hv3 => ?_)
  have S4 : Hid (St w noB [] V2) := Lib.hid (S1.out.gr hv3)
  clear S1
  clear hv3
  refine ⟨rfl, hK _ _ ?_⟩
  clear hK
  go_upto_region 1 with fail
  refine wpG_region_k (fun K hK => ?_)
  refine @wpG_tk _ _ _ _ _ (some 11) (.bool true) _ _ rfl (.call (f := 9) (args := #[]) (by rfl) (fun W => by go_simp) (fun W hg => sanity_any W (HE.out.st (S4.out.gr hg) noGlob))) ?_
  simp only [n1, n3, n4]
  refine @wpG_p _ _ _ _ _ (some 3) (.bool true) _ _ rfl (by rfl) (fun _ => rfl) ?_
  simp only [n1, n3, n4]
  refine wpG_done (fun V5 hv6 => ?_)
  have S7 : Hid (St w noB [] V5) := Lib.hid (S4.out.gr hv6)
  clear S4
  clear hv6
  refine ⟨rfl, hK _ _ ?_⟩
  clear hK
  go_upto_region 2 with fail
  refine wpG_region_k (fun K hK => ?_)
  refine @wpG_p _ _ _ _ _ (some 12) (.string (bstr x)) _ _ rfl (by rfl) (fun _ => rfl) ?_
  simp only [n1, n3, n4]
  refine @wpG_p _ _ _ _ _ (some 13) (.int .i64 (x.length : Int)) _ _ rfl (by rfl) (fun W => op_str_len W x rfl rfl Tryd.underlying9) ?_
  simp only [n1, n3, n4]
  refine @wpG_p _ _ _ _ _ (some 14) (.bool (decide ((x.length : Int) > 2000))) _ _ rfl (by rfl) (fun W => op_int_gtr W (x.length : Int) 2000 rfl rfl rfl Tryd.underlying3) ?_
  simp only [n1, n3, n4]
  refine wpG_done (fun V8 hv9 => ?_)
  have S10 : Hid (St w noB [] V8) := Lib.hid (S7.out.gr hv9)
  clear S7
  clear hv9
  refine ⟨rfl, hK _ _ ?_⟩
  clear hK
  obtain ⟨c11, hc11⟩ : ∃ q_, q_ = (decide ((x.length : Int) > 2000)) := ⟨_, rfl⟩
  rw [← hc11]
  have Hc11 := Lib.hid hc11
  clear hc11
  cases c11 with
  | true =>
    have f12 := of_decide_eq_true Hc11.out.symm
    go_upto_region 3 with fail
    refine wpG_region_k (fun K hK => ?_)
    refine @wpG_p _ _ _ _ _ (some 15) (.bool true) _ _ rfl (by rfl) (fun _ => rfl) ?_
    simp only [n1, n3, n4]
    refine @wpG_p _ _ _ _ _ (some 2) (.bool true) _ _ rfl (by rfl) (fun _ => rfl) ?_
    simp only [n1, n3, n4]
    refine wpG_done (fun V13 hv14 => ?_)
    have S15 : Hid (St w noB [] V13) := Lib.hid (S10.out.gr hv14)
    clear S10
    clear hv14
    refine ⟨rfl, hK _ _ ?_⟩
    clear hK
    go_wp2_with fail
    go_ret
    refine ⟨?_, S15.out.bel⟩
    show Ending.returned (.bool true) = _
    (first | rfl | (rfl))
  | false =>
    have f16 := of_decide_eq_false Hc11.out.symm
    go_upto_region 4 with fail
    refine wpG_region_k (fun K hK => ?_)
    refine @wpG_p _ _ _ _ _ (some 17) (.string (bstr x)) _ _ rfl (by rfl) (fun _ => rfl) ?_
    simp only [n1, n3, n4]
    refine wpG_call (some 18) 27 #[.string (bstr x)] rfl (by rfl) (fun W => by go_simp) (fun W20 hg21 => ?_)
    refine (parse_any x W20 (by omega) (HE.out.st (S10.out.gr hg21) noGlob)).mono ?_
    rintro e w22 ⟨pA17, pn18, pc19, rfl, hS_⟩
    refine ⟨_, rfl, ?_⟩
    have hT_ := (S10.out.gr hg21).got hS_
    simp only [n1, n3, n4]
    have S23 : Hid (St w noB [own (.slice pA17 pn18 pc19) 35 8 pn18 (mcs (Ma.parse x).1)] w22) := Lib.hid hT_
    clear S10
    clear hT_ hS_ hg21
    refine @wpG_p _ _ _ _ _ (some 16) (.tuple #[.slice pA17 pn18 pc19, .int .i64 ((Ma.parse x).2.1), .int .i64 ((Ma.parse x).2.2)]) _ _ rfl (by rfl) (fun _ => rfl) ?_
    simp only [n1, n3, n4]
    refine @wpG_p _ _ _ _ _ (some 19) (.slice pA17 pn18 pc19) _ _ rfl (by rfl) (fun W => by go_simp) ?_
    simp only [n1, n3, n4]
    refine @wpG_p _ _ _ _ _ (some 20) (.int .i64 ((Ma.parse x).2.1)) _ _ rfl (by rfl) (fun W => by go_simp) ?_
    simp only [n1, n3, n4]
    refine @wpG_p _ _ _ _ _ (some 21) (.int .i64 ((Ma.parse x).2.2)) _ _ rfl (by rfl) (fun W => by go_simp) ?_
    simp only [n1, n3, n4]
    refine @wpG_p _ _ _ _ _ (some 4) (.slice pA17 pn18 pc19) _ _ rfl (by rfl) (fun _ => rfl) ?_
    simp only [n1, n3, n4]
    refine @wpG_p _ _ _ _ _ (some 5) (.int .i64 ((Ma.parse x).2.1)) _ _ rfl (by rfl) (fun _ => rfl) ?_
    simp only [n1, n3, n4]
    refine @wpG_p _ _ _ _ _ (some 6) (.int .i64 ((Ma.parse x).2.2)) _ _ rfl (by rfl) (fun _ => rfl) ?_
    simp only [n1, n3, n4]
    refine wpG_done (fun V24 hv25 => ?_)
    have S26 : Hid (St w noB [own (.slice pA17 pn18 pc19) 35 8 pn18 (mcs (Ma.parse x).1)] V24) := Lib.hid (S23.out.gr hv25)
    clear S23
    clear hv25
    refine ⟨rfl, hK _ _ ?_⟩
    clear hK
    go_upto_region 5 with fail
    refine wpG_region_k (fun K hK => ?_)
    refine @wpG_p _ _ _ _ _ (some 22) (.int .i64 ((Ma.parse x).2.2)) _ _ rfl (by rfl) (fun _ => rfl) ?_
    simp only [n1, n3, n4]
    refine @wpG_p _ _ _ _ _ (some 23) (.bool (decide ((Ma.parse x).2.2 ≠ 0))) _ _ rfl (by rfl) (fun W => op_int_neq W ((Ma.parse x).2.2) 0 rfl rfl rfl Tryd.underlying25) ?_
    simp only [n1, n3, n4]
    refine wpG_done (fun V27 hv28 => ?_)
    have S29 : Hid (St w noB [own (.slice pA17 pn18 pc19) 35 8 pn18 (mcs (Ma.parse x).1)] V27) := Lib.hid (S26.out.gr hv28)
    clear S26
    clear hv28
    refine ⟨rfl, hK _ _ ?_⟩
    clear hK
    obtain ⟨c30, hc30⟩ : ∃ q_, q_ = (decide ((Ma.parse x).2.2 ≠ 0)) := ⟨_, rfl⟩
    rw [← hc30]
    have Hc30 := Lib.hid hc30
    clear hc30
    cases c30 with
    | true =>
      have f31 := of_decide_eq_true Hc30.out.symm
      go_upto_region 6 with fail
      refine wpG_region_k (fun K hK => ?_)
      refine @wpG_p _ _ _ _ _ (some 24) (.bool true) _ _ rfl (by rfl) (fun _ => rfl) ?_
      simp only [n1, n3, n4]
      refine @wpG_p _ _ _ _ _ (some 25) (.bool true) _ _ rfl (by rfl) (fun _ => rfl) ?_
      simp only [n1, n3, n4]
      refine @wpG_p _ _ _ _ _ (some 26) (.slice pA17 pn18 pc19) _ _ rfl (by rfl) (fun _ => rfl) ?_
      simp only [n1, n3, n4]
      refine @wpG_p _ _ _ _ _ (some 27) (.int .i64 (pn18 : Int)) _ _ rfl (by rfl) (fun W => by go_simp) ?_
      simp only [n1, n3, n4]
      have hpn_ : pn18 ≤ 0 := by have h1 := own_mcs (S29.out.ownr 0 rfl); rw [Ma.parse_bad f31] at h1; simp at h1; omega
      refine @wpG_p _ _ _ _ _ (some 28) (.bool true) _ _ rfl (by rfl) (fun W => by have hq : ((pn18 : Int) = 0) := (by omega); first | (go_simp; done) | (go_simp <;> omega)) ?_
      simp only [n1, n3, n4]
      refine @wpG_p _ _ _ _ _ (some 29) (.bool true) _ _ rfl (by rfl) (fun W => by go_simp) ?_
      simp only [n1, n3, n4]
      refine @wpG_p _ _ _ _ _ (some 2) (.bool true) _ _ rfl (by rfl) (fun _ => rfl) ?_
      simp only [n1, n3, n4]
      refine wpG_done (fun V32 hv33 => ?_)
      have S34 : Hid (St w noB [own (.slice pA17 pn18 pc19) 35 8 pn18 (mcs (Ma.parse x).1)] V32) := Lib.hid (S29.out.gr hv33)
      clear S29
      clear hv33
      refine ⟨rfl, hK _ _ ?_⟩
      clear hK
      go_wp2_with fail
      go_ret
      refine ⟨?_, S34.out.bel⟩
      show Ending.returned (.bool true) = _
      (first | rfl | (rfl))
    | false =>
      have f35 := Lib.hid (Decidable.not_not.1 (of_decide_eq_false Hc30.out.symm))
      have f35a := Int.le_of_eq f35.out
      have f35b := Int.le_of_eq f35.out.symm
      go_upto_region 7 with fail
      refine wpG_region_k (fun K hK => ?_)
      refine @wpG_p _ _ _ _ _ (some 31) (.slice pA17 pn18 pc19) _ _ rfl (by rfl) (fun _ => rfl) ?_
      simp only [n1, n3, n4]
      refine @wpG_tk _ _ _ _ _ (some 32) (.tuple #[.int .i64 ((Ma.check ((Ma.parse x).1)).1), .int .i64 0]) _ _ rfl (.call (f := 11) (args := #[.slice pA17 pn18 pc19]) (by rfl) (fun W => by go_simp) (fun W hg => ((check_any _ _ _ ((Ma.parse x).1) W (Tbl.ofOwn ((S29.out.gr hg).ownr 0 rfl)) (HK.out.gr (S29.out.gr hg).bel)).mono (fun e w' h => ⟨h.1.trans (by have e_f35 := f35.out; rw [(Ma.canon e_f35).1]), h.2⟩)))) ?_
      simp only [n1, n3, n4]
      refine @wpG_p _ _ _ _ _ (some 30) (.tuple #[.int .i64 ((Ma.check ((Ma.parse x).1)).1), .int .i64 0]) _ _ rfl (by rfl) (fun _ => rfl) ?_
      simp only [n1, n3, n4]
      refine @wpG_p _ _ _ _ _ (some 33) (.int .i64 ((Ma.check ((Ma.parse x).1)).1)) _ _ rfl (by rfl) (fun W => by go_simp) ?_
      simp only [n1, n3, n4]
      refine @wpG_p _ _ _ _ _ (some 34) (.int .i64 0) _ _ rfl (by rfl) (fun W => by go_simp) ?_
      simp only [n1, n3, n4]
      refine @wpG_p _ _ _ _ _ (some 7) (.int .i64 ((Ma.check ((Ma.parse x).1)).1)) _ _ rfl (by rfl) (fun _ => rfl) ?_
      simp only [n1, n3, n4]
      refine @wpG_p _ _ _ _ _ (some 8) (.int .i64 0) _ _ rfl (by rfl) (fun _ => rfl) ?_
      simp only [n1, n3, n4]
      refine wpG_done (fun V36 hv37 => ?_)
      have S38 : Hid (St w noB [own (.slice pA17 pn18 pc19) 35 8 pn18 (mcs (Ma.parse x).1)] V36) := Lib.hid (S29.out.gr hv37)
      clear S29
      clear hv37
      refine ⟨rfl, hK _ _ ?_⟩
      clear hK
      go_upto_region 8 with fail
      refine wpG_region_k (fun K hK => ?_)
      refine @wpG_p _ _ _ _ _ (some 36) (.slice pA17 pn18 pc19) _ _ rfl (by rfl) (fun _ => rfl) ?_
      simp only [n1, n3, n4]
      refine @wpG_tk _ _ _ _ _ (some 37) (.tuple #[.string (bstr x), .int .i64 0]) _ _ rfl (.call (f := 13) (args := #[.slice pA17 pn18 pc19]) (by rfl) (fun W => by go_simp) (fun W hg => ((print_any _ _ _ ((Ma.parse x).1) W (Tbl.ofOwn ((S38.out.gr hg).ownr 0 rfl)) (HK.out.gr (S38.out.gr hg).bel)).mono (fun e w' h => ⟨h.1.trans (by have e_f35 := f35.out; rw [(Ma.canon e_f35).2]), h.2⟩)))) ?_
      simp only [n1, n3, n4]
      refine @wpG_p _ _ _ _ _ (some 35) (.tuple #[.string (bstr x), .int .i64 0]) _ _ rfl (by rfl) (fun _ => rfl) ?_
      simp only [n1, n3, n4]
      refine @wpG_p _ _ _ _ _ (some 38) (.string (bstr x)) _ _ rfl (by rfl) (fun W => by go_simp) ?_
      simp only [n1, n3, n4]
      refine @wpG_p _ _ _ _ _ (some 39) (.int .i64 0) _ _ rfl (by rfl) (fun W => by go_simp) ?_
      simp only [n1, n3, n4]
      refine @wpG_p _ _ _ _ _ (some 9) (.string (bstr x)) _ _ rfl (by rfl) (fun _ => rfl) ?_
      simp only [n1, n3, n4]
      refine @wpG_p _ _ _ _ _ (some 10) (.int .i64 0) _ _ rfl (by rfl) (fun _ => rfl) ?_
      simp only [n1, n3, n4]
      refine wpG_done (fun V39 hv40 => ?_)
      have S41 : Hid (St w noB [own (.slice pA17 pn18 pc19) 35 8 pn18 (mcs (Ma.parse x).1)] V39) := Lib.hid (S38.out.gr hv40)
      clear S38
      clear hv40
      refine ⟨rfl, hK _ _ ?_⟩
      clear hK
      go_upto_region 9 with fail
      refine wpG_region_k (fun K hK => ?_)
      refine @wpG_p _ _ _ _ _ (some 40) (.bool true) _ _ rfl (by rfl) (fun _ => rfl) ?_
      simp only [n1, n3, n4]
      refine @wpG_p _ _ _ _ _ (some 41) (.bool true) _ _ rfl (by rfl) (fun _ => rfl) ?_
      simp only [n1, n3, n4]
      refine @wpG_p _ _ _ _ _ (some 42) (.int .i64 0) _ _ rfl (by rfl) (fun _ => rfl) ?_
      simp only [n1, n3, n4]
      refine @wpG_p _ _ _ _ _ (some 43) (.bool true) _ _ rfl (by rfl) (fun W => by go_simp) ?_
      simp only [n1, n3, n4]
      refine @wpG_p _ _ _ _ _ (some 44) (.bool true) _ _ rfl (by rfl) (fun W => by go_simp) ?_
      simp only [n1, n3, n4]
      refine @wpG_p _ _ _ _ _ (some 45) (.bool true) _ _ rfl (by rfl) (fun _ => rfl) ?_
      simp only [n1, n3, n4]
      refine @wpG_p _ _ _ _ _ (some 46) (.int .i64 0) _ _ rfl (by rfl) (fun _ => rfl) ?_
      simp only [n1, n3, n4]
      refine @wpG_p _ _ _ _ _ (some 47) (.bool true) _ _ rfl (by rfl) (fun W => by go_simp) ?_
      simp only [n1, n3, n4]
      refine @wpG_p _ _ _ _ _ (some 48) (.bool true) _ _ rfl (by rfl) (fun W => by go_simp) ?_
      simp only [n1, n3, n4]
      refine @wpG_p _ _ _ _ _ (some 49) (.bool true) _ _ rfl (by rfl) (fun _ => rfl) ?_
      simp only [n1, n3, n4]
      refine @wpG_p _ _ _ _ _ (some 50) (.string (bstr x)) _ _ rfl (by rfl) (fun _ => rfl) ?_
      simp only [n1, n3, n4]
      refine @wpG_p _ _ _ _ _ (some 51) (.string (bstr x)) _ _ rfl (by rfl) (fun _ => rfl) ?_
      simp only [n1, n3, n4]
      refine @wpG_p _ _ _ _ _ (some 52) (.bool true) _ _ rfl (by rfl) (fun W => op_str_same W x rfl rfl rfl Tryd.underlying9) ?_
      simp only [n1, n3, n4]
      refine @wpG_p _ _ _ _ _ (some 53) (.bool true) _ _ rfl (by rfl) (fun W => by go_simp) ?_
      simp only [n1, n3, n4]
      refine @wpG_p _ _ _ _ _ (some 2) (.bool true) _ _ rfl (by rfl) (fun _ => rfl) ?_
      simp only [n1, n3, n4]
      refine wpG_done (fun V42 hv43 => ?_)
      have S44 : Hid (St w noB [own (.slice pA17 pn18 pc19) 35 8 pn18 (mcs (Ma.parse x).1)] V42) := Lib.hid (S41.out.gr hv43)
      clear S41
      clear hv43
      refine ⟨rfl, hK _ _ ?_⟩
      clear hK
      go_wp2_with fail
      go_ret
      refine ⟨?_, S44.out.bel⟩
      show Ending.returned (.bool true) = _
      (first | rfl | (have e_f35 := f35.out; rfl))

end Go.Proofs.YtpjjddjoegnipaaDoor
