/-
  PaletteDeltasMatchSpec: the walk.
-/
import Derived.Test.YtfomieekdbkcnaaPm1
import Derived.Test.YtfomieekdbkcnaaPk29
import Derived.Handy
namespace Go.Proofs.Ytfomieekdbkcnaa
open Go Go.RowKit
set_option linter.unusedVariables false
set_option linter.unusedSimpArgs false
set_option maxRecDepth 1000000 in
set_option maxHeartbeats 4000000 in
theorem law_pw3 (A : Option Addr) (n c : Nat) (l : List Int) (A2 : Option Addr) (m2 c2 : Nat) (l2 : List Int) (x : List UInt8) (w : World) (hG : SL w 1 A n c (ic l)) (hG2 : SL w 1 A2 m2 c2 (ic l2)) :
    Calls Try.prog 5 #[.slice A n c, .slice A2 m2 c2, .string (bstr x)] w fun e w' => e = .returned (.bool true) ∧ Below w.heap.size w w' := by
  have HGA := Lib.hid hG
  have HLEN : Hid (l.length = n) := Lib.hid (by have h_ := hG.len; rw [ic_len] at h_; omega)
  have hnbHGA : n ≤ 9223372036854775807 := Nat.le_trans hG.cap hG.bnd
  clear hG
  have HGB := Lib.hid hG2
  have HLEN2 : Hid (l2.length = m2) := Lib.hid (by have h_ := hG2.len; rw [ic_len] at h_; omega)
  have hnbHGB : m2 ≤ 9223372036854775807 := Nat.le_trans hG2.cap hG2.bnd
  clear hG2
  have S1 : Hid (St w noB [] w) := Lib.hid (St.start w)
  go_enter Try.func5, Try.ntmps5
  go_upto_region 0 with fail
  refine wpG_region_k (fun K hK => ?_)
  refine @wpG_p _ _ _ _ _ (some 6) (.bool false) _ _ rfl (by rfl) (fun _ => rfl) ?_
  simp only [n1, n3, n4]
  refine wpG_done (fun V2 hv3 => ?_)
  have S4 : Hid (St w noB [] V2) := Lib.hid (S1.out.gr hv3)
  clear S1
  clear hv3
  refine ⟨rfl, hK _ _ ?_⟩
  clear hK
  go_upto_region 1 with fail
  refine wpG_region_k (fun K hK => ?_)
  refine @wpG_p _ _ _ _ _ (some 15) (.slice A n c) _ _ rfl (by rfl) (fun _ => rfl) ?_
  simp only [n1, n3, n4]
  refine @wpG_p _ _ _ _ _ (some 16) (.int .i64 (n : Int)) _ _ rfl (by rfl) (fun W => by go_simp) ?_
  simp only [n1, n3, n4]
  refine @wpG_p _ _ _ _ _ (some 17) (.bool (decide ((n : Int) > 100))) _ _ rfl (by rfl) (fun W => op_int_gtr W (n : Int) 100 rfl rfl rfl Try.underlying3) ?_
  simp only [n1, n3, n4]
  refine @wpG_p _ _ _ _ _ (some 18) (.bool (decide ((n : Int) > 100))) _ _ rfl (by rfl) (fun _ => rfl) ?_
  simp only [n1, n3, n4]
  obtain ⟨c5, hc5⟩ : ∃ q_, q_ = (decide ((n : Int) > 100)) := ⟨_, rfl⟩
  rw [← hc5]
  have Hc5 := Lib.hid hc5
  clear hc5
  cases c5 with
  | true =>
    have f6 := of_decide_eq_true Hc5.out.symm
    refine @wpG_no _ _ _ _ _ (some 19) _ _ rfl (by rfl) ?_
    simp only [n1, n3, n4]
    refine @wpG_no _ _ _ _ _ (some 20) _ _ rfl (by rfl) ?_
    simp only [n1, n3, n4]
    refine @wpG_no _ _ _ _ _ (some 21) _ _ rfl (by rfl) ?_
    simp only [n1, n3, n4]
    refine @wpG_p _ _ _ _ _ (some 22) (.bool true) _ _ rfl (by rfl) (fun W => by go_simp) ?_
    simp only [n1, n3, n4]
    refine @wpG_p _ _ _ _ _ (some 23) (.bool true) _ _ rfl (by rfl) (fun _ => rfl) ?_
    simp only [n1, n3, n4]
    refine @wpG_no _ _ _ _ _ (some 24) _ _ rfl (by rfl) ?_
    simp only [n1, n3, n4]
    refine @wpG_no _ _ _ _ _ (some 25) _ _ rfl (by rfl) ?_
    simp only [n1, n3, n4]
    refine @wpG_no _ _ _ _ _ (some 26) _ _ rfl (by rfl) ?_
    simp only [n1, n3, n4]
    refine @wpG_p _ _ _ _ _ (some 27) (.bool true) _ _ rfl (by rfl) (fun W => by go_simp) ?_
    simp only [n1, n3, n4]
    refine wpG_done (fun V7 hv8 => ?_)
    have S9 : Hid (St w noB [] V7) := Lib.hid (S4.out.gr hv8)
    clear S4
    clear hv8
    refine ⟨rfl, hK _ _ ?_⟩
    clear hK
    go_upto_region 2 with fail
    refine wpG_region_k (fun K hK => ?_)
    refine @wpG_tk _ _ _ _ _ (some 28) (.bool true) _ _ rfl (.call (f := 10) (args := #[]) (by rfl) (fun W => by go_simp) (fun W hg => sanity_any W)) ?_
    simp only [n1, n3, n4]
    refine @wpG_p _ _ _ _ _ (some 6) (.bool true) _ _ rfl (by rfl) (fun _ => rfl) ?_
    simp only [n1, n3, n4]
    refine wpG_done (fun V10 hv11 => ?_)
    have S12 : Hid (St w noB [] V10) := Lib.hid (S9.out.gr hv11)
    clear S9
    clear hv11
    refine ⟨rfl, hK _ _ ?_⟩
    clear hK
    go_wp2_with fail
    go_ret
    refine ⟨?_, S12.out.bel⟩
    show Ending.returned (.bool true) = _
    (first | rfl | (rfl))
  | false =>
    have f13 := of_decide_eq_false Hc5.out.symm
    refine @wpG_p _ _ _ _ _ (some 19) (.slice A2 m2 c2) _ _ rfl (by rfl) (fun _ => rfl) ?_
    simp only [n1, n3, n4]
    refine @wpG_p _ _ _ _ _ (some 20) (.int .i64 (m2 : Int)) _ _ rfl (by rfl) (fun W => by go_simp) ?_
    simp only [n1, n3, n4]
    refine @wpG_p _ _ _ _ _ (some 21) (.bool (decide ((m2 : Int) > 100))) _ _ rfl (by rfl) (fun W => op_int_gtr W (m2 : Int) 100 rfl rfl rfl Try.underlying3) ?_
    simp only [n1, n3, n4]
    refine @wpG_p _ _ _ _ _ (some 22) (.bool (decide ((m2 : Int) > 100))) _ _ rfl (by rfl) (fun W => by go_simp) ?_
    simp only [n1, n3, n4]
    refine @wpG_p _ _ _ _ _ (some 23) (.bool (decide ((m2 : Int) > 100))) _ _ rfl (by rfl) (fun _ => rfl) ?_
    simp only [n1, n3, n4]
    obtain ⟨c14, hc14⟩ : ∃ q_, q_ = (decide ((m2 : Int) > 100)) := ⟨_, rfl⟩
    rw [← hc14]
    have Hc14 := Lib.hid hc14
    clear hc14
    cases c14 with
    | true =>
      have f15 := of_decide_eq_true Hc14.out.symm
      refine @wpG_no _ _ _ _ _ (some 24) _ _ rfl (by rfl) ?_
      simp only [n1, n3, n4]
      refine @wpG_no _ _ _ _ _ (some 25) _ _ rfl (by rfl) ?_
      simp only [n1, n3, n4]
      refine @wpG_no _ _ _ _ _ (some 26) _ _ rfl (by rfl) ?_
      simp only [n1, n3, n4]
      refine @wpG_p _ _ _ _ _ (some 27) (.bool true) _ _ rfl (by rfl) (fun W => by go_simp) ?_
      simp only [n1, n3, n4]
      refine wpG_done (fun V16 hv17 => ?_)
      have S18 : Hid (St w noB [] V16) := Lib.hid (S4.out.gr hv17)
      clear S4
      clear hv17
      refine ⟨rfl, hK _ _ ?_⟩
      clear hK
      go_upto_region 2 with fail
      refine wpG_region_k (fun K hK => ?_)
      refine @wpG_tk _ _ _ _ _ (some 28) (.bool true) _ _ rfl (.call (f := 10) (args := #[]) (by rfl) (fun W => by go_simp) (fun W hg => sanity_any W)) ?_
      simp only [n1, n3, n4]
      refine @wpG_p _ _ _ _ _ (some 6) (.bool true) _ _ rfl (by rfl) (fun _ => rfl) ?_
      simp only [n1, n3, n4]
      refine wpG_done (fun V19 hv20 => ?_)
      have S21 : Hid (St w noB [] V19) := Lib.hid (S18.out.gr hv20)
      clear S18
      clear hv20
      refine ⟨rfl, hK _ _ ?_⟩
      clear hK
      go_wp2_with fail
      go_ret
      refine ⟨?_, S21.out.bel⟩
      show Ending.returned (.bool true) = _
      (first | rfl | (rfl))
    | false =>
      have f22 := of_decide_eq_false Hc14.out.symm
      refine @wpG_p _ _ _ _ _ (some 24) (.string (bstr x)) _ _ rfl (by rfl) (fun _ => rfl) ?_
      simp only [n1, n3, n4]
      refine @wpG_p _ _ _ _ _ (some 25) (.int .i64 (x.length : Int)) _ _ rfl (by rfl) (fun W => op_str_len W x rfl rfl Try.underlying9) ?_
      simp only [n1, n3, n4]
      refine @wpG_p _ _ _ _ _ (some 26) (.bool (decide ((x.length : Int) > 300))) _ _ rfl (by rfl) (fun W => op_int_gtr W (x.length : Int) 300 rfl rfl rfl Try.underlying3) ?_
      simp only [n1, n3, n4]
      refine @wpG_p _ _ _ _ _ (some 27) (.bool (decide ((x.length : Int) > 300))) _ _ rfl (by rfl) (fun W => by go_simp) ?_
      simp only [n1, n3, n4]
      refine wpG_done (fun V23 hv24 => ?_)
      have S25 : Hid (St w noB [] V23) := Lib.hid (S4.out.gr hv24)
      clear S4
      clear hv24
      refine ⟨rfl, hK _ _ ?_⟩
      clear hK
      obtain ⟨c26, hc26⟩ : ∃ q_, q_ = (decide ((x.length : Int) > 300)) := ⟨_, rfl⟩
      rw [← hc26]
      have Hc26 := Lib.hid hc26
      clear hc26
      cases c26 with
      | true =>
        have f27 := of_decide_eq_true Hc26.out.symm
        go_upto_region 2 with fail
        refine wpG_region_k (fun K hK => ?_)
        refine @wpG_tk _ _ _ _ _ (some 28) (.bool true) _ _ rfl (.call (f := 10) (args := #[]) (by rfl) (fun W => by go_simp) (fun W hg => sanity_any W)) ?_
        simp only [n1, n3, n4]
        refine @wpG_p _ _ _ _ _ (some 6) (.bool true) _ _ rfl (by rfl) (fun _ => rfl) ?_
        simp only [n1, n3, n4]
        refine wpG_done (fun V28 hv29 => ?_)
        have S30 : Hid (St w noB [] V28) := Lib.hid (S25.out.gr hv29)
        clear S25
        clear hv29
        refine ⟨rfl, hK _ _ ?_⟩
        clear hK
        go_wp2_with fail
        go_ret
        refine ⟨?_, S30.out.bel⟩
        show Ending.returned (.bool true) = _
        (first | rfl | (rfl))
      | false =>
        have f31 := of_decide_eq_false Hc26.out.symm
        go_upto_region 3 with fail
        refine wpG_region_k (fun K hK => ?_)
        refine @wpG_p _ _ _ _ _ (some 30) (.slice A n c) _ _ rfl (by rfl) (fun _ => rfl) ?_
        simp only [n1, n3, n4]
        refine @wpG_p _ _ _ _ _ (some 31) (.slice A2 m2 c2) _ _ rfl (by rfl) (fun _ => rfl) ?_
        simp only [n1, n3, n4]
        refine @wpG_tk _ _ _ _ _ (some 32) (.tuple #[.string (bstr (Pl.dS l l2)), .int .i64 (Pl.dE l l2)]) _ _ rfl (.call (f := 22) (args := #[.slice A n c, .slice A2 m2 c2]) (by rfl) (fun W => by go_simp) (fun W hg => delta_any _ _ _ l _ _ _ l2 W (HGA.out.gr (S25.out.gr hg).bel) (HGB.out.gr (S25.out.gr hg).bel) (by omega) (by omega))) ?_
        simp only [n1, n3, n4]
        refine @wpG_p _ _ _ _ _ (some 29) (.tuple #[.string (bstr (Pl.dS l l2)), .int .i64 (Pl.dE l l2)]) _ _ rfl (by rfl) (fun _ => rfl) ?_
        simp only [n1, n3, n4]
        refine @wpG_p _ _ _ _ _ (some 33) (.string (bstr (Pl.dS l l2))) _ _ rfl (by rfl) (fun W => by go_simp) ?_
        simp only [n1, n3, n4]
        refine @wpG_p _ _ _ _ _ (some 34) (.int .i64 (Pl.dE l l2)) _ _ rfl (by rfl) (fun W => by go_simp) ?_
        simp only [n1, n3, n4]
        refine @wpG_p _ _ _ _ _ (some 7) (.string (bstr (Pl.dS l l2))) _ _ rfl (by rfl) (fun _ => rfl) ?_
        simp only [n1, n3, n4]
        refine @wpG_p _ _ _ _ _ (some 8) (.int .i64 (Pl.dE l l2)) _ _ rfl (by rfl) (fun _ => rfl) ?_
        simp only [n1, n3, n4]
        refine wpG_done (fun V32 hv33 => ?_)
        have S34 : Hid (St w noB [] V32) := Lib.hid (S25.out.gr hv33)
        clear S25
        clear hv33
        refine ⟨rfl, hK _ _ ?_⟩
        clear hK
        go_upto_region 4 with fail
        refine wpG_region_k (fun K hK => ?_)
        refine @wpG_p _ _ _ _ _ (some 36) (.slice A n c) _ _ rfl (by rfl) (fun _ => rfl) ?_
        simp only [n1, n3, n4]
        refine @wpG_p _ _ _ _ _ (some 37) (.slice A2 m2 c2) _ _ rfl (by rfl) (fun _ => rfl) ?_
        simp only [n1, n3, n4]
        refine @wpG_tk _ _ _ _ _ (some 38) (.tuple #[.string (bstr (Pl.dS l l2)), .int .i64 (Pl.dE l l2)]) _ _ rfl (.call (f := 23) (args := #[.slice A n c, .slice A2 m2 c2]) (by rfl) (fun W => by go_simp) (fun W hg => rdelta_any _ _ _ l _ _ _ l2 W (HGA.out.gr (S34.out.gr hg).bel) (HGB.out.gr (S34.out.gr hg).bel) (by omega) (by omega))) ?_
        simp only [n1, n3, n4]
        refine @wpG_p _ _ _ _ _ (some 35) (.tuple #[.string (bstr (Pl.dS l l2)), .int .i64 (Pl.dE l l2)]) _ _ rfl (by rfl) (fun _ => rfl) ?_
        simp only [n1, n3, n4]
        refine @wpG_p _ _ _ _ _ (some 39) (.string (bstr (Pl.dS l l2))) _ _ rfl (by rfl) (fun W => by go_simp) ?_
        simp only [n1, n3, n4]
        refine @wpG_p _ _ _ _ _ (some 40) (.int .i64 (Pl.dE l l2)) _ _ rfl (by rfl) (fun W => by go_simp) ?_
        simp only [n1, n3, n4]
        refine @wpG_p _ _ _ _ _ (some 9) (.string (bstr (Pl.dS l l2))) _ _ rfl (by rfl) (fun _ => rfl) ?_
        simp only [n1, n3, n4]
        refine @wpG_p _ _ _ _ _ (some 10) (.int .i64 (Pl.dE l l2)) _ _ rfl (by rfl) (fun _ => rfl) ?_
        simp only [n1, n3, n4]
        refine wpG_done (fun V35 hv36 => ?_)
        have S37 : Hid (St w noB [] V35) := Lib.hid (S34.out.gr hv36)
        clear S34
        clear hv36
        refine ⟨rfl, hK _ _ ?_⟩
        clear hK
        go_upto_region 5 with fail
        refine wpG_region_k (fun K hK => ?_)
        refine @wpG_p _ _ _ _ _ (some 42) (.slice A n c) _ _ rfl (by rfl) (fun _ => rfl) ?_
        simp only [n1, n3, n4]
        refine @wpG_p _ _ _ _ _ (some 43) (.string (bstr x)) _ _ rfl (by rfl) (fun _ => rfl) ?_
        simp only [n1, n3, n4]
        refine wpG_call (some 44) 24 #[.slice A n c, .string (bstr x)] rfl (by rfl) (fun W => by go_simp) (fun W41 hg42 => ?_)
        refine (patch_any _ _ _ l x W41 (HGA.out.gr (S37.out.gr hg42).bel) (by omega) (by omega)).mono ?_
        rintro e w43 ⟨D38, mm39, dc40, rfl, hS_⟩
        refine ⟨_, rfl, ?_⟩
        have hT_ := (S37.out.gr hg42).got hS_
        simp only [n1, n3, n4]
        have S44 : Hid (St w noB [own (.slice D38 mm39 dc40) 3 1 mm39 (ic ((Pl.pP l x).1))] w43) := Lib.hid hT_
        clear S37
        clear hT_ hS_ hg42
        refine @wpG_p _ _ _ _ _ (some 41) (.tuple #[.slice D38 mm39 dc40, .int .i64 ((Pl.pP l x).2 : Int)]) _ _ rfl (by rfl) (fun _ => rfl) ?_
        simp only [n1, n3, n4]
        refine @wpG_p _ _ _ _ _ (some 45) (.slice D38 mm39 dc40) _ _ rfl (by rfl) (fun W => by go_simp) ?_
        simp only [n1, n3, n4]
        refine @wpG_p _ _ _ _ _ (some 46) (.int .i64 ((Pl.pP l x).2 : Int)) _ _ rfl (by rfl) (fun W => by go_simp) ?_
        simp only [n1, n3, n4]
        refine @wpG_p _ _ _ _ _ (some 11) (.slice D38 mm39 dc40) _ _ rfl (by rfl) (fun _ => rfl) ?_
        simp only [n1, n3, n4]
        refine @wpG_p _ _ _ _ _ (some 12) (.int .i64 ((Pl.pP l x).2 : Int)) _ _ rfl (by rfl) (fun _ => rfl) ?_
        simp only [n1, n3, n4]
        refine wpG_done (fun V45 hv46 => ?_)
        have S47 : Hid (St w noB [own (.slice D38 mm39 dc40) 3 1 mm39 (ic ((Pl.pP l x).1))] V45) := Lib.hid (S44.out.gr hv46)
        clear S44
        clear hv46
        refine ⟨rfl, hK _ _ ?_⟩
        clear hK
        go_upto_region 6 with fail
        refine wpG_region_k (fun K hK => ?_)
        refine @wpG_p _ _ _ _ _ (some 48) (.slice A n c) _ _ rfl (by rfl) (fun _ => rfl) ?_
        simp only [n1, n3, n4]
        refine @wpG_p _ _ _ _ _ (some 49) (.string (bstr x)) _ _ rfl (by rfl) (fun _ => rfl) ?_
        simp only [n1, n3, n4]
        refine wpG_call (some 50) 25 #[.slice A n c, .string (bstr x)] rfl (by rfl) (fun W => by go_simp) (fun W51 hg52 => ?_)
        refine (rpatch_any _ _ _ l x W51 (HGA.out.gr (S47.out.gr hg52).bel) (by omega) (by omega)).mono ?_
        rintro e w53 ⟨D48, mm49, dc50, rfl, hS_⟩
        refine ⟨_, rfl, ?_⟩
        have hT_ := (S47.out.gr hg52).got hS_
        simp only [n1, n3, n4]
        have S54 : Hid (St w noB [own (.slice D48 mm49 dc50) 3 1 mm49 (ic ((Pl.pP l x).1)), own (.slice D38 mm39 dc40) 3 1 mm39 (ic ((Pl.pP l x).1))] w53) := Lib.hid hT_
        clear S47
        clear hT_ hS_ hg52
        refine @wpG_p _ _ _ _ _ (some 47) (.tuple #[.slice D48 mm49 dc50, .int .i64 ((Pl.pP l x).2 : Int)]) _ _ rfl (by rfl) (fun _ => rfl) ?_
        simp only [n1, n3, n4]
        refine @wpG_p _ _ _ _ _ (some 51) (.slice D48 mm49 dc50) _ _ rfl (by rfl) (fun W => by go_simp) ?_
        simp only [n1, n3, n4]
        refine @wpG_p _ _ _ _ _ (some 52) (.int .i64 ((Pl.pP l x).2 : Int)) _ _ rfl (by rfl) (fun W => by go_simp) ?_
        simp only [n1, n3, n4]
        refine @wpG_p _ _ _ _ _ (some 13) (.slice D48 mm49 dc50) _ _ rfl (by rfl) (fun _ => rfl) ?_
        simp only [n1, n3, n4]
        refine @wpG_p _ _ _ _ _ (some 14) (.int .i64 ((Pl.pP l x).2 : Int)) _ _ rfl (by rfl) (fun _ => rfl) ?_
        simp only [n1, n3, n4]
        refine wpG_done (fun V55 hv56 => ?_)
        have S57 : Hid (St w noB [own (.slice D48 mm49 dc50) 3 1 mm49 (ic ((Pl.pP l x).1)), own (.slice D38 mm39 dc40) 3 1 mm39 (ic ((Pl.pP l x).1))] V55) := Lib.hid (S54.out.gr hv56)
        clear S54
        clear hv56
        refine ⟨rfl, hK _ _ ?_⟩
        clear hK
        go_upto_region 7 with fail
        refine wpG_region_k (fun K hK => ?_)
        refine @wpG_tk _ _ _ _ _ (some 53) (.bool true) _ _ rfl (.call (f := 10) (args := #[]) (by rfl) (fun W => by go_simp) (fun W hg => sanity_any W)) ?_
        simp only [n1, n3, n4]
        refine @wpG_p _ _ _ _ _ (some 54) (.bool true) _ _ rfl (by rfl) (fun _ => rfl) ?_
        simp only [n1, n3, n4]
        refine @wpG_p _ _ _ _ _ (some 55) (.string (bstr (Pl.dS l l2))) _ _ rfl (by rfl) (fun _ => rfl) ?_
        simp only [n1, n3, n4]
        refine @wpG_p _ _ _ _ _ (some 56) (.string (bstr (Pl.dS l l2))) _ _ rfl (by rfl) (fun _ => rfl) ?_
        simp only [n1, n3, n4]
        refine @wpG_p _ _ _ _ _ (some 57) (.bool true) _ _ rfl (by rfl) (fun W => op_str_same W (Pl.dS l l2) rfl rfl rfl Try.underlying9) ?_
        simp only [n1, n3, n4]
        refine @wpG_p _ _ _ _ _ (some 58) (.bool true) _ _ rfl (by rfl) (fun W => by go_simp) ?_
        simp only [n1, n3, n4]
        refine @wpG_p _ _ _ _ _ (some 59) (.bool true) _ _ rfl (by rfl) (fun _ => rfl) ?_
        simp only [n1, n3, n4]
        refine @wpG_p _ _ _ _ _ (some 60) (.int .i64 (Pl.dE l l2)) _ _ rfl (by rfl) (fun _ => rfl) ?_
        simp only [n1, n3, n4]
        refine @wpG_p _ _ _ _ _ (some 61) (.int .i64 (Pl.dE l l2)) _ _ rfl (by rfl) (fun _ => rfl) ?_
        simp only [n1, n3, n4]
        refine @wpG_p _ _ _ _ _ (some 62) (.bool true) _ _ rfl (by rfl) (fun W => by go_simp) ?_
        simp only [n1, n3, n4]
        refine @wpG_p _ _ _ _ _ (some 63) (.bool true) _ _ rfl (by rfl) (fun W => by go_simp) ?_
        simp only [n1, n3, n4]
        refine @wpG_p _ _ _ _ _ (some 64) (.bool true) _ _ rfl (by rfl) (fun _ => rfl) ?_
        simp only [n1, n3, n4]
        refine @wpG_p _ _ _ _ _ (some 65) (.slice D38 mm39 dc40) _ _ rfl (by rfl) (fun _ => rfl) ?_
        simp only [n1, n3, n4]
        refine @wpG_p _ _ _ _ _ (some 66) (.slice D48 mm49 dc50) _ _ rfl (by rfl) (fun _ => rfl) ?_
        simp only [n1, n3, n4]
        refine @wpG_tk _ _ _ _ _ (some 67) (.bool true) _ _ rfl (.call (f := 15) (args := #[.slice D38 mm39 dc40, .slice D48 mm49 dc50]) (by rfl) (fun W => by go_simp) (fun W hg => ((same_any _ _ _ ((Pl.pP l x).1) _ _ _ ((Pl.pP l x).1) W (SL.ofOwn ((S57.out.gr hg).ownr 1 rfl)) (SL.ofOwn ((S57.out.gr hg).ownr 0 rfl))).mono (fun e w' h => ⟨h.1.trans (by rw [decide_eq_true rfl]), h.2⟩)))) ?_
        simp only [n1, n3, n4]
        refine @wpG_p _ _ _ _ _ (some 68) (.bool true) _ _ rfl (by rfl) (fun W => by go_simp) ?_
        simp only [n1, n3, n4]
        refine @wpG_p _ _ _ _ _ (some 69) (.bool true) _ _ rfl (by rfl) (fun _ => rfl) ?_
        simp only [n1, n3, n4]
        refine @wpG_p _ _ _ _ _ (some 70) (.int .i64 ((Pl.pP l x).2 : Int)) _ _ rfl (by rfl) (fun _ => rfl) ?_
        simp only [n1, n3, n4]
        refine @wpG_p _ _ _ _ _ (some 71) (.int .i64 ((Pl.pP l x).2 : Int)) _ _ rfl (by rfl) (fun _ => rfl) ?_
        simp only [n1, n3, n4]
        refine @wpG_p _ _ _ _ _ (some 72) (.bool true) _ _ rfl (by rfl) (fun W => by go_simp) ?_
        simp only [n1, n3, n4]
        refine @wpG_p _ _ _ _ _ (some 73) (.bool true) _ _ rfl (by rfl) (fun W => by go_simp) ?_
        simp only [n1, n3, n4]
        refine @wpG_p _ _ _ _ _ (some 6) (.bool true) _ _ rfl (by rfl) (fun _ => rfl) ?_
        simp only [n1, n3, n4]
        refine wpG_done (fun V58 hv59 => ?_)
        have S60 : Hid (St w noB [own (.slice D48 mm49 dc50) 3 1 mm49 (ic ((Pl.pP l x).1)), own (.slice D38 mm39 dc40) 3 1 mm39 (ic ((Pl.pP l x).1))] V58) := Lib.hid (S57.out.gr hv59)
        clear S57
        clear hv59
        refine ⟨rfl, hK _ _ ?_⟩
        clear hK
        go_wp2_with fail
        go_ret
        refine ⟨?_, S60.out.bel⟩
        show Ending.returned (.bool true) = _
        (first | rfl | (rfl))

end Go.Proofs.Ytfomieekdbkcnaa
