/-
  PaletteBricksMatchSpec: the walk.
-/
import Derived.Test.YtfomieekdbkcnaaPm1
import Derived.Handy
namespace Go.Proofs.Ytfomieekdbkcnaa
open Go Go.RowKit
set_option linter.unusedVariables false
set_option linter.unusedSimpArgs false
set_option maxRecDepth 1000000 in
set_option maxHeartbeats 4000000 in
theorem law_pm2 (A : Option Addr) (n c : Nat) (l : List Int) (x : List UInt8) (w : World) (hG : SL w 1 A n c (ic l)) :
    Calls Try.prog 4 #[.slice A n c, .string (bstr x)] w fun e w' => e = .returned (.bool true) ∧ Below w.heap.size w w' := by
  have HGA := Lib.hid hG
  have HLEN : Hid (l.length = n) := Lib.hid (by have h_ := hG.len; rw [ic_len] at h_; omega)
  have hnbHGA : n ≤ 9223372036854775807 := Nat.le_trans hG.cap hG.bnd
  clear hG
  have S1 : Hid (St w noB [] w) := Lib.hid (St.start w)
  go_enter Try.func4, Try.ntmps4
  go_upto_region 0 with fail
  refine wpG_region_k (fun K hK => ?_)
  refine @wpG_p _ _ _ _ _ (some 4) (.bool false) _ _ rfl (by rfl) (fun _ => rfl) ?_
  simp only [n1, n3, n4]
  refine wpG_done (fun V2 hv3 => ?_)
  have S4 : Hid (St w noB [] V2) := Lib.hid (S1.out.gr hv3)
  clear S1
  clear hv3
  refine ⟨rfl, hK _ _ ?_⟩
  clear hK
  go_upto_region 1 with fail
  refine wpG_region_k (fun K hK => ?_)
  refine @wpG_p _ _ _ _ _ (some 17) (.slice A n c) _ _ rfl (by rfl) (fun _ => rfl) ?_
  simp only [n1, n3, n4]
  refine @wpG_p _ _ _ _ _ (some 18) (.int .i64 (n : Int)) _ _ rfl (by rfl) (fun W => by go_simp) ?_
  simp only [n1, n3, n4]
  refine @wpG_p _ _ _ _ _ (some 19) (.bool (decide ((n : Int) > 100))) _ _ rfl (by rfl) (fun W => op_int_gtr W (n : Int) 100 rfl rfl rfl Try.underlying3) ?_
  simp only [n1, n3, n4]
  refine @wpG_p _ _ _ _ _ (some 20) (.bool (decide ((n : Int) > 100))) _ _ rfl (by rfl) (fun _ => rfl) ?_
  simp only [n1, n3, n4]
  obtain ⟨c5, hc5⟩ : ∃ q_, q_ = (decide ((n : Int) > 100)) := ⟨_, rfl⟩
  rw [← hc5]
  have Hc5 := Lib.hid hc5
  clear hc5
  cases c5 with
  | true =>
    have f6 := of_decide_eq_true Hc5.out.symm
    refine @wpG_no _ _ _ _ _ (some 21) _ _ rfl (by rfl) ?_
    simp only [n1, n3, n4]
    refine @wpG_no _ _ _ _ _ (some 22) _ _ rfl (by rfl) ?_
    simp only [n1, n3, n4]
    refine @wpG_no _ _ _ _ _ (some 23) _ _ rfl (by rfl) ?_
    simp only [n1, n3, n4]
    refine @wpG_p _ _ _ _ _ (some 24) (.bool true) _ _ rfl (by rfl) (fun W => by go_simp) ?_
    simp only [n1, n3, n4]
    refine wpG_done (fun V7 hv8 => ?_)
    have S9 : Hid (St w noB [] V7) := Lib.hid (S4.out.gr hv8)
    clear S4
    clear hv8
    refine ⟨rfl, hK _ _ ?_⟩
    clear hK
    go_upto_region 2 with fail
    refine wpG_region_k (fun K hK => ?_)
    refine @wpG_tk _ _ _ _ _ (some 25) (.bool true) _ _ rfl (.call (f := 10) (args := #[]) (by rfl) (fun W => by go_simp) (fun W hg => sanity_any W)) ?_
    simp only [n1, n3, n4]
    refine @wpG_p _ _ _ _ _ (some 4) (.bool true) _ _ rfl (by rfl) (fun _ => rfl) ?_
    simp only [n1, n3, n4]
    refine wpG_done (fun V10 hv11 => ?_)
    have S12 : Hid (St w noB [] V10) := Lib.hid (S9.out.gr hv11)
    clear S9
    clear hv11
    refine ⟨rfl, hK _ _ ?_⟩
    clear hK
    go_wp2_with fail
    go_ret
    refine ⟨?_, S12.out.bel⟩
    show Ending.returned (.bool true) = _
    (first | rfl | (rfl))
  | false =>
    have f13 := of_decide_eq_false Hc5.out.symm
    refine @wpG_p _ _ _ _ _ (some 21) (.string (bstr x)) _ _ rfl (by rfl) (fun _ => rfl) ?_
    simp only [n1, n3, n4]
    refine @wpG_p _ _ _ _ _ (some 22) (.int .i64 (x.length : Int)) _ _ rfl (by rfl) (fun W => op_str_len W x rfl rfl Try.underlying9) ?_
    simp only [n1, n3, n4]
    refine @wpG_p _ _ _ _ _ (some 23) (.bool (decide ((x.length : Int) > 300))) _ _ rfl (by rfl) (fun W => op_int_gtr W (x.length : Int) 300 rfl rfl rfl Try.underlying3) ?_
    simp only [n1, n3, n4]
    refine @wpG_p _ _ _ _ _ (some 24) (.bool (decide ((x.length : Int) > 300))) _ _ rfl (by rfl) (fun W => by go_simp) ?_
    simp only [n1, n3, n4]
    refine wpG_done (fun V14 hv15 => ?_)
    have S16 : Hid (St w noB [] V14) := Lib.hid (S4.out.gr hv15)
    clear S4
    clear hv15
    refine ⟨rfl, hK _ _ ?_⟩
    clear hK
    obtain ⟨c17, hc17⟩ : ∃ q_, q_ = (decide ((x.length : Int) > 300)) := ⟨_, rfl⟩
    rw [← hc17]
    have Hc17 := Lib.hid hc17
    clear hc17
    cases c17 with
    | true =>
      have f18 := of_decide_eq_true Hc17.out.symm
      go_upto_region 2 with fail
      refine wpG_region_k (fun K hK => ?_)
      refine @wpG_tk _ _ _ _ _ (some 25) (.bool true) _ _ rfl (.call (f := 10) (args := #[]) (by rfl) (fun W => by go_simp) (fun W hg => sanity_any W)) ?_
      simp only [n1, n3, n4]
      refine @wpG_p _ _ _ _ _ (some 4) (.bool true) _ _ rfl (by rfl) (fun _ => rfl) ?_
      simp only [n1, n3, n4]
      refine wpG_done (fun V19 hv20 => ?_)
      have S21 : Hid (St w noB [] V19) := Lib.hid (S16.out.gr hv20)
      clear S16
      clear hv20
      refine ⟨rfl, hK _ _ ?_⟩
      clear hK
      go_wp2_with fail
      go_ret
      refine ⟨?_, S21.out.bel⟩
      show Ending.returned (.bool true) = _
      (first | rfl | (rfl))
    | false =>
      have f22 := of_decide_eq_false Hc17.out.symm
      go_upto_region 3 with fail
      refine wpG_region_k (fun K hK => ?_)
      refine @wpG_p _ _ _ _ _ (some 27) (.slice A n c) _ _ rfl (by rfl) (fun _ => rfl) ?_
      simp only [n1, n3, n4]
      refine @wpG_tk _ _ _ _ _ (some 28) (.tuple #[.string (bstr (Pl.eS l)), .int .i64 (Pl.eE l)]) _ _ rfl (.call (f := 16) (args := #[.slice A n c]) (by rfl) (fun W => by go_simp) (fun W hg => encode_any _ _ _ l W (HGA.out.gr (S16.out.gr hg).bel) (by omega))) ?_
      simp only [n1, n3, n4]
      refine @wpG_p _ _ _ _ _ (some 26) (.tuple #[.string (bstr (Pl.eS l)), .int .i64 (Pl.eE l)]) _ _ rfl (by rfl) (fun _ => rfl) ?_
      simp only [n1, n3, n4]
      refine @wpG_p _ _ _ _ _ (some 29) (.string (bstr (Pl.eS l))) _ _ rfl (by rfl) (fun W => by go_simp) ?_
      simp only [n1, n3, n4]
      refine @wpG_p _ _ _ _ _ (some 30) (.int .i64 (Pl.eE l)) _ _ rfl (by rfl) (fun W => by go_simp) ?_
      simp only [n1, n3, n4]
      refine @wpG_p _ _ _ _ _ (some 5) (.string (bstr (Pl.eS l))) _ _ rfl (by rfl) (fun _ => rfl) ?_
      simp only [n1, n3, n4]
      refine @wpG_p _ _ _ _ _ (some 6) (.int .i64 (Pl.eE l)) _ _ rfl (by rfl) (fun _ => rfl) ?_
      simp only [n1, n3, n4]
      refine wpG_done (fun V23 hv24 => ?_)
      have S25 : Hid (St w noB [] V23) := Lib.hid (S16.out.gr hv24)
      clear S16
      clear hv24
      refine ⟨rfl, hK _ _ ?_⟩
      clear hK
      go_upto_region 4 with fail
      refine wpG_region_k (fun K hK => ?_)
      refine @wpG_p _ _ _ _ _ (some 32) (.slice A n c) _ _ rfl (by rfl) (fun _ => rfl) ?_
      simp only [n1, n3, n4]
      refine @wpG_tk _ _ _ _ _ (some 33) (.tuple #[.string (bstr (Pl.eS l)), .int .i64 (Pl.eE l)]) _ _ rfl (.call (f := 17) (args := #[.slice A n c]) (by rfl) (fun W => by go_simp) (fun W hg => rencode_any _ _ _ l W (HGA.out.gr (S25.out.gr hg).bel) (by omega))) ?_
      simp only [n1, n3, n4]
      refine @wpG_p _ _ _ _ _ (some 31) (.tuple #[.string (bstr (Pl.eS l)), .int .i64 (Pl.eE l)]) _ _ rfl (by rfl) (fun _ => rfl) ?_
      simp only [n1, n3, n4]
      refine @wpG_p _ _ _ _ _ (some 34) (.string (bstr (Pl.eS l))) _ _ rfl (by rfl) (fun W => by go_simp) ?_
      simp only [n1, n3, n4]
      refine @wpG_p _ _ _ _ _ (some 35) (.int .i64 (Pl.eE l)) _ _ rfl (by rfl) (fun W => by go_simp) ?_
      simp only [n1, n3, n4]
      refine @wpG_p _ _ _ _ _ (some 7) (.string (bstr (Pl.eS l))) _ _ rfl (by rfl) (fun _ => rfl) ?_
      simp only [n1, n3, n4]
      refine @wpG_p _ _ _ _ _ (some 8) (.int .i64 (Pl.eE l)) _ _ rfl (by rfl) (fun _ => rfl) ?_
      simp only [n1, n3, n4]
      refine wpG_done (fun V26 hv27 => ?_)
      have S28 : Hid (St w noB [] V26) := Lib.hid (S25.out.gr hv27)
      clear S25
      clear hv27
      refine ⟨rfl, hK _ _ ?_⟩
      clear hK
      go_upto_region 5 with fail
      refine wpG_region_k (fun K hK => ?_)
      refine @wpG_p _ _ _ _ _ (some 37) (.string (bstr x)) _ _ rfl (by rfl) (fun _ => rfl) ?_
      simp only [n1, n3, n4]
      refine wpG_call (some 38) 18 #[.string (bstr x)] rfl (by rfl) (fun W => by go_simp) (fun W32 hg33 => ?_)
      refine (decode_any x W32 (by omega)).mono ?_
      rintro e w34 ⟨D29, mm30, dc31, rfl, hS_⟩
      refine ⟨_, rfl, ?_⟩
      have hT_ := (S28.out.gr hg33).got hS_
      simp only [n1, n3, n4]
      have S35 : Hid (St w noB [own (.slice D29 mm30 dc31) 3 1 mm30 (ic ((Pl.de x).1))] w34) := Lib.hid hT_
      clear S28
      clear hT_ hS_ hg33
      have hlmm30 : Hid (mm30 = ((Pl.de x).1).length) := Lib.hid (own_icl (S35.out.ownr 0 rfl))
      refine @wpG_p _ _ _ _ _ (some 36) (.tuple #[.slice D29 mm30 dc31, .int .i64 ((Pl.de x).2 : Int)]) _ _ rfl (by rfl) (fun _ => rfl) ?_
      simp only [n1, n3, n4]
      refine @wpG_p _ _ _ _ _ (some 39) (.slice D29 mm30 dc31) _ _ rfl (by rfl) (fun W => by go_simp) ?_
      simp only [n1, n3, n4]
      refine @wpG_p _ _ _ _ _ (some 40) (.int .i64 ((Pl.de x).2 : Int)) _ _ rfl (by rfl) (fun W => by go_simp) ?_
      simp only [n1, n3, n4]
      refine @wpG_p _ _ _ _ _ (some 9) (.slice D29 mm30 dc31) _ _ rfl (by rfl) (fun _ => rfl) ?_
      simp only [n1, n3, n4]
      refine @wpG_p _ _ _ _ _ (some 10) (.int .i64 ((Pl.de x).2 : Int)) _ _ rfl (by rfl) (fun _ => rfl) ?_
      simp only [n1, n3, n4]
      refine wpG_done (fun V36 hv37 => ?_)
      have S38 : Hid (St w noB [own (.slice D29 mm30 dc31) 3 1 mm30 (ic ((Pl.de x).1))] V36) := Lib.hid (S35.out.gr hv37)
      clear S35
      clear hv37
      refine ⟨rfl, hK _ _ ?_⟩
      clear hK
      go_upto_region 6 with fail
      refine wpG_region_k (fun K hK => ?_)
      refine @wpG_p _ _ _ _ _ (some 42) (.string (bstr x)) _ _ rfl (by rfl) (fun _ => rfl) ?_
      simp only [n1, n3, n4]
      refine wpG_call (some 43) 19 #[.string (bstr x)] rfl (by rfl) (fun W => by go_simp) (fun W42 hg43 => ?_)
      refine (rdecode_any x W42 (by omega)).mono ?_
      rintro e w44 ⟨D39, mm40, dc41, rfl, hS_⟩
      refine ⟨_, rfl, ?_⟩
      have hT_ := (S38.out.gr hg43).got hS_
      simp only [n1, n3, n4]
      have S45 : Hid (St w noB [own (.slice D39 mm40 dc41) 3 1 mm40 (ic ((Pl.de x).1)), own (.slice D29 mm30 dc31) 3 1 mm30 (ic ((Pl.de x).1))] w44) := Lib.hid hT_
      clear S38
      clear hT_ hS_ hg43
      have hlmm40 : Hid (mm40 = ((Pl.de x).1).length) := Lib.hid (own_icl (S45.out.ownr 0 rfl))
      refine @wpG_p _ _ _ _ _ (some 41) (.tuple #[.slice D39 mm40 dc41, .int .i64 ((Pl.de x).2 : Int)]) _ _ rfl (by rfl) (fun _ => rfl) ?_
      simp only [n1, n3, n4]
      refine @wpG_p _ _ _ _ _ (some 44) (.slice D39 mm40 dc41) _ _ rfl (by rfl) (fun W => by go_simp) ?_
      simp only [n1, n3, n4]
      refine @wpG_p _ _ _ _ _ (some 45) (.int .i64 ((Pl.de x).2 : Int)) _ _ rfl (by rfl) (fun W => by go_simp) ?_
      simp only [n1, n3, n4]
      refine @wpG_p _ _ _ _ _ (some 11) (.slice D39 mm40 dc41) _ _ rfl (by rfl) (fun _ => rfl) ?_
      simp only [n1, n3, n4]
      refine @wpG_p _ _ _ _ _ (some 12) (.int .i64 ((Pl.de x).2 : Int)) _ _ rfl (by rfl) (fun _ => rfl) ?_
      simp only [n1, n3, n4]
      refine wpG_done (fun V46 hv47 => ?_)
      have S48 : Hid (St w noB [own (.slice D39 mm40 dc41) 3 1 mm40 (ic ((Pl.de x).1)), own (.slice D29 mm30 dc31) 3 1 mm30 (ic ((Pl.de x).1))] V46) := Lib.hid (S45.out.gr hv47)
      clear S45
      clear hv47
      refine ⟨rfl, hK _ _ ?_⟩
      clear hK
      go_upto_region 7 with fail
      refine wpG_region_k (fun K hK => ?_)
      refine @wpG_p _ _ _ _ _ (some 47) (.string (bstr x)) _ _ rfl (by rfl) (fun _ => rfl) ?_
      simp only [n1, n3, n4]
      refine wpG_call (some 48) 20 #[.string (bstr x)] rfl (by rfl) (fun W => by go_simp) (fun W52 hg53 => ?_)
      refine (materials_any x W52 (by omega)).mono ?_
      rintro e w54 ⟨D49, mm50, dc51, rfl, hS_⟩
      refine ⟨_, rfl, ?_⟩
      have hT_ := (S48.out.gr hg53).got hS_
      simp only [n1, n3, n4]
      have S55 : Hid (St w noB [own (.slice D49 mm50 dc51) 3 1 mm50 (ic (Pl.pal (Pl.de x).1)), own (.slice D39 mm40 dc41) 3 1 mm40 (ic ((Pl.de x).1)), own (.slice D29 mm30 dc31) 3 1 mm30 (ic ((Pl.de x).1))] w54) := Lib.hid hT_
      clear S48
      clear hT_ hS_ hg53
      have hlmm50 : Hid (mm50 = (Pl.pal (Pl.de x).1).length) := Lib.hid (own_icl (S55.out.ownr 0 rfl))
      refine @wpG_p _ _ _ _ _ (some 46) (.tuple #[.slice D49 mm50 dc51, .int .i64 ((Pl.de x).2 : Int)]) _ _ rfl (by rfl) (fun _ => rfl) ?_
      simp only [n1, n3, n4]
      refine @wpG_p _ _ _ _ _ (some 49) (.slice D49 mm50 dc51) _ _ rfl (by rfl) (fun W => by go_simp) ?_
      simp only [n1, n3, n4]
      refine @wpG_p _ _ _ _ _ (some 50) (.int .i64 ((Pl.de x).2 : Int)) _ _ rfl (by rfl) (fun W => by go_simp) ?_
      simp only [n1, n3, n4]
      refine @wpG_p _ _ _ _ _ (some 13) (.slice D49 mm50 dc51) _ _ rfl (by rfl) (fun _ => rfl) ?_
      simp only [n1, n3, n4]
      refine @wpG_p _ _ _ _ _ (some 14) (.int .i64 ((Pl.de x).2 : Int)) _ _ rfl (by rfl) (fun _ => rfl) ?_
      simp only [n1, n3, n4]
      refine wpG_done (fun V56 hv57 => ?_)
      have S58 : Hid (St w noB [own (.slice D49 mm50 dc51) 3 1 mm50 (ic (Pl.pal (Pl.de x).1)), own (.slice D39 mm40 dc41) 3 1 mm40 (ic ((Pl.de x).1)), own (.slice D29 mm30 dc31) 3 1 mm30 (ic ((Pl.de x).1))] V56) := Lib.hid (S55.out.gr hv57)
      clear S55
      clear hv57
      refine ⟨rfl, hK _ _ ?_⟩
      clear hK
      go_upto_region 8 with fail
      refine wpG_region_k (fun K hK => ?_)
      refine @wpG_p _ _ _ _ _ (some 52) (.string (bstr x)) _ _ rfl (by rfl) (fun _ => rfl) ?_
      simp only [n1, n3, n4]
      refine wpG_call (some 53) 21 #[.string (bstr x)] rfl (by rfl) (fun W => by go_simp) (fun W62 hg63 => ?_)
      refine (rmaterials_any x W62 (by omega)).mono ?_
      rintro e w64 ⟨D59, mm60, dc61, rfl, hS_⟩
      refine ⟨_, rfl, ?_⟩
      have hT_ := (S58.out.gr hg63).got hS_
      simp only [n1, n3, n4]
      have S65 : Hid (St w noB [own (.slice D59 mm60 dc61) 3 1 mm60 (ic (Pl.pal (Pl.de x).1)), own (.slice D49 mm50 dc51) 3 1 mm50 (ic (Pl.pal (Pl.de x).1)), own (.slice D39 mm40 dc41) 3 1 mm40 (ic ((Pl.de x).1)), own (.slice D29 mm30 dc31) 3 1 mm30 (ic ((Pl.de x).1))] w64) := Lib.hid hT_
      clear S58
      clear hT_ hS_ hg63
      have hlmm60 : Hid (mm60 = (Pl.pal (Pl.de x).1).length) := Lib.hid (own_icl (S65.out.ownr 0 rfl))
      refine @wpG_p _ _ _ _ _ (some 51) (.tuple #[.slice D59 mm60 dc61, .int .i64 ((Pl.de x).2 : Int)]) _ _ rfl (by rfl) (fun _ => rfl) ?_
      simp only [n1, n3, n4]
      refine @wpG_p _ _ _ _ _ (some 54) (.slice D59 mm60 dc61) _ _ rfl (by rfl) (fun W => by go_simp) ?_
      simp only [n1, n3, n4]
      refine @wpG_p _ _ _ _ _ (some 55) (.int .i64 ((Pl.de x).2 : Int)) _ _ rfl (by rfl) (fun W => by go_simp) ?_
      simp only [n1, n3, n4]
      refine @wpG_p _ _ _ _ _ (some 15) (.slice D59 mm60 dc61) _ _ rfl (by rfl) (fun _ => rfl) ?_
      simp only [n1, n3, n4]
      refine @wpG_p _ _ _ _ _ (some 16) (.int .i64 ((Pl.de x).2 : Int)) _ _ rfl (by rfl) (fun _ => rfl) ?_
      simp only [n1, n3, n4]
      refine wpG_done (fun V66 hv67 => ?_)
      have S68 : Hid (St w noB [own (.slice D59 mm60 dc61) 3 1 mm60 (ic (Pl.pal (Pl.de x).1)), own (.slice D49 mm50 dc51) 3 1 mm50 (ic (Pl.pal (Pl.de x).1)), own (.slice D39 mm40 dc41) 3 1 mm40 (ic ((Pl.de x).1)), own (.slice D29 mm30 dc31) 3 1 mm30 (ic ((Pl.de x).1))] V66) := Lib.hid (S65.out.gr hv67)
      clear S65
      clear hv67
      refine ⟨rfl, hK _ _ ?_⟩
      clear hK
      go_upto_region 9 with fail
      refine wpG_region_k (fun K hK => ?_)
      refine @wpG_tk _ _ _ _ _ (some 56) (.bool true) _ _ rfl (.call (f := 10) (args := #[]) (by rfl) (fun W => by go_simp) (fun W hg => sanity_any W)) ?_
      simp only [n1, n3, n4]
      refine @wpG_p _ _ _ _ _ (some 57) (.bool true) _ _ rfl (by rfl) (fun _ => rfl) ?_
      simp only [n1, n3, n4]
      refine @wpG_p _ _ _ _ _ (some 58) (.string (bstr (Pl.eS l))) _ _ rfl (by rfl) (fun _ => rfl) ?_
      simp only [n1, n3, n4]
      refine @wpG_p _ _ _ _ _ (some 59) (.string (bstr (Pl.eS l))) _ _ rfl (by rfl) (fun _ => rfl) ?_
      simp only [n1, n3, n4]
      refine @wpG_p _ _ _ _ _ (some 60) (.bool true) _ _ rfl (by rfl) (fun W => op_str_same W (Pl.eS l) rfl rfl rfl Try.underlying9) ?_
      simp only [n1, n3, n4]
      refine @wpG_p _ _ _ _ _ (some 61) (.bool true) _ _ rfl (by rfl) (fun W => by go_simp) ?_
      simp only [n1, n3, n4]
      refine @wpG_p _ _ _ _ _ (some 62) (.bool true) _ _ rfl (by rfl) (fun _ => rfl) ?_
      simp only [n1, n3, n4]
      refine @wpG_p _ _ _ _ _ (some 63) (.int .i64 (Pl.eE l)) _ _ rfl (by rfl) (fun _ => rfl) ?_
      simp only [n1, n3, n4]
      refine @wpG_p _ _ _ _ _ (some 64) (.int .i64 (Pl.eE l)) _ _ rfl (by rfl) (fun _ => rfl) ?_
      simp only [n1, n3, n4]
      refine @wpG_p _ _ _ _ _ (some 65) (.bool true) _ _ rfl (by rfl) (fun W => by go_simp) ?_
      simp only [n1, n3, n4]
      refine @wpG_p _ _ _ _ _ (some 66) (.bool true) _ _ rfl (by rfl) (fun W => by go_simp) ?_
      simp only [n1, n3, n4]
      refine @wpG_p _ _ _ _ _ (some 67) (.bool true) _ _ rfl (by rfl) (fun _ => rfl) ?_
      simp only [n1, n3, n4]
      refine @wpG_p _ _ _ _ _ (some 68) (.slice D29 mm30 dc31) _ _ rfl (by rfl) (fun _ => rfl) ?_
      simp only [n1, n3, n4]
      refine @wpG_p _ _ _ _ _ (some 69) (.slice D39 mm40 dc41) _ _ rfl (by rfl) (fun _ => rfl) ?_
      simp only [n1, n3, n4]
      refine @wpG_tk _ _ _ _ _ (some 70) (.bool true) _ _ rfl (.call (f := 15) (args := #[.slice D29 mm30 dc31, .slice D39 mm40 dc41]) (by rfl) (fun W => by go_simp) (fun W hg => ((same_any _ _ _ ((Pl.de x).1) _ _ _ ((Pl.de x).1) W (SL.ofOwn ((S68.out.gr hg).ownr 3 rfl)) (SL.ofOwn ((S68.out.gr hg).ownr 2 rfl))).mono (fun e w' h => ⟨h.1.trans (by rw [decide_eq_true rfl]), h.2⟩)))) ?_
      simp only [n1, n3, n4]
      refine @wpG_p _ _ _ _ _ (some 71) (.bool true) _ _ rfl (by rfl) (fun W => by go_simp) ?_
      simp only [n1, n3, n4]
      refine @wpG_p _ _ _ _ _ (some 72) (.bool true) _ _ rfl (by rfl) (fun _ => rfl) ?_
      simp only [n1, n3, n4]
      refine @wpG_p _ _ _ _ _ (some 73) (.int .i64 ((Pl.de x).2 : Int)) _ _ rfl (by rfl) (fun _ => rfl) ?_
      simp only [n1, n3, n4]
      refine @wpG_p _ _ _ _ _ (some 74) (.int .i64 ((Pl.de x).2 : Int)) _ _ rfl (by rfl) (fun _ => rfl) ?_
      simp only [n1, n3, n4]
      refine @wpG_p _ _ _ _ _ (some 75) (.bool true) _ _ rfl (by rfl) (fun W => by go_simp) ?_
      simp only [n1, n3, n4]
      refine @wpG_p _ _ _ _ _ (some 76) (.bool true) _ _ rfl (by rfl) (fun W => by go_simp) ?_
      simp only [n1, n3, n4]
      refine @wpG_p _ _ _ _ _ (some 77) (.bool true) _ _ rfl (by rfl) (fun _ => rfl) ?_
      simp only [n1, n3, n4]
      refine @wpG_p _ _ _ _ _ (some 78) (.slice D49 mm50 dc51) _ _ rfl (by rfl) (fun _ => rfl) ?_
      simp only [n1, n3, n4]
      refine @wpG_p _ _ _ _ _ (some 79) (.slice D59 mm60 dc61) _ _ rfl (by rfl) (fun _ => rfl) ?_
      simp only [n1, n3, n4]
      refine @wpG_tk _ _ _ _ _ (some 80) (.bool true) _ _ rfl (.call (f := 15) (args := #[.slice D49 mm50 dc51, .slice D59 mm60 dc61]) (by rfl) (fun W => by go_simp) (fun W hg => ((same_any _ _ _ (Pl.pal (Pl.de x).1) _ _ _ (Pl.pal (Pl.de x).1) W (SL.ofOwn ((S68.out.gr hg).ownr 1 rfl)) (SL.ofOwn ((S68.out.gr hg).ownr 0 rfl))).mono (fun e w' h => ⟨h.1.trans (by rw [decide_eq_true rfl]), h.2⟩)))) ?_
      simp only [n1, n3, n4]
      refine @wpG_p _ _ _ _ _ (some 81) (.bool true) _ _ rfl (by rfl) (fun W => by go_simp) ?_
      simp only [n1, n3, n4]
      refine @wpG_p _ _ _ _ _ (some 82) (.bool true) _ _ rfl (by rfl) (fun _ => rfl) ?_
      simp only [n1, n3, n4]
      refine @wpG_p _ _ _ _ _ (some 83) (.int .i64 ((Pl.de x).2 : Int)) _ _ rfl (by rfl) (fun _ => rfl) ?_
      simp only [n1, n3, n4]
      refine @wpG_p _ _ _ _ _ (some 84) (.int .i64 ((Pl.de x).2 : Int)) _ _ rfl (by rfl) (fun _ => rfl) ?_
      simp only [n1, n3, n4]
      refine @wpG_p _ _ _ _ _ (some 85) (.bool true) _ _ rfl (by rfl) (fun W => by go_simp) ?_
      simp only [n1, n3, n4]
      refine @wpG_p _ _ _ _ _ (some 86) (.bool true) _ _ rfl (by rfl) (fun W => by go_simp) ?_
      simp only [n1, n3, n4]
      refine @wpG_p _ _ _ _ _ (some 4) (.bool true) _ _ rfl (by rfl) (fun _ => rfl) ?_
      simp only [n1, n3, n4]
      refine wpG_done (fun V69 hv70 => ?_)
      have S71 : Hid (St w noB [own (.slice D59 mm60 dc61) 3 1 mm60 (ic (Pl.pal (Pl.de x).1)), own (.slice D49 mm50 dc51) 3 1 mm50 (ic (Pl.pal (Pl.de x).1)), own (.slice D39 mm40 dc41) 3 1 mm40 (ic ((Pl.de x).1)), own (.slice D29 mm30 dc31) 3 1 mm30 (ic ((Pl.de x).1))] V69) := Lib.hid (S68.out.gr hv70)
      clear S68
      clear hv70
      refine ⟨rfl, hK _ _ ?_⟩
      clear hK
      go_wp2_with fail
      go_ret
      refine ⟨?_, S71.out.bel⟩
      show Ending.returned (.bool true) = _
      (first | rfl | (rfl))

end Go.Proofs.Ytfomieekdbkcnaa
