/-
  PaletteIsCanonical: the walk.
-/
import Derived.Test.YtfomieekdbkcnaaPm1
import Derived.Test.YtfomieekdbkcnaaPw0
import Derived.Handy
namespace Go.Proofs.Ytfomieekdbkcnaa
open Go Go.RowKit
set_option linter.unusedVariables false
set_option linter.unusedSimpArgs false
set_option maxRecDepth 1000000 in
set_option maxHeartbeats 4000000 in
theorem law_pw4 (A : Option Addr) (n c : Nat) (l : List Int) (x : List UInt8) (w : World) (hG : SL w 1 A n c (ic l)) :
    Calls Try.prog 6 #[.slice A n c, .string (bstr x)] w fun e w' => e = .returned (.bool true) ∧ Below w.heap.size w w' := by
  have HGA := Lib.hid hG
  have HLEN : Hid (l.length = n) := Lib.hid (by have h_ := hG.len; rw [ic_len] at h_; omega)
  have hnbHGA : n ≤ 9223372036854775807 := Nat.le_trans hG.cap hG.bnd
  clear hG
  have S1 : Hid (St w noB [] w) := Lib.hid (St.start w)
  go_enter Try.func6, Try.ntmps6
  go_upto_region 0 with fail
  refine wpG_region_k (fun K hK => ?_)
  refine @wpG_p _ _ _ _ _ (some 4) (.bool false) _ _ rfl (by rfl) (fun _ => rfl) ?_
  simp only [n1, n3, n4]
  refine wpG_done (fun V2 hv3 => ?_)
  have S4 : Hid (St w noB [] V2) := Lib.hid (S1.out.gr hv3)
  clear S1
  clear hv3
  refine ⟨rfl, hK _ _ ?_⟩
  clear hK
  go_upto_region 1 with fail
  refine wpG_region_k (fun K hK => ?_)
  refine @wpG_p _ _ _ _ _ (some 15) (.slice A n c) _ _ rfl (by rfl) (fun _ => rfl) ?_
  simp only [n1, n3, n4]
  refine @wpG_p _ _ _ _ _ (some 16) (.int .i64 (n : Int)) _ _ rfl (by rfl) (fun W => by go_simp) ?_
  simp only [n1, n3, n4]
  refine @wpG_p _ _ _ _ _ (some 17) (.bool (decide ((n : Int) > 64))) _ _ rfl (by rfl) (fun W => op_int_gtr W (n : Int) 64 rfl rfl rfl Try.underlying3) ?_
  simp only [n1, n3, n4]
  refine @wpG_p _ _ _ _ _ (some 18) (.bool (decide ((n : Int) > 64))) _ _ rfl (by rfl) (fun _ => rfl) ?_
  simp only [n1, n3, n4]
  obtain ⟨c5, hc5⟩ : ∃ q_, q_ = (decide ((n : Int) > 64)) := ⟨_, rfl⟩
  rw [← hc5]
  have Hc5 := Lib.hid hc5
  clear hc5
  cases c5 with
  | true =>
    have f6 := of_decide_eq_true Hc5.out.symm
    refine @wpG_no _ _ _ _ _ (some 19) _ _ rfl (by rfl) ?_
    simp only [n1, n3, n4]
    refine @wpG_no _ _ _ _ _ (some 20) _ _ rfl (by rfl) ?_
    simp only [n1, n3, n4]
    refine @wpG_no _ _ _ _ _ (some 21) _ _ rfl (by rfl) ?_
    simp only [n1, n3, n4]
    refine @wpG_p _ _ _ _ _ (some 22) (.bool true) _ _ rfl (by rfl) (fun W => by go_simp) ?_
    simp only [n1, n3, n4]
    refine wpG_done (fun V7 hv8 => ?_)
    have S9 : Hid (St w noB [] V7) := Lib.hid (S4.out.gr hv8)
    clear S4
    clear hv8
    refine ⟨rfl, hK _ _ ?_⟩
    clear hK
    go_upto_region 2 with fail
    refine wpG_region_k (fun K hK => ?_)
    refine @wpG_tk _ _ _ _ _ (some 23) (.bool true) _ _ rfl (.call (f := 10) (args := #[]) (by rfl) (fun W => by go_simp) (fun W hg => sanity_any W)) ?_
    simp only [n1, n3, n4]
    refine @wpG_p _ _ _ _ _ (some 4) (.bool true) _ _ rfl (by rfl) (fun _ => rfl) ?_
    simp only [n1, n3, n4]
    refine wpG_done (fun V10 hv11 => ?_)
    have S12 : Hid (St w noB [] V10) := Lib.hid (S9.out.gr hv11)
    clear S9
    clear hv11
    refine ⟨rfl, hK _ _ ?_⟩
    clear hK
    go_wp2_with fail
    go_ret
    refine ⟨?_, S12.out.bel⟩
    show Ending.returned (.bool true) = _
    (first | rfl | (rfl))
  | false =>
    have f13 := of_decide_eq_false Hc5.out.symm
    refine @wpG_p _ _ _ _ _ (some 19) (.string (bstr x)) _ _ rfl (by rfl) (fun _ => rfl) ?_
    simp only [n1, n3, n4]
    refine @wpG_p _ _ _ _ _ (some 20) (.int .i64 (x.length : Int)) _ _ rfl (by rfl) (fun W => op_str_len W x rfl rfl Try.underlying9) ?_
    simp only [n1, n3, n4]
    refine @wpG_p _ _ _ _ _ (some 21) (.bool (decide ((x.length : Int) > 300))) _ _ rfl (by rfl) (fun W => op_int_gtr W (x.length : Int) 300 rfl rfl rfl Try.underlying3) ?_
    simp only [n1, n3, n4]
    refine @wpG_p _ _ _ _ _ (some 22) (.bool (decide ((x.length : Int) > 300))) _ _ rfl (by rfl) (fun W => by go_simp) ?_
    simp only [n1, n3, n4]
    refine wpG_done (fun V14 hv15 => ?_)
    have S16 : Hid (St w noB [] V14) := Lib.hid (S4.out.gr hv15)
    clear S4
    clear hv15
    refine ⟨rfl, hK _ _ ?_⟩
    clear hK
    obtain ⟨c17, hc17⟩ : ∃ q_, q_ = (decide ((x.length : Int) > 300)) := ⟨_, rfl⟩
    rw [← hc17]
    have Hc17 := Lib.hid hc17
    clear hc17
    cases c17 with
    | true =>
      have f18 := of_decide_eq_true Hc17.out.symm
      go_upto_region 2 with fail
      refine wpG_region_k (fun K hK => ?_)
      refine @wpG_tk _ _ _ _ _ (some 23) (.bool true) _ _ rfl (.call (f := 10) (args := #[]) (by rfl) (fun W => by go_simp) (fun W hg => sanity_any W)) ?_
      simp only [n1, n3, n4]
      refine @wpG_p _ _ _ _ _ (some 4) (.bool true) _ _ rfl (by rfl) (fun _ => rfl) ?_
      simp only [n1, n3, n4]
      refine wpG_done (fun V19 hv20 => ?_)
      have S21 : Hid (St w noB [] V19) := Lib.hid (S16.out.gr hv20)
      clear S16
      clear hv20
      refine ⟨rfl, hK _ _ ?_⟩
      clear hK
      go_wp2_with fail
      go_ret
      refine ⟨?_, S21.out.bel⟩
      show Ending.returned (.bool true) = _
      (first | rfl | (rfl))
    | false =>
      have f22 := of_decide_eq_false Hc17.out.symm
      go_upto_region 3 with fail
      refine wpG_region_k (fun K hK => ?_)
      refine @wpG_p _ _ _ _ _ (some 25) (.slice A n c) _ _ rfl (by rfl) (fun _ => rfl) ?_
      simp only [n1, n3, n4]
      refine @wpG_tk _ _ _ _ _ (some 26) (.tuple #[.string (bstr (Pl.pS l)), .int .i64 (Pl.pE l)]) _ _ rfl (.call (f := 11) (args := #[.slice A n c]) (by rfl) (fun W => by go_simp) (fun W hg => pack_any _ _ _ l W (HGA.out.gr (S16.out.gr hg).bel) (by omega))) ?_
      simp only [n1, n3, n4]
      refine @wpG_p _ _ _ _ _ (some 24) (.tuple #[.string (bstr (Pl.pS l)), .int .i64 (Pl.pE l)]) _ _ rfl (by rfl) (fun _ => rfl) ?_
      simp only [n1, n3, n4]
      refine @wpG_p _ _ _ _ _ (some 27) (.string (bstr (Pl.pS l))) _ _ rfl (by rfl) (fun W => by go_simp) ?_
      simp only [n1, n3, n4]
      refine @wpG_p _ _ _ _ _ (some 28) (.int .i64 (Pl.pE l)) _ _ rfl (by rfl) (fun W => by go_simp) ?_
      simp only [n1, n3, n4]
      refine @wpG_p _ _ _ _ _ (some 5) (.string (bstr (Pl.pS l))) _ _ rfl (by rfl) (fun _ => rfl) ?_
      simp only [n1, n3, n4]
      refine @wpG_p _ _ _ _ _ (some 6) (.int .i64 (Pl.pE l)) _ _ rfl (by rfl) (fun _ => rfl) ?_
      simp only [n1, n3, n4]
      refine wpG_done (fun V23 hv24 => ?_)
      have S25 : Hid (St w noB [] V23) := Lib.hid (S16.out.gr hv24)
      clear S16
      clear hv24
      refine ⟨rfl, hK _ _ ?_⟩
      clear hK
      go_upto_region 4 with fail
      refine wpG_region_k (fun K hK => ?_)
      refine @wpG_p _ _ _ _ _ (some 29) (.int .i64 (Pl.pE l)) _ _ rfl (by rfl) (fun _ => rfl) ?_
      simp only [n1, n3, n4]
      refine @wpG_p _ _ _ _ _ (some 30) (.bool (decide (Pl.pE l = 0))) _ _ rfl (by rfl) (fun W => op_int_eql W (Pl.pE l) 0 rfl rfl rfl Try.underlying24) ?_
      simp only [n1, n3, n4]
      refine wpG_done (fun V26 hv27 => ?_)
      have S28 : Hid (St w noB [] V26) := Lib.hid (S25.out.gr hv27)
      clear S25
      clear hv27
      refine ⟨rfl, hK _ _ ?_⟩
      clear hK
      obtain ⟨c29, hc29⟩ : ∃ q_, q_ = (decide (Pl.pE l = 0)) := ⟨_, rfl⟩
      rw [← hc29]
      have Hc29 := Lib.hid hc29
      clear hc29
      cases c29 with
      | true =>
        have f30 := Lib.hid (of_decide_eq_true Hc29.out.symm)
        have f30a := Int.le_of_eq f30.out
        have f30b := Int.le_of_eq f30.out.symm
        go_upto_region 5 with fail
        refine wpG_region_k (fun K hK => ?_)
        refine @wpG_p _ _ _ _ _ (some 32) (.string (bstr (Pl.pS l))) _ _ rfl (by rfl) (fun _ => rfl) ?_
        simp only [n1, n3, n4]
        refine @wpG_p _ _ _ _ _ (some 33) (.string (bstr x)) _ _ rfl (by rfl) (fun _ => rfl) ?_
        simp only [n1, n3, n4]
        refine @wpG_p _ _ _ _ _ (some 34) (.string (bstr ((Pl.pS l) ++ x))) _ _ rfl (by rfl) (fun W => op_str_add W (Pl.pS l) x (by (have h_ := Pl.pS_len2 l; omega)) rfl rfl rfl Try.underlying9) ?_
        simp only [n1, n3, n4]
        have hps2_ := Pl.pS_len2 l
        refine wpG_call (some 35) 13 #[.string (bstr ((Pl.pS l) ++ x))] rfl (by rfl) (fun W => by go_simp) (fun W31 hg32 => ?_)
        refine (unpack_c ((Pl.pS l) ++ x) l ((Pl.pS l).length : Int) 0 W31 (by have h_ := Pl.un_ps f30.out x; rw [h_]; exact ⟨rfl, rfl, rfl⟩) (by rw [List.length_append]; omega)).mono ?_
        rintro e w33 ⟨D1, mm1, dc1, rfl, hS_⟩
        refine ⟨_, rfl, ?_⟩
        have hT_ := (S28.out.gr hg32).got hS_
        simp only [n1, n3, n4]
        have S34 : Hid (St w noB [own (.slice D1 mm1 dc1) 3 1 mm1 (ic l)] w33) := Lib.hid hT_
        clear S28
        clear hT_ hS_ hg32
        refine @wpG_p _ _ _ _ _ (some 31) (.tuple #[.slice D1 mm1 dc1, .int .i64 ((Pl.pS l).length : Int), .int .i64 0]) _ _ rfl (by rfl) (fun _ => rfl) ?_
        simp only [n1, n3, n4]
        refine @wpG_p _ _ _ _ _ (some 36) (.slice D1 mm1 dc1) _ _ rfl (by rfl) (fun W => by go_simp) ?_
        simp only [n1, n3, n4]
        refine @wpG_p _ _ _ _ _ (some 37) (.int .i64 ((Pl.pS l).length : Int)) _ _ rfl (by rfl) (fun W => by go_simp) ?_
        simp only [n1, n3, n4]
        refine @wpG_p _ _ _ _ _ (some 38) (.int .i64 0) _ _ rfl (by rfl) (fun W => by go_simp) ?_
        simp only [n1, n3, n4]
        refine @wpG_p _ _ _ _ _ (some 7) (.slice D1 mm1 dc1) _ _ rfl (by rfl) (fun _ => rfl) ?_
        simp only [n1, n3, n4]
        refine @wpG_p _ _ _ _ _ (some 8) (.int .i64 ((Pl.pS l).length : Int)) _ _ rfl (by rfl) (fun _ => rfl) ?_
        simp only [n1, n3, n4]
        refine @wpG_p _ _ _ _ _ (some 9) (.int .i64 0) _ _ rfl (by rfl) (fun _ => rfl) ?_
        simp only [n1, n3, n4]
        refine wpG_done (fun V35 hv36 => ?_)
        have S37 : Hid (St w noB [own (.slice D1 mm1 dc1) 3 1 mm1 (ic l)] V35) := Lib.hid (S34.out.gr hv36)
        clear S34
        clear hv36
        refine ⟨rfl, hK _ _ ?_⟩
        clear hK
        go_upto_region 6 with fail
        refine wpG_region_k (fun K hK => ?_)
        refine @wpG_p _ _ _ _ _ (some 39) (.int .i64 0) _ _ rfl (by rfl) (fun _ => rfl) ?_
        simp only [n1, n3, n4]
        refine @wpG_p _ _ _ _ _ (some 40) (.bool false) _ _ rfl (by rfl) (fun W => by go_simp) ?_
        simp only [n1, n3, n4]
        refine @wpG_p _ _ _ _ _ (some 41) (.bool false) _ _ rfl (by rfl) (fun _ => rfl) ?_
        simp only [n1, n3, n4]
        refine @wpG_p _ _ _ _ _ (some 42) (.int .i64 ((Pl.pS l).length : Int)) _ _ rfl (by rfl) (fun _ => rfl) ?_
        simp only [n1, n3, n4]
        refine @wpG_p _ _ _ _ _ (some 43) (.string (bstr (Pl.pS l))) _ _ rfl (by rfl) (fun _ => rfl) ?_
        simp only [n1, n3, n4]
        refine @wpG_p _ _ _ _ _ (some 44) (.int .i64 ((Pl.pS l).length : Int)) _ _ rfl (by rfl) (fun W => op_str_len W (Pl.pS l) rfl rfl Try.underlying9) ?_
        simp only [n1, n3, n4]
        refine @wpG_p _ _ _ _ _ (some 45) (.bool false) _ _ rfl (by rfl) (fun W => by go_simp) ?_
        simp only [n1, n3, n4]
        refine @wpG_p _ _ _ _ _ (some 46) (.bool false) _ _ rfl (by rfl) (fun W => by go_simp) ?_
        simp only [n1, n3, n4]
        refine @wpG_p _ _ _ _ _ (some 47) (.bool false) _ _ rfl (by rfl) (fun _ => rfl) ?_
        simp only [n1, n3, n4]
        refine @wpG_p _ _ _ _ _ (some 48) (.slice D1 mm1 dc1) _ _ rfl (by rfl) (fun _ => rfl) ?_
        simp only [n1, n3, n4]
        refine @wpG_p _ _ _ _ _ (some 49) (.slice A n c) _ _ rfl (by rfl) (fun _ => rfl) ?_
        simp only [n1, n3, n4]
        refine @wpG_tk _ _ _ _ _ (some 50) (.bool true) _ _ rfl (.call (f := 15) (args := #[.slice D1 mm1 dc1, .slice A n c]) (by rfl) (fun W => by go_simp) (fun W hg => ((same_any _ _ _ l _ _ _ l W (SL.ofOwn ((S37.out.gr hg).ownr 0 rfl)) (HGA.out.gr (S37.out.gr hg).bel)).mono (fun e w' h => ⟨h.1.trans (by rw [decide_eq_true rfl]), h.2⟩)))) ?_
        simp only [n1, n3, n4]
        refine @wpG_p _ _ _ _ _ (some 51) (.bool false) _ _ rfl (by rfl) (fun W => by first | (go_simp; done) | (cases true <;> rfl)) ?_
        simp only [n1, n3, n4]
        refine @wpG_p _ _ _ _ _ (some 52) (.bool false) _ _ rfl (by rfl) (fun W => by go_simp) ?_
        simp only [n1, n3, n4]
        refine wpG_done (fun V38 hv39 => ?_)
        have S40 : Hid (St w noB [own (.slice D1 mm1 dc1) 3 1 mm1 (ic l)] V38) := Lib.hid (S37.out.gr hv39)
        clear S37
        clear hv39
        refine ⟨rfl, hK _ _ ?_⟩
        clear hK
        go_upto_region 8 with fail
        refine wpG_region_k (fun K hK => ?_)
        refine @wpG_p _ _ _ _ _ (some 54) (.string (bstr x)) _ _ rfl (by rfl) (fun _ => rfl) ?_
        simp only [n1, n3, n4]
        refine wpG_call (some 55) 13 #[.string (bstr x)] rfl (by rfl) (fun W => by go_simp) (fun W44 hg45 => ?_)
        refine (unpack_any x W44 (by omega)).mono ?_
        rintro e w46 ⟨D41, mm42, dc43, rfl, hS_⟩
        refine ⟨_, rfl, ?_⟩
        have hT_ := (S40.out.gr hg45).got hS_
        simp only [n1, n3, n4]
        have S47 : Hid (St w noB [own (.slice D41 mm42 dc43) 3 1 mm42 (ic ((Pl.un x).1)), own (.slice D1 mm1 dc1) 3 1 mm1 (ic l)] w46) := Lib.hid hT_
        clear S40
        clear hT_ hS_ hg45
        have hlmm42 : Hid (mm42 = ((Pl.un x).1).length) := Lib.hid (own_icl (S47.out.ownr 0 rfl))
        refine @wpG_p _ _ _ _ _ (some 53) (.tuple #[.slice D41 mm42 dc43, .int .i64 ((Pl.un x).2.1 : Int), .int .i64 ((Pl.un x).2.2 : Int)]) _ _ rfl (by rfl) (fun _ => rfl) ?_
        simp only [n1, n3, n4]
        refine @wpG_p _ _ _ _ _ (some 56) (.slice D41 mm42 dc43) _ _ rfl (by rfl) (fun W => by go_simp) ?_
        simp only [n1, n3, n4]
        refine @wpG_p _ _ _ _ _ (some 57) (.int .i64 ((Pl.un x).2.1 : Int)) _ _ rfl (by rfl) (fun W => by go_simp) ?_
        simp only [n1, n3, n4]
        refine @wpG_p _ _ _ _ _ (some 58) (.int .i64 ((Pl.un x).2.2 : Int)) _ _ rfl (by rfl) (fun W => by go_simp) ?_
        simp only [n1, n3, n4]
        refine @wpG_p _ _ _ _ _ (some 10) (.slice D41 mm42 dc43) _ _ rfl (by rfl) (fun _ => rfl) ?_
        simp only [n1, n3, n4]
        refine @wpG_p _ _ _ _ _ (some 11) (.int .i64 ((Pl.un x).2.1 : Int)) _ _ rfl (by rfl) (fun _ => rfl) ?_
        simp only [n1, n3, n4]
        refine @wpG_p _ _ _ _ _ (some 12) (.int .i64 ((Pl.un x).2.2 : Int)) _ _ rfl (by rfl) (fun _ => rfl) ?_
        simp only [n1, n3, n4]
        refine wpG_done (fun V48 hv49 => ?_)
        have S50 : Hid (St w noB [own (.slice D41 mm42 dc43) 3 1 mm42 (ic ((Pl.un x).1)), own (.slice D1 mm1 dc1) 3 1 mm1 (ic l)] V48) := Lib.hid (S47.out.gr hv49)
        clear S47
        clear hv49
        refine ⟨rfl, hK _ _ ?_⟩
        clear hK
        go_upto_region 9 with fail
        refine wpG_region_k (fun K hK => ?_)
        refine @wpG_p _ _ _ _ _ (some 59) (.int .i64 ((Pl.un x).2.2 : Int)) _ _ rfl (by rfl) (fun _ => rfl) ?_
        simp only [n1, n3, n4]
        refine @wpG_p _ _ _ _ _ (some 60) (.bool (decide (((Pl.un x).2.2 : Int) ≠ 0))) _ _ rfl (by rfl) (fun W => op_int_neq W ((Pl.un x).2.2 : Int) 0 rfl rfl rfl Try.underlying24) ?_
        simp only [n1, n3, n4]
        refine wpG_done (fun V51 hv52 => ?_)
        have S53 : Hid (St w noB [own (.slice D41 mm42 dc43) 3 1 mm42 (ic ((Pl.un x).1)), own (.slice D1 mm1 dc1) 3 1 mm1 (ic l)] V51) := Lib.hid (S50.out.gr hv52)
        clear S50
        clear hv52
        refine ⟨rfl, hK _ _ ?_⟩
        clear hK
        obtain ⟨c54, hc54⟩ : ∃ q_, q_ = (decide (((Pl.un x).2.2 : Int) ≠ 0)) := ⟨_, rfl⟩
        rw [← hc54]
        have Hc54 := Lib.hid hc54
        clear hc54
        cases c54 with
        | true =>
          have f55 := of_decide_eq_true Hc54.out.symm
          go_upto_region 10 with fail
          refine wpG_region_k (fun K hK => ?_)
          have hue_ : mm42 ≤ 0 ∧ (Pl.un x).2.1 ≤ 0 := by have e_f30 := f30.out; have h1_ := hlmm42.out; obtain ⟨h2_, h3_⟩ := Pl.un_e (x := x) (by omega); rw [h2_] at h1_; simp at h1_; omega
          refine @wpG_tk _ _ _ _ _ (some 61) (.bool true) _ _ rfl (.call (f := 10) (args := #[]) (by rfl) (fun W => by go_simp) (fun W hg => sanity_any W)) ?_
          simp only [n1, n3, n4]
          refine @wpG_p _ _ _ _ _ (some 62) (.bool true) _ _ rfl (by rfl) (fun _ => rfl) ?_
          simp only [n1, n3, n4]
          refine @wpG_p _ _ _ _ _ (some 63) (.slice D41 mm42 dc43) _ _ rfl (by rfl) (fun _ => rfl) ?_
          simp only [n1, n3, n4]
          refine @wpG_p _ _ _ _ _ (some 64) (.int .i64 (mm42 : Int)) _ _ rfl (by rfl) (fun W => by go_simp) ?_
          simp only [n1, n3, n4]
          refine @wpG_p _ _ _ _ _ (some 65) (.bool true) _ _ rfl (by rfl) (fun W => by have hq : ((mm42 : Int) = 0) := (by omega); first | (go_simp; done) | (go_simp <;> omega)) ?_
          simp only [n1, n3, n4]
          refine @wpG_p _ _ _ _ _ (some 66) (.bool true) _ _ rfl (by rfl) (fun W => by go_simp) ?_
          simp only [n1, n3, n4]
          refine @wpG_p _ _ _ _ _ (some 67) (.bool true) _ _ rfl (by rfl) (fun _ => rfl) ?_
          simp only [n1, n3, n4]
          refine @wpG_p _ _ _ _ _ (some 68) (.int .i64 ((Pl.un x).2.1 : Int)) _ _ rfl (by rfl) (fun _ => rfl) ?_
          simp only [n1, n3, n4]
          refine @wpG_p _ _ _ _ _ (some 69) (.bool true) _ _ rfl (by rfl) (fun W => by have hq : (((Pl.un x).2.1 : Int) = 0) := (by omega); first | (go_simp; done) | (go_simp <;> omega)) ?_
          simp only [n1, n3, n4]
          refine @wpG_p _ _ _ _ _ (some 70) (.bool true) _ _ rfl (by rfl) (fun W => by go_simp) ?_
          simp only [n1, n3, n4]
          refine @wpG_p _ _ _ _ _ (some 4) (.bool true) _ _ rfl (by rfl) (fun _ => rfl) ?_
          simp only [n1, n3, n4]
          refine wpG_done (fun V56 hv57 => ?_)
          have S58 : Hid (St w noB [own (.slice D41 mm42 dc43) 3 1 mm42 (ic ((Pl.un x).1)), own (.slice D1 mm1 dc1) 3 1 mm1 (ic l)] V56) := Lib.hid (S53.out.gr hv57)
          clear S53
          clear hv57
          refine ⟨rfl, hK _ _ ?_⟩
          clear hK
          go_wp2_with fail
          go_ret
          refine ⟨?_, S58.out.bel⟩
          show Ending.returned (.bool true) = _
          (first | rfl | (have e_f30 := f30.out; rfl))
        | false =>
          have f59 := Lib.hid (Decidable.not_not.1 (of_decide_eq_false Hc54.out.symm))
          have f59a := Int.le_of_eq f59.out
          have f59b := Int.le_of_eq f59.out.symm
          go_upto_region 11 with fail
          refine wpG_region_k (fun K hK => ?_)
          have hu0_ : (Pl.un x).2.2 = 0 := by have e_f30 := f30.out; have e_f59 := f59.out; omega
          have HU0 := Lib.hid hu0_
          obtain ⟨hk1_, _, hk3_, hk4_, _⟩ := Pl.pk_un hu0_
          have hmm_ : mm42 ≤ 64 := by have h1_ := hlmm42.out; omega
          clear hu0_
          refine @wpG_p _ _ _ _ _ (some 71) (.int .i64 ((Pl.un x).2.1 : Int)) _ _ rfl (by rfl) (fun _ => rfl) ?_
          simp only [n1, n3, n4]
          refine @wpG_p _ _ _ _ _ (some 72) (.bool false) _ _ rfl (by rfl) (fun W => by have hq : ¬ (((Pl.un x).2.1 : Int) < 1) := (by omega); first | (go_simp; done) | (go_simp <;> omega)) ?_
          simp only [n1, n3, n4]
          refine @wpG_p _ _ _ _ _ (some 73) (.bool false) _ _ rfl (by rfl) (fun _ => rfl) ?_
          simp only [n1, n3, n4]
          refine @wpG_p _ _ _ _ _ (some 74) (.int .i64 ((Pl.un x).2.1 : Int)) _ _ rfl (by rfl) (fun _ => rfl) ?_
          simp only [n1, n3, n4]
          refine @wpG_p _ _ _ _ _ (some 75) (.string (bstr x)) _ _ rfl (by rfl) (fun _ => rfl) ?_
          simp only [n1, n3, n4]
          refine @wpG_p _ _ _ _ _ (some 76) (.int .i64 (x.length : Int)) _ _ rfl (by rfl) (fun W => op_str_len W x rfl rfl Try.underlying9) ?_
          simp only [n1, n3, n4]
          refine @wpG_p _ _ _ _ _ (some 77) (.bool false) _ _ rfl (by rfl) (fun W => by have hq : ¬ (((Pl.un x).2.1 : Int) > (x.length : Int)) := (by omega); first | (go_simp; done) | (go_simp <;> omega)) ?_
          simp only [n1, n3, n4]
          refine @wpG_p _ _ _ _ _ (some 78) (.bool false) _ _ rfl (by rfl) (fun W => by go_simp) ?_
          simp only [n1, n3, n4]
          refine wpG_done (fun V60 hv61 => ?_)
          have S62 : Hid (St w noB [own (.slice D41 mm42 dc43) 3 1 mm42 (ic ((Pl.un x).1)), own (.slice D1 mm1 dc1) 3 1 mm1 (ic l)] V60) := Lib.hid (S53.out.gr hv61)
          clear S53
          clear hv61
          refine ⟨rfl, hK _ _ ?_⟩
          clear hK
          go_upto_region 13 with fail
          refine wpG_region_k (fun K hK => ?_)
          refine @wpG_p _ _ _ _ _ (some 80) (.slice D41 mm42 dc43) _ _ rfl (by rfl) (fun _ => rfl) ?_
          simp only [n1, n3, n4]
          refine @wpG_tk _ _ _ _ _ (some 81) (.tuple #[.string (bstr (x.take (Pl.un x).2.1)), .int .i64 0]) _ _ rfl (.call (f := 11) (args := #[.slice D41 mm42 dc43]) (by rfl) (fun W => by go_simp) (fun W hg => ((pack_any _ _ _ ((Pl.un x).1) W (SL.ofOwn ((S62.out.gr hg).ownr 0 rfl)) (by omega)).mono (fun e w' h => ⟨h.1.trans (by rw [(Pl.pS_un HU0.out).1, (Pl.pS_un HU0.out).2]), h.2⟩)))) ?_
          simp only [n1, n3, n4]
          refine @wpG_p _ _ _ _ _ (some 79) (.tuple #[.string (bstr (x.take (Pl.un x).2.1)), .int .i64 0]) _ _ rfl (by rfl) (fun _ => rfl) ?_
          simp only [n1, n3, n4]
          refine @wpG_p _ _ _ _ _ (some 82) (.string (bstr (x.take (Pl.un x).2.1))) _ _ rfl (by rfl) (fun W => by go_simp) ?_
          simp only [n1, n3, n4]
          refine @wpG_p _ _ _ _ _ (some 83) (.int .i64 0) _ _ rfl (by rfl) (fun W => by go_simp) ?_
          simp only [n1, n3, n4]
          refine @wpG_p _ _ _ _ _ (some 13) (.string (bstr (x.take (Pl.un x).2.1))) _ _ rfl (by rfl) (fun _ => rfl) ?_
          simp only [n1, n3, n4]
          refine @wpG_p _ _ _ _ _ (some 14) (.int .i64 0) _ _ rfl (by rfl) (fun _ => rfl) ?_
          simp only [n1, n3, n4]
          refine wpG_done (fun V63 hv64 => ?_)
          have S65 : Hid (St w noB [own (.slice D41 mm42 dc43) 3 1 mm42 (ic ((Pl.un x).1)), own (.slice D1 mm1 dc1) 3 1 mm1 (ic l)] V63) := Lib.hid (S62.out.gr hv64)
          clear S62
          clear hv64
          refine ⟨rfl, hK _ _ ?_⟩
          clear hK
          go_upto_region 14 with fail
          refine wpG_region_k (fun K hK => ?_)
          refine @wpG_tk _ _ _ _ _ (some 84) (.bool true) _ _ rfl (.call (f := 10) (args := #[]) (by rfl) (fun W => by go_simp) (fun W hg => sanity_any W)) ?_
          simp only [n1, n3, n4]
          refine @wpG_p _ _ _ _ _ (some 85) (.bool true) _ _ rfl (by rfl) (fun _ => rfl) ?_
          simp only [n1, n3, n4]
          refine @wpG_p _ _ _ _ _ (some 86) (.int .i64 0) _ _ rfl (by rfl) (fun _ => rfl) ?_
          simp only [n1, n3, n4]
          refine @wpG_p _ _ _ _ _ (some 87) (.bool true) _ _ rfl (by rfl) (fun W => by go_simp) ?_
          simp only [n1, n3, n4]
          refine @wpG_p _ _ _ _ _ (some 88) (.bool true) _ _ rfl (by rfl) (fun W => by go_simp) ?_
          simp only [n1, n3, n4]
          refine @wpG_p _ _ _ _ _ (some 89) (.bool true) _ _ rfl (by rfl) (fun _ => rfl) ?_
          simp only [n1, n3, n4]
          refine @wpG_p _ _ _ _ _ (some 90) (.string (bstr (x.take (Pl.un x).2.1))) _ _ rfl (by rfl) (fun _ => rfl) ?_
          simp only [n1, n3, n4]
          refine @wpG_p _ _ _ _ _ (some 91) (.string (bstr x)) _ _ rfl (by rfl) (fun _ => rfl) ?_
          simp only [n1, n3, n4]
          refine @wpG_p _ _ _ _ _ (some 92) (.int .i64 ((Pl.un x).2.1 : Int)) _ _ rfl (by rfl) (fun _ => rfl) ?_
          simp only [n1, n3, n4]
          refine @wpG_p _ _ _ _ _ (some 93) (.string (bstr (x.take (Pl.un x).2.1))) _ _ rfl (by rfl) (fun W => op_str_upto W x (Pl.un x).2.1 (by omega) rfl rfl rfl Try.underlying9) ?_
          simp only [n1, n3, n4]
          refine @wpG_p _ _ _ _ _ (some 94) (.bool true) _ _ rfl (by rfl) (fun W => op_str_same W (x.take (Pl.un x).2.1) rfl rfl rfl Try.underlying9) ?_
          simp only [n1, n3, n4]
          refine @wpG_p _ _ _ _ _ (some 95) (.bool true) _ _ rfl (by rfl) (fun W => by go_simp) ?_
          simp only [n1, n3, n4]
          refine @wpG_p _ _ _ _ _ (some 4) (.bool true) _ _ rfl (by rfl) (fun _ => rfl) ?_
          simp only [n1, n3, n4]
          refine wpG_done (fun V66 hv67 => ?_)
          have S68 : Hid (St w noB [own (.slice D41 mm42 dc43) 3 1 mm42 (ic ((Pl.un x).1)), own (.slice D1 mm1 dc1) 3 1 mm1 (ic l)] V66) := Lib.hid (S65.out.gr hv67)
          clear S65
          clear hv67
          refine ⟨rfl, hK _ _ ?_⟩
          clear hK
          go_wp2_with fail
          go_ret
          refine ⟨?_, S68.out.bel⟩
          show Ending.returned (.bool true) = _
          (first | rfl | (have e_f30 := f30.out; have e_f59 := f59.out; rfl))
      | false =>
        have f69 := of_decide_eq_false Hc29.out.symm
        go_upto_region 8 with fail
        refine wpG_region_k (fun K hK => ?_)
        refine @wpG_p _ _ _ _ _ (some 54) (.string (bstr x)) _ _ rfl (by rfl) (fun _ => rfl) ?_
        simp only [n1, n3, n4]
        refine wpG_call (some 55) 13 #[.string (bstr x)] rfl (by rfl) (fun W => by go_simp) (fun W73 hg74 => ?_)
        refine (unpack_any x W73 (by omega)).mono ?_
        rintro e w75 ⟨D70, mm71, dc72, rfl, hS_⟩
        refine ⟨_, rfl, ?_⟩
        have hT_ := (S28.out.gr hg74).got hS_
        simp only [n1, n3, n4]
        have S76 : Hid (St w noB [own (.slice D70 mm71 dc72) 3 1 mm71 (ic ((Pl.un x).1))] w75) := Lib.hid hT_
        clear S28
        clear hT_ hS_ hg74
        have hlmm71 : Hid (mm71 = ((Pl.un x).1).length) := Lib.hid (own_icl (S76.out.ownr 0 rfl))
        refine @wpG_p _ _ _ _ _ (some 53) (.tuple #[.slice D70 mm71 dc72, .int .i64 ((Pl.un x).2.1 : Int), .int .i64 ((Pl.un x).2.2 : Int)]) _ _ rfl (by rfl) (fun _ => rfl) ?_
        simp only [n1, n3, n4]
        refine @wpG_p _ _ _ _ _ (some 56) (.slice D70 mm71 dc72) _ _ rfl (by rfl) (fun W => by go_simp) ?_
        simp only [n1, n3, n4]
        refine @wpG_p _ _ _ _ _ (some 57) (.int .i64 ((Pl.un x).2.1 : Int)) _ _ rfl (by rfl) (fun W => by go_simp) ?_
        simp only [n1, n3, n4]
        refine @wpG_p _ _ _ _ _ (some 58) (.int .i64 ((Pl.un x).2.2 : Int)) _ _ rfl (by rfl) (fun W => by go_simp) ?_
        simp only [n1, n3, n4]
        refine @wpG_p _ _ _ _ _ (some 10) (.slice D70 mm71 dc72) _ _ rfl (by rfl) (fun _ => rfl) ?_
        simp only [n1, n3, n4]
        refine @wpG_p _ _ _ _ _ (some 11) (.int .i64 ((Pl.un x).2.1 : Int)) _ _ rfl (by rfl) (fun _ => rfl) ?_
        simp only [n1, n3, n4]
        refine @wpG_p _ _ _ _ _ (some 12) (.int .i64 ((Pl.un x).2.2 : Int)) _ _ rfl (by rfl) (fun _ => rfl) ?_
        simp only [n1, n3, n4]
        refine wpG_done (fun V77 hv78 => ?_)
        have S79 : Hid (St w noB [own (.slice D70 mm71 dc72) 3 1 mm71 (ic ((Pl.un x).1))] V77) := Lib.hid (S76.out.gr hv78)
        clear S76
        clear hv78
        refine ⟨rfl, hK _ _ ?_⟩
        clear hK
        go_upto_region 9 with fail
        refine wpG_region_k (fun K hK => ?_)
        refine @wpG_p _ _ _ _ _ (some 59) (.int .i64 ((Pl.un x).2.2 : Int)) _ _ rfl (by rfl) (fun _ => rfl) ?_
        simp only [n1, n3, n4]
        refine @wpG_p _ _ _ _ _ (some 60) (.bool (decide (((Pl.un x).2.2 : Int) ≠ 0))) _ _ rfl (by rfl) (fun W => op_int_neq W ((Pl.un x).2.2 : Int) 0 rfl rfl rfl Try.underlying24) ?_
        simp only [n1, n3, n4]
        refine wpG_done (fun V80 hv81 => ?_)
        have S82 : Hid (St w noB [own (.slice D70 mm71 dc72) 3 1 mm71 (ic ((Pl.un x).1))] V80) := Lib.hid (S79.out.gr hv81)
        clear S79
        clear hv81
        refine ⟨rfl, hK _ _ ?_⟩
        clear hK
        obtain ⟨c83, hc83⟩ : ∃ q_, q_ = (decide (((Pl.un x).2.2 : Int) ≠ 0)) := ⟨_, rfl⟩
        rw [← hc83]
        have Hc83 := Lib.hid hc83
        clear hc83
        cases c83 with
        | true =>
          have f84 := of_decide_eq_true Hc83.out.symm
          go_upto_region 10 with fail
          refine wpG_region_k (fun K hK => ?_)
          have hue_ : mm71 ≤ 0 ∧ (Pl.un x).2.1 ≤ 0 := by have h1_ := hlmm71.out; obtain ⟨h2_, h3_⟩ := Pl.un_e (x := x) (by omega); rw [h2_] at h1_; simp at h1_; omega
          refine @wpG_tk _ _ _ _ _ (some 61) (.bool true) _ _ rfl (.call (f := 10) (args := #[]) (by rfl) (fun W => by go_simp) (fun W hg => sanity_any W)) ?_
          simp only [n1, n3, n4]
          refine @wpG_p _ _ _ _ _ (some 62) (.bool true) _ _ rfl (by rfl) (fun _ => rfl) ?_
          simp only [n1, n3, n4]
          refine @wpG_p _ _ _ _ _ (some 63) (.slice D70 mm71 dc72) _ _ rfl (by rfl) (fun _ => rfl) ?_
          simp only [n1, n3, n4]
          refine @wpG_p _ _ _ _ _ (some 64) (.int .i64 (mm71 : Int)) _ _ rfl (by rfl) (fun W => by go_simp) ?_
          simp only [n1, n3, n4]
          refine @wpG_p _ _ _ _ _ (some 65) (.bool true) _ _ rfl (by rfl) (fun W => by have hq : ((mm71 : Int) = 0) := (by omega); first | (go_simp; done) | (go_simp <;> omega)) ?_
          simp only [n1, n3, n4]
          refine @wpG_p _ _ _ _ _ (some 66) (.bool true) _ _ rfl (by rfl) (fun W => by go_simp) ?_
          simp only [n1, n3, n4]
          refine @wpG_p _ _ _ _ _ (some 67) (.bool true) _ _ rfl (by rfl) (fun _ => rfl) ?_
          simp only [n1, n3, n4]
          refine @wpG_p _ _ _ _ _ (some 68) (.int .i64 ((Pl.un x).2.1 : Int)) _ _ rfl (by rfl) (fun _ => rfl) ?_
          simp only [n1, n3, n4]
          refine @wpG_p _ _ _ _ _ (some 69) (.bool true) _ _ rfl (by rfl) (fun W => by have hq : (((Pl.un x).2.1 : Int) = 0) := (by omega); first | (go_simp; done) | (go_simp <;> omega)) ?_
          simp only [n1, n3, n4]
          refine @wpG_p _ _ _ _ _ (some 70) (.bool true) _ _ rfl (by rfl) (fun W => by go_simp) ?_
          simp only [n1, n3, n4]
          refine @wpG_p _ _ _ _ _ (some 4) (.bool true) _ _ rfl (by rfl) (fun _ => rfl) ?_
          simp only [n1, n3, n4]
          refine wpG_done (fun V85 hv86 => ?_)
          have S87 : Hid (St w noB [own (.slice D70 mm71 dc72) 3 1 mm71 (ic ((Pl.un x).1))] V85) := Lib.hid (S82.out.gr hv86)
          clear S82
          clear hv86
          refine ⟨rfl, hK _ _ ?_⟩
          clear hK
          go_wp2_with fail
          go_ret
          refine ⟨?_, S87.out.bel⟩
          show Ending.returned (.bool true) = _
          (first | rfl | (rfl))
        | false =>
          have f88 := Lib.hid (Decidable.not_not.1 (of_decide_eq_false Hc83.out.symm))
          have f88a := Int.le_of_eq f88.out
          have f88b := Int.le_of_eq f88.out.symm
          go_upto_region 11 with fail
          refine wpG_region_k (fun K hK => ?_)
          have hu0_ : (Pl.un x).2.2 = 0 := by have e_f88 := f88.out; omega
          have HU0 := Lib.hid hu0_
          obtain ⟨hk1_, _, hk3_, hk4_, _⟩ := Pl.pk_un hu0_
          have hmm_ : mm71 ≤ 64 := by have h1_ := hlmm71.out; omega
          clear hu0_
          refine @wpG_p _ _ _ _ _ (some 71) (.int .i64 ((Pl.un x).2.1 : Int)) _ _ rfl (by rfl) (fun _ => rfl) ?_
          simp only [n1, n3, n4]
          refine @wpG_p _ _ _ _ _ (some 72) (.bool false) _ _ rfl (by rfl) (fun W => by have hq : ¬ (((Pl.un x).2.1 : Int) < 1) := (by omega); first | (go_simp; done) | (go_simp <;> omega)) ?_
          simp only [n1, n3, n4]
          refine @wpG_p _ _ _ _ _ (some 73) (.bool false) _ _ rfl (by rfl) (fun _ => rfl) ?_
          simp only [n1, n3, n4]
          refine @wpG_p _ _ _ _ _ (some 74) (.int .i64 ((Pl.un x).2.1 : Int)) _ _ rfl (by rfl) (fun _ => rfl) ?_
          simp only [n1, n3, n4]
          refine @wpG_p _ _ _ _ _ (some 75) (.string (bstr x)) _ _ rfl (by rfl) (fun _ => rfl) ?_
          simp only [n1, n3, n4]
          refine @wpG_p _ _ _ _ _ (some 76) (.int .i64 (x.length : Int)) _ _ rfl (by rfl) (fun W => op_str_len W x rfl rfl Try.underlying9) ?_
          simp only [n1, n3, n4]
          refine @wpG_p _ _ _ _ _ (some 77) (.bool false) _ _ rfl (by rfl) (fun W => by have hq : ¬ (((Pl.un x).2.1 : Int) > (x.length : Int)) := (by omega); first | (go_simp; done) | (go_simp <;> omega)) ?_
          simp only [n1, n3, n4]
          refine @wpG_p _ _ _ _ _ (some 78) (.bool false) _ _ rfl (by rfl) (fun W => by go_simp) ?_
          simp only [n1, n3, n4]
          refine wpG_done (fun V89 hv90 => ?_)
          have S91 : Hid (St w noB [own (.slice D70 mm71 dc72) 3 1 mm71 (ic ((Pl.un x).1))] V89) := Lib.hid (S82.out.gr hv90)
          clear S82
          clear hv90
          refine ⟨rfl, hK _ _ ?_⟩
          clear hK
          go_upto_region 13 with fail
          refine wpG_region_k (fun K hK => ?_)
          refine @wpG_p _ _ _ _ _ (some 80) (.slice D70 mm71 dc72) _ _ rfl (by rfl) (fun _ => rfl) ?_
          simp only [n1, n3, n4]
          refine @wpG_tk _ _ _ _ _ (some 81) (.tuple #[.string (bstr (x.take (Pl.un x).2.1)), .int .i64 0]) _ _ rfl (.call (f := 11) (args := #[.slice D70 mm71 dc72]) (by rfl) (fun W => by go_simp) (fun W hg => ((pack_any _ _ _ ((Pl.un x).1) W (SL.ofOwn ((S91.out.gr hg).ownr 0 rfl)) (by omega)).mono (fun e w' h => ⟨h.1.trans (by rw [(Pl.pS_un HU0.out).1, (Pl.pS_un HU0.out).2]), h.2⟩)))) ?_
          simp only [n1, n3, n4]
          refine @wpG_p _ _ _ _ _ (some 79) (.tuple #[.string (bstr (x.take (Pl.un x).2.1)), .int .i64 0]) _ _ rfl (by rfl) (fun _ => rfl) ?_
          simp only [n1, n3, n4]
          refine @wpG_p _ _ _ _ _ (some 82) (.string (bstr (x.take (Pl.un x).2.1))) _ _ rfl (by rfl) (fun W => by go_simp) ?_
          simp only [n1, n3, n4]
          refine @wpG_p _ _ _ _ _ (some 83) (.int .i64 0) _ _ rfl (by rfl) (fun W => by go_simp) ?_
          simp only [n1, n3, n4]
          refine @wpG_p _ _ _ _ _ (some 13) (.string (bstr (x.take (Pl.un x).2.1))) _ _ rfl (by rfl) (fun _ => rfl) ?_
          simp only [n1, n3, n4]
          refine @wpG_p _ _ _ _ _ (some 14) (.int .i64 0) _ _ rfl (by rfl) (fun _ => rfl) ?_
          simp only [n1, n3, n4]
          refine wpG_done (fun V92 hv93 => ?_)
          have S94 : Hid (St w noB [own (.slice D70 mm71 dc72) 3 1 mm71 (ic ((Pl.un x).1))] V92) := Lib.hid (S91.out.gr hv93)
          clear S91
          clear hv93
          refine ⟨rfl, hK _ _ ?_⟩
          clear hK
          go_upto_region 14 with fail
          refine wpG_region_k (fun K hK => ?_)
          refine @wpG_tk _ _ _ _ _ (some 84) (.bool true) _ _ rfl (.call (f := 10) (args := #[]) (by rfl) (fun W => by go_simp) (fun W hg => sanity_any W)) ?_
          simp only [n1, n3, n4]
          refine @wpG_p _ _ _ _ _ (some 85) (.bool true) _ _ rfl (by rfl) (fun _ => rfl) ?_
          simp only [n1, n3, n4]
          refine @wpG_p _ _ _ _ _ (some 86) (.int .i64 0) _ _ rfl (by rfl) (fun _ => rfl) ?_
          simp only [n1, n3, n4]
          refine @wpG_p _ _ _ _ _ (some 87) (.bool true) _ _ rfl (by rfl) (fun W => by go_simp) ?_
          simp only [n1, n3, n4]
          refine @wpG_p _ _ _ _ _ (some 88) (.bool true) _ _ rfl (by rfl) (fun W => by go_simp) ?_
          simp only [n1, n3, n4]
          refine @wpG_p _ _ _ _ _ (some 89) (.bool true) _ _ rfl (by rfl) (fun _ => rfl) ?_
          simp only [n1, n3, n4]
          refine @wpG_p _ _ _ _ _ (some 90) (.string (bstr (x.take (Pl.un x).2.1))) _ _ rfl (by rfl) (fun _ => rfl) ?_
          simp only [n1, n3, n4]
          refine @wpG_p _ _ _ _ _ (some 91) (.string (bstr x)) _ _ rfl (by rfl) (fun _ => rfl) ?_
          simp only [n1, n3, n4]
          refine @wpG_p _ _ _ _ _ (some 92) (.int .i64 ((Pl.un x).2.1 : Int)) _ _ rfl (by rfl) (fun _ => rfl) ?_
          simp only [n1, n3, n4]
          refine @wpG_p _ _ _ _ _ (some 93) (.string (bstr (x.take (Pl.un x).2.1))) _ _ rfl (by rfl) (fun W => op_str_upto W x (Pl.un x).2.1 (by omega) rfl rfl rfl Try.underlying9) ?_
          simp only [n1, n3, n4]
          refine @wpG_p _ _ _ _ _ (some 94) (.bool true) _ _ rfl (by rfl) (fun W => op_str_same W (x.take (Pl.un x).2.1) rfl rfl rfl Try.underlying9) ?_
          simp only [n1, n3, n4]
          refine @wpG_p _ _ _ _ _ (some 95) (.bool true) _ _ rfl (by rfl) (fun W => by go_simp) ?_
          simp only [n1, n3, n4]
          refine @wpG_p _ _ _ _ _ (some 4) (.bool true) _ _ rfl (by rfl) (fun _ => rfl) ?_
          simp only [n1, n3, n4]
          refine wpG_done (fun V95 hv96 => ?_)
          have S97 : Hid (St w noB [own (.slice D70 mm71 dc72) 3 1 mm71 (ic ((Pl.un x).1))] V95) := Lib.hid (S94.out.gr hv96)
          clear S94
          clear hv96
          refine ⟨rfl, hK _ _ ?_⟩
          clear hK
          go_wp2_with fail
          go_ret
          refine ⟨?_, S97.out.bel⟩
          show Ending.returned (.bool true) = _
          (first | rfl | (have e_f88 := f88.out; rfl))

end Go.Proofs.Ytfomieekdbkcnaa
