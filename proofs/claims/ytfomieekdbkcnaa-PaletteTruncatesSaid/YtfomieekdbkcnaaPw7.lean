/-
  PaletteTruncates: the walk.
-/
import Derived.Test.YtfomieekdbkcnaaPm1
import Derived.Test.YtfomieekdbkcnaaPw0
import Derived.Handy
namespace Go.Proofs.Ytfomieekdbkcnaa
open Go Go.RowKit
set_option linter.unusedVariables false
set_option linter.unusedSimpArgs false
set_option maxRecDepth 1000000 in
set_option maxHeartbeats 4000000 in
theorem law_pw7 (A : Option Addr) (n c : Nat) (l : List Int) (t : Nat) (w : World) (hG : SL w 1 A n c (ic l)) (ht : t < 256) :
    Calls Try.prog 9 #[.slice A n c, .int .u8 (t : Int)] w fun e w' => e = .returned (.bool true) ∧ Below w.heap.size w w' := by
  have HGA := Lib.hid hG
  have HLEN : Hid (l.length = n) := Lib.hid (by have h_ := hG.len; rw [ic_len] at h_; omega)
  have hnbHGA : n ≤ 9223372036854775807 := Nat.le_trans hG.cap hG.bnd
  clear hG
  have ht2_ := ht
  clear ht
  have S1 : Hid (St w noB [] w) := Lib.hid (St.start w)
  go_enter Try.func9, Try.ntmps9
  go_upto_region 0 with fail
  refine wpG_region_k (fun K hK => ?_)
  refine @wpG_p _ _ _ _ _ (some 4) (.bool false) _ _ rfl (by rfl) (fun _ => rfl) ?_
  simp only [n1, n3, n4]
  refine wpG_done (fun V2 hv3 => ?_)
  have S4 : Hid (St w noB [] V2) := Lib.hid (S1.out.gr hv3)
  clear S1
  clear hv3
  refine ⟨rfl, hK _ _ ?_⟩
  clear hK
  go_upto_region 1 with fail
  refine wpG_region_k (fun K hK => ?_)
  refine @wpG_p _ _ _ _ _ (some 11) (.slice A n c) _ _ rfl (by rfl) (fun _ => rfl) ?_
  simp only [n1, n3, n4]
  refine @wpG_p _ _ _ _ _ (some 12) (.int .i64 (n : Int)) _ _ rfl (by rfl) (fun W => by go_simp) ?_
  simp only [n1, n3, n4]
  refine @wpG_p _ _ _ _ _ (some 13) (.bool (decide ((n : Int) > 64))) _ _ rfl (by rfl) (fun W => op_int_gtr W (n : Int) 64 rfl rfl rfl Try.underlying3) ?_
  simp only [n1, n3, n4]
  refine wpG_done (fun V5 hv6 => ?_)
  have S7 : Hid (St w noB [] V5) := Lib.hid (S4.out.gr hv6)
  clear S4
  clear hv6
  refine ⟨rfl, hK _ _ ?_⟩
  clear hK
  obtain ⟨c8, hc8⟩ : ∃ q_, q_ = (decide ((n : Int) > 64)) := ⟨_, rfl⟩
  rw [← hc8]
  have Hc8 := Lib.hid hc8
  clear hc8
  cases c8 with
  | true =>
    have f9 := of_decide_eq_true Hc8.out.symm
    go_upto_region 2 with fail
    refine wpG_region_k (fun K hK => ?_)
    refine @wpG_tk _ _ _ _ _ (some 14) (.bool true) _ _ rfl (.call (f := 10) (args := #[]) (by rfl) (fun W => by go_simp) (fun W hg => sanity_any W)) ?_
    simp only [n1, n3, n4]
    refine @wpG_p _ _ _ _ _ (some 4) (.bool true) _ _ rfl (by rfl) (fun _ => rfl) ?_
    simp only [n1, n3, n4]
    refine wpG_done (fun V10 hv11 => ?_)
    have S12 : Hid (St w noB [] V10) := Lib.hid (S7.out.gr hv11)
    clear S7
    clear hv11
    refine ⟨rfl, hK _ _ ?_⟩
    clear hK
    go_wp2_with fail
    go_ret
    refine ⟨?_, S12.out.bel⟩
    show Ending.returned (.bool true) = _
    (first | rfl | (rfl))
  | false =>
    have f13 := of_decide_eq_false Hc8.out.symm
    go_upto_region 3 with fail
    refine wpG_region_k (fun K hK => ?_)
    refine @wpG_p _ _ _ _ _ (some 16) (.slice A n c) _ _ rfl (by rfl) (fun _ => rfl) ?_
    simp only [n1, n3, n4]
    refine @wpG_tk _ _ _ _ _ (some 17) (.tuple #[.string (bstr (Pl.pS l)), .int .i64 (Pl.pE l)]) _ _ rfl (.call (f := 11) (args := #[.slice A n c]) (by rfl) (fun W => by go_simp) (fun W hg => pack_any _ _ _ l W (HGA.out.gr (S7.out.gr hg).bel) (by omega))) ?_
    simp only [n1, n3, n4]
    refine @wpG_p _ _ _ _ _ (some 15) (.tuple #[.string (bstr (Pl.pS l)), .int .i64 (Pl.pE l)]) _ _ rfl (by rfl) (fun _ => rfl) ?_
    simp only [n1, n3, n4]
    refine @wpG_p _ _ _ _ _ (some 18) (.string (bstr (Pl.pS l))) _ _ rfl (by rfl) (fun W => by go_simp) ?_
    simp only [n1, n3, n4]
    refine @wpG_p _ _ _ _ _ (some 19) (.int .i64 (Pl.pE l)) _ _ rfl (by rfl) (fun W => by go_simp) ?_
    simp only [n1, n3, n4]
    refine @wpG_p _ _ _ _ _ (some 5) (.string (bstr (Pl.pS l))) _ _ rfl (by rfl) (fun _ => rfl) ?_
    simp only [n1, n3, n4]
    refine @wpG_p _ _ _ _ _ (some 6) (.int .i64 (Pl.pE l)) _ _ rfl (by rfl) (fun _ => rfl) ?_
    simp only [n1, n3, n4]
    refine wpG_done (fun V14 hv15 => ?_)
    have S16 : Hid (St w noB [] V14) := Lib.hid (S7.out.gr hv15)
    clear S7
    clear hv15
    refine ⟨rfl, hK _ _ ?_⟩
    clear hK
    go_upto_region 4 with fail
    refine wpG_region_k (fun K hK => ?_)
    refine @wpG_p _ _ _ _ _ (some 20) (.int .i64 (Pl.pE l)) _ _ rfl (by rfl) (fun _ => rfl) ?_
    simp only [n1, n3, n4]
    refine @wpG_p _ _ _ _ _ (some 21) (.bool (decide (Pl.pE l ≠ 0))) _ _ rfl (by rfl) (fun W => op_int_neq W (Pl.pE l) 0 rfl rfl rfl Try.underlying24) ?_
    simp only [n1, n3, n4]
    refine @wpG_p _ _ _ _ _ (some 22) (.bool (decide (Pl.pE l ≠ 0))) _ _ rfl (by rfl) (fun _ => rfl) ?_
    simp only [n1, n3, n4]
    obtain ⟨c17, hc17⟩ : ∃ q_, q_ = (decide (Pl.pE l ≠ 0)) := ⟨_, rfl⟩
    rw [← hc17]
    have Hc17 := Lib.hid hc17
    clear hc17
    cases c17 with
    | true =>
      have f18 := of_decide_eq_true Hc17.out.symm
      refine @wpG_no _ _ _ _ _ (some 23) _ _ rfl (by rfl) ?_
      simp only [n1, n3, n4]
      refine @wpG_no _ _ _ _ _ (some 24) _ _ rfl (by rfl) ?_
      simp only [n1, n3, n4]
      refine @wpG_no _ _ _ _ _ (some 25) _ _ rfl (by rfl) ?_
      simp only [n1, n3, n4]
      refine @wpG_p _ _ _ _ _ (some 26) (.bool true) _ _ rfl (by rfl) (fun W => by go_simp) ?_
      simp only [n1, n3, n4]
      refine wpG_done (fun V19 hv20 => ?_)
      have S21 : Hid (St w noB [] V19) := Lib.hid (S16.out.gr hv20)
      clear S16
      clear hv20
      refine ⟨rfl, hK _ _ ?_⟩
      clear hK
      go_upto_region 5 with fail
      refine wpG_region_k (fun K hK => ?_)
      have hp1_ : Pl.pE l ≤ 1 ∧ 1 ≤ Pl.pE l := by rcases Pl.pE_cases l with h_ | h_ <;> omega
      refine @wpG_tk _ _ _ _ _ (some 27) (.bool true) _ _ rfl (.call (f := 10) (args := #[]) (by rfl) (fun W => by go_simp) (fun W hg => sanity_any W)) ?_
      simp only [n1, n3, n4]
      refine @wpG_p _ _ _ _ _ (some 28) (.bool true) _ _ rfl (by rfl) (fun _ => rfl) ?_
      simp only [n1, n3, n4]
      refine @wpG_p _ _ _ _ _ (some 29) (.int .i64 (Pl.pE l)) _ _ rfl (by rfl) (fun _ => rfl) ?_
      simp only [n1, n3, n4]
      refine @wpG_p _ _ _ _ _ (some 30) (.bool true) _ _ rfl (by rfl) (fun W => by have hq : (Pl.pE l = 1) := (by omega); first | (go_simp; done) | (go_simp <;> omega)) ?_
      simp only [n1, n3, n4]
      refine @wpG_p _ _ _ _ _ (some 31) (.bool true) _ _ rfl (by rfl) (fun W => by go_simp) ?_
      simp only [n1, n3, n4]
      refine @wpG_p _ _ _ _ _ (some 4) (.bool true) _ _ rfl (by rfl) (fun _ => rfl) ?_
      simp only [n1, n3, n4]
      refine wpG_done (fun V22 hv23 => ?_)
      have S24 : Hid (St w noB [] V22) := Lib.hid (S21.out.gr hv23)
      clear S21
      clear hv23
      refine ⟨rfl, hK _ _ ?_⟩
      clear hK
      go_wp2_with fail
      go_ret
      refine ⟨?_, S24.out.bel⟩
      show Ending.returned (.bool true) = _
      (first | rfl | (rfl))
    | false =>
      have f25 := Lib.hid (Decidable.not_not.1 (of_decide_eq_false Hc17.out.symm))
      have f25a := Int.le_of_eq f25.out
      have f25b := Int.le_of_eq f25.out.symm
      have HPE0 : Hid (Pl.pE l = 0) := Lib.hid (by have h_ := f25.out; omega)
      have hps_ : 0 < (Pl.pS l).length := Pl.pS_pos HPE0.out
      refine @wpG_p _ _ _ _ _ (some 23) (.string (bstr (Pl.pS l))) _ _ rfl (by rfl) (fun _ => rfl) ?_
      simp only [n1, n3, n4]
      refine @wpG_p _ _ _ _ _ (some 24) (.int .i64 ((Pl.pS l).length : Int)) _ _ rfl (by rfl) (fun W => op_str_len W (Pl.pS l) rfl rfl Try.underlying9) ?_
      simp only [n1, n3, n4]
      refine @wpG_p _ _ _ _ _ (some 25) (.bool false) _ _ rfl (by rfl) (fun W => (op_int_eql W ((Pl.pS l).length : Int) 0 rfl rfl rfl Try.underlying3).trans (by rw [decide_eq_false (by omega)])) ?_
      simp only [n1, n3, n4]
      refine @wpG_p _ _ _ _ _ (some 26) (.bool false) _ _ rfl (by rfl) (fun W => by go_simp) ?_
      simp only [n1, n3, n4]
      refine wpG_done (fun V26 hv27 => ?_)
      have S28 : Hid (St w noB [] V26) := Lib.hid (S16.out.gr hv27)
      clear S16
      clear hv27
      refine ⟨rfl, hK _ _ ?_⟩
      clear hK
      go_upto_region 6 with fail
      refine wpG_region_k (fun K hK => ?_)
      refine @wpG_p _ _ _ _ _ (some 32) (.int .u8 (t : Int)) _ _ rfl (by rfl) (fun _ => rfl) ?_
      simp only [n1, n3, n4]
      refine @wpG_p _ _ _ _ _ (some 33) (.int .i64 (t : Int)) _ _ rfl (by rfl) (fun W => op_conv_i64 W (t : Int) (by omega) rfl rfl Try.underlying5 Try.underlying3) ?_
      simp only [n1, n3, n4]
      refine @wpG_p _ _ _ _ _ (some 34) (.string (bstr (Pl.pS l))) _ _ rfl (by rfl) (fun _ => rfl) ?_
      simp only [n1, n3, n4]
      refine @wpG_p _ _ _ _ _ (some 35) (.int .i64 ((Pl.pS l).length : Int)) _ _ rfl (by rfl) (fun W => op_str_len W (Pl.pS l) rfl rfl Try.underlying9) ?_
      simp only [n1, n3, n4]
      obtain ⟨kk, h_kk⟩ : ∃ q_ : Nat, q_ = t % (Pl.pS l).length := ⟨_, rfl⟩
      have hkk_ : kk < (Pl.pS l).length := by rw [h_kk]; exact Nat.mod_lt _ (by omega)
      have Hkk := Lib.hid h_kk
      clear h_kk
      refine @wpG_p _ _ _ _ _ (some 36) (.int .i64 (kk : Int)) _ _ rfl (by rfl) (fun W => op_n_rem t (Pl.pS l).length kk Hkk.out.symm (by omega) rfl rfl rfl) ?_
      simp only [n1, n3, n4]
      refine @wpG_p _ _ _ _ _ (some 7) (.int .i64 (kk : Int)) _ _ rfl (by rfl) (fun _ => rfl) ?_
      simp only [n1, n3, n4]
      refine wpG_done (fun V29 hv30 => ?_)
      have S31 : Hid (St w noB [] V29) := Lib.hid (S28.out.gr hv30)
      clear S28
      clear hv30
      refine ⟨rfl, hK _ _ ?_⟩
      clear hK
      go_upto_region 7 with fail
      refine wpG_region_k (fun K hK => ?_)
      refine @wpG_p _ _ _ _ _ (some 38) (.string (bstr (Pl.pS l))) _ _ rfl (by rfl) (fun _ => rfl) ?_
      simp only [n1, n3, n4]
      refine @wpG_p _ _ _ _ _ (some 39) (.int .i64 (kk : Int)) _ _ rfl (by rfl) (fun _ => rfl) ?_
      simp only [n1, n3, n4]
      refine @wpG_p _ _ _ _ _ (some 40) (.string (bstr ((Pl.pS l).take kk))) _ _ rfl (by rfl) (fun W => op_str_upto W (Pl.pS l) kk (by omega) rfl rfl rfl Try.underlying9) ?_
      simp only [n1, n3, n4]
      refine wpG_call (some 41) 13 #[.string (bstr ((Pl.pS l).take kk))] rfl (by rfl) (fun W => by go_simp) (fun W32 hg33 => ?_)
      refine (unpack_c ((Pl.pS l).take kk) [] 0 5 W32 (by rw [Pl.un_psk HPE0.out hkk_]; exact ⟨rfl, rfl, rfl⟩) (by rw [List.length_take]; have h_ := Pl.pS_len2 l; omega)).mono ?_
      rintro e w34 ⟨D1, mm1, dc1, rfl, hS_⟩
      refine ⟨_, rfl, ?_⟩
      have hT_ := (S31.out.gr hg33).got hS_
      simp only [n1, n3, n4]
      have S35 : Hid (St w noB [own (.slice D1 mm1 dc1) 3 1 mm1 (ic [])] w34) := Lib.hid hT_
      clear S31
      clear hT_ hS_ hg33
      have hm1_ : mm1 ≤ 0 := by have h_ := own_icl (S35.out.ownr 0 rfl); simp at h_; omega
      refine @wpG_p _ _ _ _ _ (some 37) (.tuple #[.slice D1 mm1 dc1, .int .i64 0, .int .i64 5]) _ _ rfl (by rfl) (fun _ => rfl) ?_
      simp only [n1, n3, n4]
      refine @wpG_p _ _ _ _ _ (some 42) (.slice D1 mm1 dc1) _ _ rfl (by rfl) (fun W => by go_simp) ?_
      simp only [n1, n3, n4]
      refine @wpG_p _ _ _ _ _ (some 43) (.int .i64 0) _ _ rfl (by rfl) (fun W => by go_simp) ?_
      simp only [n1, n3, n4]
      refine @wpG_p _ _ _ _ _ (some 44) (.int .i64 5) _ _ rfl (by rfl) (fun W => by go_simp) ?_
      simp only [n1, n3, n4]
      refine @wpG_p _ _ _ _ _ (some 8) (.slice D1 mm1 dc1) _ _ rfl (by rfl) (fun _ => rfl) ?_
      simp only [n1, n3, n4]
      refine @wpG_p _ _ _ _ _ (some 9) (.int .i64 0) _ _ rfl (by rfl) (fun _ => rfl) ?_
      simp only [n1, n3, n4]
      refine @wpG_p _ _ _ _ _ (some 10) (.int .i64 5) _ _ rfl (by rfl) (fun _ => rfl) ?_
      simp only [n1, n3, n4]
      refine wpG_done (fun V36 hv37 => ?_)
      have S38 : Hid (St w noB [own (.slice D1 mm1 dc1) 3 1 mm1 (ic [])] V36) := Lib.hid (S35.out.gr hv37)
      clear S35
      clear hv37
      refine ⟨rfl, hK _ _ ?_⟩
      clear hK
      go_upto_region 8 with fail
      refine wpG_region_k (fun K hK => ?_)
      refine @wpG_tk _ _ _ _ _ (some 45) (.bool true) _ _ rfl (.call (f := 10) (args := #[]) (by rfl) (fun W => by go_simp) (fun W hg => sanity_any W)) ?_
      simp only [n1, n3, n4]
      refine @wpG_p _ _ _ _ _ (some 46) (.bool true) _ _ rfl (by rfl) (fun _ => rfl) ?_
      simp only [n1, n3, n4]
      refine @wpG_p _ _ _ _ _ (some 47) (.int .i64 5) _ _ rfl (by rfl) (fun _ => rfl) ?_
      simp only [n1, n3, n4]
      refine @wpG_p _ _ _ _ _ (some 48) (.bool true) _ _ rfl (by rfl) (fun W => by go_simp) ?_
      simp only [n1, n3, n4]
      refine @wpG_p _ _ _ _ _ (some 49) (.bool true) _ _ rfl (by rfl) (fun W => by go_simp) ?_
      simp only [n1, n3, n4]
      refine @wpG_p _ _ _ _ _ (some 50) (.bool true) _ _ rfl (by rfl) (fun _ => rfl) ?_
      simp only [n1, n3, n4]
      refine @wpG_p _ _ _ _ _ (some 51) (.slice D1 mm1 dc1) _ _ rfl (by rfl) (fun _ => rfl) ?_
      simp only [n1, n3, n4]
      refine @wpG_p _ _ _ _ _ (some 52) (.int .i64 (mm1 : Int)) _ _ rfl (by rfl) (fun W => by go_simp) ?_
      simp only [n1, n3, n4]
      refine @wpG_p _ _ _ _ _ (some 53) (.bool true) _ _ rfl (by rfl) (fun W => by have hq : ((mm1 : Int) = 0) := (by omega); first | (go_simp; done) | (go_simp <;> omega)) ?_
      simp only [n1, n3, n4]
      refine @wpG_p _ _ _ _ _ (some 54) (.bool true) _ _ rfl (by rfl) (fun W => by go_simp) ?_
      simp only [n1, n3, n4]
      refine @wpG_p _ _ _ _ _ (some 55) (.bool true) _ _ rfl (by rfl) (fun _ => rfl) ?_
      simp only [n1, n3, n4]
      refine @wpG_p _ _ _ _ _ (some 56) (.int .i64 0) _ _ rfl (by rfl) (fun _ => rfl) ?_
      simp only [n1, n3, n4]
      refine @wpG_p _ _ _ _ _ (some 57) (.bool true) _ _ rfl (by rfl) (fun W => by go_simp) ?_
      simp only [n1, n3, n4]
      refine @wpG_p _ _ _ _ _ (some 58) (.bool true) _ _ rfl (by rfl) (fun W => by go_simp) ?_
      simp only [n1, n3, n4]
      refine @wpG_p _ _ _ _ _ (some 4) (.bool true) _ _ rfl (by rfl) (fun _ => rfl) ?_
      simp only [n1, n3, n4]
      refine wpG_done (fun V39 hv40 => ?_)
      have S41 : Hid (St w noB [own (.slice D1 mm1 dc1) 3 1 mm1 (ic [])] V39) := Lib.hid (S38.out.gr hv40)
      clear S38
      clear hv40
      refine ⟨rfl, hK _ _ ?_⟩
      clear hK
      go_wp2_with fail
      go_ret
      refine ⟨?_, S41.out.bel⟩
      show Ending.returned (.bool true) = _
      (first | rfl | (have e_f25 := f25.out; rfl))

end Go.Proofs.Ytfomieekdbkcnaa
