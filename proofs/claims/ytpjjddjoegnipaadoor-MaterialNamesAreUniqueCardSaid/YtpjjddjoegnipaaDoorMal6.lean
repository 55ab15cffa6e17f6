/-
  MaterialNamesAreUnique: the walk.
-/
import Derived.Test.YtpjjddjoegnipaaDoorMai
import Derived.Handy
namespace Go.Proofs.YtpjjddjoegnipaaDoor
open Go Go.RowKit
set_option linter.unusedVariables false
set_option linter.unusedSimpArgs false
set_option maxRecDepth 1000000 in
set_option maxHeartbeats 4000000 in
theorem law6 (A : Option Addr) (n c : Nat) (ms : List Ma.Mt) (x : List UInt8) (w : World) (hT : Tbl w A n c ms) (hE : Ev w) :
    Calls Tryd.prog 8 #[.slice A n c, .string (bstr x)] w fun e w' => e = .returned (.bool true) ∧ Below w.heap.size w w' := by
  obtain ⟨q, fb, hq_, hfb_⟩ := Ma.find_form ms x
  have HQ := Lib.hid hq_
  have HFB := Lib.hid hfb_
  clear hq_ hfb_
  have HTA := Lib.hid hT
  have HLEN := Lib.hid hT.len
  have hnb : n ≤ 9223372036854775807 := Nat.le_trans hT.cap hT.bnd
  clear hT
  have HE := Lib.hid hE
  have HK := Lib.hid hE.k
  clear hE
  have S1 : Hid (St w noB [] w) := Lib.hid (St.start w)
  go_enter Tryd.func8, Tryd.ntmps8
  go_upto_region 0 with fail
  refine wpG_region_k (fun K hK => ?_)
  refine @wpG_p _ _ _ _ _ (some 4) (.bool false) _ _ rfl (by rfl) (fun _ => rfl) ?_
  simp only [n1, n3, n4]
  refine wpG_done (fun V2 hv3 => ?_)
  have S4 : Hid (St w noB [] V2) := Lib.hid (S1.out.gr hv3)
  clear S1
  clear hv3
  refine ⟨rfl, hK _ _ ?_⟩
  clear hK
  go_upto_region 1 with fail
  refine wpG_region_k (fun K hK => ?_)
  refine @wpG_tk _ _ _ _ _ (some 13) (.bool true) _ _ rfl (.call (f := 9) (args := #[]) (by rfl) (fun W => by go_simp) (fun W hg => sanity_any W (HE.out.st (S4.out.gr hg) noGlob))) ?_
  simp only [n1, n3, n4]
  refine @wpG_p _ _ _ _ _ (some 5) (.bool true) _ _ rfl (by rfl) (fun _ => rfl) ?_
  simp only [n1, n3, n4]
  refine wpG_done (fun V5 hv6 => ?_)
  have S7 : Hid (St w noB [] V5) := Lib.hid (S4.out.gr hv6)
  clear S4
  clear hv6
  refine ⟨rfl, hK _ _ ?_⟩
  clear hK
  go_upto_region 2 with fail
  refine wpG_region_k (fun K hK => ?_)
  refine @wpG_p _ _ _ _ _ (some 14) (.slice A n c) _ _ rfl (by rfl) (fun _ => rfl) ?_
  simp only [n1, n3, n4]
  refine @wpG_tk _ _ _ _ _ (some 15) (.bool (Ma.few ms)) _ _ rfl (.call (f := 10) (args := #[.slice A n c]) (by rfl) (fun W => by go_simp) (fun W hg => few_any _ _ _ ms W (HTA.out.gr (S7.out.gr hg).bel))) ?_
  simp only [n1, n3, n4]
  refine @wpG_p _ _ _ _ _ (some 16) (.bool (!(Ma.few ms))) _ _ rfl (by rfl) (fun W => by go_simp) ?_
  simp only [n1, n3, n4]
  refine @wpG_p _ _ _ _ _ (some 17) (.bool (!(Ma.few ms))) _ _ rfl (by rfl) (fun _ => rfl) ?_
  simp only [n1, n3, n4]
  obtain ⟨c8, hc8⟩ : ∃ q_, q_ = (!(Ma.few ms)) := ⟨_, rfl⟩
  rw [← hc8]
  have Hc8 := Lib.hid hc8
  clear hc8
  cases c8 with
  | true =>
    have f9 := Lib.hid ((bnt Hc8.out))
    refine @wpG_no _ _ _ _ _ (some 18) _ _ rfl (by rfl) ?_
    simp only [n1, n3, n4]
    refine @wpG_no _ _ _ _ _ (some 19) _ _ rfl (by rfl) ?_
    simp only [n1, n3, n4]
    refine @wpG_no _ _ _ _ _ (some 20) _ _ rfl (by rfl) ?_
    simp only [n1, n3, n4]
    refine @wpG_p _ _ _ _ _ (some 21) (.bool true) _ _ rfl (by rfl) (fun W => by go_simp) ?_
    simp only [n1, n3, n4]
    refine wpG_done (fun V10 hv11 => ?_)
    have S12 : Hid (St w noB [] V10) := Lib.hid (S7.out.gr hv11)
    clear S7
    clear hv11
    refine ⟨rfl, hK _ _ ?_⟩
    clear hK
    go_upto_region 3 with fail
    refine wpG_region_k (fun K hK => ?_)
    refine @wpG_p _ _ _ _ _ (some 22) (.bool true) _ _ rfl (by rfl) (fun _ => rfl) ?_
    simp only [n1, n3, n4]
    refine @wpG_p _ _ _ _ _ (some 4) (.bool true) _ _ rfl (by rfl) (fun _ => rfl) ?_
    simp only [n1, n3, n4]
    refine wpG_done (fun V13 hv14 => ?_)
    have S15 : Hid (St w noB [] V13) := Lib.hid (S12.out.gr hv14)
    clear S12
    clear hv14
    refine ⟨rfl, hK _ _ ?_⟩
    clear hK
    go_wp2_with fail
    go_ret
    refine ⟨?_, S15.out.bel⟩
    show Ending.returned (.bool true) = _
    (first | rfl | (have e_f9 := f9.out; rfl))
  | false =>
    have f16 := Lib.hid ((bnf Hc8.out))
    refine @wpG_p _ _ _ _ _ (some 18) (.string (bstr x)) _ _ rfl (by rfl) (fun _ => rfl) ?_
    simp only [n1, n3, n4]
    refine @wpG_p _ _ _ _ _ (some 19) (.int .i64 (x.length : Int)) _ _ rfl (by rfl) (fun W => op_str_len W x rfl rfl Tryd.underlying9) ?_
    simp only [n1, n3, n4]
    refine @wpG_p _ _ _ _ _ (some 20) (.bool (decide ((x.length : Int) > 100))) _ _ rfl (by rfl) (fun W => op_int_gtr W (x.length : Int) 100 rfl rfl rfl Tryd.underlying3) ?_
    simp only [n1, n3, n4]
    refine @wpG_p _ _ _ _ _ (some 21) (.bool (decide ((x.length : Int) > 100))) _ _ rfl (by rfl) (fun W => by go_simp) ?_
    simp only [n1, n3, n4]
    refine wpG_done (fun V17 hv18 => ?_)
    have S19 : Hid (St w noB [] V17) := Lib.hid (S7.out.gr hv18)
    clear S7
    clear hv18
    refine ⟨rfl, hK _ _ ?_⟩
    clear hK
    obtain ⟨c20, hc20⟩ : ∃ q_, q_ = (decide ((x.length : Int) > 100)) := ⟨_, rfl⟩
    rw [← hc20]
    have Hc20 := Lib.hid hc20
    clear hc20
    cases c20 with
    | true =>
      have f21 := of_decide_eq_true Hc20.out.symm
      go_upto_region 3 with fail
      refine wpG_region_k (fun K hK => ?_)
      refine @wpG_p _ _ _ _ _ (some 22) (.bool true) _ _ rfl (by rfl) (fun _ => rfl) ?_
      simp only [n1, n3, n4]
      refine @wpG_p _ _ _ _ _ (some 4) (.bool true) _ _ rfl (by rfl) (fun _ => rfl) ?_
      simp only [n1, n3, n4]
      refine wpG_done (fun V22 hv23 => ?_)
      have S24 : Hid (St w noB [] V22) := Lib.hid (S19.out.gr hv23)
      clear S19
      clear hv23
      refine ⟨rfl, hK _ _ ?_⟩
      clear hK
      go_wp2_with fail
      go_ret
      refine ⟨?_, S24.out.bel⟩
      show Ending.returned (.bool true) = _
      (first | rfl | (have e_f16 := f16.out; rfl))
    | false =>
      have f25 := of_decide_eq_false Hc20.out.symm
      go_upto_region 4 with fail
      refine wpG_region_k (fun K hK => ?_)
      refine @wpG_p _ _ _ _ _ (some 24) (.slice A n c) _ _ rfl (by rfl) (fun _ => rfl) ?_
      simp only [n1, n3, n4]
      refine @wpG_tk _ _ _ _ _ (some 25) (.tuple #[.int .i64 ((Ma.check ms).1), .int .i64 ((Ma.check ms).2)]) _ _ rfl (.call (f := 11) (args := #[.slice A n c]) (by rfl) (fun W => by go_simp) (fun W hg => check_any _ _ _ ms W (HTA.out.gr (S19.out.gr hg).bel) (HK.out.gr (S19.out.gr hg).bel))) ?_
      simp only [n1, n3, n4]
      refine @wpG_p _ _ _ _ _ (some 23) (.tuple #[.int .i64 ((Ma.check ms).1), .int .i64 ((Ma.check ms).2)]) _ _ rfl (by rfl) (fun _ => rfl) ?_
      simp only [n1, n3, n4]
      refine @wpG_p _ _ _ _ _ (some 26) (.int .i64 ((Ma.check ms).1)) _ _ rfl (by rfl) (fun W => by go_simp) ?_
      simp only [n1, n3, n4]
      refine @wpG_p _ _ _ _ _ (some 27) (.int .i64 ((Ma.check ms).2)) _ _ rfl (by rfl) (fun W => by go_simp) ?_
      simp only [n1, n3, n4]
      refine @wpG_p _ _ _ _ _ (some 6) (.int .i64 ((Ma.check ms).1)) _ _ rfl (by rfl) (fun _ => rfl) ?_
      simp only [n1, n3, n4]
      refine @wpG_p _ _ _ _ _ (some 7) (.int .i64 ((Ma.check ms).2)) _ _ rfl (by rfl) (fun _ => rfl) ?_
      simp only [n1, n3, n4]
      refine wpG_done (fun V26 hv27 => ?_)
      have S28 : Hid (St w noB [] V26) := Lib.hid (S19.out.gr hv27)
      clear S19
      clear hv27
      refine ⟨rfl, hK _ _ ?_⟩
      clear hK
      go_upto_region 5 with fail
      refine wpG_region_k (fun K hK => ?_)
      refine @wpG_p _ _ _ _ _ (some 28) (.int .i64 ((Ma.check ms).2)) _ _ rfl (by rfl) (fun _ => rfl) ?_
      simp only [n1, n3, n4]
      refine @wpG_p _ _ _ _ _ (some 29) (.bool (decide ((Ma.check ms).2 ≠ 0))) _ _ rfl (by rfl) (fun W => op_int_neq W ((Ma.check ms).2) 0 rfl rfl rfl Tryd.underlying25) ?_
      simp only [n1, n3, n4]
      refine wpG_done (fun V29 hv30 => ?_)
      have S31 : Hid (St w noB [] V29) := Lib.hid (S28.out.gr hv30)
      clear S28
      clear hv30
      refine ⟨rfl, hK _ _ ?_⟩
      clear hK
      obtain ⟨c32, hc32⟩ : ∃ q_, q_ = (decide ((Ma.check ms).2 ≠ 0)) := ⟨_, rfl⟩
      rw [← hc32]
      have Hc32 := Lib.hid hc32
      clear hc32
      cases c32 with
      | true =>
        have f33 := of_decide_eq_true Hc32.out.symm
        go_upto_region 6 with fail
        refine wpG_region_k (fun K hK => ?_)
        refine @wpG_p _ _ _ _ _ (some 30) (.bool true) _ _ rfl (by rfl) (fun _ => rfl) ?_
        simp only [n1, n3, n4]
        refine @wpG_p _ _ _ _ _ (some 4) (.bool true) _ _ rfl (by rfl) (fun _ => rfl) ?_
        simp only [n1, n3, n4]
        refine wpG_done (fun V34 hv35 => ?_)
        have S36 : Hid (St w noB [] V34) := Lib.hid (S31.out.gr hv35)
        clear S31
        clear hv35
        refine ⟨rfl, hK _ _ ?_⟩
        clear hK
        go_wp2_with fail
        go_ret
        refine ⟨?_, S36.out.bel⟩
        show Ending.returned (.bool true) = _
        (first | rfl | (have e_f16 := f16.out; rfl))
      | false =>
        have f37 := Lib.hid (Decidable.not_not.1 (of_decide_eq_false Hc32.out.symm))
        have f37a := Int.le_of_eq f37.out
        have f37b := Int.le_of_eq f37.out.symm
        go_upto_region 7 with fail
        refine wpG_region_k (fun K hK => ?_)
        refine @wpG_p _ _ _ _ _ (some 8) (.int .i64 0) _ _ rfl (by rfl) (fun _ => rfl) ?_
        simp only [n1, n3, n4]
        refine wpG_done (fun V38 hv39 => ?_)
        have S40 : Hid (St w noB [] V38) := Lib.hid (S31.out.gr hv39)
        clear S31
        clear hv39
        refine ⟨rfl, hK _ _ ?_⟩
        clear hK
        go_wp2_with fail
        go_loopw [8] (fun v8 wr => ∃ (k : Nat), v8 = .int .i64 (k : Int) ∧ (Ma.check ms).2 = 0 ∧ k ≤ n ∧ 0 < n ∧ St w noB [] wr) (fun i _ => n - (intOf i).toNat)
        case atStart => exact ⟨0, rfl, (by have e_f16 := f16.out; have e_f37 := f37.out; exact e_f37), (Nat.zero_le _), (by have e_f16 := f16.out; have e_f37 := f37.out; have h_ := (Ma.names_0 e_f37).1; have := HLEN.out; omega), S40.out⟩
        case round =>
          obtain ⟨k, rfl, hck_, hkn, hpos, hS⟩ := hrel
          have HCK_ := Lib.hid hck_
          clear hck_
          have SL := Lib.hid hS
          clear S40 hS
          have S41 := SL
          clear SL
          go_upto_region 8 with fail
          refine wpG_region_k (fun K hK => ?_)
          refine @wpG_p _ _ _ _ _ (some 31) (.int .i64 (k : Int)) _ _ rfl (by rfl) (fun _ => rfl) ?_
          simp only [n1, n3, n4]
          refine @wpG_p _ _ _ _ _ (some 32) (.slice A n c) _ _ rfl (by rfl) (fun _ => rfl) ?_
          simp only [n1, n3, n4]
          refine @wpG_p _ _ _ _ _ (some 33) (.int .i64 (n : Int)) _ _ rfl (by rfl) (fun W => by go_simp) ?_
          simp only [n1, n3, n4]
          refine @wpG_p _ _ _ _ _ (some 34) (.bool (decide ((k : Int) < (n : Int)))) _ _ rfl (by rfl) (fun W => op_int_lss W (k : Int) (n : Int) rfl rfl rfl Tryd.underlying3) ?_
          simp only [n1, n3, n4]
          refine wpG_done (fun V42 hv43 => ?_)
          have S44 : Hid (St w noB [] V42) := Lib.hid (S41.out.gr hv43)
          clear S41
          clear hv43
          refine ⟨rfl, hK _ _ ?_⟩
          clear hK
          obtain ⟨c45, hc45⟩ : ∃ q_, q_ = (decide ((k : Int) < (n : Int))) := ⟨_, rfl⟩
          rw [← hc45]
          have Hc45 := Lib.hid hc45
          clear hc45
          cases c45 with
          | true =>
            have f46 := of_decide_eq_true Hc45.out.symm
            go_upto_region 10 with fail
            refine wpG_region_k (fun K hK => ?_)
            refine @wpG_p _ _ _ _ _ (some 38) (.slice A n c) _ _ rfl (by rfl) (fun _ => rfl) ?_
            simp only [n1, n3, n4]
            refine @wpG_p _ _ _ _ _ (some 39) (.slice A n c) _ _ rfl (by rfl) (fun _ => rfl) ?_
            simp only [n1, n3, n4]
            refine @wpG_p _ _ _ _ _ (some 40) (.int .i64 (k : Int)) _ _ rfl (by rfl) (fun _ => rfl) ?_
            simp only [n1, n3, n4]
            obtain ⟨b47, o47, rfl⟩ := HTA.out.addr (by omega)
            refine @wpG_p _ _ _ _ _ (some 41) (.pointer (some ⟨b47, o47 + k * 8, none⟩)) _ _ rfl (by rfl) (fun W => by (go_simp <;> first | rfl | omega | (simp; omega))) ?_
            simp only [n1, n3, n4]
            refine @wpG_p _ _ _ _ _ (some 42) (.pointer (some ⟨b47, o47 + k * 8, none⟩)) _ _ rfl (by rfl) (fun W => by (go_simp <;> first | rfl | omega)) ?_
            simp only [n1, n3, n4]
            refine @wpG_r _ _ _ _ _ (some 43) (.string (bstr ((Ma.tat ms k).n))) _ _ rfl (by rfl) (fun W hg => by have c := (((HTA.out.gr ((S44.out.gr hg)).bel).elem (HTA.out.get (k := k) (by omega)))) 0 _ rfl; (try simp only [Nat.add_zero, Nat.zero_add] at c); go_simp) ?_
            simp only [n1, n3, n4]
            refine @wpG_tk _ _ _ _ _ (some 44) (.tuple #[.int .i64 (k : Int), .bool true]) _ _ rfl (.call (f := 17) (args := #[.slice (some ⟨b47, o47, none⟩) n c, .string (bstr ((Ma.tat ms k).n))]) (by rfl) (fun W => by go_simp) (fun W hg => ((find_any _ _ _ ms ((Ma.tat ms k).n) W (HTA.out.gr (S44.out.gr hg).bel)).mono (fun e w' h => ⟨h.1.trans (by rw [(Ma.names_k HCK_.out (k := k) (by have := HLEN.out; omega)).2.2.2]), h.2⟩)))) ?_
            simp only [n1, n3, n4]
            refine @wpG_p _ _ _ _ _ (some 37) (.tuple #[.int .i64 (k : Int), .bool true]) _ _ rfl (by rfl) (fun _ => rfl) ?_
            simp only [n1, n3, n4]
            refine @wpG_p _ _ _ _ _ (some 45) (.int .i64 (k : Int)) _ _ rfl (by rfl) (fun W => by go_simp) ?_
            simp only [n1, n3, n4]
            refine @wpG_p _ _ _ _ _ (some 46) (.bool true) _ _ rfl (by rfl) (fun W => by go_simp) ?_
            simp only [n1, n3, n4]
            refine @wpG_p _ _ _ _ _ (some 9) (.int .i64 (k : Int)) _ _ rfl (by rfl) (fun _ => rfl) ?_
            simp only [n1, n3, n4]
            refine @wpG_p _ _ _ _ _ (some 10) (.bool true) _ _ rfl (by rfl) (fun _ => rfl) ?_
            simp only [n1, n3, n4]
            refine wpG_done (fun V48 hv49 => ?_)
            have S50 : Hid (St w noB [] V48) := Lib.hid (S44.out.gr hv49)
            clear S44
            clear hv49
            refine ⟨rfl, hK _ _ ?_⟩
            clear hK
            go_upto_region 11 with fail
            refine wpG_region_k (fun K hK => ?_)
            refine @wpG_p _ _ _ _ _ (some 47) (.int .i64 (k : Int)) _ _ rfl (by rfl) (fun _ => rfl) ?_
            simp only [n1, n3, n4]
            refine @wpG_p _ _ _ _ _ (some 48) (.int .i64 (k : Int)) _ _ rfl (by rfl) (fun _ => rfl) ?_
            simp only [n1, n3, n4]
            refine @wpG_p _ _ _ _ _ (some 49) (.bool false) _ _ rfl (by rfl) (fun W => by go_simp) ?_
            simp only [n1, n3, n4]
            refine @wpG_p _ _ _ _ _ (some 50) (.bool false) _ _ rfl (by rfl) (fun _ => rfl) ?_
            simp only [n1, n3, n4]
            refine @wpG_p _ _ _ _ _ (some 51) (.bool true) _ _ rfl (by rfl) (fun _ => rfl) ?_
            simp only [n1, n3, n4]
            refine @wpG_p _ _ _ _ _ (some 52) (.bool false) _ _ rfl (by rfl) (fun W => by first | (go_simp; done) | (cases true <;> rfl)) ?_
            simp only [n1, n3, n4]
            refine @wpG_p _ _ _ _ _ (some 53) (.bool false) _ _ rfl (by rfl) (fun W => by go_simp) ?_
            simp only [n1, n3, n4]
            refine @wpG_p _ _ _ _ _ (some 54) (.bool false) _ _ rfl (by rfl) (fun _ => rfl) ?_
            simp only [n1, n3, n4]
            refine @wpG_p _ _ _ _ _ (some 55) (.slice (some ⟨b47, o47, none⟩) n c) _ _ rfl (by rfl) (fun _ => rfl) ?_
            simp only [n1, n3, n4]
            refine @wpG_p _ _ _ _ _ (some 56) (.int .i64 (k : Int)) _ _ rfl (by rfl) (fun _ => rfl) ?_
            simp only [n1, n3, n4]
            refine @wpG_tk _ _ _ _ _ (some 57) (.bool ((Ma.mat_of ms (k : Int)).s)) _ _ rfl (.call (f := 22) (args := #[.slice (some ⟨b47, o47, none⟩) n c, .int .i64 (k : Int)]) (by rfl) (fun W => by go_simp) (fun W hg => qsolid_any _ _ _ ms (k : Int) W (HTA.out.gr (S50.out.gr hg).bel))) ?_
            simp only [n1, n3, n4]
            refine @wpG_p _ _ _ _ _ (some 58) (.bool ((Ma.mat_of ms (k : Int)).s)) _ _ rfl (by rfl) (fun _ => rfl) ?_
            simp only [n1, n3, n4]
            obtain ⟨c51, hc51⟩ : ∃ q_, q_ = ((Ma.mat_of ms (k : Int)).s) := ⟨_, rfl⟩
            rw [← hc51]
            have Hc51 := Lib.hid hc51
            clear hc51
            cases c51 with
            | true =>
              have f52 := Lib.hid (Hc51.out.symm)
              refine @wpG_p _ _ _ _ _ (some 59) (.slice (some ⟨b47, o47, none⟩) n c) _ _ rfl (by rfl) (fun _ => rfl) ?_
              simp only [n1, n3, n4]
              refine @wpG_p _ _ _ _ _ (some 60) (.int .i64 (k : Int)) _ _ rfl (by rfl) (fun _ => rfl) ?_
              simp only [n1, n3, n4]
              refine @wpG_tk _ _ _ _ _ (some 61) (.bool ((Ma.mat_of ms (k : Int)).l)) _ _ rfl (.call (f := 23) (args := #[.slice (some ⟨b47, o47, none⟩) n c, .int .i64 (k : Int)]) (by rfl) (fun W => by go_simp) (fun W hg => qliquid_any _ _ _ ms (k : Int) W (HTA.out.gr (S50.out.gr hg).bel))) ?_
              simp only [n1, n3, n4]
              refine @wpG_p _ _ _ _ _ (some 62) (.bool ((Ma.mat_of ms (k : Int)).l)) _ _ rfl (by rfl) (fun W => by go_simp) ?_
              simp only [n1, n3, n4]
              refine @wpG_p _ _ _ _ _ (some 63) (.bool ((Ma.mat_of ms (k : Int)).l)) _ _ rfl (by rfl) (fun W => by go_simp) ?_
              simp only [n1, n3, n4]
              refine @wpG_p _ _ _ _ _ (some 64) (.bool ((Ma.mat_of ms (k : Int)).l)) _ _ rfl (by rfl) (fun _ => rfl) ?_
              simp only [n1, n3, n4]
              obtain ⟨c53, hc53⟩ : ∃ q_, q_ = ((Ma.mat_of ms (k : Int)).l) := ⟨_, rfl⟩
              rw [← hc53]
              have Hc53 := Lib.hid hc53
              clear hc53
              cases c53 with
              | true =>
                have f54 := Lib.hid (Hc53.out.symm)
                refine @wpG_no _ _ _ _ _ (some 65) _ _ rfl (by rfl) ?_
                simp only [n1, n3, n4]
                refine @wpG_no _ _ _ _ _ (some 66) _ _ rfl (by rfl) ?_
                simp only [n1, n3, n4]
                refine @wpG_no _ _ _ _ _ (some 67) _ _ rfl (by rfl) ?_
                simp only [n1, n3, n4]
                refine @wpG_no _ _ _ _ _ (some 68) _ _ rfl (by rfl) ?_
                simp only [n1, n3, n4]
                refine @wpG_no _ _ _ _ _ (some 69) _ _ rfl (by rfl) ?_
                simp only [n1, n3, n4]
                refine @wpG_no _ _ _ _ _ (some 70) _ _ rfl (by rfl) ?_
                simp only [n1, n3, n4]
                refine @wpG_no _ _ _ _ _ (some 71) _ _ rfl (by rfl) ?_
                simp only [n1, n3, n4]
                refine @wpG_no _ _ _ _ _ (some 72) _ _ rfl (by rfl) ?_
                simp only [n1, n3, n4]
                refine @wpG_no _ _ _ _ _ (some 73) _ _ rfl (by rfl) ?_
                simp only [n1, n3, n4]
                refine @wpG_p _ _ _ _ _ (some 74) (.bool true) _ _ rfl (by rfl) (fun W => by go_simp) ?_
                simp only [n1, n3, n4]
                refine @wpG_p _ _ _ _ _ (some 75) (.bool true) _ _ rfl (by rfl) (fun _ => rfl) ?_
                simp only [n1, n3, n4]
                refine @wpG_no _ _ _ _ _ (some 76) _ _ rfl (by rfl) ?_
                simp only [n1, n3, n4]
                refine @wpG_no _ _ _ _ _ (some 77) _ _ rfl (by rfl) ?_
                simp only [n1, n3, n4]
                refine @wpG_no _ _ _ _ _ (some 78) _ _ rfl (by rfl) ?_
                simp only [n1, n3, n4]
                refine @wpG_no _ _ _ _ _ (some 79) _ _ rfl (by rfl) ?_
                simp only [n1, n3, n4]
                refine @wpG_p _ _ _ _ _ (some 80) (.bool true) _ _ rfl (by rfl) (fun W => by go_simp) ?_
                simp only [n1, n3, n4]
                refine @wpG_p _ _ _ _ _ (some 81) (.bool true) _ _ rfl (by rfl) (fun _ => rfl) ?_
                simp only [n1, n3, n4]
                refine @wpG_no _ _ _ _ _ (some 82) _ _ rfl (by rfl) ?_
                simp only [n1, n3, n4]
                refine @wpG_no _ _ _ _ _ (some 83) _ _ rfl (by rfl) ?_
                simp only [n1, n3, n4]
                refine @wpG_no _ _ _ _ _ (some 84) _ _ rfl (by rfl) ?_
                simp only [n1, n3, n4]
                refine @wpG_no _ _ _ _ _ (some 85) _ _ rfl (by rfl) ?_
                simp only [n1, n3, n4]
                refine @wpG_p _ _ _ _ _ (some 86) (.bool true) _ _ rfl (by rfl) (fun W => by go_simp) ?_
                simp only [n1, n3, n4]
                refine wpG_done (fun V55 hv56 => ?_)
                have S57 : Hid (St w noB [] V55) := Lib.hid (S50.out.gr hv56)
                clear S50
                clear hv56
                refine ⟨rfl, hK _ _ ?_⟩
                clear hK
                go_upto_region 12 with fail
                refine wpG_region_k (fun K hK => ?_)
                refine @wpG_p _ _ _ _ _ (some 4) (.bool false) _ _ rfl (by rfl) (fun _ => rfl) ?_
                simp only [n1, n3, n4]
                refine wpG_done (fun V58 hv59 => ?_)
                have S60 : Hid (St w noB [] V58) := Lib.hid (S57.out.gr hv59)
                clear S57
                clear hv59
                refine ⟨rfl, hK _ _ ?_⟩
                clear hK
                go_wp2_with fail
                go_ret
                refine ⟨?_, S60.out.bel⟩
                show Ending.returned (.bool false) = _
                (first | rfl | (have e_f16 := f16.out; have e_f37 := f37.out; have e_f52 := f52.out; have e_f54 := f54.out; exfalso; obtain ⟨h1, h2, h3, _⟩ := Ma.names_k HCK_.out (k := k) (by have := HLEN.out; omega); exact h1 ⟨e_f52, e_f54⟩))
              | false =>
                have f61 := Lib.hid (Hc53.out.symm)
                refine @wpG_p _ _ _ _ _ (some 65) (.slice (some ⟨b47, o47, none⟩) n c) _ _ rfl (by rfl) (fun _ => rfl) ?_
                simp only [n1, n3, n4]
                refine @wpG_p _ _ _ _ _ (some 66) (.int .i64 (k : Int)) _ _ rfl (by rfl) (fun _ => rfl) ?_
                simp only [n1, n3, n4]
                refine @wpG_tk _ _ _ _ _ (some 67) (.bool ((Ma.mat_of ms (k : Int)).f)) _ _ rfl (.call (f := 24) (args := #[.slice (some ⟨b47, o47, none⟩) n c, .int .i64 (k : Int)]) (by rfl) (fun W => by go_simp) (fun W hg => qfalling_any _ _ _ ms (k : Int) W (HTA.out.gr (S50.out.gr hg).bel))) ?_
                simp only [n1, n3, n4]
                refine @wpG_p _ _ _ _ _ (some 68) (.bool ((Ma.mat_of ms (k : Int)).f)) _ _ rfl (by rfl) (fun _ => rfl) ?_
                simp only [n1, n3, n4]
                obtain ⟨c62, hc62⟩ : ∃ q_, q_ = ((Ma.mat_of ms (k : Int)).f) := ⟨_, rfl⟩
                rw [← hc62]
                have Hc62 := Lib.hid hc62
                clear hc62
                cases c62 with
                | true =>
                  have f63 := Lib.hid (Hc62.out.symm)
                  refine @wpG_p _ _ _ _ _ (some 69) (.slice (some ⟨b47, o47, none⟩) n c) _ _ rfl (by rfl) (fun _ => rfl) ?_
                  simp only [n1, n3, n4]
                  refine @wpG_p _ _ _ _ _ (some 70) (.int .i64 (k : Int)) _ _ rfl (by rfl) (fun _ => rfl) ?_
                  simp only [n1, n3, n4]
                  refine @wpG_tk _ _ _ _ _ (some 71) (.bool ((Ma.mat_of ms (k : Int)).s)) _ _ rfl (.call (f := 22) (args := #[.slice (some ⟨b47, o47, none⟩) n c, .int .i64 (k : Int)]) (by rfl) (fun W => by go_simp) (fun W hg => qsolid_any _ _ _ ms (k : Int) W (HTA.out.gr (S50.out.gr hg).bel))) ?_
                  simp only [n1, n3, n4]
                  refine @wpG_p _ _ _ _ _ (some 72) (.bool (!((Ma.mat_of ms (k : Int)).s))) _ _ rfl (by rfl) (fun W => by go_simp) ?_
                  simp only [n1, n3, n4]
                  refine @wpG_p _ _ _ _ _ (some 73) (.bool (!((Ma.mat_of ms (k : Int)).s))) _ _ rfl (by rfl) (fun W => by go_simp) ?_
                  simp only [n1, n3, n4]
                  refine @wpG_p _ _ _ _ _ (some 74) (.bool (!((Ma.mat_of ms (k : Int)).s))) _ _ rfl (by rfl) (fun W => by go_simp) ?_
                  simp only [n1, n3, n4]
                  refine @wpG_p _ _ _ _ _ (some 75) (.bool (!((Ma.mat_of ms (k : Int)).s))) _ _ rfl (by rfl) (fun _ => rfl) ?_
                  simp only [n1, n3, n4]
                  obtain ⟨c64, hc64⟩ : ∃ q_, q_ = (!((Ma.mat_of ms (k : Int)).s)) := ⟨_, rfl⟩
                  rw [← hc64]
                  have Hc64 := Lib.hid hc64
                  clear hc64
                  cases c64 with
                  | true =>
                    have f65 := Lib.hid ((bnt Hc64.out))
                    refine @wpG_no _ _ _ _ _ (some 76) _ _ rfl (by rfl) ?_
                    simp only [n1, n3, n4]
                    refine @wpG_no _ _ _ _ _ (some 77) _ _ rfl (by rfl) ?_
                    simp only [n1, n3, n4]
                    refine @wpG_no _ _ _ _ _ (some 78) _ _ rfl (by rfl) ?_
                    simp only [n1, n3, n4]
                    refine @wpG_no _ _ _ _ _ (some 79) _ _ rfl (by rfl) ?_
                    simp only [n1, n3, n4]
                    refine @wpG_p _ _ _ _ _ (some 80) (.bool true) _ _ rfl (by rfl) (fun W => by go_simp) ?_
                    simp only [n1, n3, n4]
                    refine @wpG_p _ _ _ _ _ (some 81) (.bool true) _ _ rfl (by rfl) (fun _ => rfl) ?_
                    simp only [n1, n3, n4]
                    refine @wpG_no _ _ _ _ _ (some 82) _ _ rfl (by rfl) ?_
                    simp only [n1, n3, n4]
                    refine @wpG_no _ _ _ _ _ (some 83) _ _ rfl (by rfl) ?_
                    simp only [n1, n3, n4]
                    refine @wpG_no _ _ _ _ _ (some 84) _ _ rfl (by rfl) ?_
                    simp only [n1, n3, n4]
                    refine @wpG_no _ _ _ _ _ (some 85) _ _ rfl (by rfl) ?_
                    simp only [n1, n3, n4]
                    refine @wpG_p _ _ _ _ _ (some 86) (.bool true) _ _ rfl (by rfl) (fun W => by go_simp) ?_
                    simp only [n1, n3, n4]
                    refine wpG_done (fun V66 hv67 => ?_)
                    have S68 : Hid (St w noB [] V66) := Lib.hid (S50.out.gr hv67)
                    clear S50
                    clear hv67
                    refine ⟨rfl, hK _ _ ?_⟩
                    clear hK
                    go_upto_region 12 with fail
                    refine wpG_region_k (fun K hK => ?_)
                    refine @wpG_p _ _ _ _ _ (some 4) (.bool false) _ _ rfl (by rfl) (fun _ => rfl) ?_
                    simp only [n1, n3, n4]
                    refine wpG_done (fun V69 hv70 => ?_)
                    have S71 : Hid (St w noB [] V69) := Lib.hid (S68.out.gr hv70)
                    clear S68
                    clear hv70
                    refine ⟨rfl, hK _ _ ?_⟩
                    clear hK
                    go_wp2_with fail
                    go_ret
                    refine ⟨?_, S71.out.bel⟩
                    show Ending.returned (.bool false) = _
                    (first | rfl | (have e_f16 := f16.out; have e_f37 := f37.out; have e_f52 := f52.out; have e_f61 := f61.out; have e_f63 := f63.out; have e_f65 := f65.out; exfalso; have a_ := e_f52; have b_ := e_f65; rw [a_] at b_; cases b_))
                  | false =>
                    have f72 := Lib.hid ((bnf Hc64.out))
                    refine @wpG_p _ _ _ _ _ (some 76) (.slice (some ⟨b47, o47, none⟩) n c) _ _ rfl (by rfl) (fun _ => rfl) ?_
                    simp only [n1, n3, n4]
                    refine @wpG_p _ _ _ _ _ (some 77) (.int .i64 (k : Int)) _ _ rfl (by rfl) (fun _ => rfl) ?_
                    simp only [n1, n3, n4]
                    refine @wpG_tk _ _ _ _ _ (some 78) (.int .i64 ((Ma.mat_of ms (k : Int)).fd)) _ _ rfl (.call (f := 25) (args := #[.slice (some ⟨b47, o47, none⟩) n c, .int .i64 (k : Int)]) (by rfl) (fun W => by go_simp) (fun W hg => qfade_any _ _ _ ms (k : Int) W (HTA.out.gr (S50.out.gr hg).bel))) ?_
                    simp only [n1, n3, n4]
                    refine @wpG_p _ _ _ _ _ (some 79) (.bool (decide ((Ma.mat_of ms (k : Int)).fd < 1))) _ _ rfl (by rfl) (fun W => op_int_lss W ((Ma.mat_of ms (k : Int)).fd) 1 rfl rfl rfl Tryd.underlying3) ?_
                    simp only [n1, n3, n4]
                    refine @wpG_p _ _ _ _ _ (some 80) (.bool (decide ((Ma.mat_of ms (k : Int)).fd < 1))) _ _ rfl (by rfl) (fun W => by go_simp) ?_
                    simp only [n1, n3, n4]
                    refine @wpG_p _ _ _ _ _ (some 81) (.bool (decide ((Ma.mat_of ms (k : Int)).fd < 1))) _ _ rfl (by rfl) (fun _ => rfl) ?_
                    simp only [n1, n3, n4]
                    obtain ⟨c73, hc73⟩ : ∃ q_, q_ = (decide ((Ma.mat_of ms (k : Int)).fd < 1)) := ⟨_, rfl⟩
                    rw [← hc73]
                    have Hc73 := Lib.hid hc73
                    clear hc73
                    cases c73 with
                    | true =>
                      have f74 := of_decide_eq_true Hc73.out.symm
                      refine @wpG_no _ _ _ _ _ (some 82) _ _ rfl (by rfl) ?_
                      simp only [n1, n3, n4]
                      refine @wpG_no _ _ _ _ _ (some 83) _ _ rfl (by rfl) ?_
                      simp only [n1, n3, n4]
                      refine @wpG_no _ _ _ _ _ (some 84) _ _ rfl (by rfl) ?_
                      simp only [n1, n3, n4]
                      refine @wpG_no _ _ _ _ _ (some 85) _ _ rfl (by rfl) ?_
                      simp only [n1, n3, n4]
                      refine @wpG_p _ _ _ _ _ (some 86) (.bool true) _ _ rfl (by rfl) (fun W => by go_simp) ?_
                      simp only [n1, n3, n4]
                      refine wpG_done (fun V75 hv76 => ?_)
                      have S77 : Hid (St w noB [] V75) := Lib.hid (S50.out.gr hv76)
                      clear S50
                      clear hv76
                      refine ⟨rfl, hK _ _ ?_⟩
                      clear hK
                      go_upto_region 12 with fail
                      refine wpG_region_k (fun K hK => ?_)
                      refine @wpG_p _ _ _ _ _ (some 4) (.bool false) _ _ rfl (by rfl) (fun _ => rfl) ?_
                      simp only [n1, n3, n4]
                      refine wpG_done (fun V78 hv79 => ?_)
                      have S80 : Hid (St w noB [] V78) := Lib.hid (S77.out.gr hv79)
                      clear S77
                      clear hv79
                      refine ⟨rfl, hK _ _ ?_⟩
                      clear hK
                      go_wp2_with fail
                      go_ret
                      refine ⟨?_, S80.out.bel⟩
                      show Ending.returned (.bool false) = _
                      (first | rfl | (have e_f16 := f16.out; have e_f37 := f37.out; have e_f52 := f52.out; have e_f61 := f61.out; have e_f63 := f63.out; have e_f72 := f72.out; exfalso; obtain ⟨h1, h2, h3, _⟩ := Ma.names_k HCK_.out (k := k) (by have := HLEN.out; omega); omega))
                    | false =>
                      have f81 := of_decide_eq_false Hc73.out.symm
                      refine @wpG_p _ _ _ _ _ (some 82) (.slice (some ⟨b47, o47, none⟩) n c) _ _ rfl (by rfl) (fun _ => rfl) ?_
                      simp only [n1, n3, n4]
                      refine @wpG_p _ _ _ _ _ (some 83) (.int .i64 (k : Int)) _ _ rfl (by rfl) (fun _ => rfl) ?_
                      simp only [n1, n3, n4]
                      refine @wpG_tk _ _ _ _ _ (some 84) (.int .i64 ((Ma.mat_of ms (k : Int)).fd)) _ _ rfl (.call (f := 25) (args := #[.slice (some ⟨b47, o47, none⟩) n c, .int .i64 (k : Int)]) (by rfl) (fun W => by go_simp) (fun W hg => qfade_any _ _ _ ms (k : Int) W (HTA.out.gr (S50.out.gr hg).bel))) ?_
                      simp only [n1, n3, n4]
                      refine @wpG_p _ _ _ _ _ (some 85) (.bool (decide ((Ma.mat_of ms (k : Int)).fd > 16))) _ _ rfl (by rfl) (fun W => op_int_gtr W ((Ma.mat_of ms (k : Int)).fd) 16 rfl rfl rfl Tryd.underlying3) ?_
                      simp only [n1, n3, n4]
                      refine @wpG_p _ _ _ _ _ (some 86) (.bool (decide ((Ma.mat_of ms (k : Int)).fd > 16))) _ _ rfl (by rfl) (fun W => by go_simp) ?_
                      simp only [n1, n3, n4]
                      refine wpG_done (fun V82 hv83 => ?_)
                      have S84 : Hid (St w noB [] V82) := Lib.hid (S50.out.gr hv83)
                      clear S50
                      clear hv83
                      refine ⟨rfl, hK _ _ ?_⟩
                      clear hK
                      obtain ⟨c85, hc85⟩ : ∃ q_, q_ = (decide ((Ma.mat_of ms (k : Int)).fd > 16)) := ⟨_, rfl⟩
                      rw [← hc85]
                      have Hc85 := Lib.hid hc85
                      clear hc85
                      cases c85 with
                      | true =>
                        have f86 := of_decide_eq_true Hc85.out.symm
                        go_upto_region 12 with fail
                        refine wpG_region_k (fun K hK => ?_)
                        refine @wpG_p _ _ _ _ _ (some 4) (.bool false) _ _ rfl (by rfl) (fun _ => rfl) ?_
                        simp only [n1, n3, n4]
                        refine wpG_done (fun V87 hv88 => ?_)
                        have S89 : Hid (St w noB [] V87) := Lib.hid (S84.out.gr hv88)
                        clear S84
                        clear hv88
                        refine ⟨rfl, hK _ _ ?_⟩
                        clear hK
                        go_wp2_with fail
                        go_ret
                        refine ⟨?_, S89.out.bel⟩
                        show Ending.returned (.bool false) = _
                        (first | rfl | (have e_f16 := f16.out; have e_f37 := f37.out; have e_f52 := f52.out; have e_f61 := f61.out; have e_f63 := f63.out; have e_f72 := f72.out; exfalso; obtain ⟨h1, h2, h3, _⟩ := Ma.names_k HCK_.out (k := k) (by have := HLEN.out; omega); omega))
                      | false =>
                        have f90 := of_decide_eq_false Hc85.out.symm
                        go_upto_region 9 with fail
                        refine wpG_region_k (fun K hK => ?_)
                        refine @wpG_p _ _ _ _ _ (some 35) (.int .i64 (k : Int)) _ _ rfl (by rfl) (fun _ => rfl) ?_
                        simp only [n1, n3, n4]
                        refine @wpG_p _ _ _ _ _ (some 36) (.int .i64 ((k : Int) + 1)) _ _ rfl (by rfl) (fun W => op_i_add W (k : Int) 1 (by omega) rfl rfl rfl Tryd.underlying3) ?_
                        simp only [n1, n3, n4]
                        refine @wpG_p _ _ _ _ _ (some 8) (.int .i64 ((k : Int) + 1)) _ _ rfl (by rfl) (fun _ => rfl) ?_
                        simp only [n1, n3, n4]
                        refine wpG_done (fun V91 hv92 => ?_)
                        have S93 : Hid (St w noB [] V91) := Lib.hid (S84.out.gr hv92)
                        clear S84
                        clear hv92
                        refine ⟨rfl, hK _ _ ?_⟩
                        clear hK
                        go_wp2_with fail
                        go_roundw
                        case rel => exact ⟨k + 1, (by first | rfl | go_num), HCK_.out, (by omega), hpos, S93.out⟩
                        case measure => first | (simp only [intOf]; omega) | (simp [intOf]; done) | (simp [intOf]; omega) | omega
                | false =>
                  have f94 := Lib.hid (Hc62.out.symm)
                  refine @wpG_no _ _ _ _ _ (some 69) _ _ rfl (by rfl) ?_
                  simp only [n1, n3, n4]
                  refine @wpG_no _ _ _ _ _ (some 70) _ _ rfl (by rfl) ?_
                  simp only [n1, n3, n4]
                  refine @wpG_no _ _ _ _ _ (some 71) _ _ rfl (by rfl) ?_
                  simp only [n1, n3, n4]
                  refine @wpG_no _ _ _ _ _ (some 72) _ _ rfl (by rfl) ?_
                  simp only [n1, n3, n4]
                  refine @wpG_p _ _ _ _ _ (some 73) (.bool false) _ _ rfl (by rfl) (fun W => by go_simp) ?_
                  simp only [n1, n3, n4]
                  refine @wpG_p _ _ _ _ _ (some 74) (.bool false) _ _ rfl (by rfl) (fun W => by go_simp) ?_
                  simp only [n1, n3, n4]
                  refine @wpG_p _ _ _ _ _ (some 75) (.bool false) _ _ rfl (by rfl) (fun _ => rfl) ?_
                  simp only [n1, n3, n4]
                  refine @wpG_p _ _ _ _ _ (some 76) (.slice (some ⟨b47, o47, none⟩) n c) _ _ rfl (by rfl) (fun _ => rfl) ?_
                  simp only [n1, n3, n4]
                  refine @wpG_p _ _ _ _ _ (some 77) (.int .i64 (k : Int)) _ _ rfl (by rfl) (fun _ => rfl) ?_
                  simp only [n1, n3, n4]
                  refine @wpG_tk _ _ _ _ _ (some 78) (.int .i64 ((Ma.mat_of ms (k : Int)).fd)) _ _ rfl (.call (f := 25) (args := #[.slice (some ⟨b47, o47, none⟩) n c, .int .i64 (k : Int)]) (by rfl) (fun W => by go_simp) (fun W hg => qfade_any _ _ _ ms (k : Int) W (HTA.out.gr (S50.out.gr hg).bel))) ?_
                  simp only [n1, n3, n4]
                  refine @wpG_p _ _ _ _ _ (some 79) (.bool (decide ((Ma.mat_of ms (k : Int)).fd < 1))) _ _ rfl (by rfl) (fun W => op_int_lss W ((Ma.mat_of ms (k : Int)).fd) 1 rfl rfl rfl Tryd.underlying3) ?_
                  simp only [n1, n3, n4]
                  refine @wpG_p _ _ _ _ _ (some 80) (.bool (decide ((Ma.mat_of ms (k : Int)).fd < 1))) _ _ rfl (by rfl) (fun W => by go_simp) ?_
                  simp only [n1, n3, n4]
                  refine @wpG_p _ _ _ _ _ (some 81) (.bool (decide ((Ma.mat_of ms (k : Int)).fd < 1))) _ _ rfl (by rfl) (fun _ => rfl) ?_
                  simp only [n1, n3, n4]
                  obtain ⟨c95, hc95⟩ : ∃ q_, q_ = (decide ((Ma.mat_of ms (k : Int)).fd < 1)) := ⟨_, rfl⟩
                  rw [← hc95]
                  have Hc95 := Lib.hid hc95
                  clear hc95
                  cases c95 with
                  | true =>
                    have f96 := of_decide_eq_true Hc95.out.symm
                    refine @wpG_no _ _ _ _ _ (some 82) _ _ rfl (by rfl) ?_
                    simp only [n1, n3, n4]
                    refine @wpG_no _ _ _ _ _ (some 83) _ _ rfl (by rfl) ?_
                    simp only [n1, n3, n4]
                    refine @wpG_no _ _ _ _ _ (some 84) _ _ rfl (by rfl) ?_
                    simp only [n1, n3, n4]
                    refine @wpG_no _ _ _ _ _ (some 85) _ _ rfl (by rfl) ?_
                    simp only [n1, n3, n4]
                    refine @wpG_p _ _ _ _ _ (some 86) (.bool true) _ _ rfl (by rfl) (fun W => by go_simp) ?_
                    simp only [n1, n3, n4]
                    refine wpG_done (fun V97 hv98 => ?_)
                    have S99 : Hid (St w noB [] V97) := Lib.hid (S50.out.gr hv98)
                    clear S50
                    clear hv98
                    refine ⟨rfl, hK _ _ ?_⟩
                    clear hK
                    go_upto_region 12 with fail
                    refine wpG_region_k (fun K hK => ?_)
                    refine @wpG_p _ _ _ _ _ (some 4) (.bool false) _ _ rfl (by rfl) (fun _ => rfl) ?_
                    simp only [n1, n3, n4]
                    refine wpG_done (fun V100 hv101 => ?_)
                    have S102 : Hid (St w noB [] V100) := Lib.hid (S99.out.gr hv101)
                    clear S99
                    clear hv101
                    refine ⟨rfl, hK _ _ ?_⟩
                    clear hK
                    go_wp2_with fail
                    go_ret
                    refine ⟨?_, S102.out.bel⟩
                    show Ending.returned (.bool false) = _
                    (first | rfl | (have e_f16 := f16.out; have e_f37 := f37.out; have e_f52 := f52.out; have e_f61 := f61.out; have e_f94 := f94.out; exfalso; obtain ⟨h1, h2, h3, _⟩ := Ma.names_k HCK_.out (k := k) (by have := HLEN.out; omega); omega))
                  | false =>
                    have f103 := of_decide_eq_false Hc95.out.symm
                    refine @wpG_p _ _ _ _ _ (some 82) (.slice (some ⟨b47, o47, none⟩) n c) _ _ rfl (by rfl) (fun _ => rfl) ?_
                    simp only [n1, n3, n4]
                    refine @wpG_p _ _ _ _ _ (some 83) (.int .i64 (k : Int)) _ _ rfl (by rfl) (fun _ => rfl) ?_
                    simp only [n1, n3, n4]
                    refine @wpG_tk _ _ _ _ _ (some 84) (.int .i64 ((Ma.mat_of ms (k : Int)).fd)) _ _ rfl (.call (f := 25) (args := #[.slice (some ⟨b47, o47, none⟩) n c, .int .i64 (k : Int)]) (by rfl) (fun W => by go_simp) (fun W hg => qfade_any _ _ _ ms (k : Int) W (HTA.out.gr (S50.out.gr hg).bel))) ?_
                    simp only [n1, n3, n4]
                    refine @wpG_p _ _ _ _ _ (some 85) (.bool (decide ((Ma.mat_of ms (k : Int)).fd > 16))) _ _ rfl (by rfl) (fun W => op_int_gtr W ((Ma.mat_of ms (k : Int)).fd) 16 rfl rfl rfl Tryd.underlying3) ?_
                    simp only [n1, n3, n4]
                    refine @wpG_p _ _ _ _ _ (some 86) (.bool (decide ((Ma.mat_of ms (k : Int)).fd > 16))) _ _ rfl (by rfl) (fun W => by go_simp) ?_
                    simp only [n1, n3, n4]
                    refine wpG_done (fun V104 hv105 => ?_)
                    have S106 : Hid (St w noB [] V104) := Lib.hid (S50.out.gr hv105)
                    clear S50
                    clear hv105
                    refine ⟨rfl, hK _ _ ?_⟩
                    clear hK
                    obtain ⟨c107, hc107⟩ : ∃ q_, q_ = (decide ((Ma.mat_of ms (k : Int)).fd > 16)) := ⟨_, rfl⟩
                    rw [← hc107]
                    have Hc107 := Lib.hid hc107
                    clear hc107
                    cases c107 with
                    | true =>
                      have f108 := of_decide_eq_true Hc107.out.symm
                      go_upto_region 12 with fail
                      refine wpG_region_k (fun K hK => ?_)
                      refine @wpG_p _ _ _ _ _ (some 4) (.bool false) _ _ rfl (by rfl) (fun _ => rfl) ?_
                      simp only [n1, n3, n4]
                      refine wpG_done (fun V109 hv110 => ?_)
                      have S111 : Hid (St w noB [] V109) := Lib.hid (S106.out.gr hv110)
                      clear S106
                      clear hv110
                      refine ⟨rfl, hK _ _ ?_⟩
                      clear hK
                      go_wp2_with fail
                      go_ret
                      refine ⟨?_, S111.out.bel⟩
                      show Ending.returned (.bool false) = _
                      (first | rfl | (have e_f16 := f16.out; have e_f37 := f37.out; have e_f52 := f52.out; have e_f61 := f61.out; have e_f94 := f94.out; exfalso; obtain ⟨h1, h2, h3, _⟩ := Ma.names_k HCK_.out (k := k) (by have := HLEN.out; omega); omega))
                    | false =>
                      have f112 := of_decide_eq_false Hc107.out.symm
                      go_upto_region 9 with fail
                      refine wpG_region_k (fun K hK => ?_)
                      refine @wpG_p _ _ _ _ _ (some 35) (.int .i64 (k : Int)) _ _ rfl (by rfl) (fun _ => rfl) ?_
                      simp only [n1, n3, n4]
                      refine @wpG_p _ _ _ _ _ (some 36) (.int .i64 ((k : Int) + 1)) _ _ rfl (by rfl) (fun W => op_i_add W (k : Int) 1 (by omega) rfl rfl rfl Tryd.underlying3) ?_
                      simp only [n1, n3, n4]
                      refine @wpG_p _ _ _ _ _ (some 8) (.int .i64 ((k : Int) + 1)) _ _ rfl (by rfl) (fun _ => rfl) ?_
                      simp only [n1, n3, n4]
                      refine wpG_done (fun V113 hv114 => ?_)
                      have S115 : Hid (St w noB [] V113) := Lib.hid (S106.out.gr hv114)
                      clear S106
                      clear hv114
                      refine ⟨rfl, hK _ _ ?_⟩
                      clear hK
                      go_wp2_with fail
                      go_roundw
                      case rel => exact ⟨k + 1, (by first | rfl | go_num), HCK_.out, (by omega), hpos, S115.out⟩
                      case measure => first | (simp only [intOf]; omega) | (simp [intOf]; done) | (simp [intOf]; omega) | omega
            | false =>
              have f116 := Lib.hid (Hc51.out.symm)
              refine @wpG_no _ _ _ _ _ (some 59) _ _ rfl (by rfl) ?_
              simp only [n1, n3, n4]
              refine @wpG_no _ _ _ _ _ (some 60) _ _ rfl (by rfl) ?_
              simp only [n1, n3, n4]
              refine @wpG_no _ _ _ _ _ (some 61) _ _ rfl (by rfl) ?_
              simp only [n1, n3, n4]
              refine @wpG_p _ _ _ _ _ (some 62) (.bool false) _ _ rfl (by rfl) (fun W => by go_simp) ?_
              simp only [n1, n3, n4]
              refine @wpG_p _ _ _ _ _ (some 63) (.bool false) _ _ rfl (by rfl) (fun W => by go_simp) ?_
              simp only [n1, n3, n4]
              refine @wpG_p _ _ _ _ _ (some 64) (.bool false) _ _ rfl (by rfl) (fun _ => rfl) ?_
              simp only [n1, n3, n4]
              refine @wpG_p _ _ _ _ _ (some 65) (.slice (some ⟨b47, o47, none⟩) n c) _ _ rfl (by rfl) (fun _ => rfl) ?_
              simp only [n1, n3, n4]
              refine @wpG_p _ _ _ _ _ (some 66) (.int .i64 (k : Int)) _ _ rfl (by rfl) (fun _ => rfl) ?_
              simp only [n1, n3, n4]
              refine @wpG_tk _ _ _ _ _ (some 67) (.bool ((Ma.mat_of ms (k : Int)).f)) _ _ rfl (.call (f := 24) (args := #[.slice (some ⟨b47, o47, none⟩) n c, .int .i64 (k : Int)]) (by rfl) (fun W => by go_simp) (fun W hg => qfalling_any _ _ _ ms (k : Int) W (HTA.out.gr (S50.out.gr hg).bel))) ?_
              simp only [n1, n3, n4]
              refine @wpG_p _ _ _ _ _ (some 68) (.bool ((Ma.mat_of ms (k : Int)).f)) _ _ rfl (by rfl) (fun _ => rfl) ?_
              simp only [n1, n3, n4]
              obtain ⟨c117, hc117⟩ : ∃ q_, q_ = ((Ma.mat_of ms (k : Int)).f) := ⟨_, rfl⟩
              rw [← hc117]
              have Hc117 := Lib.hid hc117
              clear hc117
              cases c117 with
              | true =>
                have f118 := Lib.hid (Hc117.out.symm)
                refine @wpG_p _ _ _ _ _ (some 69) (.slice (some ⟨b47, o47, none⟩) n c) _ _ rfl (by rfl) (fun _ => rfl) ?_
                simp only [n1, n3, n4]
                refine @wpG_p _ _ _ _ _ (some 70) (.int .i64 (k : Int)) _ _ rfl (by rfl) (fun _ => rfl) ?_
                simp only [n1, n3, n4]
                refine @wpG_tk _ _ _ _ _ (some 71) (.bool ((Ma.mat_of ms (k : Int)).s)) _ _ rfl (.call (f := 22) (args := #[.slice (some ⟨b47, o47, none⟩) n c, .int .i64 (k : Int)]) (by rfl) (fun W => by go_simp) (fun W hg => qsolid_any _ _ _ ms (k : Int) W (HTA.out.gr (S50.out.gr hg).bel))) ?_
                simp only [n1, n3, n4]
                refine @wpG_p _ _ _ _ _ (some 72) (.bool (!((Ma.mat_of ms (k : Int)).s))) _ _ rfl (by rfl) (fun W => by go_simp) ?_
                simp only [n1, n3, n4]
                refine @wpG_p _ _ _ _ _ (some 73) (.bool (!((Ma.mat_of ms (k : Int)).s))) _ _ rfl (by rfl) (fun W => by go_simp) ?_
                simp only [n1, n3, n4]
                refine @wpG_p _ _ _ _ _ (some 74) (.bool (!((Ma.mat_of ms (k : Int)).s))) _ _ rfl (by rfl) (fun W => by go_simp) ?_
                simp only [n1, n3, n4]
                refine @wpG_p _ _ _ _ _ (some 75) (.bool (!((Ma.mat_of ms (k : Int)).s))) _ _ rfl (by rfl) (fun _ => rfl) ?_
                simp only [n1, n3, n4]
                obtain ⟨c119, hc119⟩ : ∃ q_, q_ = (!((Ma.mat_of ms (k : Int)).s)) := ⟨_, rfl⟩
                rw [← hc119]
                have Hc119 := Lib.hid hc119
                clear hc119
                cases c119 with
                | true =>
                  have f120 := Lib.hid ((bnt Hc119.out))
                  refine @wpG_no _ _ _ _ _ (some 76) _ _ rfl (by rfl) ?_
                  simp only [n1, n3, n4]
                  refine @wpG_no _ _ _ _ _ (some 77) _ _ rfl (by rfl) ?_
                  simp only [n1, n3, n4]
                  refine @wpG_no _ _ _ _ _ (some 78) _ _ rfl (by rfl) ?_
                  simp only [n1, n3, n4]
                  refine @wpG_no _ _ _ _ _ (some 79) _ _ rfl (by rfl) ?_
                  simp only [n1, n3, n4]
                  refine @wpG_p _ _ _ _ _ (some 80) (.bool true) _ _ rfl (by rfl) (fun W => by go_simp) ?_
                  simp only [n1, n3, n4]
                  refine @wpG_p _ _ _ _ _ (some 81) (.bool true) _ _ rfl (by rfl) (fun _ => rfl) ?_
                  simp only [n1, n3, n4]
                  refine @wpG_no _ _ _ _ _ (some 82) _ _ rfl (by rfl) ?_
                  simp only [n1, n3, n4]
                  refine @wpG_no _ _ _ _ _ (some 83) _ _ rfl (by rfl) ?_
                  simp only [n1, n3, n4]
                  refine @wpG_no _ _ _ _ _ (some 84) _ _ rfl (by rfl) ?_
                  simp only [n1, n3, n4]
                  refine @wpG_no _ _ _ _ _ (some 85) _ _ rfl (by rfl) ?_
                  simp only [n1, n3, n4]
                  refine @wpG_p _ _ _ _ _ (some 86) (.bool true) _ _ rfl (by rfl) (fun W => by go_simp) ?_
                  simp only [n1, n3, n4]
                  refine wpG_done (fun V121 hv122 => ?_)
                  have S123 : Hid (St w noB [] V121) := Lib.hid (S50.out.gr hv122)
                  clear S50
                  clear hv122
                  refine ⟨rfl, hK _ _ ?_⟩
                  clear hK
                  go_upto_region 12 with fail
                  refine wpG_region_k (fun K hK => ?_)
                  refine @wpG_p _ _ _ _ _ (some 4) (.bool false) _ _ rfl (by rfl) (fun _ => rfl) ?_
                  simp only [n1, n3, n4]
                  refine wpG_done (fun V124 hv125 => ?_)
                  have S126 : Hid (St w noB [] V124) := Lib.hid (S123.out.gr hv125)
                  clear S123
                  clear hv125
                  refine ⟨rfl, hK _ _ ?_⟩
                  clear hK
                  go_wp2_with fail
                  go_ret
                  refine ⟨?_, S126.out.bel⟩
                  show Ending.returned (.bool false) = _
                  (first | rfl | (have e_f16 := f16.out; have e_f37 := f37.out; have e_f116 := f116.out; have e_f118 := f118.out; have e_f120 := f120.out; exfalso; obtain ⟨h1, h2, h3, _⟩ := Ma.names_k HCK_.out (k := k) (by have := HLEN.out; omega); have a_ := h2 e_f118; rw [e_f120] at a_; cases a_))
                | false =>
                  have f127 := Lib.hid ((bnf Hc119.out))
                  refine @wpG_p _ _ _ _ _ (some 76) (.slice (some ⟨b47, o47, none⟩) n c) _ _ rfl (by rfl) (fun _ => rfl) ?_
                  simp only [n1, n3, n4]
                  refine @wpG_p _ _ _ _ _ (some 77) (.int .i64 (k : Int)) _ _ rfl (by rfl) (fun _ => rfl) ?_
                  simp only [n1, n3, n4]
                  refine @wpG_tk _ _ _ _ _ (some 78) (.int .i64 ((Ma.mat_of ms (k : Int)).fd)) _ _ rfl (.call (f := 25) (args := #[.slice (some ⟨b47, o47, none⟩) n c, .int .i64 (k : Int)]) (by rfl) (fun W => by go_simp) (fun W hg => qfade_any _ _ _ ms (k : Int) W (HTA.out.gr (S50.out.gr hg).bel))) ?_
                  simp only [n1, n3, n4]
                  refine @wpG_p _ _ _ _ _ (some 79) (.bool (decide ((Ma.mat_of ms (k : Int)).fd < 1))) _ _ rfl (by rfl) (fun W => op_int_lss W ((Ma.mat_of ms (k : Int)).fd) 1 rfl rfl rfl Tryd.underlying3) ?_
                  simp only [n1, n3, n4]
                  refine @wpG_p _ _ _ _ _ (some 80) (.bool (decide ((Ma.mat_of ms (k : Int)).fd < 1))) _ _ rfl (by rfl) (fun W => by go_simp) ?_
                  simp only [n1, n3, n4]
                  refine @wpG_p _ _ _ _ _ (some 81) (.bool (decide ((Ma.mat_of ms (k : Int)).fd < 1))) _ _ rfl (by rfl) (fun _ => rfl) ?_
                  simp only [n1, n3, n4]
                  obtain ⟨c128, hc128⟩ : ∃ q_, q_ = (decide ((Ma.mat_of ms (k : Int)).fd < 1)) := ⟨_, rfl⟩
                  rw [← hc128]
                  have Hc128 := Lib.hid hc128
                  clear hc128
                  cases c128 with
                  | true =>
                    have f129 := of_decide_eq_true Hc128.out.symm
                    refine @wpG_no _ _ _ _ _ (some 82) _ _ rfl (by rfl) ?_
                    simp only [n1, n3, n4]
                    refine @wpG_no _ _ _ _ _ (some 83) _ _ rfl (by rfl) ?_
                    simp only [n1, n3, n4]
                    refine @wpG_no _ _ _ _ _ (some 84) _ _ rfl (by rfl) ?_
                    simp only [n1, n3, n4]
                    refine @wpG_no _ _ _ _ _ (some 85) _ _ rfl (by rfl) ?_
                    simp only [n1, n3, n4]
                    refine @wpG_p _ _ _ _ _ (some 86) (.bool true) _ _ rfl (by rfl) (fun W => by go_simp) ?_
                    simp only [n1, n3, n4]
                    refine wpG_done (fun V130 hv131 => ?_)
                    have S132 : Hid (St w noB [] V130) := Lib.hid (S50.out.gr hv131)
                    clear S50
                    clear hv131
                    refine ⟨rfl, hK _ _ ?_⟩
                    clear hK
                    go_upto_region 12 with fail
                    refine wpG_region_k (fun K hK => ?_)
                    refine @wpG_p _ _ _ _ _ (some 4) (.bool false) _ _ rfl (by rfl) (fun _ => rfl) ?_
                    simp only [n1, n3, n4]
                    refine wpG_done (fun V133 hv134 => ?_)
                    have S135 : Hid (St w noB [] V133) := Lib.hid (S132.out.gr hv134)
                    clear S132
                    clear hv134
                    refine ⟨rfl, hK _ _ ?_⟩
                    clear hK
                    go_wp2_with fail
                    go_ret
                    refine ⟨?_, S135.out.bel⟩
                    show Ending.returned (.bool false) = _
                    (first | rfl | (have e_f16 := f16.out; have e_f37 := f37.out; have e_f116 := f116.out; have e_f118 := f118.out; have e_f127 := f127.out; exfalso; have a_ := e_f127; have b_ := e_f116; rw [a_] at b_; cases b_))
                  | false =>
                    have f136 := of_decide_eq_false Hc128.out.symm
                    refine @wpG_p _ _ _ _ _ (some 82) (.slice (some ⟨b47, o47, none⟩) n c) _ _ rfl (by rfl) (fun _ => rfl) ?_
                    simp only [n1, n3, n4]
                    refine @wpG_p _ _ _ _ _ (some 83) (.int .i64 (k : Int)) _ _ rfl (by rfl) (fun _ => rfl) ?_
                    simp only [n1, n3, n4]
                    refine @wpG_tk _ _ _ _ _ (some 84) (.int .i64 ((Ma.mat_of ms (k : Int)).fd)) _ _ rfl (.call (f := 25) (args := #[.slice (some ⟨b47, o47, none⟩) n c, .int .i64 (k : Int)]) (by rfl) (fun W => by go_simp) (fun W hg => qfade_any _ _ _ ms (k : Int) W (HTA.out.gr (S50.out.gr hg).bel))) ?_
                    simp only [n1, n3, n4]
                    refine @wpG_p _ _ _ _ _ (some 85) (.bool (decide ((Ma.mat_of ms (k : Int)).fd > 16))) _ _ rfl (by rfl) (fun W => op_int_gtr W ((Ma.mat_of ms (k : Int)).fd) 16 rfl rfl rfl Tryd.underlying3) ?_
                    simp only [n1, n3, n4]
                    refine @wpG_p _ _ _ _ _ (some 86) (.bool (decide ((Ma.mat_of ms (k : Int)).fd > 16))) _ _ rfl (by rfl) (fun W => by go_simp) ?_
                    simp only [n1, n3, n4]
                    refine wpG_done (fun V137 hv138 => ?_)
                    have S139 : Hid (St w noB [] V137) := Lib.hid (S50.out.gr hv138)
                    clear S50
                    clear hv138
                    refine ⟨rfl, hK _ _ ?_⟩
                    clear hK
                    obtain ⟨c140, hc140⟩ : ∃ q_, q_ = (decide ((Ma.mat_of ms (k : Int)).fd > 16)) := ⟨_, rfl⟩
                    rw [← hc140]
                    have Hc140 := Lib.hid hc140
                    clear hc140
                    cases c140 with
                    | true =>
                      have f141 := of_decide_eq_true Hc140.out.symm
                      go_upto_region 12 with fail
                      refine wpG_region_k (fun K hK => ?_)
                      refine @wpG_p _ _ _ _ _ (some 4) (.bool false) _ _ rfl (by rfl) (fun _ => rfl) ?_
                      simp only [n1, n3, n4]
                      refine wpG_done (fun V142 hv143 => ?_)
                      have S144 : Hid (St w noB [] V142) := Lib.hid (S139.out.gr hv143)
                      clear S139
                      clear hv143
                      refine ⟨rfl, hK _ _ ?_⟩
                      clear hK
                      go_wp2_with fail
                      go_ret
                      refine ⟨?_, S144.out.bel⟩
                      show Ending.returned (.bool false) = _
                      (first | rfl | (have e_f16 := f16.out; have e_f37 := f37.out; have e_f116 := f116.out; have e_f118 := f118.out; have e_f127 := f127.out; exfalso; have a_ := e_f127; have b_ := e_f116; rw [a_] at b_; cases b_))
                    | false =>
                      have f145 := of_decide_eq_false Hc140.out.symm
                      go_upto_region 9 with fail
                      refine wpG_region_k (fun K hK => ?_)
                      refine @wpG_p _ _ _ _ _ (some 35) (.int .i64 (k : Int)) _ _ rfl (by rfl) (fun _ => rfl) ?_
                      simp only [n1, n3, n4]
                      refine @wpG_p _ _ _ _ _ (some 36) (.int .i64 ((k : Int) + 1)) _ _ rfl (by rfl) (fun W => op_i_add W (k : Int) 1 (by omega) rfl rfl rfl Tryd.underlying3) ?_
                      simp only [n1, n3, n4]
                      refine @wpG_p _ _ _ _ _ (some 8) (.int .i64 ((k : Int) + 1)) _ _ rfl (by rfl) (fun _ => rfl) ?_
                      simp only [n1, n3, n4]
                      refine wpG_done (fun V146 hv147 => ?_)
                      have S148 : Hid (St w noB [] V146) := Lib.hid (S139.out.gr hv147)
                      clear S139
                      clear hv147
                      refine ⟨rfl, hK _ _ ?_⟩
                      clear hK
                      go_wp2_with fail
                      go_roundw
                      case rel => exact ⟨k + 1, (by first | rfl | go_num), HCK_.out, (by omega), hpos, S148.out⟩
                      case measure => first | (simp only [intOf]; omega) | (simp [intOf]; done) | (simp [intOf]; omega) | omega
              | false =>
                have f149 := Lib.hid (Hc117.out.symm)
                refine @wpG_no _ _ _ _ _ (some 69) _ _ rfl (by rfl) ?_
                simp only [n1, n3, n4]
                refine @wpG_no _ _ _ _ _ (some 70) _ _ rfl (by rfl) ?_
                simp only [n1, n3, n4]
                refine @wpG_no _ _ _ _ _ (some 71) _ _ rfl (by rfl) ?_
                simp only [n1, n3, n4]
                refine @wpG_no _ _ _ _ _ (some 72) _ _ rfl (by rfl) ?_
                simp only [n1, n3, n4]
                refine @wpG_p _ _ _ _ _ (some 73) (.bool false) _ _ rfl (by rfl) (fun W => by go_simp) ?_
                simp only [n1, n3, n4]
                refine @wpG_p _ _ _ _ _ (some 74) (.bool false) _ _ rfl (by rfl) (fun W => by go_simp) ?_
                simp only [n1, n3, n4]
                refine @wpG_p _ _ _ _ _ (some 75) (.bool false) _ _ rfl (by rfl) (fun _ => rfl) ?_
                simp only [n1, n3, n4]
                refine @wpG_p _ _ _ _ _ (some 76) (.slice (some ⟨b47, o47, none⟩) n c) _ _ rfl (by rfl) (fun _ => rfl) ?_
                simp only [n1, n3, n4]
                refine @wpG_p _ _ _ _ _ (some 77) (.int .i64 (k : Int)) _ _ rfl (by rfl) (fun _ => rfl) ?_
                simp only [n1, n3, n4]
                refine @wpG_tk _ _ _ _ _ (some 78) (.int .i64 ((Ma.mat_of ms (k : Int)).fd)) _ _ rfl (.call (f := 25) (args := #[.slice (some ⟨b47, o47, none⟩) n c, .int .i64 (k : Int)]) (by rfl) (fun W => by go_simp) (fun W hg => qfade_any _ _ _ ms (k : Int) W (HTA.out.gr (S50.out.gr hg).bel))) ?_
                simp only [n1, n3, n4]
                refine @wpG_p _ _ _ _ _ (some 79) (.bool (decide ((Ma.mat_of ms (k : Int)).fd < 1))) _ _ rfl (by rfl) (fun W => op_int_lss W ((Ma.mat_of ms (k : Int)).fd) 1 rfl rfl rfl Tryd.underlying3) ?_
                simp only [n1, n3, n4]
                refine @wpG_p _ _ _ _ _ (some 80) (.bool (decide ((Ma.mat_of ms (k : Int)).fd < 1))) _ _ rfl (by rfl) (fun W => by go_simp) ?_
                simp only [n1, n3, n4]
                refine @wpG_p _ _ _ _ _ (some 81) (.bool (decide ((Ma.mat_of ms (k : Int)).fd < 1))) _ _ rfl (by rfl) (fun _ => rfl) ?_
                simp only [n1, n3, n4]
                obtain ⟨c150, hc150⟩ : ∃ q_, q_ = (decide ((Ma.mat_of ms (k : Int)).fd < 1)) := ⟨_, rfl⟩
                rw [← hc150]
                have Hc150 := Lib.hid hc150
                clear hc150
                cases c150 with
                | true =>
                  have f151 := of_decide_eq_true Hc150.out.symm
                  refine @wpG_no _ _ _ _ _ (some 82) _ _ rfl (by rfl) ?_
                  simp only [n1, n3, n4]
                  refine @wpG_no _ _ _ _ _ (some 83) _ _ rfl (by rfl) ?_
                  simp only [n1, n3, n4]
                  refine @wpG_no _ _ _ _ _ (some 84) _ _ rfl (by rfl) ?_
                  simp only [n1, n3, n4]
                  refine @wpG_no _ _ _ _ _ (some 85) _ _ rfl (by rfl) ?_
                  simp only [n1, n3, n4]
                  refine @wpG_p _ _ _ _ _ (some 86) (.bool true) _ _ rfl (by rfl) (fun W => by go_simp) ?_
                  simp only [n1, n3, n4]
                  refine wpG_done (fun V152 hv153 => ?_)
                  have S154 : Hid (St w noB [] V152) := Lib.hid (S50.out.gr hv153)
                  clear S50
                  clear hv153
                  refine ⟨rfl, hK _ _ ?_⟩
                  clear hK
                  go_upto_region 12 with fail
                  refine wpG_region_k (fun K hK => ?_)
                  refine @wpG_p _ _ _ _ _ (some 4) (.bool false) _ _ rfl (by rfl) (fun _ => rfl) ?_
                  simp only [n1, n3, n4]
                  refine wpG_done (fun V155 hv156 => ?_)
                  have S157 : Hid (St w noB [] V155) := Lib.hid (S154.out.gr hv156)
                  clear S154
                  clear hv156
                  refine ⟨rfl, hK _ _ ?_⟩
                  clear hK
                  go_wp2_with fail
                  go_ret
                  refine ⟨?_, S157.out.bel⟩
                  show Ending.returned (.bool false) = _
                  (first | rfl | (have e_f16 := f16.out; have e_f37 := f37.out; have e_f116 := f116.out; have e_f149 := f149.out; exfalso; obtain ⟨h1, h2, h3, _⟩ := Ma.names_k HCK_.out (k := k) (by have := HLEN.out; omega); omega))
                | false =>
                  have f158 := of_decide_eq_false Hc150.out.symm
                  refine @wpG_p _ _ _ _ _ (some 82) (.slice (some ⟨b47, o47, none⟩) n c) _ _ rfl (by rfl) (fun _ => rfl) ?_
                  simp only [n1, n3, n4]
                  refine @wpG_p _ _ _ _ _ (some 83) (.int .i64 (k : Int)) _ _ rfl (by rfl) (fun _ => rfl) ?_
                  simp only [n1, n3, n4]
                  refine @wpG_tk _ _ _ _ _ (some 84) (.int .i64 ((Ma.mat_of ms (k : Int)).fd)) _ _ rfl (.call (f := 25) (args := #[.slice (some ⟨b47, o47, none⟩) n c, .int .i64 (k : Int)]) (by rfl) (fun W => by go_simp) (fun W hg => qfade_any _ _ _ ms (k : Int) W (HTA.out.gr (S50.out.gr hg).bel))) ?_
                  simp only [n1, n3, n4]
                  refine @wpG_p _ _ _ _ _ (some 85) (.bool (decide ((Ma.mat_of ms (k : Int)).fd > 16))) _ _ rfl (by rfl) (fun W => op_int_gtr W ((Ma.mat_of ms (k : Int)).fd) 16 rfl rfl rfl Tryd.underlying3) ?_
                  simp only [n1, n3, n4]
                  refine @wpG_p _ _ _ _ _ (some 86) (.bool (decide ((Ma.mat_of ms (k : Int)).fd > 16))) _ _ rfl (by rfl) (fun W => by go_simp) ?_
                  simp only [n1, n3, n4]
                  refine wpG_done (fun V159 hv160 => ?_)
                  have S161 : Hid (St w noB [] V159) := Lib.hid (S50.out.gr hv160)
                  clear S50
                  clear hv160
                  refine ⟨rfl, hK _ _ ?_⟩
                  clear hK
                  obtain ⟨c162, hc162⟩ : ∃ q_, q_ = (decide ((Ma.mat_of ms (k : Int)).fd > 16)) := ⟨_, rfl⟩
                  rw [← hc162]
                  have Hc162 := Lib.hid hc162
                  clear hc162
                  cases c162 with
                  | true =>
                    have f163 := of_decide_eq_true Hc162.out.symm
                    go_upto_region 12 with fail
                    refine wpG_region_k (fun K hK => ?_)
                    refine @wpG_p _ _ _ _ _ (some 4) (.bool false) _ _ rfl (by rfl) (fun _ => rfl) ?_
                    simp only [n1, n3, n4]
                    refine wpG_done (fun V164 hv165 => ?_)
                    have S166 : Hid (St w noB [] V164) := Lib.hid (S161.out.gr hv165)
                    clear S161
                    clear hv165
                    refine ⟨rfl, hK _ _ ?_⟩
                    clear hK
                    go_wp2_with fail
                    go_ret
                    refine ⟨?_, S166.out.bel⟩
                    show Ending.returned (.bool false) = _
                    (first | rfl | (have e_f16 := f16.out; have e_f37 := f37.out; have e_f116 := f116.out; have e_f149 := f149.out; exfalso; obtain ⟨h1, h2, h3, _⟩ := Ma.names_k HCK_.out (k := k) (by have := HLEN.out; omega); omega))
                  | false =>
                    have f167 := of_decide_eq_false Hc162.out.symm
                    go_upto_region 9 with fail
                    refine wpG_region_k (fun K hK => ?_)
                    refine @wpG_p _ _ _ _ _ (some 35) (.int .i64 (k : Int)) _ _ rfl (by rfl) (fun _ => rfl) ?_
                    simp only [n1, n3, n4]
                    refine @wpG_p _ _ _ _ _ (some 36) (.int .i64 ((k : Int) + 1)) _ _ rfl (by rfl) (fun W => op_i_add W (k : Int) 1 (by omega) rfl rfl rfl Tryd.underlying3) ?_
                    simp only [n1, n3, n4]
                    refine @wpG_p _ _ _ _ _ (some 8) (.int .i64 ((k : Int) + 1)) _ _ rfl (by rfl) (fun _ => rfl) ?_
                    simp only [n1, n3, n4]
                    refine wpG_done (fun V168 hv169 => ?_)
                    have S170 : Hid (St w noB [] V168) := Lib.hid (S161.out.gr hv169)
                    clear S161
                    clear hv169
                    refine ⟨rfl, hK _ _ ?_⟩
                    clear hK
                    go_wp2_with fail
                    go_roundw
                    case rel => exact ⟨k + 1, (by first | rfl | go_num), HCK_.out, (by omega), hpos, S170.out⟩
                    case measure => first | (simp only [intOf]; omega) | (simp [intOf]; done) | (simp [intOf]; omega) | omega
          | false =>
            have f171 := of_decide_eq_false Hc45.out.symm
            go_upto_region 13 with fail
            refine wpG_region_k (fun K hK => ?_)
            refine @wpG_p _ _ _ _ _ (some 88) (.slice A n c) _ _ rfl (by rfl) (fun _ => rfl) ?_
            simp only [n1, n3, n4]
            refine @wpG_p _ _ _ _ _ (some 89) (.string (bstr x)) _ _ rfl (by rfl) (fun _ => rfl) ?_
            simp only [n1, n3, n4]
            refine @wpG_tk _ _ _ _ _ (some 90) (.tuple #[.int .i64 (q : Int), .bool fb]) _ _ rfl (.call (f := 17) (args := #[.slice A n c, .string (bstr x)]) (by rfl) (fun W => by go_simp) (fun W hg => ((find_any _ _ _ ms x W (HTA.out.gr (S44.out.gr hg).bel)).mono (fun e w' h => ⟨h.1.trans (by rw [HQ.out]), h.2⟩)))) ?_
            simp only [n1, n3, n4]
            refine @wpG_p _ _ _ _ _ (some 87) (.tuple #[.int .i64 (q : Int), .bool fb]) _ _ rfl (by rfl) (fun _ => rfl) ?_
            simp only [n1, n3, n4]
            refine @wpG_p _ _ _ _ _ (some 91) (.int .i64 (q : Int)) _ _ rfl (by rfl) (fun W => by go_simp) ?_
            simp only [n1, n3, n4]
            refine @wpG_p _ _ _ _ _ (some 92) (.bool fb) _ _ rfl (by rfl) (fun W => by go_simp) ?_
            simp only [n1, n3, n4]
            refine @wpG_p _ _ _ _ _ (some 11) (.int .i64 (q : Int)) _ _ rfl (by rfl) (fun _ => rfl) ?_
            simp only [n1, n3, n4]
            refine @wpG_p _ _ _ _ _ (some 12) (.bool fb) _ _ rfl (by rfl) (fun _ => rfl) ?_
            simp only [n1, n3, n4]
            refine wpG_done (fun V172 hv173 => ?_)
            have S174 : Hid (St w noB [] V172) := Lib.hid (S44.out.gr hv173)
            clear S44
            clear hv173
            refine ⟨rfl, hK _ _ ?_⟩
            clear hK
            go_upto_region 14 with fail
            refine wpG_region_k (fun K hK => ?_)
            refine @wpG_p _ _ _ _ _ (some 93) (.bool true) _ _ rfl (by rfl) (fun _ => rfl) ?_
            simp only [n1, n3, n4]
            refine @wpG_p _ _ _ _ _ (some 94) (.bool true) _ _ rfl (by rfl) (fun _ => rfl) ?_
            simp only [n1, n3, n4]
            refine @wpG_p _ _ _ _ _ (some 95) (.slice A n c) _ _ rfl (by rfl) (fun _ => rfl) ?_
            simp only [n1, n3, n4]
            refine @wpG_p _ _ _ _ _ (some 96) (.int .i64 (n : Int)) _ _ rfl (by rfl) (fun W => by go_simp) ?_
            simp only [n1, n3, n4]
            refine @wpG_p _ _ _ _ _ (some 97) (.bool true) _ _ rfl (by rfl) (fun W => by have hq : ((n : Int) > 0) := (by omega); first | (go_simp; done) | (go_simp <;> omega)) ?_
            simp only [n1, n3, n4]
            refine @wpG_p _ _ _ _ _ (some 98) (.bool true) _ _ rfl (by rfl) (fun W => by go_simp) ?_
            simp only [n1, n3, n4]
            refine @wpG_p _ _ _ _ _ (some 99) (.bool true) _ _ rfl (by rfl) (fun _ => rfl) ?_
            simp only [n1, n3, n4]
            refine @wpG_p _ _ _ _ _ (some 100) (.slice A n c) _ _ rfl (by rfl) (fun _ => rfl) ?_
            simp only [n1, n3, n4]
            refine @wpG_tk _ _ _ _ _ (some 101) (.bool false) _ _ rfl (.call (f := 22) (args := #[.slice A n c, .int .i64 0]) (by rfl) (fun W => by go_simp) (fun W hg => ((qsolid_any _ _ _ ms 0 W (HTA.out.gr (S174.out.gr hg).bel)).mono (fun e w' h => ⟨h.1.trans (by rw [(Ma.names_0 HCK_.out).2.1]), h.2⟩)))) ?_
            simp only [n1, n3, n4]
            refine @wpG_p _ _ _ _ _ (some 102) (.bool true) _ _ rfl (by rfl) (fun W => by first | (go_simp; done) | (cases false <;> rfl)) ?_
            simp only [n1, n3, n4]
            refine @wpG_p _ _ _ _ _ (some 103) (.bool true) _ _ rfl (by rfl) (fun W => by go_simp) ?_
            simp only [n1, n3, n4]
            refine @wpG_p _ _ _ _ _ (some 104) (.bool true) _ _ rfl (by rfl) (fun _ => rfl) ?_
            simp only [n1, n3, n4]
            refine @wpG_p _ _ _ _ _ (some 105) (.slice A n c) _ _ rfl (by rfl) (fun _ => rfl) ?_
            simp only [n1, n3, n4]
            refine @wpG_tk _ _ _ _ _ (some 106) (.bool false) _ _ rfl (.call (f := 23) (args := #[.slice A n c, .int .i64 0]) (by rfl) (fun W => by go_simp) (fun W hg => ((qliquid_any _ _ _ ms 0 W (HTA.out.gr (S174.out.gr hg).bel)).mono (fun e w' h => ⟨h.1.trans (by rw [(Ma.names_0 HCK_.out).2.2]), h.2⟩)))) ?_
            simp only [n1, n3, n4]
            refine @wpG_p _ _ _ _ _ (some 107) (.bool true) _ _ rfl (by rfl) (fun W => by first | (go_simp; done) | (cases false <;> rfl)) ?_
            simp only [n1, n3, n4]
            refine @wpG_p _ _ _ _ _ (some 108) (.bool true) _ _ rfl (by rfl) (fun W => by go_simp) ?_
            simp only [n1, n3, n4]
            refine @wpG_p _ _ _ _ _ (some 109) (.bool true) _ _ rfl (by rfl) (fun _ => rfl) ?_
            simp only [n1, n3, n4]
            refine @wpG_p _ _ _ _ _ (some 110) (.bool fb) _ _ rfl (by rfl) (fun _ => rfl) ?_
            simp only [n1, n3, n4]
            refine @wpG_p _ _ _ _ _ (some 111) (.bool (!fb)) _ _ rfl (by rfl) (fun W => by first | (go_simp; done) | (cases fb <;> rfl)) ?_
            simp only [n1, n3, n4]
            refine @wpG_p _ _ _ _ _ (some 112) (.bool (!fb)) _ _ rfl (by rfl) (fun _ => rfl) ?_
            simp only [n1, n3, n4]
            cases fb with
            | true =>
              refine @wpG_p _ _ _ _ _ (some 113) (.int .i64 (q : Int)) _ _ rfl (by rfl) (fun _ => rfl) ?_
              simp only [n1, n3, n4]
              refine @wpG_p _ _ _ _ _ (some 114) (.slice A n c) _ _ rfl (by rfl) (fun _ => rfl) ?_
              simp only [n1, n3, n4]
              refine @wpG_p _ _ _ _ _ (some 115) (.int .i64 (n : Int)) _ _ rfl (by rfl) (fun W => by go_simp) ?_
              simp only [n1, n3, n4]
              refine @wpG_p _ _ _ _ _ (some 116) (.bool (decide ((q : Int) < (n : Int)))) _ _ rfl (by rfl) (fun W => op_int_lss W (q : Int) (n : Int) rfl rfl rfl Tryd.underlying3) ?_
              simp only [n1, n3, n4]
              refine @wpG_p _ _ _ _ _ (some 117) (.bool (decide ((q : Int) < (n : Int)))) _ _ rfl (by rfl) (fun _ => rfl) ?_
              simp only [n1, n3, n4]
              obtain ⟨c175, hc175⟩ : ∃ q_, q_ = (decide ((q : Int) < (n : Int))) := ⟨_, rfl⟩
              rw [← hc175]
              have Hc175 := Lib.hid hc175
              clear hc175
              cases c175 with
              | true =>
                have f176 := of_decide_eq_true Hc175.out.symm
                refine @wpG_p _ _ _ _ _ (some 118) (.slice A n c) _ _ rfl (by rfl) (fun _ => rfl) ?_
                simp only [n1, n3, n4]
                refine @wpG_p _ _ _ _ _ (some 119) (.int .i64 (q : Int)) _ _ rfl (by rfl) (fun _ => rfl) ?_
                simp only [n1, n3, n4]
                obtain ⟨b177, o177, rfl⟩ := HTA.out.addr (by omega)
                refine @wpG_p _ _ _ _ _ (some 120) (.pointer (some ⟨b177, o177 + q * 8, none⟩)) _ _ rfl (by rfl) (fun W => by (go_simp <;> first | rfl | omega | (simp; omega))) ?_
                simp only [n1, n3, n4]
                refine @wpG_p _ _ _ _ _ (some 121) (.pointer (some ⟨b177, o177 + q * 8, none⟩)) _ _ rfl (by rfl) (fun W => by (go_simp <;> first | rfl | omega)) ?_
                simp only [n1, n3, n4]
                refine @wpG_r _ _ _ _ _ (some 122) (.string (bstr ((Ma.tat ms q).n))) _ _ rfl (by rfl) (fun W hg => by have c := (((HTA.out.gr ((S174.out.gr hg)).bel).elem (HTA.out.get (k := q) (by omega)))) 0 _ rfl; (try simp only [Nat.add_zero, Nat.zero_add] at c); go_simp) ?_
                simp only [n1, n3, n4]
                refine @wpG_p _ _ _ _ _ (some 123) (.string (bstr x)) _ _ rfl (by rfl) (fun _ => rfl) ?_
                simp only [n1, n3, n4]
                refine @wpG_p _ _ _ _ _ (some 124) (.bool (decide ((Ma.tat ms q).n = x))) _ _ rfl (by rfl) (fun W => op_str_eql W ((Ma.tat ms q).n) x rfl rfl rfl Tryd.underlying9) ?_
                simp only [n1, n3, n4]
                refine @wpG_p _ _ _ _ _ (some 125) (.bool (decide ((Ma.tat ms q).n = x))) _ _ rfl (by rfl) (fun W => by go_simp) ?_
                simp only [n1, n3, n4]
                refine @wpG_p _ _ _ _ _ (some 126) (.bool (decide ((Ma.tat ms q).n = x))) _ _ rfl (by rfl) (fun W => by go_simp) ?_
                simp only [n1, n3, n4]
                refine @wpG_p _ _ _ _ _ (some 127) (.bool (decide ((Ma.tat ms q).n = x))) _ _ rfl (by rfl) (fun W => by go_simp) ?_
                simp only [n1, n3, n4]
                refine @wpG_p _ _ _ _ _ (some 4) (.bool (decide ((Ma.tat ms q).n = x))) _ _ rfl (by rfl) (fun _ => rfl) ?_
                simp only [n1, n3, n4]
                refine wpG_done (fun V178 hv179 => ?_)
                have S180 : Hid (St w noB [] V178) := Lib.hid (S174.out.gr hv179)
                clear S174
                clear hv179
                refine ⟨rfl, hK _ _ ?_⟩
                clear hK
                go_wp2_with fail
                go_ret
                obtain ⟨c181, hc181⟩ : ∃ q_, q_ = (decide ((Ma.tat ms q).n = x)) := ⟨_, rfl⟩
                rw [← hc181]
                have Hc181 := Lib.hid hc181
                clear hc181
                cases c181 with
                | true =>
                  have f182 := Lib.hid (of_decide_eq_true Hc181.out.symm)
                  refine ⟨?_, S180.out.bel⟩
                  show Ending.returned (.bool true) = _
                  (first | rfl | (have e_f16 := f16.out; have e_f37 := f37.out; have e_f182 := f182.out; rfl))
                | false =>
                  have f183 := of_decide_eq_false Hc181.out.symm
                  refine ⟨?_, S180.out.bel⟩
                  show Ending.returned (.bool false) = _
                  (first | rfl | (have e_f16 := f16.out; have e_f37 := f37.out; exact absurd (HFB.out (by trivial)).2 f183))
              | false =>
                have f184 := of_decide_eq_false Hc175.out.symm
                refine @wpG_no _ _ _ _ _ (some 118) _ _ rfl (by rfl) ?_
                simp only [n1, n3, n4]
                refine @wpG_no _ _ _ _ _ (some 119) _ _ rfl (by rfl) ?_
                simp only [n1, n3, n4]
                refine @wpG_no _ _ _ _ _ (some 120) _ _ rfl (by rfl) ?_
                simp only [n1, n3, n4]
                refine @wpG_no _ _ _ _ _ (some 121) _ _ rfl (by rfl) ?_
                simp only [n1, n3, n4]
                refine @wpG_no _ _ _ _ _ (some 122) _ _ rfl (by rfl) ?_
                simp only [n1, n3, n4]
                refine @wpG_no _ _ _ _ _ (some 123) _ _ rfl (by rfl) ?_
                simp only [n1, n3, n4]
                refine @wpG_no _ _ _ _ _ (some 124) _ _ rfl (by rfl) ?_
                simp only [n1, n3, n4]
                refine @wpG_p _ _ _ _ _ (some 125) (.bool false) _ _ rfl (by rfl) (fun W => by go_simp) ?_
                simp only [n1, n3, n4]
                refine @wpG_p _ _ _ _ _ (some 126) (.bool false) _ _ rfl (by rfl) (fun W => by go_simp) ?_
                simp only [n1, n3, n4]
                refine @wpG_p _ _ _ _ _ (some 127) (.bool false) _ _ rfl (by rfl) (fun W => by go_simp) ?_
                simp only [n1, n3, n4]
                refine @wpG_p _ _ _ _ _ (some 4) (.bool false) _ _ rfl (by rfl) (fun _ => rfl) ?_
                simp only [n1, n3, n4]
                refine wpG_done (fun V185 hv186 => ?_)
                have S187 : Hid (St w noB [] V185) := Lib.hid (S174.out.gr hv186)
                clear S174
                clear hv186
                refine ⟨rfl, hK _ _ ?_⟩
                clear hK
                go_wp2_with fail
                go_ret
                refine ⟨?_, S187.out.bel⟩
                show Ending.returned (.bool false) = _
                (first | rfl | (have e_f16 := f16.out; have e_f37 := f37.out; exfalso; have h1 := (HFB.out (by trivial)).1; have h2 := HLEN.out; omega))
            | false =>
              refine @wpG_no _ _ _ _ _ (some 113) _ _ rfl (by rfl) ?_
              simp only [n1, n3, n4]
              refine @wpG_no _ _ _ _ _ (some 114) _ _ rfl (by rfl) ?_
              simp only [n1, n3, n4]
              refine @wpG_no _ _ _ _ _ (some 115) _ _ rfl (by rfl) ?_
              simp only [n1, n3, n4]
              refine @wpG_no _ _ _ _ _ (some 116) _ _ rfl (by rfl) ?_
              simp only [n1, n3, n4]
              refine @wpG_no _ _ _ _ _ (some 117) _ _ rfl (by rfl) ?_
              simp only [n1, n3, n4]
              refine @wpG_no _ _ _ _ _ (some 118) _ _ rfl (by rfl) ?_
              simp only [n1, n3, n4]
              refine @wpG_no _ _ _ _ _ (some 119) _ _ rfl (by rfl) ?_
              simp only [n1, n3, n4]
              refine @wpG_no _ _ _ _ _ (some 120) _ _ rfl (by rfl) ?_
              simp only [n1, n3, n4]
              refine @wpG_no _ _ _ _ _ (some 121) _ _ rfl (by rfl) ?_
              simp only [n1, n3, n4]
              refine @wpG_no _ _ _ _ _ (some 122) _ _ rfl (by rfl) ?_
              simp only [n1, n3, n4]
              refine @wpG_no _ _ _ _ _ (some 123) _ _ rfl (by rfl) ?_
              simp only [n1, n3, n4]
              refine @wpG_no _ _ _ _ _ (some 124) _ _ rfl (by rfl) ?_
              simp only [n1, n3, n4]
              refine @wpG_no _ _ _ _ _ (some 125) _ _ rfl (by rfl) ?_
              simp only [n1, n3, n4]
              refine @wpG_p _ _ _ _ _ (some 126) (.bool true) _ _ rfl (by rfl) (fun W => by go_simp) ?_
              simp only [n1, n3, n4]
              refine @wpG_p _ _ _ _ _ (some 127) (.bool true) _ _ rfl (by rfl) (fun W => by go_simp) ?_
              simp only [n1, n3, n4]
              refine @wpG_p _ _ _ _ _ (some 4) (.bool true) _ _ rfl (by rfl) (fun _ => rfl) ?_
              simp only [n1, n3, n4]
              refine wpG_done (fun V188 hv189 => ?_)
              have S190 : Hid (St w noB [] V188) := Lib.hid (S174.out.gr hv189)
              clear S174
              clear hv189
              refine ⟨rfl, hK _ _ ?_⟩
              clear hK
              go_wp2_with fail
              go_ret
              refine ⟨?_, S190.out.bel⟩
              show Ending.returned (.bool true) = _
              (first | rfl | (have e_f16 := f16.out; have e_f37 := f37.out; rfl))

end Go.Proofs.YtpjjddjoegnipaaDoor
