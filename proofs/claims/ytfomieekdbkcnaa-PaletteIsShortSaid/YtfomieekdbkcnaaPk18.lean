/-
  Contracts of package palette: head, Unpack.
-/
import Derived.Test.YtfomieekdbkcnaaPk13
import Derived.Test.YtfomieekdbkcnaaPk17
import Derived.Handy
namespace Go.Proofs.Ytfomieekdbkcnaa
open Go Go.RowKit
set_option linter.unusedVariables false
set_option linter.unusedSimpArgs false
set_option maxRecDepth 1000000 in
set_option maxHeartbeats 4000000 in
theorem head_any (x : List UInt8) (w : World) (hx : x.length ≤ 1000) :
    Calls Try.prog 36 #[.string (bstr x)] w fun e w' => ∃ A q c, e = .returned (.tuple #[.int .i64 (Pl.hN x), .slice A q c, .int .i64 (Pl.hE x : Int)]) ∧ St w noB [own (.slice A q c) 3 1 q (ic (Pl.hL x))] w' := by
  have S1 : Hid (St w noB [] w) := Lib.hid (St.start w)
  go_enter Try.func36, Try.ntmps36
  go_upto_region 0 with fail
  refine wpG_region_k (fun K hK => ?_)
  refine @wpG_p _ _ _ _ _ (some 2) (.int .i64 0) _ _ rfl (by rfl) (fun _ => rfl) ?_
  simp only [n1, n3, n4]
  refine @wpG_p _ _ _ _ _ (some 3) (.slice none 0 0) _ _ rfl (by rfl) (fun _ => rfl) ?_
  simp only [n1, n3, n4]
  refine @wpG_p _ _ _ _ _ (some 4) (.int .i64 0) _ _ rfl (by rfl) (fun _ => rfl) ?_
  simp only [n1, n3, n4]
  refine wpG_done (fun V2 hv3 => ?_)
  have S4 : Hid (St w noB [] V2) := Lib.hid (S1.out.gr hv3)
  clear S1
  clear hv3
  refine ⟨rfl, hK _ _ ?_⟩
  clear hK
  go_upto_region 1 with fail
  refine wpG_region_k (fun K hK => ?_)
  refine @wpG_p _ _ _ _ _ (some 8) (.string (bstr x)) _ _ rfl (by rfl) (fun _ => rfl) ?_
  simp only [n1, n3, n4]
  refine @wpG_p _ _ _ _ _ (some 9) (.bool (decide (x = []))) _ _ rfl (by rfl) (fun W => op_str_eql W x [] rfl rfl rfl Try.underlying9) ?_
  simp only [n1, n3, n4]
  refine wpG_done (fun V5 hv6 => ?_)
  have S7 : Hid (St w noB [] V5) := Lib.hid (S4.out.gr hv6)
  clear S4
  clear hv6
  refine ⟨rfl, hK _ _ ?_⟩
  clear hK
  obtain ⟨c8, hc8⟩ : ∃ q_, q_ = (decide (x = [])) := ⟨_, rfl⟩
  rw [← hc8]
  have Hc8 := Lib.hid hc8
  clear hc8
  cases c8 with
  | true =>
    have f9 := Lib.hid (of_decide_eq_true Hc8.out.symm)
    go_upto_region 2 with fail
    refine wpG_region_k (fun K hK => ?_)
    refine @wpG_p _ _ _ _ _ (some 2) (.int .i64 0) _ _ rfl (by rfl) (fun _ => rfl) ?_
    simp only [n1, n3, n4]
    refine @wpG_p _ _ _ _ _ (some 3) (.slice none 0 0) _ _ rfl (by rfl) (fun _ => rfl) ?_
    simp only [n1, n3, n4]
    refine @wpG_p _ _ _ _ _ (some 4) (.int .i64 5) _ _ rfl (by rfl) (fun _ => rfl) ?_
    simp only [n1, n3, n4]
    refine wpG_done (fun V10 hv11 => ?_)
    have S12 : Hid (St w noB [] V10) := Lib.hid (S7.out.gr hv11)
    clear S7
    clear hv11
    refine ⟨rfl, hK _ _ ?_⟩
    clear hK
    go_wp2_with fail
    go_ret3
    (have e_f9 := f9.out; obtain ⟨e1_, e2_, e3_⟩ := Pl.h_err (Pl.hE_c0 e_f9) (by decide); exact ⟨none, 0, 0, by rw [e1_, e3_]; rfl, by rw [e2_]; exact S12.out.dropAll.nilOwn _ _⟩)
  | false =>
    have f13 := of_decide_eq_false Hc8.out.symm
    go_upto_region 3 with fail
    refine wpG_region_k (fun K hK => ?_)
    refine @wpG_p _ _ _ _ _ (some 10) (.string (bstr x)) _ _ rfl (by rfl) (fun _ => rfl) ?_
    simp only [n1, n3, n4]
    have hx0_ : 0 < x.length := List.length_pos_iff.2 f13
    obtain ⟨nn, h_nn⟩ : ∃ q_ : Nat, q_ = Pl.uN x := ⟨_, rfl⟩
    have hnnb : nn < 256 := by rw [h_nn]; exact (x.getD 0 0).toNat_lt
    have Hnn := Lib.hid h_nn
    clear h_nn
    refine @wpG_p _ _ _ _ _ (some 11) (.int .u8 (nn : Int)) _ _ rfl (by rfl) (fun W => (op_str_idx W x 0 hx0_ rfl rfl rfl Try.underlying9).trans (by rw [Hnn.out]; rfl)) ?_
    simp only [n1, n3, n4]
    refine @wpG_p _ _ _ _ _ (some 12) (.int .i64 (nn : Int)) _ _ rfl (by rfl) (fun W => op_conv_i64 W (nn : Int) (by omega) rfl rfl Try.underlying5 Try.underlying3) ?_
    simp only [n1, n3, n4]
    refine @wpG_p _ _ _ _ _ (some 5) (.int .i64 (nn : Int)) _ _ rfl (by rfl) (fun _ => rfl) ?_
    simp only [n1, n3, n4]
    refine wpG_done (fun V14 hv15 => ?_)
    have S16 : Hid (St w noB [] V14) := Lib.hid (S7.out.gr hv15)
    clear S7
    clear hv15
    refine ⟨rfl, hK _ _ ?_⟩
    clear hK
    go_upto_region 4 with fail
    refine wpG_region_k (fun K hK => ?_)
    refine @wpG_p _ _ _ _ _ (some 13) (.int .i64 (nn : Int)) _ _ rfl (by rfl) (fun _ => rfl) ?_
    simp only [n1, n3, n4]
    refine @wpG_p _ _ _ _ _ (some 14) (.bool (decide ((nn : Int) > 64))) _ _ rfl (by rfl) (fun W => op_int_gtr W (nn : Int) 64 rfl rfl rfl Try.underlying3) ?_
    simp only [n1, n3, n4]
    refine wpG_done (fun V17 hv18 => ?_)
    have S19 : Hid (St w noB [] V17) := Lib.hid (S16.out.gr hv18)
    clear S16
    clear hv18
    refine ⟨rfl, hK _ _ ?_⟩
    clear hK
    obtain ⟨c20, hc20⟩ : ∃ q_, q_ = (decide ((nn : Int) > 64)) := ⟨_, rfl⟩
    rw [← hc20]
    have Hc20 := Lib.hid hc20
    clear hc20
    cases c20 with
    | true =>
      have f21 := of_decide_eq_true Hc20.out.symm
      go_upto_region 5 with fail
      refine wpG_region_k (fun K hK => ?_)
      refine @wpG_p _ _ _ _ _ (some 2) (.int .i64 0) _ _ rfl (by rfl) (fun _ => rfl) ?_
      simp only [n1, n3, n4]
      refine @wpG_p _ _ _ _ _ (some 3) (.slice none 0 0) _ _ rfl (by rfl) (fun _ => rfl) ?_
      simp only [n1, n3, n4]
      refine @wpG_p _ _ _ _ _ (some 4) (.int .i64 6) _ _ rfl (by rfl) (fun _ => rfl) ?_
      simp only [n1, n3, n4]
      refine wpG_done (fun V22 hv23 => ?_)
      have S24 : Hid (St w noB [] V22) := Lib.hid (S19.out.gr hv23)
      clear S19
      clear hv23
      refine ⟨rfl, hK _ _ ?_⟩
      clear hK
      go_wp2_with fail
      go_ret3
      (obtain ⟨e1_, e2_, e3_⟩ := Pl.h_err (Pl.hE_c1 f13 (by have := Hnn.out; omega)) (by decide); exact ⟨none, 0, 0, by rw [e1_, e3_]; rfl, by rw [e2_]; exact S24.out.dropAll.nilOwn _ _⟩)
    | false =>
      have f25 := of_decide_eq_false Hc20.out.symm
      go_upto_region 6 with fail
      refine wpG_region_k (fun K hK => ?_)
      refine @wpG_p _ _ _ _ _ (some 15) (.string (bstr x)) _ _ rfl (by rfl) (fun _ => rfl) ?_
      simp only [n1, n3, n4]
      refine @wpG_p _ _ _ _ _ (some 16) (.int .i64 (x.length : Int)) _ _ rfl (by rfl) (fun W => op_str_len W x rfl rfl Try.underlying9) ?_
      simp only [n1, n3, n4]
      refine @wpG_p _ _ _ _ _ (some 17) (.bool (decide ((x.length : Int) = 1))) _ _ rfl (by rfl) (fun W => op_int_eql W (x.length : Int) 1 rfl rfl rfl Try.underlying3) ?_
      simp only [n1, n3, n4]
      refine wpG_done (fun V26 hv27 => ?_)
      have S28 : Hid (St w noB [] V26) := Lib.hid (S19.out.gr hv27)
      clear S19
      clear hv27
      refine ⟨rfl, hK _ _ ?_⟩
      clear hK
      obtain ⟨c29, hc29⟩ : ∃ q_, q_ = (decide ((x.length : Int) = 1)) := ⟨_, rfl⟩
      rw [← hc29]
      have Hc29 := Lib.hid hc29
      clear hc29
      cases c29 with
      | true =>
        have f30 := Lib.hid (of_decide_eq_true Hc29.out.symm)
        have f30a := Int.le_of_eq f30.out
        have f30b := Int.le_of_eq f30.out.symm
        go_upto_region 7 with fail
        refine wpG_region_k (fun K hK => ?_)
        refine @wpG_p _ _ _ _ _ (some 2) (.int .i64 0) _ _ rfl (by rfl) (fun _ => rfl) ?_
        simp only [n1, n3, n4]
        refine @wpG_p _ _ _ _ _ (some 3) (.slice none 0 0) _ _ rfl (by rfl) (fun _ => rfl) ?_
        simp only [n1, n3, n4]
        refine @wpG_p _ _ _ _ _ (some 4) (.int .i64 5) _ _ rfl (by rfl) (fun _ => rfl) ?_
        simp only [n1, n3, n4]
        refine wpG_done (fun V31 hv32 => ?_)
        have S33 : Hid (St w noB [] V31) := Lib.hid (S28.out.gr hv32)
        clear S28
        clear hv32
        refine ⟨rfl, hK _ _ ?_⟩
        clear hK
        go_wp2_with fail
        go_ret3
        (have e_f30 := f30.out; obtain ⟨e1_, e2_, e3_⟩ := Pl.h_err (Pl.hE_c2 f13 (by have := Hnn.out; omega) (by omega)) (by decide); exact ⟨none, 0, 0, by rw [e1_, e3_]; rfl, by rw [e2_]; exact S33.out.dropAll.nilOwn _ _⟩)
      | false =>
        have f34 := of_decide_eq_false Hc29.out.symm
        go_upto_region 8 with fail
        refine wpG_region_k (fun K hK => ?_)
        refine @wpG_p _ _ _ _ _ (some 18) (.string (bstr x)) _ _ rfl (by rfl) (fun _ => rfl) ?_
        simp only [n1, n3, n4]
        have hx1_ : 1 < x.length := by omega
        obtain ⟨mm, h_mm⟩ : ∃ q_ : Nat, q_ = Pl.uM x := ⟨_, rfl⟩
        have hmmb : mm < 256 := by rw [h_mm]; exact (x.getD 1 0).toNat_lt
        have Hmm := Lib.hid h_mm
        clear h_mm
        refine @wpG_p _ _ _ _ _ (some 19) (.int .u8 (mm : Int)) _ _ rfl (by rfl) (fun W => (op_str_idx W x 1 hx1_ rfl rfl rfl Try.underlying9).trans (by rw [Hmm.out]; rfl)) ?_
        simp only [n1, n3, n4]
        refine @wpG_p _ _ _ _ _ (some 20) (.int .i64 (mm : Int)) _ _ rfl (by rfl) (fun W => op_conv_i64 W (mm : Int) (by omega) rfl rfl Try.underlying5 Try.underlying3) ?_
        simp only [n1, n3, n4]
        refine @wpG_p _ _ _ _ _ (some 6) (.int .i64 (mm : Int)) _ _ rfl (by rfl) (fun _ => rfl) ?_
        simp only [n1, n3, n4]
        refine wpG_done (fun V35 hv36 => ?_)
        have S37 : Hid (St w noB [] V35) := Lib.hid (S28.out.gr hv36)
        clear S28
        clear hv36
        refine ⟨rfl, hK _ _ ?_⟩
        clear hK
        go_upto_region 9 with fail
        refine wpG_region_k (fun K hK => ?_)
        refine @wpG_p _ _ _ _ _ (some 21) (.int .i64 (mm : Int)) _ _ rfl (by rfl) (fun _ => rfl) ?_
        simp only [n1, n3, n4]
        refine @wpG_p _ _ _ _ _ (some 22) (.bool (decide ((mm : Int) = 0))) _ _ rfl (by rfl) (fun W => op_int_eql W (mm : Int) 0 rfl rfl rfl Try.underlying3) ?_
        simp only [n1, n3, n4]
        refine @wpG_p _ _ _ _ _ (some 23) (.bool (decide ((mm : Int) = 0))) _ _ rfl (by rfl) (fun _ => rfl) ?_
        simp only [n1, n3, n4]
        obtain ⟨c38, hc38⟩ : ∃ q_, q_ = (decide ((mm : Int) = 0)) := ⟨_, rfl⟩
        rw [← hc38]
        have Hc38 := Lib.hid hc38
        clear hc38
        cases c38 with
        | true =>
          have f39 := Lib.hid (of_decide_eq_true Hc38.out.symm)
          have f39a := Int.le_of_eq f39.out
          have f39b := Int.le_of_eq f39.out.symm
          refine @wpG_no _ _ _ _ _ (some 24) _ _ rfl (by rfl) ?_
          simp only [n1, n3, n4]
          refine @wpG_no _ _ _ _ _ (some 25) _ _ rfl (by rfl) ?_
          simp only [n1, n3, n4]
          refine @wpG_no _ _ _ _ _ (some 26) _ _ rfl (by rfl) ?_
          simp only [n1, n3, n4]
          refine @wpG_p _ _ _ _ _ (some 27) (.bool true) _ _ rfl (by rfl) (fun W => by go_simp) ?_
          simp only [n1, n3, n4]
          refine wpG_done (fun V40 hv41 => ?_)
          have S42 : Hid (St w noB [] V40) := Lib.hid (S37.out.gr hv41)
          clear S37
          clear hv41
          refine ⟨rfl, hK _ _ ?_⟩
          clear hK
          go_upto_region 10 with fail
          refine wpG_region_k (fun K hK => ?_)
          refine @wpG_p _ _ _ _ _ (some 2) (.int .i64 0) _ _ rfl (by rfl) (fun _ => rfl) ?_
          simp only [n1, n3, n4]
          refine @wpG_p _ _ _ _ _ (some 3) (.slice none 0 0) _ _ rfl (by rfl) (fun _ => rfl) ?_
          simp only [n1, n3, n4]
          refine @wpG_p _ _ _ _ _ (some 4) (.int .i64 6) _ _ rfl (by rfl) (fun _ => rfl) ?_
          simp only [n1, n3, n4]
          refine wpG_done (fun V43 hv44 => ?_)
          have S45 : Hid (St w noB [] V43) := Lib.hid (S42.out.gr hv44)
          clear S42
          clear hv44
          refine ⟨rfl, hK _ _ ?_⟩
          clear hK
          go_wp2_with fail
          go_ret3
          (have e_f39 := f39.out; obtain ⟨e1_, e2_, e3_⟩ := Pl.h_err (Pl.hE_c3 f13 (by have := Hnn.out; omega) (by omega) (by have := Hmm.out; have := Hnn.out; omega)) (by decide); exact ⟨none, 0, 0, by rw [e1_, e3_]; rfl, by rw [e2_]; exact S45.out.dropAll.nilOwn _ _⟩)
        | false =>
          have f46 := of_decide_eq_false Hc38.out.symm
          refine @wpG_p _ _ _ _ _ (some 24) (.int .i64 (mm : Int)) _ _ rfl (by rfl) (fun _ => rfl) ?_
          simp only [n1, n3, n4]
          refine @wpG_p _ _ _ _ _ (some 25) (.int .i64 (nn : Int)) _ _ rfl (by rfl) (fun _ => rfl) ?_
          simp only [n1, n3, n4]
          refine @wpG_p _ _ _ _ _ (some 26) (.bool (decide ((mm : Int) > (nn : Int)))) _ _ rfl (by rfl) (fun W => op_int_gtr W (mm : Int) (nn : Int) rfl rfl rfl Try.underlying3) ?_
          simp only [n1, n3, n4]
          refine @wpG_p _ _ _ _ _ (some 27) (.bool (decide ((mm : Int) > (nn : Int)))) _ _ rfl (by rfl) (fun W => by go_simp) ?_
          simp only [n1, n3, n4]
          refine wpG_done (fun V47 hv48 => ?_)
          have S49 : Hid (St w noB [] V47) := Lib.hid (S37.out.gr hv48)
          clear S37
          clear hv48
          refine ⟨rfl, hK _ _ ?_⟩
          clear hK
          obtain ⟨c50, hc50⟩ : ∃ q_, q_ = (decide ((mm : Int) > (nn : Int))) := ⟨_, rfl⟩
          rw [← hc50]
          have Hc50 := Lib.hid hc50
          clear hc50
          cases c50 with
          | true =>
            have f51 := of_decide_eq_true Hc50.out.symm
            go_upto_region 10 with fail
            refine wpG_region_k (fun K hK => ?_)
            refine @wpG_p _ _ _ _ _ (some 2) (.int .i64 0) _ _ rfl (by rfl) (fun _ => rfl) ?_
            simp only [n1, n3, n4]
            refine @wpG_p _ _ _ _ _ (some 3) (.slice none 0 0) _ _ rfl (by rfl) (fun _ => rfl) ?_
            simp only [n1, n3, n4]
            refine @wpG_p _ _ _ _ _ (some 4) (.int .i64 6) _ _ rfl (by rfl) (fun _ => rfl) ?_
            simp only [n1, n3, n4]
            refine wpG_done (fun V52 hv53 => ?_)
            have S54 : Hid (St w noB [] V52) := Lib.hid (S49.out.gr hv53)
            clear S49
            clear hv53
            refine ⟨rfl, hK _ _ ?_⟩
            clear hK
            go_wp2_with fail
            go_ret3
            (obtain ⟨e1_, e2_, e3_⟩ := Pl.h_err (Pl.hE_c3 f13 (by have := Hnn.out; omega) (by omega) (by have := Hmm.out; have := Hnn.out; omega)) (by decide); exact ⟨none, 0, 0, by rw [e1_, e3_]; rfl, by rw [e2_]; exact S54.out.dropAll.nilOwn _ _⟩)
          | false =>
            have f55 := of_decide_eq_false Hc50.out.symm
            go_upto_region 11 with fail
            refine wpG_region_k (fun K hK => ?_)
            refine @wpG_p _ _ _ _ _ (some 28) (.string (bstr x)) _ _ rfl (by rfl) (fun _ => rfl) ?_
            simp only [n1, n3, n4]
            refine @wpG_p _ _ _ _ _ (some 29) (.int .i64 (mm : Int)) _ _ rfl (by rfl) (fun _ => rfl) ?_
            simp only [n1, n3, n4]
            obtain ⟨p2, h_p2⟩ : ∃ q_ : Nat, q_ = 2 + mm := ⟨_, rfl⟩
            have hp2b : p2 ≤ 300 ∧ 2 ≤ p2 := by omega
            have Hp2 := Lib.hid h_p2
            clear h_p2
            refine @wpG_p _ _ _ _ _ (some 30) (.int .i64 (p2 : Int)) _ _ rfl (by rfl) (fun W => op_n_add 2 mm p2 Hp2.out.symm (by omega) rfl rfl rfl) ?_
            simp only [n1, n3, n4]
            refine @wpG_p _ _ _ _ _ (some 31) (.string (bstr x)) _ _ rfl (by rfl) (fun _ => rfl) ?_
            simp only [n1, n3, n4]
            refine @wpG_p _ _ _ _ _ (some 32) (.int .i64 (x.length : Int)) _ _ rfl (by rfl) (fun W => op_str_len W x rfl rfl Try.underlying9) ?_
            simp only [n1, n3, n4]
            obtain ⟨mi, h_mi⟩ : ∃ q_ : Nat, q_ = min p2 x.length := ⟨_, rfl⟩
            have hmib : mi ≤ p2 ∧ mi ≤ x.length ∧ (mi = p2 ∨ mi = x.length) := by omega
            have Hmi := Lib.hid h_mi
            clear h_mi
            refine @wpG_p _ _ _ _ _ (some 33) (.int .i64 (mi : Int)) _ _ rfl (by rfl) (fun W => by (go_simp <;> (repeat' split) <;> omega)) ?_
            simp only [n1, n3, n4]
            refine @wpG_p _ _ _ _ _ (some 34) (.string (bstr ((x.take mi).drop 2))) _ _ rfl (by rfl) (fun W => op_str_slice W x 2 mi (by omega) (by omega) rfl rfl rfl rfl Try.underlying9) ?_
            simp only [n1, n3, n4]
            refine wpG_call (some 35) 48 #[.string (bstr ((x.take mi).drop 2))] rfl (by rfl) (fun W => by go_simp) (fun W56 hg57 => ?_)
            refine (numbers_any ((x.take mi).drop 2) W56 (by (rw [List.length_drop, List.length_take]; omega))).mono ?_
            rintro e w58 ⟨D, q, dc, rfl, hS_⟩
            refine ⟨_, rfl, ?_⟩
            have hT_ := (S49.out.gr hg57).got hS_
            simp only [n1, n3, n4]
            have S59 : Hid (St w noB [own (.slice D q dc) 3 1 q (ic (Pl.ints ((x.take mi).drop 2)))] w58) := Lib.hid hT_
            clear S49
            clear hT_ hS_ hg57
            have hlq : Hid (q = (Pl.ints ((x.take mi).drop 2)).length) := Lib.hid (own_icl (S59.out.ownr 0 rfl))
            have hPe_ : Pl.ints ((x.take mi).drop 2) = Pl.uP x := by rw [Pl.take_drop (r := mm) (by rw [Hmi.out, Hp2.out]), Hmm.out]; rfl
            have S60 : Hid (St w noB [own (.slice D q dc) 3 1 q (ic (Pl.uP x))] w58) := Lib.hid (by have h_ := S59.out; rw [show ic (Pl.ints ((x.take mi).drop 2)) = ic (Pl.uP x) from (by rw [hPe_])] at h_; exact h_)
            clear S59
            have HQL : Hid (q = (Pl.uP x).length) := Lib.hid (by have h_ := hlq.out; rw [hPe_] at h_; exact h_)
            clear hPe_
            have hq256_ : q ≤ 256 := by have h1_ := HQL.out; have h2_ := Pl.uP_len x; have h3_ := Hmm.out; omega
            refine @wpG_p _ _ _ _ _ (some 7) (.slice D q dc) _ _ rfl (by rfl) (fun _ => rfl) ?_
            simp only [n1, n3, n4]
            refine wpG_done (fun V61 hv62 => ?_)
            have S63 : Hid (St w noB [own (.slice D q dc) 3 1 q (ic (Pl.uP x))] V61) := Lib.hid (S60.out.gr hv62)
            clear S60
            clear hv62
            refine ⟨rfl, hK _ _ ?_⟩
            clear hK
            go_upto_region 12 with fail
            refine wpG_region_k (fun K hK => ?_)
            refine @wpG_p _ _ _ _ _ (some 37) (.slice D q dc) _ _ rfl (by rfl) (fun _ => rfl) ?_
            simp only [n1, n3, n4]
            refine wpG_call (some 38) 28 #[.slice D q dc] rfl (by rfl) (fun W => by go_simp) (fun W64 hg65 => ?_)
            refine (different_any _ _ _ (Pl.uP x) W64 (SL.ofOwn ((S63.out.gr hg65).ownr 0 rfl)) (by omega) (by unfold Pl.uP; exact Pl.cell_ints _)).mono ?_
            rintro e w66 ⟨G, d, gc, rfl, hS_⟩
            refine ⟨_, rfl, ?_⟩
            have hT_ := (S63.out.gr hg65).got hS_
            simp only [n1, n3, n4]
            have S67 : Hid (St w noB [own (.slice G d gc) 3 1 d (ic (Pl.pal (Pl.uP x))), own (.slice D q dc) 3 1 q (ic (Pl.uP x))] w66) := Lib.hid hT_
            clear S63
            clear hT_ hS_ hg65
            have hld : Hid (d = (Pl.pal (Pl.uP x)).length) := Lib.hid (own_icl (S67.out.ownr 0 rfl))
            have HDL := hld
            refine @wpG_p _ _ _ _ _ (some 39) (.int .i64 (d : Int)) _ _ rfl (by rfl) (fun W => by go_simp) ?_
            simp only [n1, n3, n4]
            refine @wpG_p _ _ _ _ _ (some 40) (.slice D q dc) _ _ rfl (by rfl) (fun _ => rfl) ?_
            simp only [n1, n3, n4]
            refine @wpG_p _ _ _ _ _ (some 41) (.int .i64 (q : Int)) _ _ rfl (by rfl) (fun W => by go_simp) ?_
            simp only [n1, n3, n4]
            refine @wpG_p _ _ _ _ _ (some 42) (.bool (decide ((d : Int) < (q : Int)))) _ _ rfl (by rfl) (fun W => op_int_lss W (d : Int) (q : Int) rfl rfl rfl Try.underlying3) ?_
            simp only [n1, n3, n4]
            refine @wpG_p _ _ _ _ _ (some 36) (.bool (decide ((d : Int) < (q : Int)))) _ _ rfl (by rfl) (fun _ => rfl) ?_
            simp only [n1, n3, n4]
            refine wpG_done (fun V68 hv69 => ?_)
            have S70 : Hid (St w noB [own (.slice G d gc) 3 1 d (ic (Pl.pal (Pl.uP x))), own (.slice D q dc) 3 1 q (ic (Pl.uP x))] V68) := Lib.hid (S67.out.gr hv69)
            clear S67
            clear hv69
            refine ⟨rfl, hK _ _ ?_⟩
            clear hK
            obtain ⟨c71, hc71⟩ : ∃ q_, q_ = (decide ((d : Int) < (q : Int))) := ⟨_, rfl⟩
            rw [← hc71]
            have Hc71 := Lib.hid hc71
            clear hc71
            cases c71 with
            | true =>
              have f72 := of_decide_eq_true Hc71.out.symm
              go_upto_region 13 with fail
              refine wpG_region_k (fun K hK => ?_)
              refine @wpG_p _ _ _ _ _ (some 2) (.int .i64 0) _ _ rfl (by rfl) (fun _ => rfl) ?_
              simp only [n1, n3, n4]
              refine @wpG_p _ _ _ _ _ (some 3) (.slice none 0 0) _ _ rfl (by rfl) (fun _ => rfl) ?_
              simp only [n1, n3, n4]
              refine @wpG_p _ _ _ _ _ (some 4) (.int .i64 6) _ _ rfl (by rfl) (fun _ => rfl) ?_
              simp only [n1, n3, n4]
              refine wpG_done (fun V73 hv74 => ?_)
              have S75 : Hid (St w noB [own (.slice G d gc) 3 1 d (ic (Pl.pal (Pl.uP x))), own (.slice D q dc) 3 1 q (ic (Pl.uP x))] V73) := Lib.hid (S70.out.gr hv74)
              clear S70
              clear hv74
              refine ⟨rfl, hK _ _ ?_⟩
              clear hK
              go_wp2_with fail
              go_ret3
              (obtain ⟨e1_, e2_, e3_⟩ := Pl.h_err (Pl.hE_c4 f13 (by have := Hnn.out; omega) (by omega) (by have := Hmm.out; have := Hnn.out; omega) (by rw [← HQL.out, ← HDL.out]; omega)) (by decide); exact ⟨none, 0, 0, by rw [e1_, e3_]; rfl, by rw [e2_]; exact S75.out.dropAll.nilOwn _ _⟩)
            | false =>
              have f76 := of_decide_eq_false Hc71.out.symm
              go_upto_region 14 with fail
              refine wpG_region_k (fun K hK => ?_)
              refine @wpG_p _ _ _ _ _ (some 44) (.slice D q dc) _ _ rfl (by rfl) (fun _ => rfl) ?_
              simp only [n1, n3, n4]
              refine @wpG_p _ _ _ _ _ (some 45) (.int .i64 (q : Int)) _ _ rfl (by rfl) (fun W => by go_simp) ?_
              simp only [n1, n3, n4]
              refine @wpG_p _ _ _ _ _ (some 46) (.int .i64 (mm : Int)) _ _ rfl (by rfl) (fun _ => rfl) ?_
              simp only [n1, n3, n4]
              refine @wpG_p _ _ _ _ _ (some 47) (.bool (decide ((q : Int) < (mm : Int)))) _ _ rfl (by rfl) (fun W => op_int_lss W (q : Int) (mm : Int) rfl rfl rfl Try.underlying3) ?_
              simp only [n1, n3, n4]
              refine @wpG_p _ _ _ _ _ (some 43) (.bool (decide ((q : Int) < (mm : Int)))) _ _ rfl (by rfl) (fun _ => rfl) ?_
              simp only [n1, n3, n4]
              refine wpG_done (fun V77 hv78 => ?_)
              have S79 : Hid (St w noB [own (.slice G d gc) 3 1 d (ic (Pl.pal (Pl.uP x))), own (.slice D q dc) 3 1 q (ic (Pl.uP x))] V77) := Lib.hid (S70.out.gr hv78)
              clear S70
              clear hv78
              refine ⟨rfl, hK _ _ ?_⟩
              clear hK
              obtain ⟨c80, hc80⟩ : ∃ q_, q_ = (decide ((q : Int) < (mm : Int))) := ⟨_, rfl⟩
              rw [← hc80]
              have Hc80 := Lib.hid hc80
              clear hc80
              cases c80 with
              | true =>
                have f81 := of_decide_eq_true Hc80.out.symm
                go_upto_region 15 with fail
                refine wpG_region_k (fun K hK => ?_)
                refine @wpG_p _ _ _ _ _ (some 2) (.int .i64 0) _ _ rfl (by rfl) (fun _ => rfl) ?_
                simp only [n1, n3, n4]
                refine @wpG_p _ _ _ _ _ (some 3) (.slice none 0 0) _ _ rfl (by rfl) (fun _ => rfl) ?_
                simp only [n1, n3, n4]
                refine @wpG_p _ _ _ _ _ (some 4) (.int .i64 5) _ _ rfl (by rfl) (fun _ => rfl) ?_
                simp only [n1, n3, n4]
                refine wpG_done (fun V82 hv83 => ?_)
                have S84 : Hid (St w noB [own (.slice G d gc) 3 1 d (ic (Pl.pal (Pl.uP x))), own (.slice D q dc) 3 1 q (ic (Pl.uP x))] V82) := Lib.hid (S79.out.gr hv83)
                clear S79
                clear hv83
                refine ⟨rfl, hK _ _ ?_⟩
                clear hK
                go_wp2_with fail
                go_ret3
                (obtain ⟨e1_, e2_, e3_⟩ := Pl.h_err (Pl.hE_c5 f13 (by have := Hnn.out; omega) (by omega) (by have := Hmm.out; have := Hnn.out; omega) (by rw [← HQL.out, ← HDL.out]; omega) (by rw [← HQL.out, ← Hmm.out]; omega)) (by decide); exact ⟨none, 0, 0, by rw [e1_, e3_]; rfl, by rw [e2_]; exact S84.out.dropAll.nilOwn _ _⟩)
              | false =>
                have f85 := of_decide_eq_false Hc80.out.symm
                go_upto_region 16 with fail
                refine wpG_region_k (fun K hK => ?_)
                refine @wpG_p _ _ _ _ _ (some 48) (.int .i64 (nn : Int)) _ _ rfl (by rfl) (fun _ => rfl) ?_
                simp only [n1, n3, n4]
                refine @wpG_p _ _ _ _ _ (some 49) (.slice D q dc) _ _ rfl (by rfl) (fun _ => rfl) ?_
                simp only [n1, n3, n4]
                refine @wpG_p _ _ _ _ _ (some 2) (.int .i64 (nn : Int)) _ _ rfl (by rfl) (fun _ => rfl) ?_
                simp only [n1, n3, n4]
                refine @wpG_p _ _ _ _ _ (some 3) (.slice D q dc) _ _ rfl (by rfl) (fun _ => rfl) ?_
                simp only [n1, n3, n4]
                refine @wpG_p _ _ _ _ _ (some 4) (.int .i64 0) _ _ rfl (by rfl) (fun _ => rfl) ?_
                simp only [n1, n3, n4]
                refine wpG_done (fun V86 hv87 => ?_)
                have S88 : Hid (St w noB [own (.slice G d gc) 3 1 d (ic (Pl.pal (Pl.uP x))), own (.slice D q dc) 3 1 q (ic (Pl.uP x))] V86) := Lib.hid (S79.out.gr hv87)
                clear S79
                clear hv87
                refine ⟨rfl, hK _ _ ?_⟩
                clear hK
                go_wp2_with fail
                go_ret3
                (have hE_ := Pl.hE_c6 f13 (by have := Hnn.out; omega) (by omega) (by have := Hmm.out; have := Hnn.out; omega) (by rw [← HQL.out, ← HDL.out]; omega) (by rw [← HQL.out, ← Hmm.out]; omega); obtain ⟨e1_, e2_⟩ := Pl.h_ok hE_; exact ⟨D, q, dc, by rw [e1_, hE_, ← Hnn.out]; rfl, by rw [e2_]; exact S88.out.sub (.cons _ (.cons_cons _ .slnil))⟩)

end Go.Proofs.Ytfomieekdbkcnaa
