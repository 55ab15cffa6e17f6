/-
  Contracts: a name by the specification, validity.
-/
import Derived.Test.YtpjjddjoegnipaaDoorMc2
import Derived.Test.YtpjjddjoegnipaaDoorMad
import Derived.Handy
namespace Go.Proofs.YtpjjddjoegnipaaDoor
open Go Go.RowKit
set_option linter.unusedVariables false
set_option linter.unusedSimpArgs false
theorem rangeAt_part {w : World} {b o : Nat} {cs ds : List Value} (h : w.rangeAt b o cs) (f n : Nat) (e : (cs.drop f).take n = ds) : w.rangeAt b (o + f) ds := fun j v hj => by
  rw [Nat.add_assoc]
  refine h (f + j) v ?_
  rw [← e, List.getElem?_take] at hj
  split at hj
  · rwa [List.getElem?_drop] at hj
  · cases hj
set_option maxRecDepth 1000000 in
set_option maxHeartbeats 4000000 in
theorem isName_any (x : List UInt8) (w : World) :
    Calls Tryd.prog 44 #[.string (bstr x)] w fun e w' => e = .returned (.bool (Ma.nameOk x)) ∧ Below w.heap.size w w' := by
  have S1 : Hid (St w noB [] w) := Lib.hid (St.start w)
  go_enter Tryd.func44, Tryd.ntmps44
  go_upto_region 0 with fail
  refine wpG_region_k (fun K hK => ?_)
  refine @wpG_p _ _ _ _ _ (some 2) (.bool false) _ _ rfl (by rfl) (fun _ => rfl) ?_
  simp only [n1, n3, n4]
  refine wpG_done (fun V2 hv3 => ?_)
  have S4 : Hid (St w noB [] V2) := Lib.hid (S1.out.gr hv3)
  clear S1
  clear hv3
  refine ⟨rfl, hK _ _ ?_⟩
  clear hK
  go_upto_region 1 with fail
  refine wpG_region_k (fun K hK => ?_)
  refine @wpG_p _ _ _ _ _ (some 6) (.string (bstr x)) _ _ rfl (by rfl) (fun _ => rfl) ?_
  simp only [n1, n3, n4]
  refine @wpG_p _ _ _ _ _ (some 7) (.int .i64 (x.length : Int)) _ _ rfl (by rfl) (fun W => op_str_len W x rfl rfl Tryd.underlying9) ?_
  simp only [n1, n3, n4]
  refine @wpG_p _ _ _ _ _ (some 8) (.bool (decide ((x.length : Int) < 1))) _ _ rfl (by rfl) (fun W => op_int_lss W (x.length : Int) 1 rfl rfl rfl Tryd.underlying3) ?_
  simp only [n1, n3, n4]
  refine @wpG_p _ _ _ _ _ (some 9) (.bool (decide ((x.length : Int) < 1))) _ _ rfl (by rfl) (fun _ => rfl) ?_
  simp only [n1, n3, n4]
  obtain ⟨c5, hc5⟩ : ∃ q_, q_ = (decide ((x.length : Int) < 1)) := ⟨_, rfl⟩
  rw [← hc5]
  have Hc5 := Lib.hid hc5
  clear hc5
  cases c5 with
  | true =>
    have f6 := of_decide_eq_true Hc5.out.symm
    refine @wpG_no _ _ _ _ _ (some 10) _ _ rfl (by rfl) ?_
    simp only [n1, n3, n4]
    refine @wpG_no _ _ _ _ _ (some 11) _ _ rfl (by rfl) ?_
    simp only [n1, n3, n4]
    refine @wpG_no _ _ _ _ _ (some 12) _ _ rfl (by rfl) ?_
    simp only [n1, n3, n4]
    refine @wpG_p _ _ _ _ _ (some 13) (.bool true) _ _ rfl (by rfl) (fun W => by go_simp) ?_
    simp only [n1, n3, n4]
    refine wpG_done (fun V7 hv8 => ?_)
    have S9 : Hid (St w noB [] V7) := Lib.hid (S4.out.gr hv8)
    clear S4
    clear hv8
    refine ⟨rfl, hK _ _ ?_⟩
    clear hK
    go_upto_region 2 with fail
    refine wpG_region_k (fun K hK => ?_)
    refine @wpG_p _ _ _ _ _ (some 2) (.bool false) _ _ rfl (by rfl) (fun _ => rfl) ?_
    simp only [n1, n3, n4]
    refine wpG_done (fun V10 hv11 => ?_)
    have S12 : Hid (St w noB [] V10) := Lib.hid (S9.out.gr hv11)
    clear S9
    clear hv11
    refine ⟨rfl, hK _ _ ?_⟩
    clear hK
    go_wp2_with fail
    go_ret
    refine ⟨?_, S12.out.bel⟩
    show Ending.returned (.bool false) = _
    (first | rfl | (exact rb_f (Ma.nameOk_short (x := x) (by omega))))
  | false =>
    have f13 := of_decide_eq_false Hc5.out.symm
    refine @wpG_p _ _ _ _ _ (some 10) (.string (bstr x)) _ _ rfl (by rfl) (fun _ => rfl) ?_
    simp only [n1, n3, n4]
    refine @wpG_p _ _ _ _ _ (some 11) (.int .i64 (x.length : Int)) _ _ rfl (by rfl) (fun W => op_str_len W x rfl rfl Tryd.underlying9) ?_
    simp only [n1, n3, n4]
    refine @wpG_p _ _ _ _ _ (some 12) (.bool (decide ((x.length : Int) > 32))) _ _ rfl (by rfl) (fun W => op_int_gtr W (x.length : Int) 32 rfl rfl rfl Tryd.underlying3) ?_
    simp only [n1, n3, n4]
    refine @wpG_p _ _ _ _ _ (some 13) (.bool (decide ((x.length : Int) > 32))) _ _ rfl (by rfl) (fun W => by go_simp) ?_
    simp only [n1, n3, n4]
    refine wpG_done (fun V14 hv15 => ?_)
    have S16 : Hid (St w noB [] V14) := Lib.hid (S4.out.gr hv15)
    clear S4
    clear hv15
    refine ⟨rfl, hK _ _ ?_⟩
    clear hK
    obtain ⟨c17, hc17⟩ : ∃ q_, q_ = (decide ((x.length : Int) > 32)) := ⟨_, rfl⟩
    rw [← hc17]
    have Hc17 := Lib.hid hc17
    clear hc17
    cases c17 with
    | true =>
      have f18 := of_decide_eq_true Hc17.out.symm
      go_upto_region 2 with fail
      refine wpG_region_k (fun K hK => ?_)
      refine @wpG_p _ _ _ _ _ (some 2) (.bool false) _ _ rfl (by rfl) (fun _ => rfl) ?_
      simp only [n1, n3, n4]
      refine wpG_done (fun V19 hv20 => ?_)
      have S21 : Hid (St w noB [] V19) := Lib.hid (S16.out.gr hv20)
      clear S16
      clear hv20
      refine ⟨rfl, hK _ _ ?_⟩
      clear hK
      go_wp2_with fail
      go_ret
      refine ⟨?_, S21.out.bel⟩
      show Ending.returned (.bool false) = _
      (first | rfl | (exact rb_f (Ma.nameOk_short (x := x) (by omega))))
    | false =>
      have f22 := of_decide_eq_false Hc17.out.symm
      go_upto_region 3 with fail
      refine wpG_region_k (fun K hK => ?_)
      refine @wpG_p _ _ _ _ _ (some 3) (.int .i64 0) _ _ rfl (by rfl) (fun _ => rfl) ?_
      simp only [n1, n3, n4]
      refine wpG_done (fun V23 hv24 => ?_)
      have S25 : Hid (St w noB [] V23) := Lib.hid (S16.out.gr hv24)
      clear S16
      clear hv24
      refine ⟨rfl, hK _ _ ?_⟩
      clear hK
      go_wp2_with fail
      go_loopw [3] (fun v3 wr => ∃ (k : Nat), v3 = .int .i64 (k : Int) ∧ k ≤ Ma.ff (Ma.okc x) x.length ∧ k ≤ x.length ∧ St w noB [] wr) (fun i _ => x.length - (intOf i).toNat)
      case atStart => exact ⟨0, rfl, Nat.zero_le _, Nat.zero_le _, S25.out⟩
      case round =>
        obtain ⟨k, rfl, hk_, hkl, hS⟩ := hrel
        have HK_ := Lib.hid hk_
        clear hk_
        have SL := Lib.hid hS
        clear S25 hS
        have S26 := SL
        clear SL
        go_upto_region 4 with fail
        refine wpG_region_k (fun K hK => ?_)
        refine @wpG_p _ _ _ _ _ (some 14) (.int .i64 (k : Int)) _ _ rfl (by rfl) (fun _ => rfl) ?_
        simp only [n1, n3, n4]
        refine @wpG_p _ _ _ _ _ (some 15) (.string (bstr x)) _ _ rfl (by rfl) (fun _ => rfl) ?_
        simp only [n1, n3, n4]
        refine @wpG_p _ _ _ _ _ (some 16) (.int .i64 (x.length : Int)) _ _ rfl (by rfl) (fun W => op_str_len W x rfl rfl Tryd.underlying9) ?_
        simp only [n1, n3, n4]
        refine @wpG_p _ _ _ _ _ (some 17) (.bool (decide ((k : Int) < (x.length : Int)))) _ _ rfl (by rfl) (fun W => op_int_lss W (k : Int) (x.length : Int) rfl rfl rfl Tryd.underlying3) ?_
        simp only [n1, n3, n4]
        refine wpG_done (fun V27 hv28 => ?_)
        have S29 : Hid (St w noB [] V27) := Lib.hid (S26.out.gr hv28)
        clear S26
        clear hv28
        refine ⟨rfl, hK _ _ ?_⟩
        clear hK
        obtain ⟨c30, hc30⟩ : ∃ q_, q_ = (decide ((k : Int) < (x.length : Int))) := ⟨_, rfl⟩
        rw [← hc30]
        have Hc30 := Lib.hid hc30
        clear hc30
        cases c30 with
        | true =>
          have f31 := of_decide_eq_true Hc30.out.symm
          go_upto_region 6 with fail
          refine wpG_region_k (fun K hK => ?_)
          refine @wpG_p _ _ _ _ _ (some 20) (.string (bstr x)) _ _ rfl (by rfl) (fun _ => rfl) ?_
          simp only [n1, n3, n4]
          refine @wpG_p _ _ _ _ _ (some 21) (.int .i64 (k : Int)) _ _ rfl (by rfl) (fun _ => rfl) ?_
          simp only [n1, n3, n4]
          refine @wpG_p _ _ _ _ _ (some 22) (.int .u8 ((Ma.byt x k).toNat : Int)) _ _ rfl (by rfl) (fun W => op_str_idx W x k (by omega) rfl rfl rfl Tryd.underlying9) ?_
          simp only [n1, n3, n4]
          refine @wpG_p _ _ _ _ _ (some 23) (.bool (decide (((Ma.byt x k).toNat : Int) ≥ 97))) _ _ rfl (by rfl) (fun W => op_int_geq W ((Ma.byt x k).toNat : Int) 97 rfl rfl rfl Tryd.underlying5) ?_
          simp only [n1, n3, n4]
          refine @wpG_p _ _ _ _ _ (some 24) (.bool (decide (((Ma.byt x k).toNat : Int) ≥ 97))) _ _ rfl (by rfl) (fun _ => rfl) ?_
          simp only [n1, n3, n4]
          obtain ⟨c32, hc32⟩ : ∃ q_, q_ = (decide (((Ma.byt x k).toNat : Int) ≥ 97)) := ⟨_, rfl⟩
          rw [← hc32]
          have Hc32 := Lib.hid hc32
          clear hc32
          cases c32 with
          | true =>
            have f33 := of_decide_eq_true Hc32.out.symm
            refine @wpG_p _ _ _ _ _ (some 25) (.string (bstr x)) _ _ rfl (by rfl) (fun _ => rfl) ?_
            simp only [n1, n3, n4]
            refine @wpG_p _ _ _ _ _ (some 26) (.int .i64 (k : Int)) _ _ rfl (by rfl) (fun _ => rfl) ?_
            simp only [n1, n3, n4]
            refine @wpG_p _ _ _ _ _ (some 27) (.int .u8 ((Ma.byt x k).toNat : Int)) _ _ rfl (by rfl) (fun W => op_str_idx W x k (by omega) rfl rfl rfl Tryd.underlying9) ?_
            simp only [n1, n3, n4]
            refine @wpG_p _ _ _ _ _ (some 28) (.bool (decide (((Ma.byt x k).toNat : Int) ≤ 122))) _ _ rfl (by rfl) (fun W => op_int_leq W ((Ma.byt x k).toNat : Int) 122 rfl rfl rfl Tryd.underlying5) ?_
            simp only [n1, n3, n4]
            refine @wpG_p _ _ _ _ _ (some 29) (.bool (decide (((Ma.byt x k).toNat : Int) ≤ 122))) _ _ rfl (by rfl) (fun W => by go_simp) ?_
            simp only [n1, n3, n4]
            refine @wpG_p _ _ _ _ _ (some 4) (.bool (decide (((Ma.byt x k).toNat : Int) ≤ 122))) _ _ rfl (by rfl) (fun _ => rfl) ?_
            simp only [n1, n3, n4]
            refine wpG_done (fun V34 hv35 => ?_)
            have S36 : Hid (St w noB [] V34) := Lib.hid (S29.out.gr hv35)
            clear S29
            clear hv35
            refine ⟨rfl, hK _ _ ?_⟩
            clear hK
            go_upto_region 7 with fail
            refine wpG_region_k (fun K hK => ?_)
            refine @wpG_p _ _ _ _ _ (some 30) (.string (bstr x)) _ _ rfl (by rfl) (fun _ => rfl) ?_
            simp only [n1, n3, n4]
            refine @wpG_p _ _ _ _ _ (some 31) (.int .i64 (k : Int)) _ _ rfl (by rfl) (fun _ => rfl) ?_
            simp only [n1, n3, n4]
            refine @wpG_p _ _ _ _ _ (some 32) (.int .u8 ((Ma.byt x k).toNat : Int)) _ _ rfl (by rfl) (fun W => op_str_idx W x k (by omega) rfl rfl rfl Tryd.underlying9) ?_
            simp only [n1, n3, n4]
            refine @wpG_p _ _ _ _ _ (some 33) (.bool (decide (((Ma.byt x k).toNat : Int) = 45))) _ _ rfl (by rfl) (fun W => op_int_eql W ((Ma.byt x k).toNat : Int) 45 rfl rfl rfl Tryd.underlying5) ?_
            simp only [n1, n3, n4]
            refine @wpG_p _ _ _ _ _ (some 34) (.bool (decide (((Ma.byt x k).toNat : Int) = 45))) _ _ rfl (by rfl) (fun _ => rfl) ?_
            simp only [n1, n3, n4]
            obtain ⟨c37, hc37⟩ : ∃ q_, q_ = (decide (((Ma.byt x k).toNat : Int) = 45)) := ⟨_, rfl⟩
            rw [← hc37]
            have Hc37 := Lib.hid hc37
            clear hc37
            cases c37 with
            | true =>
              have f38 := Lib.hid (of_decide_eq_true Hc37.out.symm)
              have f38a := Int.le_of_eq f38.out
              have f38b := Int.le_of_eq f38.out.symm
              refine @wpG_p _ _ _ _ _ (some 35) (.int .i64 (k : Int)) _ _ rfl (by rfl) (fun _ => rfl) ?_
              simp only [n1, n3, n4]
              refine @wpG_p _ _ _ _ _ (some 36) (.bool (decide ((k : Int) > 0))) _ _ rfl (by rfl) (fun W => op_int_gtr W (k : Int) 0 rfl rfl rfl Tryd.underlying3) ?_
              simp only [n1, n3, n4]
              refine @wpG_p _ _ _ _ _ (some 37) (.bool (decide ((k : Int) > 0))) _ _ rfl (by rfl) (fun W => by go_simp) ?_
              simp only [n1, n3, n4]
              refine @wpG_p _ _ _ _ _ (some 38) (.bool (decide ((k : Int) > 0))) _ _ rfl (by rfl) (fun _ => rfl) ?_
              simp only [n1, n3, n4]
              obtain ⟨c39, hc39⟩ : ∃ q_, q_ = (decide ((k : Int) > 0)) := ⟨_, rfl⟩
              rw [← hc39]
              have Hc39 := Lib.hid hc39
              clear hc39
              cases c39 with
              | true =>
                have f40 := of_decide_eq_true Hc39.out.symm
                refine @wpG_p _ _ _ _ _ (some 39) (.int .i64 (k : Int)) _ _ rfl (by rfl) (fun _ => rfl) ?_
                simp only [n1, n3, n4]
                refine @wpG_p _ _ _ _ _ (some 40) (.string (bstr x)) _ _ rfl (by rfl) (fun _ => rfl) ?_
                simp only [n1, n3, n4]
                refine @wpG_p _ _ _ _ _ (some 41) (.int .i64 (x.length : Int)) _ _ rfl (by rfl) (fun W => op_str_len W x rfl rfl Tryd.underlying9) ?_
                simp only [n1, n3, n4]
                refine @wpG_p _ _ _ _ _ (some 42) (.int .i64 ((x.length : Int) - 1)) _ _ rfl (by rfl) (fun W => op_i_sub W (x.length : Int) 1 (by omega) rfl rfl rfl Tryd.underlying3) ?_
                simp only [n1, n3, n4]
                refine @wpG_p _ _ _ _ _ (some 43) (.bool (decide ((k : Int) < (x.length : Int) - 1))) _ _ rfl (by rfl) (fun W => op_int_lss W (k : Int) ((x.length : Int) - 1) rfl rfl rfl Tryd.underlying3) ?_
                simp only [n1, n3, n4]
                refine @wpG_p _ _ _ _ _ (some 44) (.bool (decide ((k : Int) < (x.length : Int) - 1))) _ _ rfl (by rfl) (fun W => by go_simp) ?_
                simp only [n1, n3, n4]
                refine @wpG_p _ _ _ _ _ (some 5) (.bool (decide ((k : Int) < (x.length : Int) - 1))) _ _ rfl (by rfl) (fun _ => rfl) ?_
                simp only [n1, n3, n4]
                refine wpG_done (fun V41 hv42 => ?_)
                have S43 : Hid (St w noB [] V41) := Lib.hid (S36.out.gr hv42)
                clear S36
                clear hv42
                refine ⟨rfl, hK _ _ ?_⟩
                clear hK
                go_upto_region 8 with fail
                refine wpG_region_k (fun K hK => ?_)
                refine @wpG_p _ _ _ _ _ (some 45) (.bool (decide (((Ma.byt x k).toNat : Int) ≤ 122))) _ _ rfl (by rfl) (fun _ => rfl) ?_
                simp only [n1, n3, n4]
                refine @wpG_p _ _ _ _ _ (some 46) (.bool (!(decide (((Ma.byt x k).toNat : Int) ≤ 122)))) _ _ rfl (by rfl) (fun W => by go_simp) ?_
                simp only [n1, n3, n4]
                refine @wpG_p _ _ _ _ _ (some 47) (.bool (!(decide (((Ma.byt x k).toNat : Int) ≤ 122)))) _ _ rfl (by rfl) (fun _ => rfl) ?_
                simp only [n1, n3, n4]
                obtain ⟨c44, hc44⟩ : ∃ q_, q_ = (!(decide (((Ma.byt x k).toNat : Int) ≤ 122))) := ⟨_, rfl⟩
                rw [← hc44]
                have Hc44 := Lib.hid hc44
                clear hc44
                cases c44 with
                | true =>
                  have f45 := of_decide_eq_false (bnt Hc44.out)
                  refine @wpG_p _ _ _ _ _ (some 48) (.bool (decide ((k : Int) < (x.length : Int) - 1))) _ _ rfl (by rfl) (fun _ => rfl) ?_
                  simp only [n1, n3, n4]
                  refine @wpG_p _ _ _ _ _ (some 49) (.bool (!(decide ((k : Int) < (x.length : Int) - 1)))) _ _ rfl (by rfl) (fun W => by go_simp) ?_
                  simp only [n1, n3, n4]
                  refine @wpG_p _ _ _ _ _ (some 50) (.bool (!(decide ((k : Int) < (x.length : Int) - 1)))) _ _ rfl (by rfl) (fun W => by go_simp) ?_
                  simp only [n1, n3, n4]
                  refine wpG_done (fun V46 hv47 => ?_)
                  have S48 : Hid (St w noB [] V46) := Lib.hid (S43.out.gr hv47)
                  clear S43
                  clear hv47
                  refine ⟨rfl, hK _ _ ?_⟩
                  clear hK
                  obtain ⟨c49, hc49⟩ : ∃ q_, q_ = (!(decide ((k : Int) < (x.length : Int) - 1))) := ⟨_, rfl⟩
                  rw [← hc49]
                  have Hc49 := Lib.hid hc49
                  clear hc49
                  cases c49 with
                  | true =>
                    have f50 := of_decide_eq_false (bnt Hc49.out)
                    go_upto_region 9 with fail
                    refine wpG_region_k (fun K hK => ?_)
                    refine @wpG_p _ _ _ _ _ (some 2) (.bool false) _ _ rfl (by rfl) (fun _ => rfl) ?_
                    simp only [n1, n3, n4]
                    refine wpG_done (fun V51 hv52 => ?_)
                    have S53 : Hid (St w noB [] V51) := Lib.hid (S48.out.gr hv52)
                    clear S48
                    clear hv52
                    refine ⟨rfl, hK _ _ ?_⟩
                    clear hK
                    go_wp2_with fail
                    go_ret
                    refine ⟨?_, S53.out.bel⟩
                    show Ending.returned (.bool false) = _
                    (first | rfl | (have e_f38 := f38.out; exact rb_f (Ma.nameOk_bad (x := x) HK_.out (by omega) (Ma.okc_no (Bool.eq_false_iff.2 (fun h => by have := Ma.letter_iff.1 h; omega)) (by first | (right; omega) | exact .inl (fun h => by have := Ma.is45.2 h; omega))))))
                  | false =>
                    have f54 := of_decide_eq_true (bnf Hc49.out)
                    go_upto_region 5 with fail
                    refine wpG_region_k (fun K hK => ?_)
                    refine @wpG_p _ _ _ _ _ (some 18) (.int .i64 (k : Int)) _ _ rfl (by rfl) (fun _ => rfl) ?_
                    simp only [n1, n3, n4]
                    refine @wpG_p _ _ _ _ _ (some 19) (.int .i64 ((k : Int) + 1)) _ _ rfl (by rfl) (fun W => op_i_add W (k : Int) 1 (by omega) rfl rfl rfl Tryd.underlying3) ?_
                    simp only [n1, n3, n4]
                    refine @wpG_p _ _ _ _ _ (some 3) (.int .i64 ((k : Int) + 1)) _ _ rfl (by rfl) (fun _ => rfl) ?_
                    simp only [n1, n3, n4]
                    refine wpG_done (fun V55 hv56 => ?_)
                    have S57 : Hid (St w noB [] V55) := Lib.hid (S48.out.gr hv56)
                    clear S48
                    clear hv56
                    refine ⟨rfl, hK _ _ ?_⟩
                    clear hK
                    go_wp2_with fail
                    go_roundw
                    case rel => exact ⟨k + 1, (by first | rfl | go_num), (by have e_f38 := f38.out; refine Ma.ff_step HK_.out (by omega) ?_; first | exact Ma.okc_letter (Ma.letter_iff.2 ⟨by omega, by omega⟩) | exact Ma.okc_inner (Ma.is45.1 (by omega)) (by omega) (by omega)), (by omega), S57.out⟩
                    case measure => first | (simp [intOf]; done) | (simp [intOf]; omega) | omega
                | false =>
                  have f58 := of_decide_eq_true (bnf Hc44.out)
                  refine @wpG_no _ _ _ _ _ (some 48) _ _ rfl (by rfl) ?_
                  simp only [n1, n3, n4]
                  refine @wpG_no _ _ _ _ _ (some 49) _ _ rfl (by rfl) ?_
                  simp only [n1, n3, n4]
                  refine @wpG_p _ _ _ _ _ (some 50) (.bool false) _ _ rfl (by rfl) (fun W => by go_simp) ?_
                  simp only [n1, n3, n4]
                  refine wpG_done (fun V59 hv60 => ?_)
                  have S61 : Hid (St w noB [] V59) := Lib.hid (S43.out.gr hv60)
                  clear S43
                  clear hv60
                  refine ⟨rfl, hK _ _ ?_⟩
                  clear hK
                  go_upto_region 5 with fail
                  refine wpG_region_k (fun K hK => ?_)
                  refine @wpG_p _ _ _ _ _ (some 18) (.int .i64 (k : Int)) _ _ rfl (by rfl) (fun _ => rfl) ?_
                  simp only [n1, n3, n4]
                  refine @wpG_p _ _ _ _ _ (some 19) (.int .i64 ((k : Int) + 1)) _ _ rfl (by rfl) (fun W => op_i_add W (k : Int) 1 (by omega) rfl rfl rfl Tryd.underlying3) ?_
                  simp only [n1, n3, n4]
                  refine @wpG_p _ _ _ _ _ (some 3) (.int .i64 ((k : Int) + 1)) _ _ rfl (by rfl) (fun _ => rfl) ?_
                  simp only [n1, n3, n4]
                  refine wpG_done (fun V62 hv63 => ?_)
                  have S64 : Hid (St w noB [] V62) := Lib.hid (S61.out.gr hv63)
                  clear S61
                  clear hv63
                  refine ⟨rfl, hK _ _ ?_⟩
                  clear hK
                  go_wp2_with fail
                  go_roundw
                  case rel => exact ⟨k + 1, (by first | rfl | go_num), (by have e_f38 := f38.out; refine Ma.ff_step HK_.out (by omega) ?_; first | exact Ma.okc_letter (Ma.letter_iff.2 ⟨by omega, by omega⟩) | exact Ma.okc_inner (Ma.is45.1 (by omega)) (by omega) (by omega)), (by omega), S64.out⟩
                  case measure => first | (simp [intOf]; done) | (simp [intOf]; omega) | omega
              | false =>
                have f65 := of_decide_eq_false Hc39.out.symm
                refine @wpG_no _ _ _ _ _ (some 39) _ _ rfl (by rfl) ?_
                simp only [n1, n3, n4]
                refine @wpG_no _ _ _ _ _ (some 40) _ _ rfl (by rfl) ?_
                simp only [n1, n3, n4]
                refine @wpG_no _ _ _ _ _ (some 41) _ _ rfl (by rfl) ?_
                simp only [n1, n3, n4]
                refine @wpG_no _ _ _ _ _ (some 42) _ _ rfl (by rfl) ?_
                simp only [n1, n3, n4]
                refine @wpG_no _ _ _ _ _ (some 43) _ _ rfl (by rfl) ?_
                simp only [n1, n3, n4]
                refine @wpG_p _ _ _ _ _ (some 44) (.bool false) _ _ rfl (by rfl) (fun W => by go_simp) ?_
                simp only [n1, n3, n4]
                refine @wpG_p _ _ _ _ _ (some 5) (.bool false) _ _ rfl (by rfl) (fun _ => rfl) ?_
                simp only [n1, n3, n4]
                refine wpG_done (fun V66 hv67 => ?_)
                have S68 : Hid (St w noB [] V66) := Lib.hid (S36.out.gr hv67)
                clear S36
                clear hv67
                refine ⟨rfl, hK _ _ ?_⟩
                clear hK
                go_upto_region 8 with fail
                refine wpG_region_k (fun K hK => ?_)
                refine @wpG_p _ _ _ _ _ (some 45) (.bool (decide (((Ma.byt x k).toNat : Int) ≤ 122))) _ _ rfl (by rfl) (fun _ => rfl) ?_
                simp only [n1, n3, n4]
                refine @wpG_p _ _ _ _ _ (some 46) (.bool (!(decide (((Ma.byt x k).toNat : Int) ≤ 122)))) _ _ rfl (by rfl) (fun W => by go_simp) ?_
                simp only [n1, n3, n4]
                refine @wpG_p _ _ _ _ _ (some 47) (.bool (!(decide (((Ma.byt x k).toNat : Int) ≤ 122)))) _ _ rfl (by rfl) (fun _ => rfl) ?_
                simp only [n1, n3, n4]
                obtain ⟨c69, hc69⟩ : ∃ q_, q_ = (!(decide (((Ma.byt x k).toNat : Int) ≤ 122))) := ⟨_, rfl⟩
                rw [← hc69]
                have Hc69 := Lib.hid hc69
                clear hc69
                cases c69 with
                | true =>
                  have f70 := of_decide_eq_false (bnt Hc69.out)
                  refine @wpG_p _ _ _ _ _ (some 48) (.bool false) _ _ rfl (by rfl) (fun _ => rfl) ?_
                  simp only [n1, n3, n4]
                  refine @wpG_p _ _ _ _ _ (some 49) (.bool true) _ _ rfl (by rfl) (fun W => by first | (go_simp; done) | (cases false <;> rfl)) ?_
                  simp only [n1, n3, n4]
                  refine @wpG_p _ _ _ _ _ (some 50) (.bool true) _ _ rfl (by rfl) (fun W => by go_simp) ?_
                  simp only [n1, n3, n4]
                  refine wpG_done (fun V71 hv72 => ?_)
                  have S73 : Hid (St w noB [] V71) := Lib.hid (S68.out.gr hv72)
                  clear S68
                  clear hv72
                  refine ⟨rfl, hK _ _ ?_⟩
                  clear hK
                  go_upto_region 9 with fail
                  refine wpG_region_k (fun K hK => ?_)
                  refine @wpG_p _ _ _ _ _ (some 2) (.bool false) _ _ rfl (by rfl) (fun _ => rfl) ?_
                  simp only [n1, n3, n4]
                  refine wpG_done (fun V74 hv75 => ?_)
                  have S76 : Hid (St w noB [] V74) := Lib.hid (S73.out.gr hv75)
                  clear S73
                  clear hv75
                  refine ⟨rfl, hK _ _ ?_⟩
                  clear hK
                  go_wp2_with fail
                  go_ret
                  refine ⟨?_, S76.out.bel⟩
                  show Ending.returned (.bool false) = _
                  (first | rfl | (have e_f38 := f38.out; exact rb_f (Ma.nameOk_bad (x := x) HK_.out (by omega) (Ma.okc_no (Bool.eq_false_iff.2 (fun h => by have := Ma.letter_iff.1 h; omega)) (by first | (right; omega) | exact .inl (fun h => by have := Ma.is45.2 h; omega))))))
                | false =>
                  have f77 := of_decide_eq_true (bnf Hc69.out)
                  refine @wpG_no _ _ _ _ _ (some 48) _ _ rfl (by rfl) ?_
                  simp only [n1, n3, n4]
                  refine @wpG_no _ _ _ _ _ (some 49) _ _ rfl (by rfl) ?_
                  simp only [n1, n3, n4]
                  refine @wpG_p _ _ _ _ _ (some 50) (.bool false) _ _ rfl (by rfl) (fun W => by go_simp) ?_
                  simp only [n1, n3, n4]
                  refine wpG_done (fun V78 hv79 => ?_)
                  have S80 : Hid (St w noB [] V78) := Lib.hid (S68.out.gr hv79)
                  clear S68
                  clear hv79
                  refine ⟨rfl, hK _ _ ?_⟩
                  clear hK
                  go_upto_region 5 with fail
                  refine wpG_region_k (fun K hK => ?_)
                  refine @wpG_p _ _ _ _ _ (some 18) (.int .i64 (k : Int)) _ _ rfl (by rfl) (fun _ => rfl) ?_
                  simp only [n1, n3, n4]
                  refine @wpG_p _ _ _ _ _ (some 19) (.int .i64 ((k : Int) + 1)) _ _ rfl (by rfl) (fun W => op_i_add W (k : Int) 1 (by omega) rfl rfl rfl Tryd.underlying3) ?_
                  simp only [n1, n3, n4]
                  refine @wpG_p _ _ _ _ _ (some 3) (.int .i64 ((k : Int) + 1)) _ _ rfl (by rfl) (fun _ => rfl) ?_
                  simp only [n1, n3, n4]
                  refine wpG_done (fun V81 hv82 => ?_)
                  have S83 : Hid (St w noB [] V81) := Lib.hid (S80.out.gr hv82)
                  clear S80
                  clear hv82
                  refine ⟨rfl, hK _ _ ?_⟩
                  clear hK
                  go_wp2_with fail
                  go_roundw
                  case rel => exact ⟨k + 1, (by first | rfl | go_num), (by have e_f38 := f38.out; refine Ma.ff_step HK_.out (by omega) ?_; first | exact Ma.okc_letter (Ma.letter_iff.2 ⟨by omega, by omega⟩) | exact Ma.okc_inner (Ma.is45.1 (by omega)) (by omega) (by omega)), (by omega), S83.out⟩
                  case measure => first | (simp [intOf]; done) | (simp [intOf]; omega) | omega
            | false =>
              have f84 := of_decide_eq_false Hc37.out.symm
              refine @wpG_no _ _ _ _ _ (some 35) _ _ rfl (by rfl) ?_
              simp only [n1, n3, n4]
              refine @wpG_no _ _ _ _ _ (some 36) _ _ rfl (by rfl) ?_
              simp only [n1, n3, n4]
              refine @wpG_p _ _ _ _ _ (some 37) (.bool false) _ _ rfl (by rfl) (fun W => by go_simp) ?_
              simp only [n1, n3, n4]
              refine @wpG_p _ _ _ _ _ (some 38) (.bool false) _ _ rfl (by rfl) (fun _ => rfl) ?_
              simp only [n1, n3, n4]
              refine @wpG_no _ _ _ _ _ (some 39) _ _ rfl (by rfl) ?_
              simp only [n1, n3, n4]
              refine @wpG_no _ _ _ _ _ (some 40) _ _ rfl (by rfl) ?_
              simp only [n1, n3, n4]
              refine @wpG_no _ _ _ _ _ (some 41) _ _ rfl (by rfl) ?_
              simp only [n1, n3, n4]
              refine @wpG_no _ _ _ _ _ (some 42) _ _ rfl (by rfl) ?_
              simp only [n1, n3, n4]
              refine @wpG_no _ _ _ _ _ (some 43) _ _ rfl (by rfl) ?_
              simp only [n1, n3, n4]
              refine @wpG_p _ _ _ _ _ (some 44) (.bool false) _ _ rfl (by rfl) (fun W => by go_simp) ?_
              simp only [n1, n3, n4]
              refine @wpG_p _ _ _ _ _ (some 5) (.bool false) _ _ rfl (by rfl) (fun _ => rfl) ?_
              simp only [n1, n3, n4]
              refine wpG_done (fun V85 hv86 => ?_)
              have S87 : Hid (St w noB [] V85) := Lib.hid (S36.out.gr hv86)
              clear S36
              clear hv86
              refine ⟨rfl, hK _ _ ?_⟩
              clear hK
              go_upto_region 8 with fail
              refine wpG_region_k (fun K hK => ?_)
              refine @wpG_p _ _ _ _ _ (some 45) (.bool (decide (((Ma.byt x k).toNat : Int) ≤ 122))) _ _ rfl (by rfl) (fun _ => rfl) ?_
              simp only [n1, n3, n4]
              refine @wpG_p _ _ _ _ _ (some 46) (.bool (!(decide (((Ma.byt x k).toNat : Int) ≤ 122)))) _ _ rfl (by rfl) (fun W => by go_simp) ?_
              simp only [n1, n3, n4]
              refine @wpG_p _ _ _ _ _ (some 47) (.bool (!(decide (((Ma.byt x k).toNat : Int) ≤ 122)))) _ _ rfl (by rfl) (fun _ => rfl) ?_
              simp only [n1, n3, n4]
              obtain ⟨c88, hc88⟩ : ∃ q_, q_ = (!(decide (((Ma.byt x k).toNat : Int) ≤ 122))) := ⟨_, rfl⟩
              rw [← hc88]
              have Hc88 := Lib.hid hc88
              clear hc88
              cases c88 with
              | true =>
                have f89 := of_decide_eq_false (bnt Hc88.out)
                refine @wpG_p _ _ _ _ _ (some 48) (.bool false) _ _ rfl (by rfl) (fun _ => rfl) ?_
                simp only [n1, n3, n4]
                refine @wpG_p _ _ _ _ _ (some 49) (.bool true) _ _ rfl (by rfl) (fun W => by first | (go_simp; done) | (cases false <;> rfl)) ?_
                simp only [n1, n3, n4]
                refine @wpG_p _ _ _ _ _ (some 50) (.bool true) _ _ rfl (by rfl) (fun W => by go_simp) ?_
                simp only [n1, n3, n4]
                refine wpG_done (fun V90 hv91 => ?_)
                have S92 : Hid (St w noB [] V90) := Lib.hid (S87.out.gr hv91)
                clear S87
                clear hv91
                refine ⟨rfl, hK _ _ ?_⟩
                clear hK
                go_upto_region 9 with fail
                refine wpG_region_k (fun K hK => ?_)
                refine @wpG_p _ _ _ _ _ (some 2) (.bool false) _ _ rfl (by rfl) (fun _ => rfl) ?_
                simp only [n1, n3, n4]
                refine wpG_done (fun V93 hv94 => ?_)
                have S95 : Hid (St w noB [] V93) := Lib.hid (S92.out.gr hv94)
                clear S92
                clear hv94
                refine ⟨rfl, hK _ _ ?_⟩
                clear hK
                go_wp2_with fail
                go_ret
                refine ⟨?_, S95.out.bel⟩
                show Ending.returned (.bool false) = _
                (first | rfl | (exact rb_f (Ma.nameOk_bad (x := x) HK_.out (by omega) (Ma.okc_no (Bool.eq_false_iff.2 (fun h => by have := Ma.letter_iff.1 h; omega)) (by first | (right; omega) | exact .inl (fun h => by have := Ma.is45.2 h; omega))))))
              | false =>
                have f96 := of_decide_eq_true (bnf Hc88.out)
                refine @wpG_no _ _ _ _ _ (some 48) _ _ rfl (by rfl) ?_
                simp only [n1, n3, n4]
                refine @wpG_no _ _ _ _ _ (some 49) _ _ rfl (by rfl) ?_
                simp only [n1, n3, n4]
                refine @wpG_p _ _ _ _ _ (some 50) (.bool false) _ _ rfl (by rfl) (fun W => by go_simp) ?_
                simp only [n1, n3, n4]
                refine wpG_done (fun V97 hv98 => ?_)
                have S99 : Hid (St w noB [] V97) := Lib.hid (S87.out.gr hv98)
                clear S87
                clear hv98
                refine ⟨rfl, hK _ _ ?_⟩
                clear hK
                go_upto_region 5 with fail
                refine wpG_region_k (fun K hK => ?_)
                refine @wpG_p _ _ _ _ _ (some 18) (.int .i64 (k : Int)) _ _ rfl (by rfl) (fun _ => rfl) ?_
                simp only [n1, n3, n4]
                refine @wpG_p _ _ _ _ _ (some 19) (.int .i64 ((k : Int) + 1)) _ _ rfl (by rfl) (fun W => op_i_add W (k : Int) 1 (by omega) rfl rfl rfl Tryd.underlying3) ?_
                simp only [n1, n3, n4]
                refine @wpG_p _ _ _ _ _ (some 3) (.int .i64 ((k : Int) + 1)) _ _ rfl (by rfl) (fun _ => rfl) ?_
                simp only [n1, n3, n4]
                refine wpG_done (fun V100 hv101 => ?_)
                have S102 : Hid (St w noB [] V100) := Lib.hid (S99.out.gr hv101)
                clear S99
                clear hv101
                refine ⟨rfl, hK _ _ ?_⟩
                clear hK
                go_wp2_with fail
                go_roundw
                case rel => exact ⟨k + 1, (by first | rfl | go_num), (by refine Ma.ff_step HK_.out (by omega) ?_; first | exact Ma.okc_letter (Ma.letter_iff.2 ⟨by omega, by omega⟩) | exact Ma.okc_inner (Ma.is45.1 (by omega)) (by omega) (by omega)), (by omega), S102.out⟩
                case measure => first | (simp [intOf]; done) | (simp [intOf]; omega) | omega
          | false =>
            have f103 := of_decide_eq_false Hc32.out.symm
            refine @wpG_no _ _ _ _ _ (some 25) _ _ rfl (by rfl) ?_
            simp only [n1, n3, n4]
            refine @wpG_no _ _ _ _ _ (some 26) _ _ rfl (by rfl) ?_
            simp only [n1, n3, n4]
            refine @wpG_no _ _ _ _ _ (some 27) _ _ rfl (by rfl) ?_
            simp only [n1, n3, n4]
            refine @wpG_no _ _ _ _ _ (some 28) _ _ rfl (by rfl) ?_
            simp only [n1, n3, n4]
            refine @wpG_p _ _ _ _ _ (some 29) (.bool false) _ _ rfl (by rfl) (fun W => by go_simp) ?_
            simp only [n1, n3, n4]
            refine @wpG_p _ _ _ _ _ (some 4) (.bool false) _ _ rfl (by rfl) (fun _ => rfl) ?_
            simp only [n1, n3, n4]
            refine wpG_done (fun V104 hv105 => ?_)
            have S106 : Hid (St w noB [] V104) := Lib.hid (S29.out.gr hv105)
            clear S29
            clear hv105
            refine ⟨rfl, hK _ _ ?_⟩
            clear hK
            go_upto_region 7 with fail
            refine wpG_region_k (fun K hK => ?_)
            refine @wpG_p _ _ _ _ _ (some 30) (.string (bstr x)) _ _ rfl (by rfl) (fun _ => rfl) ?_
            simp only [n1, n3, n4]
            refine @wpG_p _ _ _ _ _ (some 31) (.int .i64 (k : Int)) _ _ rfl (by rfl) (fun _ => rfl) ?_
            simp only [n1, n3, n4]
            refine @wpG_p _ _ _ _ _ (some 32) (.int .u8 ((Ma.byt x k).toNat : Int)) _ _ rfl (by rfl) (fun W => op_str_idx W x k (by omega) rfl rfl rfl Tryd.underlying9) ?_
            simp only [n1, n3, n4]
            refine @wpG_p _ _ _ _ _ (some 33) (.bool (decide (((Ma.byt x k).toNat : Int) = 45))) _ _ rfl (by rfl) (fun W => op_int_eql W ((Ma.byt x k).toNat : Int) 45 rfl rfl rfl Tryd.underlying5) ?_
            simp only [n1, n3, n4]
            refine @wpG_p _ _ _ _ _ (some 34) (.bool (decide (((Ma.byt x k).toNat : Int) = 45))) _ _ rfl (by rfl) (fun _ => rfl) ?_
            simp only [n1, n3, n4]
            obtain ⟨c107, hc107⟩ : ∃ q_, q_ = (decide (((Ma.byt x k).toNat : Int) = 45)) := ⟨_, rfl⟩
            rw [← hc107]
            have Hc107 := Lib.hid hc107
            clear hc107
            cases c107 with
            | true =>
              have f108 := Lib.hid (of_decide_eq_true Hc107.out.symm)
              have f108a := Int.le_of_eq f108.out
              have f108b := Int.le_of_eq f108.out.symm
              refine @wpG_p _ _ _ _ _ (some 35) (.int .i64 (k : Int)) _ _ rfl (by rfl) (fun _ => rfl) ?_
              simp only [n1, n3, n4]
              refine @wpG_p _ _ _ _ _ (some 36) (.bool (decide ((k : Int) > 0))) _ _ rfl (by rfl) (fun W => op_int_gtr W (k : Int) 0 rfl rfl rfl Tryd.underlying3) ?_
              simp only [n1, n3, n4]
              refine @wpG_p _ _ _ _ _ (some 37) (.bool (decide ((k : Int) > 0))) _ _ rfl (by rfl) (fun W => by go_simp) ?_
              simp only [n1, n3, n4]
              refine @wpG_p _ _ _ _ _ (some 38) (.bool (decide ((k : Int) > 0))) _ _ rfl (by rfl) (fun _ => rfl) ?_
              simp only [n1, n3, n4]
              obtain ⟨c109, hc109⟩ : ∃ q_, q_ = (decide ((k : Int) > 0)) := ⟨_, rfl⟩
              rw [← hc109]
              have Hc109 := Lib.hid hc109
              clear hc109
              cases c109 with
              | true =>
                have f110 := of_decide_eq_true Hc109.out.symm
                refine @wpG_p _ _ _ _ _ (some 39) (.int .i64 (k : Int)) _ _ rfl (by rfl) (fun _ => rfl) ?_
                simp only [n1, n3, n4]
                refine @wpG_p _ _ _ _ _ (some 40) (.string (bstr x)) _ _ rfl (by rfl) (fun _ => rfl) ?_
                simp only [n1, n3, n4]
                refine @wpG_p _ _ _ _ _ (some 41) (.int .i64 (x.length : Int)) _ _ rfl (by rfl) (fun W => op_str_len W x rfl rfl Tryd.underlying9) ?_
                simp only [n1, n3, n4]
                refine @wpG_p _ _ _ _ _ (some 42) (.int .i64 ((x.length : Int) - 1)) _ _ rfl (by rfl) (fun W => op_i_sub W (x.length : Int) 1 (by omega) rfl rfl rfl Tryd.underlying3) ?_
                simp only [n1, n3, n4]
                refine @wpG_p _ _ _ _ _ (some 43) (.bool (decide ((k : Int) < (x.length : Int) - 1))) _ _ rfl (by rfl) (fun W => op_int_lss W (k : Int) ((x.length : Int) - 1) rfl rfl rfl Tryd.underlying3) ?_
                simp only [n1, n3, n4]
                refine @wpG_p _ _ _ _ _ (some 44) (.bool (decide ((k : Int) < (x.length : Int) - 1))) _ _ rfl (by rfl) (fun W => by go_simp) ?_
                simp only [n1, n3, n4]
                refine @wpG_p _ _ _ _ _ (some 5) (.bool (decide ((k : Int) < (x.length : Int) - 1))) _ _ rfl (by rfl) (fun _ => rfl) ?_
                simp only [n1, n3, n4]
                refine wpG_done (fun V111 hv112 => ?_)
                have S113 : Hid (St w noB [] V111) := Lib.hid (S106.out.gr hv112)
                clear S106
                clear hv112
                refine ⟨rfl, hK _ _ ?_⟩
                clear hK
                go_upto_region 8 with fail
                refine wpG_region_k (fun K hK => ?_)
                refine @wpG_p _ _ _ _ _ (some 45) (.bool false) _ _ rfl (by rfl) (fun _ => rfl) ?_
                simp only [n1, n3, n4]
                refine @wpG_p _ _ _ _ _ (some 46) (.bool true) _ _ rfl (by rfl) (fun W => by first | (go_simp; done) | (cases false <;> rfl)) ?_
                simp only [n1, n3, n4]
                refine @wpG_p _ _ _ _ _ (some 47) (.bool true) _ _ rfl (by rfl) (fun _ => rfl) ?_
                simp only [n1, n3, n4]
                refine @wpG_p _ _ _ _ _ (some 48) (.bool (decide ((k : Int) < (x.length : Int) - 1))) _ _ rfl (by rfl) (fun _ => rfl) ?_
                simp only [n1, n3, n4]
                refine @wpG_p _ _ _ _ _ (some 49) (.bool (!(decide ((k : Int) < (x.length : Int) - 1)))) _ _ rfl (by rfl) (fun W => by go_simp) ?_
                simp only [n1, n3, n4]
                refine @wpG_p _ _ _ _ _ (some 50) (.bool (!(decide ((k : Int) < (x.length : Int) - 1)))) _ _ rfl (by rfl) (fun W => by go_simp) ?_
                simp only [n1, n3, n4]
                refine wpG_done (fun V114 hv115 => ?_)
                have S116 : Hid (St w noB [] V114) := Lib.hid (S113.out.gr hv115)
                clear S113
                clear hv115
                refine ⟨rfl, hK _ _ ?_⟩
                clear hK
                obtain ⟨c117, hc117⟩ : ∃ q_, q_ = (!(decide ((k : Int) < (x.length : Int) - 1))) := ⟨_, rfl⟩
                rw [← hc117]
                have Hc117 := Lib.hid hc117
                clear hc117
                cases c117 with
                | true =>
                  have f118 := of_decide_eq_false (bnt Hc117.out)
                  go_upto_region 9 with fail
                  refine wpG_region_k (fun K hK => ?_)
                  refine @wpG_p _ _ _ _ _ (some 2) (.bool false) _ _ rfl (by rfl) (fun _ => rfl) ?_
                  simp only [n1, n3, n4]
                  refine wpG_done (fun V119 hv120 => ?_)
                  have S121 : Hid (St w noB [] V119) := Lib.hid (S116.out.gr hv120)
                  clear S116
                  clear hv120
                  refine ⟨rfl, hK _ _ ?_⟩
                  clear hK
                  go_wp2_with fail
                  go_ret
                  refine ⟨?_, S121.out.bel⟩
                  show Ending.returned (.bool false) = _
                  (first | rfl | (have e_f108 := f108.out; exact rb_f (Ma.nameOk_bad (x := x) HK_.out (by omega) (Ma.okc_no (Bool.eq_false_iff.2 (fun h => by have := Ma.letter_iff.1 h; omega)) (by first | (right; omega) | exact .inl (fun h => by have := Ma.is45.2 h; omega))))))
                | false =>
                  have f122 := of_decide_eq_true (bnf Hc117.out)
                  go_upto_region 5 with fail
                  refine wpG_region_k (fun K hK => ?_)
                  refine @wpG_p _ _ _ _ _ (some 18) (.int .i64 (k : Int)) _ _ rfl (by rfl) (fun _ => rfl) ?_
                  simp only [n1, n3, n4]
                  refine @wpG_p _ _ _ _ _ (some 19) (.int .i64 ((k : Int) + 1)) _ _ rfl (by rfl) (fun W => op_i_add W (k : Int) 1 (by omega) rfl rfl rfl Tryd.underlying3) ?_
                  simp only [n1, n3, n4]
                  refine @wpG_p _ _ _ _ _ (some 3) (.int .i64 ((k : Int) + 1)) _ _ rfl (by rfl) (fun _ => rfl) ?_
                  simp only [n1, n3, n4]
                  refine wpG_done (fun V123 hv124 => ?_)
                  have S125 : Hid (St w noB [] V123) := Lib.hid (S116.out.gr hv124)
                  clear S116
                  clear hv124
                  refine ⟨rfl, hK _ _ ?_⟩
                  clear hK
                  go_wp2_with fail
                  go_roundw
                  case rel => exact ⟨k + 1, (by first | rfl | go_num), (by have e_f108 := f108.out; refine Ma.ff_step HK_.out (by omega) ?_; first | exact Ma.okc_letter (Ma.letter_iff.2 ⟨by omega, by omega⟩) | exact Ma.okc_inner (Ma.is45.1 (by omega)) (by omega) (by omega)), (by omega), S125.out⟩
                  case measure => first | (simp [intOf]; done) | (simp [intOf]; omega) | omega
              | false =>
                have f126 := of_decide_eq_false Hc109.out.symm
                refine @wpG_no _ _ _ _ _ (some 39) _ _ rfl (by rfl) ?_
                simp only [n1, n3, n4]
                refine @wpG_no _ _ _ _ _ (some 40) _ _ rfl (by rfl) ?_
                simp only [n1, n3, n4]
                refine @wpG_no _ _ _ _ _ (some 41) _ _ rfl (by rfl) ?_
                simp only [n1, n3, n4]
                refine @wpG_no _ _ _ _ _ (some 42) _ _ rfl (by rfl) ?_
                simp only [n1, n3, n4]
                refine @wpG_no _ _ _ _ _ (some 43) _ _ rfl (by rfl) ?_
                simp only [n1, n3, n4]
                refine @wpG_p _ _ _ _ _ (some 44) (.bool false) _ _ rfl (by rfl) (fun W => by go_simp) ?_
                simp only [n1, n3, n4]
                refine @wpG_p _ _ _ _ _ (some 5) (.bool false) _ _ rfl (by rfl) (fun _ => rfl) ?_
                simp only [n1, n3, n4]
                refine wpG_done (fun V127 hv128 => ?_)
                have S129 : Hid (St w noB [] V127) := Lib.hid (S106.out.gr hv128)
                clear S106
                clear hv128
                refine ⟨rfl, hK _ _ ?_⟩
                clear hK
                go_upto_region 8 with fail
                refine wpG_region_k (fun K hK => ?_)
                refine @wpG_p _ _ _ _ _ (some 45) (.bool false) _ _ rfl (by rfl) (fun _ => rfl) ?_
                simp only [n1, n3, n4]
                refine @wpG_p _ _ _ _ _ (some 46) (.bool true) _ _ rfl (by rfl) (fun W => by first | (go_simp; done) | (cases false <;> rfl)) ?_
                simp only [n1, n3, n4]
                refine @wpG_p _ _ _ _ _ (some 47) (.bool true) _ _ rfl (by rfl) (fun _ => rfl) ?_
                simp only [n1, n3, n4]
                refine @wpG_p _ _ _ _ _ (some 48) (.bool false) _ _ rfl (by rfl) (fun _ => rfl) ?_
                simp only [n1, n3, n4]
                refine @wpG_p _ _ _ _ _ (some 49) (.bool true) _ _ rfl (by rfl) (fun W => by first | (go_simp; done) | (cases false <;> rfl)) ?_
                simp only [n1, n3, n4]
                refine @wpG_p _ _ _ _ _ (some 50) (.bool true) _ _ rfl (by rfl) (fun W => by go_simp) ?_
                simp only [n1, n3, n4]
                refine wpG_done (fun V130 hv131 => ?_)
                have S132 : Hid (St w noB [] V130) := Lib.hid (S129.out.gr hv131)
                clear S129
                clear hv131
                refine ⟨rfl, hK _ _ ?_⟩
                clear hK
                go_upto_region 9 with fail
                refine wpG_region_k (fun K hK => ?_)
                refine @wpG_p _ _ _ _ _ (some 2) (.bool false) _ _ rfl (by rfl) (fun _ => rfl) ?_
                simp only [n1, n3, n4]
                refine wpG_done (fun V133 hv134 => ?_)
                have S135 : Hid (St w noB [] V133) := Lib.hid (S132.out.gr hv134)
                clear S132
                clear hv134
                refine ⟨rfl, hK _ _ ?_⟩
                clear hK
                go_wp2_with fail
                go_ret
                refine ⟨?_, S135.out.bel⟩
                show Ending.returned (.bool false) = _
                (first | rfl | (have e_f108 := f108.out; exact rb_f (Ma.nameOk_bad (x := x) HK_.out (by omega) (Ma.okc_no (Bool.eq_false_iff.2 (fun h => by have := Ma.letter_iff.1 h; omega)) (by first | (right; omega) | exact .inl (fun h => by have := Ma.is45.2 h; omega))))))
            | false =>
              have f136 := of_decide_eq_false Hc107.out.symm
              refine @wpG_no _ _ _ _ _ (some 35) _ _ rfl (by rfl) ?_
              simp only [n1, n3, n4]
              refine @wpG_no _ _ _ _ _ (some 36) _ _ rfl (by rfl) ?_
              simp only [n1, n3, n4]
              refine @wpG_p _ _ _ _ _ (some 37) (.bool false) _ _ rfl (by rfl) (fun W => by go_simp) ?_
              simp only [n1, n3, n4]
              refine @wpG_p _ _ _ _ _ (some 38) (.bool false) _ _ rfl (by rfl) (fun _ => rfl) ?_
              simp only [n1, n3, n4]
              refine @wpG_no _ _ _ _ _ (some 39) _ _ rfl (by rfl) ?_
              simp only [n1, n3, n4]
              refine @wpG_no _ _ _ _ _ (some 40) _ _ rfl (by rfl) ?_
              simp only [n1, n3, n4]
              refine @wpG_no _ _ _ _ _ (some 41) _ _ rfl (by rfl) ?_
              simp only [n1, n3, n4]
              refine @wpG_no _ _ _ _ _ (some 42) _ _ rfl (by rfl) ?_
              simp only [n1, n3, n4]
              refine @wpG_no _ _ _ _ _ (some 43) _ _ rfl (by rfl) ?_
              simp only [n1, n3, n4]
              refine @wpG_p _ _ _ _ _ (some 44) (.bool false) _ _ rfl (by rfl) (fun W => by go_simp) ?_
              simp only [n1, n3, n4]
              refine @wpG_p _ _ _ _ _ (some 5) (.bool false) _ _ rfl (by rfl) (fun _ => rfl) ?_
              simp only [n1, n3, n4]
              refine wpG_done (fun V137 hv138 => ?_)
              have S139 : Hid (St w noB [] V137) := Lib.hid (S106.out.gr hv138)
              clear S106
              clear hv138
              refine ⟨rfl, hK _ _ ?_⟩
              clear hK
              go_upto_region 8 with fail
              refine wpG_region_k (fun K hK => ?_)
              refine @wpG_p _ _ _ _ _ (some 45) (.bool false) _ _ rfl (by rfl) (fun _ => rfl) ?_
              simp only [n1, n3, n4]
              refine @wpG_p _ _ _ _ _ (some 46) (.bool true) _ _ rfl (by rfl) (fun W => by first | (go_simp; done) | (cases false <;> rfl)) ?_
              simp only [n1, n3, n4]
              refine @wpG_p _ _ _ _ _ (some 47) (.bool true) _ _ rfl (by rfl) (fun _ => rfl) ?_
              simp only [n1, n3, n4]
              refine @wpG_p _ _ _ _ _ (some 48) (.bool false) _ _ rfl (by rfl) (fun _ => rfl) ?_
              simp only [n1, n3, n4]
              refine @wpG_p _ _ _ _ _ (some 49) (.bool true) _ _ rfl (by rfl) (fun W => by first | (go_simp; done) | (cases false <;> rfl)) ?_
              simp only [n1, n3, n4]
              refine @wpG_p _ _ _ _ _ (some 50) (.bool true) _ _ rfl (by rfl) (fun W => by go_simp) ?_
              simp only [n1, n3, n4]
              refine wpG_done (fun V140 hv141 => ?_)
              have S142 : Hid (St w noB [] V140) := Lib.hid (S139.out.gr hv141)
              clear S139
              clear hv141
              refine ⟨rfl, hK _ _ ?_⟩
              clear hK
              go_upto_region 9 with fail
              refine wpG_region_k (fun K hK => ?_)
              refine @wpG_p _ _ _ _ _ (some 2) (.bool false) _ _ rfl (by rfl) (fun _ => rfl) ?_
              simp only [n1, n3, n4]
              refine wpG_done (fun V143 hv144 => ?_)
              have S145 : Hid (St w noB [] V143) := Lib.hid (S142.out.gr hv144)
              clear S142
              clear hv144
              refine ⟨rfl, hK _ _ ?_⟩
              clear hK
              go_wp2_with fail
              go_ret
              refine ⟨?_, S145.out.bel⟩
              show Ending.returned (.bool false) = _
              (first | rfl | (exact rb_f (Ma.nameOk_bad (x := x) HK_.out (by omega) (Ma.okc_no (Bool.eq_false_iff.2 (fun h => by have := Ma.letter_iff.1 h; omega)) (by first | (right; omega) | exact .inl (fun h => by have := Ma.is45.2 h; omega))))))
        | false =>
          have f146 := of_decide_eq_false Hc30.out.symm
          go_upto_region 10 with fail
          refine wpG_region_k (fun K hK => ?_)
          refine @wpG_p _ _ _ _ _ (some 2) (.bool true) _ _ rfl (by rfl) (fun _ => rfl) ?_
          simp only [n1, n3, n4]
          refine wpG_done (fun V147 hv148 => ?_)
          have S149 : Hid (St w noB [] V147) := Lib.hid (S29.out.gr hv148)
          clear S29
          clear hv148
          refine ⟨rfl, hK _ _ ?_⟩
          clear hK
          go_wp2_with fail
          go_ret
          refine ⟨?_, S149.out.bel⟩
          show Ending.returned (.bool true) = _
          (first | rfl | (exact rb_t (Ma.nameOk_good (x := x) (by omega) (by omega) (by have h := HK_.out; have e : k = x.length := (by omega); rw [e] at h; exact h))))
set_option maxRecDepth 1000000 in
set_option maxHeartbeats 4000000 in
theorem valid_any (n : List UInt8) (s l f : Bool) (fd a b c : Int) (w : World) (hK : Kt w) :
    Calls Tryd.prog 30 #[.agg #[.string (bstr n), .bool s, .bool l, .bool f, .int .i64 fd, .int .i64 a, .int .i64 b, .int .i64 c]] w fun e w' => e = .returned (.bool (Ma.vld (⟨n, s, l, f, fd, a, b, c⟩ : Ma.Mt))) ∧ Below w.heap.size w w' := by
  have HK := Lib.hid hK
  clear hK
  have S1 : Hid (St w noB [] w) := Lib.hid (St.start w)
  go_enter Tryd.func30, Tryd.ntmps30
  go_upto_region 0 with fail
  refine wpG_region_k (fun K hK => ?_)
  refine wpG_val (some 1) rfl (by rfl) (fun W2 hg3 => ⟨.pointer (some ⟨W2.heap.size, 0, none⟩), W2.alloc (.cells #[.string (bstr n), .bool s, .bool l, .bool f, .int .i64 fd, .int .i64 a, .int .i64 b, .int .i64 c] 35), by (first | (go_simp; done) | (go_simp <;> rfl)), ?_⟩)
  simp only [n1, n3, n4]
  obtain ⟨g4, U5, hg_, hu_, hS_⟩ := (S1.out.gr hg3).made [.string (bstr n), .bool s, .bool l, .bool f, .int .i64 fd, .int .i64 a, .int .i64 b, .int .i64 c] 35
  rw [← hu_, ← hg_]
  have S6 : Hid (St w noB [blk g4 35 [.string (bstr n), .bool s, .bool l, .bool f, .int .i64 fd, .int .i64 a, .int .i64 b, .int .i64 c]] U5) := Lib.hid hS_
  clear S1
  clear hg_ hu_ hS_ hg3
  refine @wpG_p _ _ _ _ _ (some 2) (.bool false) _ _ rfl (by rfl) (fun _ => rfl) ?_
  simp only [n1, n3, n4]
  refine wpG_done (fun V7 hv8 => ?_)
  have S9 : Hid (St w noB [blk g4 35 [.string (bstr n), .bool s, .bool l, .bool f, .int .i64 fd, .int .i64 a, .int .i64 b, .int .i64 c]] V7) := Lib.hid (S6.out.gr hv8)
  clear S6
  clear hv8
  refine ⟨rfl, hK _ _ ?_⟩
  clear hK
  go_upto_region 1 with fail
  refine wpG_region_k (fun K hK => ?_)
  refine @wpG_tk _ _ _ _ _ (some 8) (.agg #[.string (bstr n), .bool s, .bool l, .bool f, .int .i64 fd, .int .i64 a, .int .i64 b, .int .i64 c]) _ _ rfl (.load_mid (by rfl) 35 (.tmp 1) rfl g4 0 rfl [.string (bstr n), .bool s, .bool l, .bool f, .int .i64 fd, .int .i64 a, .int .i64 b, .int .i64 c] _ (fun W hg => (S9.out.gr hg).range 0 rfl 0 8 rfl) Tryd.underlying35 rfl (by kernel_rfl)) ?_
  simp only [n1, n3, n4]
  refine @wpG_tk _ _ _ _ _ (some 9) (.tuple #[.string (bstr (Ma.kdn s l f)), .bool ((Ma.kd s l f).isSome)]) _ _ rfl (.call (f := 42) (args := #[.agg #[.string (bstr n), .bool s, .bool l, .bool f, .int .i64 fd, .int .i64 a, .int .i64 b, .int .i64 c]]) (by rfl) (fun W => by go_simp) (fun W hg => kindOf_any n s l f fd a b c W (HK.out.gr (S9.out.gr hg).bel))) ?_
  simp only [n1, n3, n4]
  refine @wpG_p _ _ _ _ _ (some 7) (.tuple #[.string (bstr (Ma.kdn s l f)), .bool ((Ma.kd s l f).isSome)]) _ _ rfl (by rfl) (fun _ => rfl) ?_
  simp only [n1, n3, n4]
  refine @wpG_p _ _ _ _ _ (some 10) (.string (bstr (Ma.kdn s l f))) _ _ rfl (by rfl) (fun W => by go_simp) ?_
  simp only [n1, n3, n4]
  refine @wpG_p _ _ _ _ _ (some 11) (.bool ((Ma.kd s l f).isSome)) _ _ rfl (by rfl) (fun W => by go_simp) ?_
  simp only [n1, n3, n4]
  refine @wpG_p _ _ _ _ _ (some 3) (.string (bstr (Ma.kdn s l f))) _ _ rfl (by rfl) (fun _ => rfl) ?_
  simp only [n1, n3, n4]
  refine @wpG_p _ _ _ _ _ (some 4) (.bool ((Ma.kd s l f).isSome)) _ _ rfl (by rfl) (fun _ => rfl) ?_
  simp only [n1, n3, n4]
  refine wpG_done (fun V10 hv11 => ?_)
  have S12 : Hid (St w noB [blk g4 35 [.string (bstr n), .bool s, .bool l, .bool f, .int .i64 fd, .int .i64 a, .int .i64 b, .int .i64 c]] V10) := Lib.hid (S9.out.gr hv11)
  clear S9
  clear hv11
  refine ⟨rfl, hK _ _ ?_⟩
  clear hK
  go_upto_region 2 with fail
  refine wpG_region_k (fun K hK => ?_)
  refine @wpG_p _ _ _ _ _ (some 12) (.bool ((Ma.kd s l f).isSome)) _ _ rfl (by rfl) (fun _ => rfl) ?_
  simp only [n1, n3, n4]
  refine @wpG_p _ _ _ _ _ (some 13) (.bool (!((Ma.kd s l f).isSome))) _ _ rfl (by rfl) (fun W => by go_simp) ?_
  simp only [n1, n3, n4]
  refine wpG_done (fun V13 hv14 => ?_)
  have S15 : Hid (St w noB [blk g4 35 [.string (bstr n), .bool s, .bool l, .bool f, .int .i64 fd, .int .i64 a, .int .i64 b, .int .i64 c]] V13) := Lib.hid (S12.out.gr hv14)
  clear S12
  clear hv14
  refine ⟨rfl, hK _ _ ?_⟩
  clear hK
  obtain ⟨c16, hc16⟩ : ∃ q_, q_ = (!((Ma.kd s l f).isSome)) := ⟨_, rfl⟩
  rw [← hc16]
  have Hc16 := Lib.hid hc16
  clear hc16
  cases c16 with
  | true =>
    have f17 := Lib.hid ((bnt Hc16.out))
    go_upto_region 3 with fail
    refine wpG_region_k (fun K hK => ?_)
    refine @wpG_p _ _ _ _ _ (some 2) (.bool false) _ _ rfl (by rfl) (fun _ => rfl) ?_
    simp only [n1, n3, n4]
    refine wpG_done (fun V18 hv19 => ?_)
    have S20 : Hid (St w noB [blk g4 35 [.string (bstr n), .bool s, .bool l, .bool f, .int .i64 fd, .int .i64 a, .int .i64 b, .int .i64 c]] V18) := Lib.hid (S15.out.gr hv19)
    clear S15
    clear hv19
    refine ⟨rfl, hK _ _ ?_⟩
    clear hK
    go_wp2_with fail
    go_ret
    refine ⟨?_, S20.out.bel⟩
    show Ending.returned (.bool false) = _
    (first | rfl | (have e_f17 := f17.out; first | exact rb_f (Ma.vld_name (by assumption)) | exact rb_f (Ma.vld_light (by simp only; omega)) | exact rb_f (Ma.vld_fade (by simp only; omega)) | exact rb_f (Ma.vld_kind (by first | assumption | rfl | (cases l <;> rfl) | (cases f <;> rfl) | (cases l <;> cases f <;> rfl) | (cases s <;> rfl)))))
  | false =>
    have f21 := Lib.hid ((bnf Hc16.out))
    go_upto_region 4 with fail
    refine wpG_region_k (fun K hK => ?_)
    refine @wpG_p _ _ _ _ _ (some 14) (.pointer (some ⟨g4, 5, none⟩)) _ _ rfl (by rfl) (fun W => by go_simp) ?_
    simp only [n1, n3, n4]
    refine @wpG_tk _ _ _ _ _ (some 15) (.agg #[.int .i64 a, .int .i64 b, .int .i64 c]) _ _ rfl (.load_mid (by rfl) 33 (.tmp 14) rfl g4 5 rfl [.int .i64 a, .int .i64 b, .int .i64 c] _ (fun W hg => (S15.out.gr hg).range 0 rfl 5 3 rfl) Tryd.underlying33 rfl (by kernel_rfl)) ?_
    simp only [n1, n3, n4]
    refine @wpG_p _ _ _ _ _ (some 16) (.int .i64 0) _ _ rfl (by rfl) (fun _ => rfl) ?_
    simp only [n1, n3, n4]
    refine wpG_done (fun V22 hv23 => ?_)
    have S24 : Hid (St w noB [blk g4 35 [.string (bstr n), .bool s, .bool l, .bool f, .int .i64 fd, .int .i64 a, .int .i64 b, .int .i64 c]] V22) := Lib.hid (S15.out.gr hv23)
    clear S15
    clear hv23
    refine ⟨rfl, hK _ _ ?_⟩
    clear hK
    go_wp2_with fail
    refine wp_loop_rounds 4 ?_
    rw [rounds_succ]
    go_upto_region 5 with fail
    refine wpG_region_k (fun K hK => ?_)
    refine @wpG_p _ _ _ _ _ (some 17) (.bool true) _ _ rfl (by rfl) (fun W => by go_simp) ?_
    simp only [n1, n3, n4]
    refine wpG_done (fun V25 hv26 => ?_)
    have S27 : Hid (St w noB [blk g4 35 [.string (bstr n), .bool s, .bool l, .bool f, .int .i64 fd, .int .i64 a, .int .i64 b, .int .i64 c]] V25) := Lib.hid (S24.out.gr hv26)
    clear S24
    clear hv26
    refine ⟨rfl, hK _ _ ?_⟩
    clear hK
    go_upto_region 6 with fail
    refine wpG_region_k (fun K hK => ?_)
    refine @wpG_p _ _ _ _ _ (some 18) (.int .i64 a) _ _ rfl (by rfl) (fun W => by first | kernel_rfl | (go_simp; done) | (go_simp <;> rfl)) ?_
    simp only [n1, n3, n4]
    refine @wpG_p _ _ _ _ _ (some 6) (.int .i64 a) _ _ rfl (by rfl) (fun _ => rfl) ?_
    simp only [n1, n3, n4]
    refine wpG_done (fun V28 hv29 => ?_)
    have S30 : Hid (St w noB [blk g4 35 [.string (bstr n), .bool s, .bool l, .bool f, .int .i64 fd, .int .i64 a, .int .i64 b, .int .i64 c]] V28) := Lib.hid (S27.out.gr hv29)
    clear S27
    clear hv29
    refine ⟨rfl, hK _ _ ?_⟩
    clear hK
    go_upto_region 7 with fail
    refine wpG_region_k (fun K hK => ?_)
    refine @wpG_p _ _ _ _ _ (some 19) (.int .i64 a) _ _ rfl (by rfl) (fun _ => rfl) ?_
    simp only [n1, n3, n4]
    refine @wpG_p _ _ _ _ _ (some 20) (.bool (decide (a < 0))) _ _ rfl (by rfl) (fun W => op_int_lss W a 0 rfl rfl rfl Tryd.underlying3) ?_
    simp only [n1, n3, n4]
    refine @wpG_p _ _ _ _ _ (some 21) (.bool (decide (a < 0))) _ _ rfl (by rfl) (fun _ => rfl) ?_
    simp only [n1, n3, n4]
    obtain ⟨c31, hc31⟩ : ∃ q_, q_ = (decide (a < 0)) := ⟨_, rfl⟩
    rw [← hc31]
    have Hc31 := Lib.hid hc31
    clear hc31
    cases c31 with
    | true =>
      have f32 := of_decide_eq_true Hc31.out.symm
      refine @wpG_no _ _ _ _ _ (some 22) _ _ rfl (by rfl) ?_
      simp only [n1, n3, n4]
      refine @wpG_no _ _ _ _ _ (some 23) _ _ rfl (by rfl) ?_
      simp only [n1, n3, n4]
      refine @wpG_p _ _ _ _ _ (some 24) (.bool true) _ _ rfl (by rfl) (fun W => by go_simp) ?_
      simp only [n1, n3, n4]
      refine wpG_done (fun V33 hv34 => ?_)
      have S35 : Hid (St w noB [blk g4 35 [.string (bstr n), .bool s, .bool l, .bool f, .int .i64 fd, .int .i64 a, .int .i64 b, .int .i64 c]] V33) := Lib.hid (S30.out.gr hv34)
      clear S30
      clear hv34
      refine ⟨rfl, hK _ _ ?_⟩
      clear hK
      go_upto_region 8 with fail
      refine wpG_region_k (fun K hK => ?_)
      refine @wpG_p _ _ _ _ _ (some 2) (.bool false) _ _ rfl (by rfl) (fun _ => rfl) ?_
      simp only [n1, n3, n4]
      refine wpG_done (fun V36 hv37 => ?_)
      have S38 : Hid (St w noB [blk g4 35 [.string (bstr n), .bool s, .bool l, .bool f, .int .i64 fd, .int .i64 a, .int .i64 b, .int .i64 c]] V36) := Lib.hid (S35.out.gr hv37)
      clear S35
      clear hv37
      refine ⟨rfl, hK _ _ ?_⟩
      clear hK
      go_wp2_with fail
      go_ret
      refine ⟨?_, S38.out.bel⟩
      show Ending.returned (.bool false) = _
      (first | rfl | (have e_f21 := f21.out; first | exact rb_f (Ma.vld_name (by assumption)) | exact rb_f (Ma.vld_light (by simp only; omega)) | exact rb_f (Ma.vld_fade (by simp only; omega)) | exact rb_f (Ma.vld_kind (by first | assumption | rfl | (cases l <;> rfl) | (cases f <;> rfl) | (cases l <;> cases f <;> rfl) | (cases s <;> rfl)))))
    | false =>
      have f39 := of_decide_eq_false Hc31.out.symm
      refine @wpG_p _ _ _ _ _ (some 22) (.int .i64 a) _ _ rfl (by rfl) (fun _ => rfl) ?_
      simp only [n1, n3, n4]
      refine @wpG_p _ _ _ _ _ (some 23) (.bool (decide (a > 15))) _ _ rfl (by rfl) (fun W => op_int_gtr W a 15 rfl rfl rfl Tryd.underlying3) ?_
      simp only [n1, n3, n4]
      refine @wpG_p _ _ _ _ _ (some 24) (.bool (decide (a > 15))) _ _ rfl (by rfl) (fun W => by go_simp) ?_
      simp only [n1, n3, n4]
      refine wpG_done (fun V40 hv41 => ?_)
      have S42 : Hid (St w noB [blk g4 35 [.string (bstr n), .bool s, .bool l, .bool f, .int .i64 fd, .int .i64 a, .int .i64 b, .int .i64 c]] V40) := Lib.hid (S30.out.gr hv41)
      clear S30
      clear hv41
      refine ⟨rfl, hK _ _ ?_⟩
      clear hK
      obtain ⟨c43, hc43⟩ : ∃ q_, q_ = (decide (a > 15)) := ⟨_, rfl⟩
      rw [← hc43]
      have Hc43 := Lib.hid hc43
      clear hc43
      cases c43 with
      | true =>
        have f44 := of_decide_eq_true Hc43.out.symm
        go_upto_region 8 with fail
        refine wpG_region_k (fun K hK => ?_)
        refine @wpG_p _ _ _ _ _ (some 2) (.bool false) _ _ rfl (by rfl) (fun _ => rfl) ?_
        simp only [n1, n3, n4]
        refine wpG_done (fun V45 hv46 => ?_)
        have S47 : Hid (St w noB [blk g4 35 [.string (bstr n), .bool s, .bool l, .bool f, .int .i64 fd, .int .i64 a, .int .i64 b, .int .i64 c]] V45) := Lib.hid (S42.out.gr hv46)
        clear S42
        clear hv46
        refine ⟨rfl, hK _ _ ?_⟩
        clear hK
        go_wp2_with fail
        go_ret
        refine ⟨?_, S47.out.bel⟩
        show Ending.returned (.bool false) = _
        (first | rfl | (have e_f21 := f21.out; first | exact rb_f (Ma.vld_name (by assumption)) | exact rb_f (Ma.vld_light (by simp only; omega)) | exact rb_f (Ma.vld_fade (by simp only; omega)) | exact rb_f (Ma.vld_kind (by first | assumption | rfl | (cases l <;> rfl) | (cases f <;> rfl) | (cases l <;> cases f <;> rfl) | (cases s <;> rfl)))))
      | false =>
        have f48 := of_decide_eq_false Hc43.out.symm
        go_upto_region 9 with fail
        refine wpG_region_k (fun K hK => ?_)
        refine @wpG_p _ _ _ _ _ (some 25) (.int .i64 1) _ _ rfl (by rfl) (fun W => by go_simp <;> rfl) ?_
        simp only [n1, n3, n4]
        refine @wpG_p _ _ _ _ _ (some 16) (.int .i64 1) _ _ rfl (by rfl) (fun _ => rfl) ?_
        simp only [n1, n3, n4]
        refine wpG_done (fun V49 hv50 => ?_)
        have S51 : Hid (St w noB [blk g4 35 [.string (bstr n), .bool s, .bool l, .bool f, .int .i64 fd, .int .i64 a, .int .i64 b, .int .i64 c]] V49) := Lib.hid (S42.out.gr hv50)
        clear S42
        clear hv50
        refine ⟨rfl, hK _ _ ?_⟩
        clear hK
        go_wp2_with fail
        rw [rounds_succ]
        go_upto_region 5 with fail
        refine wpG_region_k (fun K hK => ?_)
        refine @wpG_p _ _ _ _ _ (some 17) (.bool true) _ _ rfl (by rfl) (fun W => by go_simp) ?_
        simp only [n1, n3, n4]
        refine wpG_done (fun V52 hv53 => ?_)
        have S54 : Hid (St w noB [blk g4 35 [.string (bstr n), .bool s, .bool l, .bool f, .int .i64 fd, .int .i64 a, .int .i64 b, .int .i64 c]] V52) := Lib.hid (S51.out.gr hv53)
        clear S51
        clear hv53
        refine ⟨rfl, hK _ _ ?_⟩
        clear hK
        go_upto_region 6 with fail
        refine wpG_region_k (fun K hK => ?_)
        refine @wpG_p _ _ _ _ _ (some 18) (.int .i64 b) _ _ rfl (by rfl) (fun W => by first | kernel_rfl | (go_simp; done) | (go_simp <;> rfl)) ?_
        simp only [n1, n3, n4]
        refine @wpG_p _ _ _ _ _ (some 6) (.int .i64 b) _ _ rfl (by rfl) (fun _ => rfl) ?_
        simp only [n1, n3, n4]
        refine wpG_done (fun V55 hv56 => ?_)
        have S57 : Hid (St w noB [blk g4 35 [.string (bstr n), .bool s, .bool l, .bool f, .int .i64 fd, .int .i64 a, .int .i64 b, .int .i64 c]] V55) := Lib.hid (S54.out.gr hv56)
        clear S54
        clear hv56
        refine ⟨rfl, hK _ _ ?_⟩
        clear hK
        go_upto_region 7 with fail
        refine wpG_region_k (fun K hK => ?_)
        refine @wpG_p _ _ _ _ _ (some 19) (.int .i64 b) _ _ rfl (by rfl) (fun _ => rfl) ?_
        simp only [n1, n3, n4]
        refine @wpG_p _ _ _ _ _ (some 20) (.bool (decide (b < 0))) _ _ rfl (by rfl) (fun W => op_int_lss W b 0 rfl rfl rfl Tryd.underlying3) ?_
        simp only [n1, n3, n4]
        refine @wpG_p _ _ _ _ _ (some 21) (.bool (decide (b < 0))) _ _ rfl (by rfl) (fun _ => rfl) ?_
        simp only [n1, n3, n4]
        obtain ⟨c58, hc58⟩ : ∃ q_, q_ = (decide (b < 0)) := ⟨_, rfl⟩
        rw [← hc58]
        have Hc58 := Lib.hid hc58
        clear hc58
        cases c58 with
        | true =>
          have f59 := of_decide_eq_true Hc58.out.symm
          refine @wpG_no _ _ _ _ _ (some 22) _ _ rfl (by rfl) ?_
          simp only [n1, n3, n4]
          refine @wpG_no _ _ _ _ _ (some 23) _ _ rfl (by rfl) ?_
          simp only [n1, n3, n4]
          refine @wpG_p _ _ _ _ _ (some 24) (.bool true) _ _ rfl (by rfl) (fun W => by go_simp) ?_
          simp only [n1, n3, n4]
          refine wpG_done (fun V60 hv61 => ?_)
          have S62 : Hid (St w noB [blk g4 35 [.string (bstr n), .bool s, .bool l, .bool f, .int .i64 fd, .int .i64 a, .int .i64 b, .int .i64 c]] V60) := Lib.hid (S57.out.gr hv61)
          clear S57
          clear hv61
          refine ⟨rfl, hK _ _ ?_⟩
          clear hK
          go_upto_region 8 with fail
          refine wpG_region_k (fun K hK => ?_)
          refine @wpG_p _ _ _ _ _ (some 2) (.bool false) _ _ rfl (by rfl) (fun _ => rfl) ?_
          simp only [n1, n3, n4]
          refine wpG_done (fun V63 hv64 => ?_)
          have S65 : Hid (St w noB [blk g4 35 [.string (bstr n), .bool s, .bool l, .bool f, .int .i64 fd, .int .i64 a, .int .i64 b, .int .i64 c]] V63) := Lib.hid (S62.out.gr hv64)
          clear S62
          clear hv64
          refine ⟨rfl, hK _ _ ?_⟩
          clear hK
          go_wp2_with fail
          go_ret
          refine ⟨?_, S65.out.bel⟩
          show Ending.returned (.bool false) = _
          (first | rfl | (have e_f21 := f21.out; first | exact rb_f (Ma.vld_name (by assumption)) | exact rb_f (Ma.vld_light (by simp only; omega)) | exact rb_f (Ma.vld_fade (by simp only; omega)) | exact rb_f (Ma.vld_kind (by first | assumption | rfl | (cases l <;> rfl) | (cases f <;> rfl) | (cases l <;> cases f <;> rfl) | (cases s <;> rfl)))))
        | false =>
          have f66 := of_decide_eq_false Hc58.out.symm
          refine @wpG_p _ _ _ _ _ (some 22) (.int .i64 b) _ _ rfl (by rfl) (fun _ => rfl) ?_
          simp only [n1, n3, n4]
          refine @wpG_p _ _ _ _ _ (some 23) (.bool (decide (b > 15))) _ _ rfl (by rfl) (fun W => op_int_gtr W b 15 rfl rfl rfl Tryd.underlying3) ?_
          simp only [n1, n3, n4]
          refine @wpG_p _ _ _ _ _ (some 24) (.bool (decide (b > 15))) _ _ rfl (by rfl) (fun W => by go_simp) ?_
          simp only [n1, n3, n4]
          refine wpG_done (fun V67 hv68 => ?_)
          have S69 : Hid (St w noB [blk g4 35 [.string (bstr n), .bool s, .bool l, .bool f, .int .i64 fd, .int .i64 a, .int .i64 b, .int .i64 c]] V67) := Lib.hid (S57.out.gr hv68)
          clear S57
          clear hv68
          refine ⟨rfl, hK _ _ ?_⟩
          clear hK
          obtain ⟨c70, hc70⟩ : ∃ q_, q_ = (decide (b > 15)) := ⟨_, rfl⟩
          rw [← hc70]
          have Hc70 := Lib.hid hc70
          clear hc70
          cases c70 with
          | true =>
            have f71 := of_decide_eq_true Hc70.out.symm
            go_upto_region 8 with fail
            refine wpG_region_k (fun K hK => ?_)
            refine @wpG_p _ _ _ _ _ (some 2) (.bool false) _ _ rfl (by rfl) (fun _ => rfl) ?_
            simp only [n1, n3, n4]
            refine wpG_done (fun V72 hv73 => ?_)
            have S74 : Hid (St w noB [blk g4 35 [.string (bstr n), .bool s, .bool l, .bool f, .int .i64 fd, .int .i64 a, .int .i64 b, .int .i64 c]] V72) := Lib.hid (S69.out.gr hv73)
            clear S69
            clear hv73
            refine ⟨rfl, hK _ _ ?_⟩
            clear hK
            go_wp2_with fail
            go_ret
            refine ⟨?_, S74.out.bel⟩
            show Ending.returned (.bool false) = _
            (first | rfl | (have e_f21 := f21.out; first | exact rb_f (Ma.vld_name (by assumption)) | exact rb_f (Ma.vld_light (by simp only; omega)) | exact rb_f (Ma.vld_fade (by simp only; omega)) | exact rb_f (Ma.vld_kind (by first | assumption | rfl | (cases l <;> rfl) | (cases f <;> rfl) | (cases l <;> cases f <;> rfl) | (cases s <;> rfl)))))
          | false =>
            have f75 := of_decide_eq_false Hc70.out.symm
            go_upto_region 9 with fail
            refine wpG_region_k (fun K hK => ?_)
            refine @wpG_p _ _ _ _ _ (some 25) (.int .i64 2) _ _ rfl (by rfl) (fun W => by go_simp <;> rfl) ?_
            simp only [n1, n3, n4]
            refine @wpG_p _ _ _ _ _ (some 16) (.int .i64 2) _ _ rfl (by rfl) (fun _ => rfl) ?_
            simp only [n1, n3, n4]
            refine wpG_done (fun V76 hv77 => ?_)
            have S78 : Hid (St w noB [blk g4 35 [.string (bstr n), .bool s, .bool l, .bool f, .int .i64 fd, .int .i64 a, .int .i64 b, .int .i64 c]] V76) := Lib.hid (S69.out.gr hv77)
            clear S69
            clear hv77
            refine ⟨rfl, hK _ _ ?_⟩
            clear hK
            go_wp2_with fail
            rw [rounds_succ]
            go_upto_region 5 with fail
            refine wpG_region_k (fun K hK => ?_)
            refine @wpG_p _ _ _ _ _ (some 17) (.bool true) _ _ rfl (by rfl) (fun W => by go_simp) ?_
            simp only [n1, n3, n4]
            refine wpG_done (fun V79 hv80 => ?_)
            have S81 : Hid (St w noB [blk g4 35 [.string (bstr n), .bool s, .bool l, .bool f, .int .i64 fd, .int .i64 a, .int .i64 b, .int .i64 c]] V79) := Lib.hid (S78.out.gr hv80)
            clear S78
            clear hv80
            refine ⟨rfl, hK _ _ ?_⟩
            clear hK
            go_upto_region 6 with fail
            refine wpG_region_k (fun K hK => ?_)
            refine @wpG_p _ _ _ _ _ (some 18) (.int .i64 c) _ _ rfl (by rfl) (fun W => by first | kernel_rfl | (go_simp; done) | (go_simp <;> rfl)) ?_
            simp only [n1, n3, n4]
            refine @wpG_p _ _ _ _ _ (some 6) (.int .i64 c) _ _ rfl (by rfl) (fun _ => rfl) ?_
            simp only [n1, n3, n4]
            refine wpG_done (fun V82 hv83 => ?_)
            have S84 : Hid (St w noB [blk g4 35 [.string (bstr n), .bool s, .bool l, .bool f, .int .i64 fd, .int .i64 a, .int .i64 b, .int .i64 c]] V82) := Lib.hid (S81.out.gr hv83)
            clear S81
            clear hv83
            refine ⟨rfl, hK _ _ ?_⟩
            clear hK
            go_upto_region 7 with fail
            refine wpG_region_k (fun K hK => ?_)
            refine @wpG_p _ _ _ _ _ (some 19) (.int .i64 c) _ _ rfl (by rfl) (fun _ => rfl) ?_
            simp only [n1, n3, n4]
            refine @wpG_p _ _ _ _ _ (some 20) (.bool (decide (c < 0))) _ _ rfl (by rfl) (fun W => op_int_lss W c 0 rfl rfl rfl Tryd.underlying3) ?_
            simp only [n1, n3, n4]
            refine @wpG_p _ _ _ _ _ (some 21) (.bool (decide (c < 0))) _ _ rfl (by rfl) (fun _ => rfl) ?_
            simp only [n1, n3, n4]
            obtain ⟨c85, hc85⟩ : ∃ q_, q_ = (decide (c < 0)) := ⟨_, rfl⟩
            rw [← hc85]
            have Hc85 := Lib.hid hc85
            clear hc85
            cases c85 with
            | true =>
              have f86 := of_decide_eq_true Hc85.out.symm
              refine @wpG_no _ _ _ _ _ (some 22) _ _ rfl (by rfl) ?_
              simp only [n1, n3, n4]
              refine @wpG_no _ _ _ _ _ (some 23) _ _ rfl (by rfl) ?_
              simp only [n1, n3, n4]
              refine @wpG_p _ _ _ _ _ (some 24) (.bool true) _ _ rfl (by rfl) (fun W => by go_simp) ?_
              simp only [n1, n3, n4]
              refine wpG_done (fun V87 hv88 => ?_)
              have S89 : Hid (St w noB [blk g4 35 [.string (bstr n), .bool s, .bool l, .bool f, .int .i64 fd, .int .i64 a, .int .i64 b, .int .i64 c]] V87) := Lib.hid (S84.out.gr hv88)
              clear S84
              clear hv88
              refine ⟨rfl, hK _ _ ?_⟩
              clear hK
              go_upto_region 8 with fail
              refine wpG_region_k (fun K hK => ?_)
              refine @wpG_p _ _ _ _ _ (some 2) (.bool false) _ _ rfl (by rfl) (fun _ => rfl) ?_
              simp only [n1, n3, n4]
              refine wpG_done (fun V90 hv91 => ?_)
              have S92 : Hid (St w noB [blk g4 35 [.string (bstr n), .bool s, .bool l, .bool f, .int .i64 fd, .int .i64 a, .int .i64 b, .int .i64 c]] V90) := Lib.hid (S89.out.gr hv91)
              clear S89
              clear hv91
              refine ⟨rfl, hK _ _ ?_⟩
              clear hK
              go_wp2_with fail
              go_ret
              refine ⟨?_, S92.out.bel⟩
              show Ending.returned (.bool false) = _
              (first | rfl | (have e_f21 := f21.out; first | exact rb_f (Ma.vld_name (by assumption)) | exact rb_f (Ma.vld_light (by simp only; omega)) | exact rb_f (Ma.vld_fade (by simp only; omega)) | exact rb_f (Ma.vld_kind (by first | assumption | rfl | (cases l <;> rfl) | (cases f <;> rfl) | (cases l <;> cases f <;> rfl) | (cases s <;> rfl)))))
            | false =>
              have f93 := of_decide_eq_false Hc85.out.symm
              refine @wpG_p _ _ _ _ _ (some 22) (.int .i64 c) _ _ rfl (by rfl) (fun _ => rfl) ?_
              simp only [n1, n3, n4]
              refine @wpG_p _ _ _ _ _ (some 23) (.bool (decide (c > 15))) _ _ rfl (by rfl) (fun W => op_int_gtr W c 15 rfl rfl rfl Tryd.underlying3) ?_
              simp only [n1, n3, n4]
              refine @wpG_p _ _ _ _ _ (some 24) (.bool (decide (c > 15))) _ _ rfl (by rfl) (fun W => by go_simp) ?_
              simp only [n1, n3, n4]
              refine wpG_done (fun V94 hv95 => ?_)
              have S96 : Hid (St w noB [blk g4 35 [.string (bstr n), .bool s, .bool l, .bool f, .int .i64 fd, .int .i64 a, .int .i64 b, .int .i64 c]] V94) := Lib.hid (S84.out.gr hv95)
              clear S84
              clear hv95
              refine ⟨rfl, hK _ _ ?_⟩
              clear hK
              obtain ⟨c97, hc97⟩ : ∃ q_, q_ = (decide (c > 15)) := ⟨_, rfl⟩
              rw [← hc97]
              have Hc97 := Lib.hid hc97
              clear hc97
              cases c97 with
              | true =>
                have f98 := of_decide_eq_true Hc97.out.symm
                go_upto_region 8 with fail
                refine wpG_region_k (fun K hK => ?_)
                refine @wpG_p _ _ _ _ _ (some 2) (.bool false) _ _ rfl (by rfl) (fun _ => rfl) ?_
                simp only [n1, n3, n4]
                refine wpG_done (fun V99 hv100 => ?_)
                have S101 : Hid (St w noB [blk g4 35 [.string (bstr n), .bool s, .bool l, .bool f, .int .i64 fd, .int .i64 a, .int .i64 b, .int .i64 c]] V99) := Lib.hid (S96.out.gr hv100)
                clear S96
                clear hv100
                refine ⟨rfl, hK _ _ ?_⟩
                clear hK
                go_wp2_with fail
                go_ret
                refine ⟨?_, S101.out.bel⟩
                show Ending.returned (.bool false) = _
                (first | rfl | (have e_f21 := f21.out; first | exact rb_f (Ma.vld_name (by assumption)) | exact rb_f (Ma.vld_light (by simp only; omega)) | exact rb_f (Ma.vld_fade (by simp only; omega)) | exact rb_f (Ma.vld_kind (by first | assumption | rfl | (cases l <;> rfl) | (cases f <;> rfl) | (cases l <;> cases f <;> rfl) | (cases s <;> rfl)))))
              | false =>
                have f102 := of_decide_eq_false Hc97.out.symm
                go_upto_region 9 with fail
                refine wpG_region_k (fun K hK => ?_)
                refine @wpG_p _ _ _ _ _ (some 25) (.int .i64 3) _ _ rfl (by rfl) (fun W => by go_simp <;> rfl) ?_
                simp only [n1, n3, n4]
                refine @wpG_p _ _ _ _ _ (some 16) (.int .i64 3) _ _ rfl (by rfl) (fun _ => rfl) ?_
                simp only [n1, n3, n4]
                refine wpG_done (fun V103 hv104 => ?_)
                have S105 : Hid (St w noB [blk g4 35 [.string (bstr n), .bool s, .bool l, .bool f, .int .i64 fd, .int .i64 a, .int .i64 b, .int .i64 c]] V103) := Lib.hid (S96.out.gr hv104)
                clear S96
                clear hv104
                refine ⟨rfl, hK _ _ ?_⟩
                clear hK
                go_wp2_with fail
                rw [rounds_succ]
                go_upto_region 5 with fail
                refine wpG_region_k (fun K hK => ?_)
                refine @wpG_p _ _ _ _ _ (some 17) (.bool false) _ _ rfl (by rfl) (fun W => by go_simp) ?_
                simp only [n1, n3, n4]
                refine wpG_done (fun V106 hv107 => ?_)
                have S108 : Hid (St w noB [blk g4 35 [.string (bstr n), .bool s, .bool l, .bool f, .int .i64 fd, .int .i64 a, .int .i64 b, .int .i64 c]] V106) := Lib.hid (S105.out.gr hv107)
                clear S105
                clear hv107
                refine ⟨rfl, hK _ _ ?_⟩
                clear hK
                go_upto_region 10 with fail
                refine wpG_region_k (fun K hK => ?_)
                refine @wpG_p _ _ _ _ _ (some 26) (.pointer (some ⟨g4, 0, none⟩)) _ _ rfl (by rfl) (fun W => by go_simp) ?_
                simp only [n1, n3, n4]
                refine @wpG_r _ _ _ _ _ (some 27) (.string (bstr n)) _ _ rfl (by rfl) (fun W hg => by have c := (S108.out.gr hg).cell 0 rfl 0 rfl; go_simp) ?_
                simp only [n1, n3, n4]
                refine @wpG_tk _ _ _ _ _ (some 28) (.bool (Ma.nameOk n)) _ _ rfl (.call (f := 43) (args := #[.string (bstr n)]) (by rfl) (fun W => by go_simp) (fun W hg => validName_any n W)) ?_
                simp only [n1, n3, n4]
                refine @wpG_p _ _ _ _ _ (some 29) (.bool (Ma.nameOk n)) _ _ rfl (by rfl) (fun _ => rfl) ?_
                simp only [n1, n3, n4]
                obtain ⟨c109, hc109⟩ : ∃ q_, q_ = (Ma.nameOk n) := ⟨_, rfl⟩
                rw [← hc109]
                have Hc109 := Lib.hid hc109
                clear hc109
                cases c109 with
                | true =>
                  have f110 := Lib.hid (Hc109.out.symm)
                  refine @wpG_p _ _ _ _ _ (some 30) (.pointer (some ⟨g4, 4, none⟩)) _ _ rfl (by rfl) (fun W => by go_simp) ?_
                  simp only [n1, n3, n4]
                  refine @wpG_r _ _ _ _ _ (some 31) (.int .i64 fd) _ _ rfl (by rfl) (fun W hg => by have c := (S108.out.gr hg).cell 0 rfl 4 rfl; go_simp) ?_
                  simp only [n1, n3, n4]
                  refine @wpG_p _ _ _ _ _ (some 32) (.bool (decide (fd ≥ 1))) _ _ rfl (by rfl) (fun W => op_int_geq W fd 1 rfl rfl rfl Tryd.underlying3) ?_
                  simp only [n1, n3, n4]
                  refine @wpG_p _ _ _ _ _ (some 33) (.bool (decide (fd ≥ 1))) _ _ rfl (by rfl) (fun W => by go_simp) ?_
                  simp only [n1, n3, n4]
                  refine @wpG_p _ _ _ _ _ (some 34) (.bool (decide (fd ≥ 1))) _ _ rfl (by rfl) (fun _ => rfl) ?_
                  simp only [n1, n3, n4]
                  obtain ⟨c111, hc111⟩ : ∃ q_, q_ = (decide (fd ≥ 1)) := ⟨_, rfl⟩
                  rw [← hc111]
                  have Hc111 := Lib.hid hc111
                  clear hc111
                  cases c111 with
                  | true =>
                    have f112 := of_decide_eq_true Hc111.out.symm
                    refine @wpG_p _ _ _ _ _ (some 35) (.pointer (some ⟨g4, 4, none⟩)) _ _ rfl (by rfl) (fun W => by go_simp) ?_
                    simp only [n1, n3, n4]
                    refine @wpG_r _ _ _ _ _ (some 36) (.int .i64 fd) _ _ rfl (by rfl) (fun W hg => by have c := (S108.out.gr hg).cell 0 rfl 4 rfl; go_simp) ?_
                    simp only [n1, n3, n4]
                    refine @wpG_p _ _ _ _ _ (some 37) (.bool (decide (fd ≤ 16))) _ _ rfl (by rfl) (fun W => op_int_leq W fd 16 rfl rfl rfl Tryd.underlying3) ?_
                    simp only [n1, n3, n4]
                    refine @wpG_p _ _ _ _ _ (some 38) (.bool (decide (fd ≤ 16))) _ _ rfl (by rfl) (fun W => by go_simp) ?_
                    simp only [n1, n3, n4]
                    refine @wpG_p _ _ _ _ _ (some 2) (.bool (decide (fd ≤ 16))) _ _ rfl (by rfl) (fun _ => rfl) ?_
                    simp only [n1, n3, n4]
                    refine wpG_done (fun V113 hv114 => ?_)
                    have S115 : Hid (St w noB [blk g4 35 [.string (bstr n), .bool s, .bool l, .bool f, .int .i64 fd, .int .i64 a, .int .i64 b, .int .i64 c]] V113) := Lib.hid (S108.out.gr hv114)
                    clear S108
                    clear hv114
                    refine ⟨rfl, hK _ _ ?_⟩
                    clear hK
                    go_wp2_with fail
                    go_ret
                    obtain ⟨c116, hc116⟩ : ∃ q_, q_ = (decide (fd ≤ 16)) := ⟨_, rfl⟩
                    rw [← hc116]
                    have Hc116 := Lib.hid hc116
                    clear hc116
                    cases c116 with
                    | true =>
                      have f117 := of_decide_eq_true Hc116.out.symm
                      refine ⟨?_, S115.out.bel⟩
                      show Ending.returned (.bool true) = _
                      (first | rfl | (have e_f21 := f21.out; have e_f110 := f110.out; exact rb_t (Ma.vld_yes (by first | assumption | rfl | (cases l <;> rfl) | (cases f <;> rfl) | (cases l <;> cases f <;> rfl) | (cases s <;> rfl)) ⟨by omega, by omega⟩ ⟨by omega, by omega⟩ ⟨by omega, by omega⟩ (by assumption) ⟨by omega, by omega⟩)))
                    | false =>
                      have f118 := of_decide_eq_false Hc116.out.symm
                      refine ⟨?_, S115.out.bel⟩
                      show Ending.returned (.bool false) = _
                      (first | rfl | (have e_f21 := f21.out; have e_f110 := f110.out; first | exact rb_f (Ma.vld_name (by assumption)) | exact rb_f (Ma.vld_light (by simp only; omega)) | exact rb_f (Ma.vld_fade (by simp only; omega)) | exact rb_f (Ma.vld_kind (by first | assumption | rfl | (cases l <;> rfl) | (cases f <;> rfl) | (cases l <;> cases f <;> rfl) | (cases s <;> rfl)))))
                  | false =>
                    have f119 := of_decide_eq_false Hc111.out.symm
                    refine @wpG_no _ _ _ _ _ (some 35) _ _ rfl (by rfl) ?_
                    simp only [n1, n3, n4]
                    refine @wpG_no _ _ _ _ _ (some 36) _ _ rfl (by rfl) ?_
                    simp only [n1, n3, n4]
                    refine @wpG_no _ _ _ _ _ (some 37) _ _ rfl (by rfl) ?_
                    simp only [n1, n3, n4]
                    refine @wpG_p _ _ _ _ _ (some 38) (.bool false) _ _ rfl (by rfl) (fun W => by go_simp) ?_
                    simp only [n1, n3, n4]
                    refine @wpG_p _ _ _ _ _ (some 2) (.bool false) _ _ rfl (by rfl) (fun _ => rfl) ?_
                    simp only [n1, n3, n4]
                    refine wpG_done (fun V120 hv121 => ?_)
                    have S122 : Hid (St w noB [blk g4 35 [.string (bstr n), .bool s, .bool l, .bool f, .int .i64 fd, .int .i64 a, .int .i64 b, .int .i64 c]] V120) := Lib.hid (S108.out.gr hv121)
                    clear S108
                    clear hv121
                    refine ⟨rfl, hK _ _ ?_⟩
                    clear hK
                    go_wp2_with fail
                    go_ret
                    refine ⟨?_, S122.out.bel⟩
                    show Ending.returned (.bool false) = _
                    (first | rfl | (have e_f21 := f21.out; have e_f110 := f110.out; first | exact rb_f (Ma.vld_name (by assumption)) | exact rb_f (Ma.vld_light (by simp only; omega)) | exact rb_f (Ma.vld_fade (by simp only; omega)) | exact rb_f (Ma.vld_kind (by first | assumption | rfl | (cases l <;> rfl) | (cases f <;> rfl) | (cases l <;> cases f <;> rfl) | (cases s <;> rfl)))))
                | false =>
                  have f123 := Lib.hid (Hc109.out.symm)
                  refine @wpG_no _ _ _ _ _ (some 30) _ _ rfl (by rfl) ?_
                  simp only [n1, n3, n4]
                  refine @wpG_no _ _ _ _ _ (some 31) _ _ rfl (by rfl) ?_
                  simp only [n1, n3, n4]
                  refine @wpG_no _ _ _ _ _ (some 32) _ _ rfl (by rfl) ?_
                  simp only [n1, n3, n4]
                  refine @wpG_p _ _ _ _ _ (some 33) (.bool false) _ _ rfl (by rfl) (fun W => by go_simp) ?_
                  simp only [n1, n3, n4]
                  refine @wpG_p _ _ _ _ _ (some 34) (.bool false) _ _ rfl (by rfl) (fun _ => rfl) ?_
                  simp only [n1, n3, n4]
                  refine @wpG_no _ _ _ _ _ (some 35) _ _ rfl (by rfl) ?_
                  simp only [n1, n3, n4]
                  refine @wpG_no _ _ _ _ _ (some 36) _ _ rfl (by rfl) ?_
                  simp only [n1, n3, n4]
                  refine @wpG_no _ _ _ _ _ (some 37) _ _ rfl (by rfl) ?_
                  simp only [n1, n3, n4]
                  refine @wpG_p _ _ _ _ _ (some 38) (.bool false) _ _ rfl (by rfl) (fun W => by go_simp) ?_
                  simp only [n1, n3, n4]
                  refine @wpG_p _ _ _ _ _ (some 2) (.bool false) _ _ rfl (by rfl) (fun _ => rfl) ?_
                  simp only [n1, n3, n4]
                  refine wpG_done (fun V124 hv125 => ?_)
                  have S126 : Hid (St w noB [blk g4 35 [.string (bstr n), .bool s, .bool l, .bool f, .int .i64 fd, .int .i64 a, .int .i64 b, .int .i64 c]] V124) := Lib.hid (S108.out.gr hv125)
                  clear S108
                  clear hv125
                  refine ⟨rfl, hK _ _ ?_⟩
                  clear hK
                  go_wp2_with fail
                  go_ret
                  refine ⟨?_, S126.out.bel⟩
                  show Ending.returned (.bool false) = _
                  (first | rfl | (have e_f21 := f21.out; have e_f123 := f123.out; first | exact rb_f (Ma.vld_name (by assumption)) | exact rb_f (Ma.vld_light (by simp only; omega)) | exact rb_f (Ma.vld_fade (by simp only; omega)) | exact rb_f (Ma.vld_kind (by first | assumption | rfl | (cases l <;> rfl) | (cases f <;> rfl) | (cases l <;> cases f <;> rfl) | (cases s <;> rfl)))))
set_option maxRecDepth 1000000 in
set_option maxHeartbeats 4000000 in
theorem rvalid_any (n : List UInt8) (s l f : Bool) (fd a b c : Int) (w : World) :
    Calls Tryd.prog 32 #[.agg #[.string (bstr n), .bool s, .bool l, .bool f, .int .i64 fd, .int .i64 a, .int .i64 b, .int .i64 c]] w fun e w' => e = .returned (.bool (Ma.vld (⟨n, s, l, f, fd, a, b, c⟩ : Ma.Mt))) ∧ Below w.heap.size w w' := by
  have S1 : Hid (St w noB [] w) := Lib.hid (St.start w)
  go_enter Tryd.func32, Tryd.ntmps32
  go_upto_region 0 with fail
  refine wpG_region_k (fun K hK => ?_)
  refine wpG_val (some 1) rfl (by rfl) (fun W2 hg3 => ⟨.pointer (some ⟨W2.heap.size, 0, none⟩), W2.alloc (.cells #[.string (bstr n), .bool s, .bool l, .bool f, .int .i64 fd, .int .i64 a, .int .i64 b, .int .i64 c] 35), by (first | (go_simp; done) | (go_simp <;> rfl)), ?_⟩)
  simp only [n1, n3, n4]
  obtain ⟨g4, U5, hg_, hu_, hS_⟩ := (S1.out.gr hg3).made [.string (bstr n), .bool s, .bool l, .bool f, .int .i64 fd, .int .i64 a, .int .i64 b, .int .i64 c] 35
  rw [← hu_, ← hg_]
  have S6 : Hid (St w noB [blk g4 35 [.string (bstr n), .bool s, .bool l, .bool f, .int .i64 fd, .int .i64 a, .int .i64 b, .int .i64 c]] U5) := Lib.hid hS_
  clear S1
  clear hg_ hu_ hS_ hg3
  refine @wpG_p _ _ _ _ _ (some 2) (.bool false) _ _ rfl (by rfl) (fun _ => rfl) ?_
  simp only [n1, n3, n4]
  refine wpG_done (fun V7 hv8 => ?_)
  have S9 : Hid (St w noB [blk g4 35 [.string (bstr n), .bool s, .bool l, .bool f, .int .i64 fd, .int .i64 a, .int .i64 b, .int .i64 c]] V7) := Lib.hid (S6.out.gr hv8)
  clear S6
  clear hv8
  refine ⟨rfl, hK _ _ ?_⟩
  clear hK
  go_upto_region 1 with fail
  refine wpG_region_k (fun K hK => ?_)
  refine @wpG_p _ _ _ _ _ (some 3) (.int .i64 0) _ _ rfl (by rfl) (fun _ => rfl) ?_
  simp only [n1, n3, n4]
  refine wpG_done (fun V10 hv11 => ?_)
  have S12 : Hid (St w noB [blk g4 35 [.string (bstr n), .bool s, .bool l, .bool f, .int .i64 fd, .int .i64 a, .int .i64 b, .int .i64 c]] V10) := Lib.hid (S9.out.gr hv11)
  clear S9
  clear hv11
  refine ⟨rfl, hK _ _ ?_⟩
  clear hK
  go_wp2_with fail
  refine wp_loop_rounds 4 ?_
  rw [rounds_succ]
  go_upto_region 2 with fail
  refine wpG_region_k (fun K hK => ?_)
  refine @wpG_p _ _ _ _ _ (some 5) (.int .i64 0) _ _ rfl (by rfl) (fun _ => rfl) ?_
  simp only [n1, n3, n4]
  refine @wpG_p _ _ _ _ _ (some 6) (.bool true) _ _ rfl (by rfl) (fun W => by go_simp) ?_
  simp only [n1, n3, n4]
  refine wpG_done (fun V13 hv14 => ?_)
  have S15 : Hid (St w noB [blk g4 35 [.string (bstr n), .bool s, .bool l, .bool f, .int .i64 fd, .int .i64 a, .int .i64 b, .int .i64 c]] V13) := Lib.hid (S12.out.gr hv14)
  clear S12
  clear hv14
  refine ⟨rfl, hK _ _ ?_⟩
  clear hK
  go_upto_region 4 with fail
  refine wpG_region_k (fun K hK => ?_)
  refine @wpG_p _ _ _ _ _ (some 9) (.int .i64 0) _ _ rfl (by rfl) (fun _ => rfl) ?_
  simp only [n1, n3, n4]
  refine @wpG_p _ _ _ _ _ (some 10) (.pointer (some ⟨g4, 5, none⟩)) _ _ rfl (by rfl) (fun W => by go_simp) ?_
  simp only [n1, n3, n4]
  refine @wpG_p _ _ _ _ _ (some 11) (.pointer (some ⟨g4, 5, none⟩)) _ _ rfl (by rfl) (fun W => by (go_simp <;> first | rfl | omega)) ?_
  simp only [n1, n3, n4]
  refine @wpG_r _ _ _ _ _ (some 12) (.int .i64 a) _ _ rfl (by rfl) (fun W hg => by have c := (S15.out.gr hg).cell 0 rfl 5 rfl; go_simp) ?_
  simp only [n1, n3, n4]
  refine @wpG_p _ _ _ _ _ (some 13) (.bool (decide (a < 0))) _ _ rfl (by rfl) (fun W => op_int_lss W a 0 rfl rfl rfl Tryd.underlying3) ?_
  simp only [n1, n3, n4]
  refine @wpG_p _ _ _ _ _ (some 14) (.bool (decide (a < 0))) _ _ rfl (by rfl) (fun _ => rfl) ?_
  simp only [n1, n3, n4]
  obtain ⟨c16, hc16⟩ : ∃ q_, q_ = (decide (a < 0)) := ⟨_, rfl⟩
  rw [← hc16]
  have Hc16 := Lib.hid hc16
  clear hc16
  cases c16 with
  | true =>
    have f17 := of_decide_eq_true Hc16.out.symm
    refine @wpG_no _ _ _ _ _ (some 15) _ _ rfl (by rfl) ?_
    simp only [n1, n3, n4]
    refine @wpG_no _ _ _ _ _ (some 16) _ _ rfl (by rfl) ?_
    simp only [n1, n3, n4]
    refine @wpG_no _ _ _ _ _ (some 17) _ _ rfl (by rfl) ?_
    simp only [n1, n3, n4]
    refine @wpG_no _ _ _ _ _ (some 18) _ _ rfl (by rfl) ?_
    simp only [n1, n3, n4]
    refine @wpG_no _ _ _ _ _ (some 19) _ _ rfl (by rfl) ?_
    simp only [n1, n3, n4]
    refine @wpG_p _ _ _ _ _ (some 20) (.bool true) _ _ rfl (by rfl) (fun W => by go_simp) ?_
    simp only [n1, n3, n4]
    refine wpG_done (fun V18 hv19 => ?_)
    have S20 : Hid (St w noB [blk g4 35 [.string (bstr n), .bool s, .bool l, .bool f, .int .i64 fd, .int .i64 a, .int .i64 b, .int .i64 c]] V18) := Lib.hid (S15.out.gr hv19)
    clear S15
    clear hv19
    refine ⟨rfl, hK _ _ ?_⟩
    clear hK
    go_upto_region 5 with fail
    refine wpG_region_k (fun K hK => ?_)
    refine @wpG_p _ _ _ _ _ (some 2) (.bool false) _ _ rfl (by rfl) (fun _ => rfl) ?_
    simp only [n1, n3, n4]
    refine wpG_done (fun V21 hv22 => ?_)
    have S23 : Hid (St w noB [blk g4 35 [.string (bstr n), .bool s, .bool l, .bool f, .int .i64 fd, .int .i64 a, .int .i64 b, .int .i64 c]] V21) := Lib.hid (S20.out.gr hv22)
    clear S20
    clear hv22
    refine ⟨rfl, hK _ _ ?_⟩
    clear hK
    go_wp2_with fail
    go_ret
    refine ⟨?_, S23.out.bel⟩
    show Ending.returned (.bool false) = _
    (first | rfl | (first | exact rb_f (Ma.vld_name (by assumption)) | exact rb_f (Ma.vld_light (by simp only; omega)) | exact rb_f (Ma.vld_fade (by simp only; omega)) | exact rb_f (Ma.vld_kind (by first | assumption | rfl | (cases l <;> rfl) | (cases f <;> rfl) | (cases l <;> cases f <;> rfl) | (cases s <;> rfl)))))
  | false =>
    have f24 := of_decide_eq_false Hc16.out.symm
    refine @wpG_p _ _ _ _ _ (some 15) (.int .i64 0) _ _ rfl (by rfl) (fun _ => rfl) ?_
    simp only [n1, n3, n4]
    refine @wpG_p _ _ _ _ _ (some 16) (.pointer (some ⟨g4, 5, none⟩)) _ _ rfl (by rfl) (fun W => by go_simp) ?_
    simp only [n1, n3, n4]
    refine @wpG_p _ _ _ _ _ (some 17) (.pointer (some ⟨g4, 5, none⟩)) _ _ rfl (by rfl) (fun W => by (go_simp <;> first | rfl | omega)) ?_
    simp only [n1, n3, n4]
    refine @wpG_r _ _ _ _ _ (some 18) (.int .i64 a) _ _ rfl (by rfl) (fun W hg => by have c := (S15.out.gr hg).cell 0 rfl 5 rfl; go_simp) ?_
    simp only [n1, n3, n4]
    refine @wpG_p _ _ _ _ _ (some 19) (.bool (decide (a > 15))) _ _ rfl (by rfl) (fun W => op_int_gtr W a 15 rfl rfl rfl Tryd.underlying3) ?_
    simp only [n1, n3, n4]
    refine @wpG_p _ _ _ _ _ (some 20) (.bool (decide (a > 15))) _ _ rfl (by rfl) (fun W => by go_simp) ?_
    simp only [n1, n3, n4]
    refine wpG_done (fun V25 hv26 => ?_)
    have S27 : Hid (St w noB [blk g4 35 [.string (bstr n), .bool s, .bool l, .bool f, .int .i64 fd, .int .i64 a, .int .i64 b, .int .i64 c]] V25) := Lib.hid (S15.out.gr hv26)
    clear S15
    clear hv26
    refine ⟨rfl, hK _ _ ?_⟩
    clear hK
    obtain ⟨c28, hc28⟩ : ∃ q_, q_ = (decide (a > 15)) := ⟨_, rfl⟩
    rw [← hc28]
    have Hc28 := Lib.hid hc28
    clear hc28
    cases c28 with
    | true =>
      have f29 := of_decide_eq_true Hc28.out.symm
      go_upto_region 5 with fail
      refine wpG_region_k (fun K hK => ?_)
      refine @wpG_p _ _ _ _ _ (some 2) (.bool false) _ _ rfl (by rfl) (fun _ => rfl) ?_
      simp only [n1, n3, n4]
      refine wpG_done (fun V30 hv31 => ?_)
      have S32 : Hid (St w noB [blk g4 35 [.string (bstr n), .bool s, .bool l, .bool f, .int .i64 fd, .int .i64 a, .int .i64 b, .int .i64 c]] V30) := Lib.hid (S27.out.gr hv31)
      clear S27
      clear hv31
      refine ⟨rfl, hK _ _ ?_⟩
      clear hK
      go_wp2_with fail
      go_ret
      refine ⟨?_, S32.out.bel⟩
      show Ending.returned (.bool false) = _
      (first | rfl | (first | exact rb_f (Ma.vld_name (by assumption)) | exact rb_f (Ma.vld_light (by simp only; omega)) | exact rb_f (Ma.vld_fade (by simp only; omega)) | exact rb_f (Ma.vld_kind (by first | assumption | rfl | (cases l <;> rfl) | (cases f <;> rfl) | (cases l <;> cases f <;> rfl) | (cases s <;> rfl)))))
    | false =>
      have f33 := of_decide_eq_false Hc28.out.symm
      go_upto_region 3 with fail
      refine wpG_region_k (fun K hK => ?_)
      refine @wpG_p _ _ _ _ _ (some 7) (.int .i64 0) _ _ rfl (by rfl) (fun _ => rfl) ?_
      simp only [n1, n3, n4]
      refine @wpG_p _ _ _ _ _ (some 8) (.int .i64 1) _ _ rfl (by rfl) (fun W => by go_simp <;> rfl) ?_
      simp only [n1, n3, n4]
      refine @wpG_p _ _ _ _ _ (some 3) (.int .i64 1) _ _ rfl (by rfl) (fun _ => rfl) ?_
      simp only [n1, n3, n4]
      refine wpG_done (fun V34 hv35 => ?_)
      have S36 : Hid (St w noB [blk g4 35 [.string (bstr n), .bool s, .bool l, .bool f, .int .i64 fd, .int .i64 a, .int .i64 b, .int .i64 c]] V34) := Lib.hid (S27.out.gr hv35)
      clear S27
      clear hv35
      refine ⟨rfl, hK _ _ ?_⟩
      clear hK
      go_wp2_with fail
      rw [rounds_succ]
      go_upto_region 2 with fail
      refine wpG_region_k (fun K hK => ?_)
      refine @wpG_p _ _ _ _ _ (some 5) (.int .i64 1) _ _ rfl (by rfl) (fun _ => rfl) ?_
      simp only [n1, n3, n4]
      refine @wpG_p _ _ _ _ _ (some 6) (.bool true) _ _ rfl (by rfl) (fun W => by go_simp) ?_
      simp only [n1, n3, n4]
      refine wpG_done (fun V37 hv38 => ?_)
      have S39 : Hid (St w noB [blk g4 35 [.string (bstr n), .bool s, .bool l, .bool f, .int .i64 fd, .int .i64 a, .int .i64 b, .int .i64 c]] V37) := Lib.hid (S36.out.gr hv38)
      clear S36
      clear hv38
      refine ⟨rfl, hK _ _ ?_⟩
      clear hK
      go_upto_region 4 with fail
      refine wpG_region_k (fun K hK => ?_)
      refine @wpG_p _ _ _ _ _ (some 9) (.int .i64 1) _ _ rfl (by rfl) (fun _ => rfl) ?_
      simp only [n1, n3, n4]
      refine @wpG_p _ _ _ _ _ (some 10) (.pointer (some ⟨g4, 5, none⟩)) _ _ rfl (by rfl) (fun W => by go_simp) ?_
      simp only [n1, n3, n4]
      refine @wpG_p _ _ _ _ _ (some 11) (.pointer (some ⟨g4, 6, none⟩)) _ _ rfl (by rfl) (fun W => by (go_simp <;> first | rfl | omega)) ?_
      simp only [n1, n3, n4]
      refine @wpG_r _ _ _ _ _ (some 12) (.int .i64 b) _ _ rfl (by rfl) (fun W hg => by have c := (S39.out.gr hg).cell 0 rfl 6 rfl; go_simp) ?_
      simp only [n1, n3, n4]
      refine @wpG_p _ _ _ _ _ (some 13) (.bool (decide (b < 0))) _ _ rfl (by rfl) (fun W => op_int_lss W b 0 rfl rfl rfl Tryd.underlying3) ?_
      simp only [n1, n3, n4]
      refine @wpG_p _ _ _ _ _ (some 14) (.bool (decide (b < 0))) _ _ rfl (by rfl) (fun _ => rfl) ?_
      simp only [n1, n3, n4]
      obtain ⟨c40, hc40⟩ : ∃ q_, q_ = (decide (b < 0)) := ⟨_, rfl⟩
      rw [← hc40]
      have Hc40 := Lib.hid hc40
      clear hc40
      cases c40 with
      | true =>
        have f41 := of_decide_eq_true Hc40.out.symm
        refine @wpG_no _ _ _ _ _ (some 15) _ _ rfl (by rfl) ?_
        simp only [n1, n3, n4]
        refine @wpG_no _ _ _ _ _ (some 16) _ _ rfl (by rfl) ?_
        simp only [n1, n3, n4]
        refine @wpG_no _ _ _ _ _ (some 17) _ _ rfl (by rfl) ?_
        simp only [n1, n3, n4]
        refine @wpG_no _ _ _ _ _ (some 18) _ _ rfl (by rfl) ?_
        simp only [n1, n3, n4]
        refine @wpG_no _ _ _ _ _ (some 19) _ _ rfl (by rfl) ?_
        simp only [n1, n3, n4]
        refine @wpG_p _ _ _ _ _ (some 20) (.bool true) _ _ rfl (by rfl) (fun W => by go_simp) ?_
        simp only [n1, n3, n4]
        refine wpG_done (fun V42 hv43 => ?_)
        have S44 : Hid (St w noB [blk g4 35 [.string (bstr n), .bool s, .bool l, .bool f, .int .i64 fd, .int .i64 a, .int .i64 b, .int .i64 c]] V42) := Lib.hid (S39.out.gr hv43)
        clear S39
        clear hv43
        refine ⟨rfl, hK _ _ ?_⟩
        clear hK
        go_upto_region 5 with fail
        refine wpG_region_k (fun K hK => ?_)
        refine @wpG_p _ _ _ _ _ (some 2) (.bool false) _ _ rfl (by rfl) (fun _ => rfl) ?_
        simp only [n1, n3, n4]
        refine wpG_done (fun V45 hv46 => ?_)
        have S47 : Hid (St w noB [blk g4 35 [.string (bstr n), .bool s, .bool l, .bool f, .int .i64 fd, .int .i64 a, .int .i64 b, .int .i64 c]] V45) := Lib.hid (S44.out.gr hv46)
        clear S44
        clear hv46
        refine ⟨rfl, hK _ _ ?_⟩
        clear hK
        go_wp2_with fail
        go_ret
        refine ⟨?_, S47.out.bel⟩
        show Ending.returned (.bool false) = _
        (first | rfl | (first | exact rb_f (Ma.vld_name (by assumption)) | exact rb_f (Ma.vld_light (by simp only; omega)) | exact rb_f (Ma.vld_fade (by simp only; omega)) | exact rb_f (Ma.vld_kind (by first | assumption | rfl | (cases l <;> rfl) | (cases f <;> rfl) | (cases l <;> cases f <;> rfl) | (cases s <;> rfl)))))
      | false =>
        have f48 := of_decide_eq_false Hc40.out.symm
        refine @wpG_p _ _ _ _ _ (some 15) (.int .i64 1) _ _ rfl (by rfl) (fun _ => rfl) ?_
        simp only [n1, n3, n4]
        refine @wpG_p _ _ _ _ _ (some 16) (.pointer (some ⟨g4, 5, none⟩)) _ _ rfl (by rfl) (fun W => by go_simp) ?_
        simp only [n1, n3, n4]
        refine @wpG_p _ _ _ _ _ (some 17) (.pointer (some ⟨g4, 6, none⟩)) _ _ rfl (by rfl) (fun W => by (go_simp <;> first | rfl | omega)) ?_
        simp only [n1, n3, n4]
        refine @wpG_r _ _ _ _ _ (some 18) (.int .i64 b) _ _ rfl (by rfl) (fun W hg => by have c := (S39.out.gr hg).cell 0 rfl 6 rfl; go_simp) ?_
        simp only [n1, n3, n4]
        refine @wpG_p _ _ _ _ _ (some 19) (.bool (decide (b > 15))) _ _ rfl (by rfl) (fun W => op_int_gtr W b 15 rfl rfl rfl Tryd.underlying3) ?_
        simp only [n1, n3, n4]
        refine @wpG_p _ _ _ _ _ (some 20) (.bool (decide (b > 15))) _ _ rfl (by rfl) (fun W => by go_simp) ?_
        simp only [n1, n3, n4]
        refine wpG_done (fun V49 hv50 => ?_)
        have S51 : Hid (St w noB [blk g4 35 [.string (bstr n), .bool s, .bool l, .bool f, .int .i64 fd, .int .i64 a, .int .i64 b, .int .i64 c]] V49) := Lib.hid (S39.out.gr hv50)
        clear S39
        clear hv50
        refine ⟨rfl, hK _ _ ?_⟩
        clear hK
        obtain ⟨c52, hc52⟩ : ∃ q_, q_ = (decide (b > 15)) := ⟨_, rfl⟩
        rw [← hc52]
        have Hc52 := Lib.hid hc52
        clear hc52
        cases c52 with
        | true =>
          have f53 := of_decide_eq_true Hc52.out.symm
          go_upto_region 5 with fail
          refine wpG_region_k (fun K hK => ?_)
          refine @wpG_p _ _ _ _ _ (some 2) (.bool false) _ _ rfl (by rfl) (fun _ => rfl) ?_
          simp only [n1, n3, n4]
          refine wpG_done (fun V54 hv55 => ?_)
          have S56 : Hid (St w noB [blk g4 35 [.string (bstr n), .bool s, .bool l, .bool f, .int .i64 fd, .int .i64 a, .int .i64 b, .int .i64 c]] V54) := Lib.hid (S51.out.gr hv55)
          clear S51
          clear hv55
          refine ⟨rfl, hK _ _ ?_⟩
          clear hK
          go_wp2_with fail
          go_ret
          refine ⟨?_, S56.out.bel⟩
          show Ending.returned (.bool false) = _
          (first | rfl | (first | exact rb_f (Ma.vld_name (by assumption)) | exact rb_f (Ma.vld_light (by simp only; omega)) | exact rb_f (Ma.vld_fade (by simp only; omega)) | exact rb_f (Ma.vld_kind (by first | assumption | rfl | (cases l <;> rfl) | (cases f <;> rfl) | (cases l <;> cases f <;> rfl) | (cases s <;> rfl)))))
        | false =>
          have f57 := of_decide_eq_false Hc52.out.symm
          go_upto_region 3 with fail
          refine wpG_region_k (fun K hK => ?_)
          refine @wpG_p _ _ _ _ _ (some 7) (.int .i64 1) _ _ rfl (by rfl) (fun _ => rfl) ?_
          simp only [n1, n3, n4]
          refine @wpG_p _ _ _ _ _ (some 8) (.int .i64 2) _ _ rfl (by rfl) (fun W => by go_simp <;> rfl) ?_
          simp only [n1, n3, n4]
          refine @wpG_p _ _ _ _ _ (some 3) (.int .i64 2) _ _ rfl (by rfl) (fun _ => rfl) ?_
          simp only [n1, n3, n4]
          refine wpG_done (fun V58 hv59 => ?_)
          have S60 : Hid (St w noB [blk g4 35 [.string (bstr n), .bool s, .bool l, .bool f, .int .i64 fd, .int .i64 a, .int .i64 b, .int .i64 c]] V58) := Lib.hid (S51.out.gr hv59)
          clear S51
          clear hv59
          refine ⟨rfl, hK _ _ ?_⟩
          clear hK
          go_wp2_with fail
          rw [rounds_succ]
          go_upto_region 2 with fail
          refine wpG_region_k (fun K hK => ?_)
          refine @wpG_p _ _ _ _ _ (some 5) (.int .i64 2) _ _ rfl (by rfl) (fun _ => rfl) ?_
          simp only [n1, n3, n4]
          refine @wpG_p _ _ _ _ _ (some 6) (.bool true) _ _ rfl (by rfl) (fun W => by go_simp) ?_
          simp only [n1, n3, n4]
          refine wpG_done (fun V61 hv62 => ?_)
          have S63 : Hid (St w noB [blk g4 35 [.string (bstr n), .bool s, .bool l, .bool f, .int .i64 fd, .int .i64 a, .int .i64 b, .int .i64 c]] V61) := Lib.hid (S60.out.gr hv62)
          clear S60
          clear hv62
          refine ⟨rfl, hK _ _ ?_⟩
          clear hK
          go_upto_region 4 with fail
          refine wpG_region_k (fun K hK => ?_)
          refine @wpG_p _ _ _ _ _ (some 9) (.int .i64 2) _ _ rfl (by rfl) (fun _ => rfl) ?_
          simp only [n1, n3, n4]
          refine @wpG_p _ _ _ _ _ (some 10) (.pointer (some ⟨g4, 5, none⟩)) _ _ rfl (by rfl) (fun W => by go_simp) ?_
          simp only [n1, n3, n4]
          refine @wpG_p _ _ _ _ _ (some 11) (.pointer (some ⟨g4, 7, none⟩)) _ _ rfl (by rfl) (fun W => by (go_simp <;> first | rfl | omega)) ?_
          simp only [n1, n3, n4]
          refine @wpG_r _ _ _ _ _ (some 12) (.int .i64 c) _ _ rfl (by rfl) (fun W hg => by have c := (S63.out.gr hg).cell 0 rfl 7 rfl; go_simp) ?_
          simp only [n1, n3, n4]
          refine @wpG_p _ _ _ _ _ (some 13) (.bool (decide (c < 0))) _ _ rfl (by rfl) (fun W => op_int_lss W c 0 rfl rfl rfl Tryd.underlying3) ?_
          simp only [n1, n3, n4]
          refine @wpG_p _ _ _ _ _ (some 14) (.bool (decide (c < 0))) _ _ rfl (by rfl) (fun _ => rfl) ?_
          simp only [n1, n3, n4]
          obtain ⟨c64, hc64⟩ : ∃ q_, q_ = (decide (c < 0)) := ⟨_, rfl⟩
          rw [← hc64]
          have Hc64 := Lib.hid hc64
          clear hc64
          cases c64 with
          | true =>
            have f65 := of_decide_eq_true Hc64.out.symm
            refine @wpG_no _ _ _ _ _ (some 15) _ _ rfl (by rfl) ?_
            simp only [n1, n3, n4]
            refine @wpG_no _ _ _ _ _ (some 16) _ _ rfl (by rfl) ?_
            simp only [n1, n3, n4]
            refine @wpG_no _ _ _ _ _ (some 17) _ _ rfl (by rfl) ?_
            simp only [n1, n3, n4]
            refine @wpG_no _ _ _ _ _ (some 18) _ _ rfl (by rfl) ?_
            simp only [n1, n3, n4]
            refine @wpG_no _ _ _ _ _ (some 19) _ _ rfl (by rfl) ?_
            simp only [n1, n3, n4]
            refine @wpG_p _ _ _ _ _ (some 20) (.bool true) _ _ rfl (by rfl) (fun W => by go_simp) ?_
            simp only [n1, n3, n4]
            refine wpG_done (fun V66 hv67 => ?_)
            have S68 : Hid (St w noB [blk g4 35 [.string (bstr n), .bool s, .bool l, .bool f, .int .i64 fd, .int .i64 a, .int .i64 b, .int .i64 c]] V66) := Lib.hid (S63.out.gr hv67)
            clear S63
            clear hv67
            refine ⟨rfl, hK _ _ ?_⟩
            clear hK
            go_upto_region 5 with fail
            refine wpG_region_k (fun K hK => ?_)
            refine @wpG_p _ _ _ _ _ (some 2) (.bool false) _ _ rfl (by rfl) (fun _ => rfl) ?_
            simp only [n1, n3, n4]
            refine wpG_done (fun V69 hv70 => ?_)
            have S71 : Hid (St w noB [blk g4 35 [.string (bstr n), .bool s, .bool l, .bool f, .int .i64 fd, .int .i64 a, .int .i64 b, .int .i64 c]] V69) := Lib.hid (S68.out.gr hv70)
            clear S68
            clear hv70
            refine ⟨rfl, hK _ _ ?_⟩
            clear hK
            go_wp2_with fail
            go_ret
            refine ⟨?_, S71.out.bel⟩
            show Ending.returned (.bool false) = _
            (first | rfl | (first | exact rb_f (Ma.vld_name (by assumption)) | exact rb_f (Ma.vld_light (by simp only; omega)) | exact rb_f (Ma.vld_fade (by simp only; omega)) | exact rb_f (Ma.vld_kind (by first | assumption | rfl | (cases l <;> rfl) | (cases f <;> rfl) | (cases l <;> cases f <;> rfl) | (cases s <;> rfl)))))
          | false =>
            have f72 := of_decide_eq_false Hc64.out.symm
            refine @wpG_p _ _ _ _ _ (some 15) (.int .i64 2) _ _ rfl (by rfl) (fun _ => rfl) ?_
            simp only [n1, n3, n4]
            refine @wpG_p _ _ _ _ _ (some 16) (.pointer (some ⟨g4, 5, none⟩)) _ _ rfl (by rfl) (fun W => by go_simp) ?_
            simp only [n1, n3, n4]
            refine @wpG_p _ _ _ _ _ (some 17) (.pointer (some ⟨g4, 7, none⟩)) _ _ rfl (by rfl) (fun W => by (go_simp <;> first | rfl | omega)) ?_
            simp only [n1, n3, n4]
            refine @wpG_r _ _ _ _ _ (some 18) (.int .i64 c) _ _ rfl (by rfl) (fun W hg => by have c := (S63.out.gr hg).cell 0 rfl 7 rfl; go_simp) ?_
            simp only [n1, n3, n4]
            refine @wpG_p _ _ _ _ _ (some 19) (.bool (decide (c > 15))) _ _ rfl (by rfl) (fun W => op_int_gtr W c 15 rfl rfl rfl Tryd.underlying3) ?_
            simp only [n1, n3, n4]
            refine @wpG_p _ _ _ _ _ (some 20) (.bool (decide (c > 15))) _ _ rfl (by rfl) (fun W => by go_simp) ?_
            simp only [n1, n3, n4]
            refine wpG_done (fun V73 hv74 => ?_)
            have S75 : Hid (St w noB [blk g4 35 [.string (bstr n), .bool s, .bool l, .bool f, .int .i64 fd, .int .i64 a, .int .i64 b, .int .i64 c]] V73) := Lib.hid (S63.out.gr hv74)
            clear S63
            clear hv74
            refine ⟨rfl, hK _ _ ?_⟩
            clear hK
            obtain ⟨c76, hc76⟩ : ∃ q_, q_ = (decide (c > 15)) := ⟨_, rfl⟩
            rw [← hc76]
            have Hc76 := Lib.hid hc76
            clear hc76
            cases c76 with
            | true =>
              have f77 := of_decide_eq_true Hc76.out.symm
              go_upto_region 5 with fail
              refine wpG_region_k (fun K hK => ?_)
              refine @wpG_p _ _ _ _ _ (some 2) (.bool false) _ _ rfl (by rfl) (fun _ => rfl) ?_
              simp only [n1, n3, n4]
              refine wpG_done (fun V78 hv79 => ?_)
              have S80 : Hid (St w noB [blk g4 35 [.string (bstr n), .bool s, .bool l, .bool f, .int .i64 fd, .int .i64 a, .int .i64 b, .int .i64 c]] V78) := Lib.hid (S75.out.gr hv79)
              clear S75
              clear hv79
              refine ⟨rfl, hK _ _ ?_⟩
              clear hK
              go_wp2_with fail
              go_ret
              refine ⟨?_, S80.out.bel⟩
              show Ending.returned (.bool false) = _
              (first | rfl | (first | exact rb_f (Ma.vld_name (by assumption)) | exact rb_f (Ma.vld_light (by simp only; omega)) | exact rb_f (Ma.vld_fade (by simp only; omega)) | exact rb_f (Ma.vld_kind (by first | assumption | rfl | (cases l <;> rfl) | (cases f <;> rfl) | (cases l <;> cases f <;> rfl) | (cases s <;> rfl)))))
            | false =>
              have f81 := of_decide_eq_false Hc76.out.symm
              go_upto_region 3 with fail
              refine wpG_region_k (fun K hK => ?_)
              refine @wpG_p _ _ _ _ _ (some 7) (.int .i64 2) _ _ rfl (by rfl) (fun _ => rfl) ?_
              simp only [n1, n3, n4]
              refine @wpG_p _ _ _ _ _ (some 8) (.int .i64 3) _ _ rfl (by rfl) (fun W => by go_simp <;> rfl) ?_
              simp only [n1, n3, n4]
              refine @wpG_p _ _ _ _ _ (some 3) (.int .i64 3) _ _ rfl (by rfl) (fun _ => rfl) ?_
              simp only [n1, n3, n4]
              refine wpG_done (fun V82 hv83 => ?_)
              have S84 : Hid (St w noB [blk g4 35 [.string (bstr n), .bool s, .bool l, .bool f, .int .i64 fd, .int .i64 a, .int .i64 b, .int .i64 c]] V82) := Lib.hid (S75.out.gr hv83)
              clear S75
              clear hv83
              refine ⟨rfl, hK _ _ ?_⟩
              clear hK
              go_wp2_with fail
              rw [rounds_succ]
              go_upto_region 2 with fail
              refine wpG_region_k (fun K hK => ?_)
              refine @wpG_p _ _ _ _ _ (some 5) (.int .i64 3) _ _ rfl (by rfl) (fun _ => rfl) ?_
              simp only [n1, n3, n4]
              refine @wpG_p _ _ _ _ _ (some 6) (.bool false) _ _ rfl (by rfl) (fun W => by go_simp) ?_
              simp only [n1, n3, n4]
              refine wpG_done (fun V85 hv86 => ?_)
              have S87 : Hid (St w noB [blk g4 35 [.string (bstr n), .bool s, .bool l, .bool f, .int .i64 fd, .int .i64 a, .int .i64 b, .int .i64 c]] V85) := Lib.hid (S84.out.gr hv86)
              clear S84
              clear hv86
              refine ⟨rfl, hK _ _ ?_⟩
              clear hK
              go_upto_region 6 with fail
              refine wpG_region_k (fun K hK => ?_)
              refine @wpG_p _ _ _ _ _ (some 21) (.pointer (some ⟨g4, 0, none⟩)) _ _ rfl (by rfl) (fun W => by go_simp) ?_
              simp only [n1, n3, n4]
              refine @wpG_r _ _ _ _ _ (some 22) (.string (bstr n)) _ _ rfl (by rfl) (fun W hg => by have c := (S87.out.gr hg).cell 0 rfl 0 rfl; go_simp) ?_
              simp only [n1, n3, n4]
              refine @wpG_tk _ _ _ _ _ (some 23) (.bool (Ma.nameOk n)) _ _ rfl (.call (f := 44) (args := #[.string (bstr n)]) (by rfl) (fun W => by go_simp) (fun W hg => isName_any n W)) ?_
              simp only [n1, n3, n4]
              refine @wpG_p _ _ _ _ _ (some 4) (.bool (Ma.nameOk n)) _ _ rfl (by rfl) (fun _ => rfl) ?_
              simp only [n1, n3, n4]
              refine wpG_done (fun V88 hv89 => ?_)
              have S90 : Hid (St w noB [blk g4 35 [.string (bstr n), .bool s, .bool l, .bool f, .int .i64 fd, .int .i64 a, .int .i64 b, .int .i64 c]] V88) := Lib.hid (S87.out.gr hv89)
              clear S87
              clear hv89
              refine ⟨rfl, hK _ _ ?_⟩
              clear hK
              go_upto_region 7 with fail
              refine wpG_region_k (fun K hK => ?_)
              refine @wpG_p _ _ _ _ _ (some 24) (.bool (Ma.nameOk n)) _ _ rfl (by rfl) (fun _ => rfl) ?_
              simp only [n1, n3, n4]
              refine @wpG_p _ _ _ _ _ (some 25) (.bool (Ma.nameOk n)) _ _ rfl (by rfl) (fun _ => rfl) ?_
              simp only [n1, n3, n4]
              obtain ⟨c91, hc91⟩ : ∃ q_, q_ = (Ma.nameOk n) := ⟨_, rfl⟩
              rw [← hc91]
              have Hc91 := Lib.hid hc91
              clear hc91
              cases c91 with
              | true =>
                have f92 := Lib.hid (Hc91.out.symm)
                refine @wpG_p _ _ _ _ _ (some 26) (.pointer (some ⟨g4, 1, none⟩)) _ _ rfl (by rfl) (fun W => by go_simp) ?_
                simp only [n1, n3, n4]
                refine @wpG_r _ _ _ _ _ (some 27) (.bool s) _ _ rfl (by rfl) (fun W hg => by have c := (S90.out.gr hg).cell 0 rfl 1 rfl; go_simp) ?_
                simp only [n1, n3, n4]
                refine @wpG_p _ _ _ _ _ (some 28) (.bool (!s)) _ _ rfl (by rfl) (fun W => by first | (go_simp; done) | (cases s <;> rfl)) ?_
                simp only [n1, n3, n4]
                refine @wpG_p _ _ _ _ _ (some 29) (.bool (!s)) _ _ rfl (by rfl) (fun _ => rfl) ?_
                simp only [n1, n3, n4]
                cases s with
                | true =>
                  refine @wpG_p _ _ _ _ _ (some 30) (.pointer (some ⟨g4, 2, none⟩)) _ _ rfl (by rfl) (fun W => by go_simp) ?_
                  simp only [n1, n3, n4]
                  refine @wpG_r _ _ _ _ _ (some 31) (.bool l) _ _ rfl (by rfl) (fun W hg => by have c := (S90.out.gr hg).cell 0 rfl 2 rfl; go_simp) ?_
                  simp only [n1, n3, n4]
                  refine @wpG_p _ _ _ _ _ (some 32) (.bool (!l)) _ _ rfl (by rfl) (fun W => by first | (go_simp; done) | (cases l <;> rfl)) ?_
                  simp only [n1, n3, n4]
                  refine @wpG_p _ _ _ _ _ (some 33) (.bool (!l)) _ _ rfl (by rfl) (fun W => by go_simp) ?_
                  simp only [n1, n3, n4]
                  refine @wpG_p _ _ _ _ _ (some 34) (.bool (!l)) _ _ rfl (by rfl) (fun W => by go_simp) ?_
                  simp only [n1, n3, n4]
                  refine @wpG_p _ _ _ _ _ (some 35) (.bool (!l)) _ _ rfl (by rfl) (fun _ => rfl) ?_
                  simp only [n1, n3, n4]
                  cases l with
                  | true =>
                    refine @wpG_no _ _ _ _ _ (some 36) _ _ rfl (by rfl) ?_
                    simp only [n1, n3, n4]
                    refine @wpG_no _ _ _ _ _ (some 37) _ _ rfl (by rfl) ?_
                    simp only [n1, n3, n4]
                    refine @wpG_no _ _ _ _ _ (some 38) _ _ rfl (by rfl) ?_
                    simp only [n1, n3, n4]
                    refine @wpG_no _ _ _ _ _ (some 39) _ _ rfl (by rfl) ?_
                    simp only [n1, n3, n4]
                    refine @wpG_no _ _ _ _ _ (some 40) _ _ rfl (by rfl) ?_
                    simp only [n1, n3, n4]
                    refine @wpG_no _ _ _ _ _ (some 41) _ _ rfl (by rfl) ?_
                    simp only [n1, n3, n4]
                    refine @wpG_no _ _ _ _ _ (some 42) _ _ rfl (by rfl) ?_
                    simp only [n1, n3, n4]
                    refine @wpG_p _ _ _ _ _ (some 43) (.bool false) _ _ rfl (by rfl) (fun W => by go_simp) ?_
                    simp only [n1, n3, n4]
                    refine @wpG_p _ _ _ _ _ (some 44) (.bool false) _ _ rfl (by rfl) (fun _ => rfl) ?_
                    simp only [n1, n3, n4]
                    refine @wpG_no _ _ _ _ _ (some 45) _ _ rfl (by rfl) ?_
                    simp only [n1, n3, n4]
                    refine @wpG_no _ _ _ _ _ (some 46) _ _ rfl (by rfl) ?_
                    simp only [n1, n3, n4]
                    refine @wpG_no _ _ _ _ _ (some 47) _ _ rfl (by rfl) ?_
                    simp only [n1, n3, n4]
                    refine @wpG_p _ _ _ _ _ (some 48) (.bool false) _ _ rfl (by rfl) (fun W => by go_simp) ?_
                    simp only [n1, n3, n4]
                    refine @wpG_p _ _ _ _ _ (some 49) (.bool false) _ _ rfl (by rfl) (fun _ => rfl) ?_
                    simp only [n1, n3, n4]
                    refine @wpG_no _ _ _ _ _ (some 50) _ _ rfl (by rfl) ?_
                    simp only [n1, n3, n4]
                    refine @wpG_no _ _ _ _ _ (some 51) _ _ rfl (by rfl) ?_
                    simp only [n1, n3, n4]
                    refine @wpG_no _ _ _ _ _ (some 52) _ _ rfl (by rfl) ?_
                    simp only [n1, n3, n4]
                    refine @wpG_p _ _ _ _ _ (some 53) (.bool false) _ _ rfl (by rfl) (fun W => by go_simp) ?_
                    simp only [n1, n3, n4]
                    refine @wpG_p _ _ _ _ _ (some 2) (.bool false) _ _ rfl (by rfl) (fun _ => rfl) ?_
                    simp only [n1, n3, n4]
                    refine wpG_done (fun V93 hv94 => ?_)
                    have S95 : Hid (St w noB [blk g4 35 [.string (bstr n), .bool true, .bool true, .bool f, .int .i64 fd, .int .i64 a, .int .i64 b, .int .i64 c]] V93) := Lib.hid (S90.out.gr hv94)
                    clear S90
                    clear hv94
                    refine ⟨rfl, hK _ _ ?_⟩
                    clear hK
                    go_wp2_with fail
                    go_ret
                    refine ⟨?_, S95.out.bel⟩
                    show Ending.returned (.bool false) = _
                    (first | rfl | (have e_f92 := f92.out; first | exact rb_f (Ma.vld_name (by assumption)) | exact rb_f (Ma.vld_light (by simp only; omega)) | exact rb_f (Ma.vld_fade (by simp only; omega)) | exact rb_f (Ma.vld_kind (by first | assumption | rfl | (cases l <;> rfl) | (cases f <;> rfl) | (cases l <;> cases f <;> rfl) | (cases s <;> rfl)))))
                  | false =>
                    refine @wpG_p _ _ _ _ _ (some 36) (.pointer (some ⟨g4, 3, none⟩)) _ _ rfl (by rfl) (fun W => by go_simp) ?_
                    simp only [n1, n3, n4]
                    refine @wpG_r _ _ _ _ _ (some 37) (.bool f) _ _ rfl (by rfl) (fun W hg => by have c := (S90.out.gr hg).cell 0 rfl 3 rfl; go_simp) ?_
                    simp only [n1, n3, n4]
                    refine @wpG_p _ _ _ _ _ (some 38) (.bool (!f)) _ _ rfl (by rfl) (fun W => by first | (go_simp; done) | (cases f <;> rfl)) ?_
                    simp only [n1, n3, n4]
                    refine @wpG_p _ _ _ _ _ (some 39) (.bool (!f)) _ _ rfl (by rfl) (fun _ => rfl) ?_
                    simp only [n1, n3, n4]
                    cases f with
                    | true =>
                      refine @wpG_p _ _ _ _ _ (some 40) (.pointer (some ⟨g4, 1, none⟩)) _ _ rfl (by rfl) (fun W => by go_simp) ?_
                      simp only [n1, n3, n4]
                      refine @wpG_r _ _ _ _ _ (some 41) (.bool true) _ _ rfl (by rfl) (fun W hg => by have c := (S90.out.gr hg).cell 0 rfl 1 rfl; go_simp) ?_
                      simp only [n1, n3, n4]
                      refine @wpG_p _ _ _ _ _ (some 42) (.bool true) _ _ rfl (by rfl) (fun W => by go_simp) ?_
                      simp only [n1, n3, n4]
                      refine @wpG_p _ _ _ _ _ (some 43) (.bool true) _ _ rfl (by rfl) (fun W => by go_simp) ?_
                      simp only [n1, n3, n4]
                      refine @wpG_p _ _ _ _ _ (some 44) (.bool true) _ _ rfl (by rfl) (fun _ => rfl) ?_
                      simp only [n1, n3, n4]
                      refine @wpG_p _ _ _ _ _ (some 45) (.pointer (some ⟨g4, 4, none⟩)) _ _ rfl (by rfl) (fun W => by go_simp) ?_
                      simp only [n1, n3, n4]
                      refine @wpG_r _ _ _ _ _ (some 46) (.int .i64 fd) _ _ rfl (by rfl) (fun W hg => by have c := (S90.out.gr hg).cell 0 rfl 4 rfl; go_simp) ?_
                      simp only [n1, n3, n4]
                      refine @wpG_p _ _ _ _ _ (some 47) (.bool (decide (fd ≥ 1))) _ _ rfl (by rfl) (fun W => op_int_geq W fd 1 rfl rfl rfl Tryd.underlying3) ?_
                      simp only [n1, n3, n4]
                      refine @wpG_p _ _ _ _ _ (some 48) (.bool (decide (fd ≥ 1))) _ _ rfl (by rfl) (fun W => by go_simp) ?_
                      simp only [n1, n3, n4]
                      refine @wpG_p _ _ _ _ _ (some 49) (.bool (decide (fd ≥ 1))) _ _ rfl (by rfl) (fun _ => rfl) ?_
                      simp only [n1, n3, n4]
                      obtain ⟨c96, hc96⟩ : ∃ q_, q_ = (decide (fd ≥ 1)) := ⟨_, rfl⟩
                      rw [← hc96]
                      have Hc96 := Lib.hid hc96
                      clear hc96
                      cases c96 with
                      | true =>
                        have f97 := of_decide_eq_true Hc96.out.symm
                        refine @wpG_p _ _ _ _ _ (some 50) (.pointer (some ⟨g4, 4, none⟩)) _ _ rfl (by rfl) (fun W => by go_simp) ?_
                        simp only [n1, n3, n4]
                        refine @wpG_r _ _ _ _ _ (some 51) (.int .i64 fd) _ _ rfl (by rfl) (fun W hg => by have c := (S90.out.gr hg).cell 0 rfl 4 rfl; go_simp) ?_
                        simp only [n1, n3, n4]
                        refine @wpG_p _ _ _ _ _ (some 52) (.bool (decide (fd ≤ 16))) _ _ rfl (by rfl) (fun W => op_int_leq W fd 16 rfl rfl rfl Tryd.underlying3) ?_
                        simp only [n1, n3, n4]
                        refine @wpG_p _ _ _ _ _ (some 53) (.bool (decide (fd ≤ 16))) _ _ rfl (by rfl) (fun W => by go_simp) ?_
                        simp only [n1, n3, n4]
                        refine @wpG_p _ _ _ _ _ (some 2) (.bool (decide (fd ≤ 16))) _ _ rfl (by rfl) (fun _ => rfl) ?_
                        simp only [n1, n3, n4]
                        refine wpG_done (fun V98 hv99 => ?_)
                        have S100 : Hid (St w noB [blk g4 35 [.string (bstr n), .bool true, .bool false, .bool true, .int .i64 fd, .int .i64 a, .int .i64 b, .int .i64 c]] V98) := Lib.hid (S90.out.gr hv99)
                        clear S90
                        clear hv99
                        refine ⟨rfl, hK _ _ ?_⟩
                        clear hK
                        go_wp2_with fail
                        go_ret
                        obtain ⟨c101, hc101⟩ : ∃ q_, q_ = (decide (fd ≤ 16)) := ⟨_, rfl⟩
                        rw [← hc101]
                        have Hc101 := Lib.hid hc101
                        clear hc101
                        cases c101 with
                        | true =>
                          have f102 := of_decide_eq_true Hc101.out.symm
                          refine ⟨?_, S100.out.bel⟩
                          show Ending.returned (.bool true) = _
                          (first | rfl | (have e_f92 := f92.out; exact rb_t (Ma.vld_yes (by first | assumption | rfl | (cases l <;> rfl) | (cases f <;> rfl) | (cases l <;> cases f <;> rfl) | (cases s <;> rfl)) ⟨by omega, by omega⟩ ⟨by omega, by omega⟩ ⟨by omega, by omega⟩ (by assumption) ⟨by omega, by omega⟩)))
                        | false =>
                          have f103 := of_decide_eq_false Hc101.out.symm
                          refine ⟨?_, S100.out.bel⟩
                          show Ending.returned (.bool false) = _
                          (first | rfl | (have e_f92 := f92.out; first | exact rb_f (Ma.vld_name (by assumption)) | exact rb_f (Ma.vld_light (by simp only; omega)) | exact rb_f (Ma.vld_fade (by simp only; omega)) | exact rb_f (Ma.vld_kind (by first | assumption | rfl | (cases l <;> rfl) | (cases f <;> rfl) | (cases l <;> cases f <;> rfl) | (cases s <;> rfl)))))
                      | false =>
                        have f104 := of_decide_eq_false Hc96.out.symm
                        refine @wpG_no _ _ _ _ _ (some 50) _ _ rfl (by rfl) ?_
                        simp only [n1, n3, n4]
                        refine @wpG_no _ _ _ _ _ (some 51) _ _ rfl (by rfl) ?_
                        simp only [n1, n3, n4]
                        refine @wpG_no _ _ _ _ _ (some 52) _ _ rfl (by rfl) ?_
                        simp only [n1, n3, n4]
                        refine @wpG_p _ _ _ _ _ (some 53) (.bool false) _ _ rfl (by rfl) (fun W => by go_simp) ?_
                        simp only [n1, n3, n4]
                        refine @wpG_p _ _ _ _ _ (some 2) (.bool false) _ _ rfl (by rfl) (fun _ => rfl) ?_
                        simp only [n1, n3, n4]
                        refine wpG_done (fun V105 hv106 => ?_)
                        have S107 : Hid (St w noB [blk g4 35 [.string (bstr n), .bool true, .bool false, .bool true, .int .i64 fd, .int .i64 a, .int .i64 b, .int .i64 c]] V105) := Lib.hid (S90.out.gr hv106)
                        clear S90
                        clear hv106
                        refine ⟨rfl, hK _ _ ?_⟩
                        clear hK
                        go_wp2_with fail
                        go_ret
                        refine ⟨?_, S107.out.bel⟩
                        show Ending.returned (.bool false) = _
                        (first | rfl | (have e_f92 := f92.out; first | exact rb_f (Ma.vld_name (by assumption)) | exact rb_f (Ma.vld_light (by simp only; omega)) | exact rb_f (Ma.vld_fade (by simp only; omega)) | exact rb_f (Ma.vld_kind (by first | assumption | rfl | (cases l <;> rfl) | (cases f <;> rfl) | (cases l <;> cases f <;> rfl) | (cases s <;> rfl)))))
                    | false =>
                      refine @wpG_no _ _ _ _ _ (some 40) _ _ rfl (by rfl) ?_
                      simp only [n1, n3, n4]
                      refine @wpG_no _ _ _ _ _ (some 41) _ _ rfl (by rfl) ?_
                      simp only [n1, n3, n4]
                      refine @wpG_p _ _ _ _ _ (some 42) (.bool true) _ _ rfl (by rfl) (fun W => by go_simp) ?_
                      simp only [n1, n3, n4]
                      refine @wpG_p _ _ _ _ _ (some 43) (.bool true) _ _ rfl (by rfl) (fun W => by go_simp) ?_
                      simp only [n1, n3, n4]
                      refine @wpG_p _ _ _ _ _ (some 44) (.bool true) _ _ rfl (by rfl) (fun _ => rfl) ?_
                      simp only [n1, n3, n4]
                      refine @wpG_p _ _ _ _ _ (some 45) (.pointer (some ⟨g4, 4, none⟩)) _ _ rfl (by rfl) (fun W => by go_simp) ?_
                      simp only [n1, n3, n4]
                      refine @wpG_r _ _ _ _ _ (some 46) (.int .i64 fd) _ _ rfl (by rfl) (fun W hg => by have c := (S90.out.gr hg).cell 0 rfl 4 rfl; go_simp) ?_
                      simp only [n1, n3, n4]
                      refine @wpG_p _ _ _ _ _ (some 47) (.bool (decide (fd ≥ 1))) _ _ rfl (by rfl) (fun W => op_int_geq W fd 1 rfl rfl rfl Tryd.underlying3) ?_
                      simp only [n1, n3, n4]
                      refine @wpG_p _ _ _ _ _ (some 48) (.bool (decide (fd ≥ 1))) _ _ rfl (by rfl) (fun W => by go_simp) ?_
                      simp only [n1, n3, n4]
                      refine @wpG_p _ _ _ _ _ (some 49) (.bool (decide (fd ≥ 1))) _ _ rfl (by rfl) (fun _ => rfl) ?_
                      simp only [n1, n3, n4]
                      obtain ⟨c108, hc108⟩ : ∃ q_, q_ = (decide (fd ≥ 1)) := ⟨_, rfl⟩
                      rw [← hc108]
                      have Hc108 := Lib.hid hc108
                      clear hc108
                      cases c108 with
                      | true =>
                        have f109 := of_decide_eq_true Hc108.out.symm
                        refine @wpG_p _ _ _ _ _ (some 50) (.pointer (some ⟨g4, 4, none⟩)) _ _ rfl (by rfl) (fun W => by go_simp) ?_
                        simp only [n1, n3, n4]
                        refine @wpG_r _ _ _ _ _ (some 51) (.int .i64 fd) _ _ rfl (by rfl) (fun W hg => by have c := (S90.out.gr hg).cell 0 rfl 4 rfl; go_simp) ?_
                        simp only [n1, n3, n4]
                        refine @wpG_p _ _ _ _ _ (some 52) (.bool (decide (fd ≤ 16))) _ _ rfl (by rfl) (fun W => op_int_leq W fd 16 rfl rfl rfl Tryd.underlying3) ?_
                        simp only [n1, n3, n4]
                        refine @wpG_p _ _ _ _ _ (some 53) (.bool (decide (fd ≤ 16))) _ _ rfl (by rfl) (fun W => by go_simp) ?_
                        simp only [n1, n3, n4]
                        refine @wpG_p _ _ _ _ _ (some 2) (.bool (decide (fd ≤ 16))) _ _ rfl (by rfl) (fun _ => rfl) ?_
                        simp only [n1, n3, n4]
                        refine wpG_done (fun V110 hv111 => ?_)
                        have S112 : Hid (St w noB [blk g4 35 [.string (bstr n), .bool true, .bool false, .bool false, .int .i64 fd, .int .i64 a, .int .i64 b, .int .i64 c]] V110) := Lib.hid (S90.out.gr hv111)
                        clear S90
                        clear hv111
                        refine ⟨rfl, hK _ _ ?_⟩
                        clear hK
                        go_wp2_with fail
                        go_ret
                        obtain ⟨c113, hc113⟩ : ∃ q_, q_ = (decide (fd ≤ 16)) := ⟨_, rfl⟩
                        rw [← hc113]
                        have Hc113 := Lib.hid hc113
                        clear hc113
                        cases c113 with
                        | true =>
                          have f114 := of_decide_eq_true Hc113.out.symm
                          refine ⟨?_, S112.out.bel⟩
                          show Ending.returned (.bool true) = _
                          (first | rfl | (have e_f92 := f92.out; exact rb_t (Ma.vld_yes (by first | assumption | rfl | (cases l <;> rfl) | (cases f <;> rfl) | (cases l <;> cases f <;> rfl) | (cases s <;> rfl)) ⟨by omega, by omega⟩ ⟨by omega, by omega⟩ ⟨by omega, by omega⟩ (by assumption) ⟨by omega, by omega⟩)))
                        | false =>
                          have f115 := of_decide_eq_false Hc113.out.symm
                          refine ⟨?_, S112.out.bel⟩
                          show Ending.returned (.bool false) = _
                          (first | rfl | (have e_f92 := f92.out; first | exact rb_f (Ma.vld_name (by assumption)) | exact rb_f (Ma.vld_light (by simp only; omega)) | exact rb_f (Ma.vld_fade (by simp only; omega)) | exact rb_f (Ma.vld_kind (by first | assumption | rfl | (cases l <;> rfl) | (cases f <;> rfl) | (cases l <;> cases f <;> rfl) | (cases s <;> rfl)))))
                      | false =>
                        have f116 := of_decide_eq_false Hc108.out.symm
                        refine @wpG_no _ _ _ _ _ (some 50) _ _ rfl (by rfl) ?_
                        simp only [n1, n3, n4]
                        refine @wpG_no _ _ _ _ _ (some 51) _ _ rfl (by rfl) ?_
                        simp only [n1, n3, n4]
                        refine @wpG_no _ _ _ _ _ (some 52) _ _ rfl (by rfl) ?_
                        simp only [n1, n3, n4]
                        refine @wpG_p _ _ _ _ _ (some 53) (.bool false) _ _ rfl (by rfl) (fun W => by go_simp) ?_
                        simp only [n1, n3, n4]
                        refine @wpG_p _ _ _ _ _ (some 2) (.bool false) _ _ rfl (by rfl) (fun _ => rfl) ?_
                        simp only [n1, n3, n4]
                        refine wpG_done (fun V117 hv118 => ?_)
                        have S119 : Hid (St w noB [blk g4 35 [.string (bstr n), .bool true, .bool false, .bool false, .int .i64 fd, .int .i64 a, .int .i64 b, .int .i64 c]] V117) := Lib.hid (S90.out.gr hv118)
                        clear S90
                        clear hv118
                        refine ⟨rfl, hK _ _ ?_⟩
                        clear hK
                        go_wp2_with fail
                        go_ret
                        refine ⟨?_, S119.out.bel⟩
                        show Ending.returned (.bool false) = _
                        (first | rfl | (have e_f92 := f92.out; first | exact rb_f (Ma.vld_name (by assumption)) | exact rb_f (Ma.vld_light (by simp only; omega)) | exact rb_f (Ma.vld_fade (by simp only; omega)) | exact rb_f (Ma.vld_kind (by first | assumption | rfl | (cases l <;> rfl) | (cases f <;> rfl) | (cases l <;> cases f <;> rfl) | (cases s <;> rfl)))))
                | false =>
                  refine @wpG_no _ _ _ _ _ (some 30) _ _ rfl (by rfl) ?_
                  simp only [n1, n3, n4]
                  refine @wpG_no _ _ _ _ _ (some 31) _ _ rfl (by rfl) ?_
                  simp only [n1, n3, n4]
                  refine @wpG_no _ _ _ _ _ (some 32) _ _ rfl (by rfl) ?_
                  simp only [n1, n3, n4]
                  refine @wpG_p _ _ _ _ _ (some 33) (.bool true) _ _ rfl (by rfl) (fun W => by go_simp) ?_
                  simp only [n1, n3, n4]
                  refine @wpG_p _ _ _ _ _ (some 34) (.bool true) _ _ rfl (by rfl) (fun W => by go_simp) ?_
                  simp only [n1, n3, n4]
                  refine @wpG_p _ _ _ _ _ (some 35) (.bool true) _ _ rfl (by rfl) (fun _ => rfl) ?_
                  simp only [n1, n3, n4]
                  refine @wpG_p _ _ _ _ _ (some 36) (.pointer (some ⟨g4, 3, none⟩)) _ _ rfl (by rfl) (fun W => by go_simp) ?_
                  simp only [n1, n3, n4]
                  refine @wpG_r _ _ _ _ _ (some 37) (.bool f) _ _ rfl (by rfl) (fun W hg => by have c := (S90.out.gr hg).cell 0 rfl 3 rfl; go_simp) ?_
                  simp only [n1, n3, n4]
                  refine @wpG_p _ _ _ _ _ (some 38) (.bool (!f)) _ _ rfl (by rfl) (fun W => by first | (go_simp; done) | (cases f <;> rfl)) ?_
                  simp only [n1, n3, n4]
                  refine @wpG_p _ _ _ _ _ (some 39) (.bool (!f)) _ _ rfl (by rfl) (fun _ => rfl) ?_
                  simp only [n1, n3, n4]
                  cases f with
                  | true =>
                    refine @wpG_p _ _ _ _ _ (some 40) (.pointer (some ⟨g4, 1, none⟩)) _ _ rfl (by rfl) (fun W => by go_simp) ?_
                    simp only [n1, n3, n4]
                    refine @wpG_r _ _ _ _ _ (some 41) (.bool false) _ _ rfl (by rfl) (fun W hg => by have c := (S90.out.gr hg).cell 0 rfl 1 rfl; go_simp) ?_
                    simp only [n1, n3, n4]
                    refine @wpG_p _ _ _ _ _ (some 42) (.bool false) _ _ rfl (by rfl) (fun W => by go_simp) ?_
                    simp only [n1, n3, n4]
                    refine @wpG_p _ _ _ _ _ (some 43) (.bool false) _ _ rfl (by rfl) (fun W => by go_simp) ?_
                    simp only [n1, n3, n4]
                    refine @wpG_p _ _ _ _ _ (some 44) (.bool false) _ _ rfl (by rfl) (fun _ => rfl) ?_
                    simp only [n1, n3, n4]
                    refine @wpG_no _ _ _ _ _ (some 45) _ _ rfl (by rfl) ?_
                    simp only [n1, n3, n4]
                    refine @wpG_no _ _ _ _ _ (some 46) _ _ rfl (by rfl) ?_
                    simp only [n1, n3, n4]
                    refine @wpG_no _ _ _ _ _ (some 47) _ _ rfl (by rfl) ?_
                    simp only [n1, n3, n4]
                    refine @wpG_p _ _ _ _ _ (some 48) (.bool false) _ _ rfl (by rfl) (fun W => by go_simp) ?_
                    simp only [n1, n3, n4]
                    refine @wpG_p _ _ _ _ _ (some 49) (.bool false) _ _ rfl (by rfl) (fun _ => rfl) ?_
                    simp only [n1, n3, n4]
                    refine @wpG_no _ _ _ _ _ (some 50) _ _ rfl (by rfl) ?_
                    simp only [n1, n3, n4]
                    refine @wpG_no _ _ _ _ _ (some 51) _ _ rfl (by rfl) ?_
                    simp only [n1, n3, n4]
                    refine @wpG_no _ _ _ _ _ (some 52) _ _ rfl (by rfl) ?_
                    simp only [n1, n3, n4]
                    refine @wpG_p _ _ _ _ _ (some 53) (.bool false) _ _ rfl (by rfl) (fun W => by go_simp) ?_
                    simp only [n1, n3, n4]
                    refine @wpG_p _ _ _ _ _ (some 2) (.bool false) _ _ rfl (by rfl) (fun _ => rfl) ?_
                    simp only [n1, n3, n4]
                    refine wpG_done (fun V120 hv121 => ?_)
                    have S122 : Hid (St w noB [blk g4 35 [.string (bstr n), .bool false, .bool l, .bool true, .int .i64 fd, .int .i64 a, .int .i64 b, .int .i64 c]] V120) := Lib.hid (S90.out.gr hv121)
                    clear S90
                    clear hv121
                    refine ⟨rfl, hK _ _ ?_⟩
                    clear hK
                    go_wp2_with fail
                    go_ret
                    refine ⟨?_, S122.out.bel⟩
                    show Ending.returned (.bool false) = _
                    (first | rfl | (have e_f92 := f92.out; first | exact rb_f (Ma.vld_name (by assumption)) | exact rb_f (Ma.vld_light (by simp only; omega)) | exact rb_f (Ma.vld_fade (by simp only; omega)) | exact rb_f (Ma.vld_kind (by first | assumption | rfl | (cases l <;> rfl) | (cases f <;> rfl) | (cases l <;> cases f <;> rfl) | (cases s <;> rfl)))))
                  | false =>
                    refine @wpG_no _ _ _ _ _ (some 40) _ _ rfl (by rfl) ?_
                    simp only [n1, n3, n4]
                    refine @wpG_no _ _ _ _ _ (some 41) _ _ rfl (by rfl) ?_
                    simp only [n1, n3, n4]
                    refine @wpG_p _ _ _ _ _ (some 42) (.bool true) _ _ rfl (by rfl) (fun W => by go_simp) ?_
                    simp only [n1, n3, n4]
                    refine @wpG_p _ _ _ _ _ (some 43) (.bool true) _ _ rfl (by rfl) (fun W => by go_simp) ?_
                    simp only [n1, n3, n4]
                    refine @wpG_p _ _ _ _ _ (some 44) (.bool true) _ _ rfl (by rfl) (fun _ => rfl) ?_
                    simp only [n1, n3, n4]
                    refine @wpG_p _ _ _ _ _ (some 45) (.pointer (some ⟨g4, 4, none⟩)) _ _ rfl (by rfl) (fun W => by go_simp) ?_
                    simp only [n1, n3, n4]
                    refine @wpG_r _ _ _ _ _ (some 46) (.int .i64 fd) _ _ rfl (by rfl) (fun W hg => by have c := (S90.out.gr hg).cell 0 rfl 4 rfl; go_simp) ?_
                    simp only [n1, n3, n4]
                    refine @wpG_p _ _ _ _ _ (some 47) (.bool (decide (fd ≥ 1))) _ _ rfl (by rfl) (fun W => op_int_geq W fd 1 rfl rfl rfl Tryd.underlying3) ?_
                    simp only [n1, n3, n4]
                    refine @wpG_p _ _ _ _ _ (some 48) (.bool (decide (fd ≥ 1))) _ _ rfl (by rfl) (fun W => by go_simp) ?_
                    simp only [n1, n3, n4]
                    refine @wpG_p _ _ _ _ _ (some 49) (.bool (decide (fd ≥ 1))) _ _ rfl (by rfl) (fun _ => rfl) ?_
                    simp only [n1, n3, n4]
                    obtain ⟨c123, hc123⟩ : ∃ q_, q_ = (decide (fd ≥ 1)) := ⟨_, rfl⟩
                    rw [← hc123]
                    have Hc123 := Lib.hid hc123
                    clear hc123
                    cases c123 with
                    | true =>
                      have f124 := of_decide_eq_true Hc123.out.symm
                      refine @wpG_p _ _ _ _ _ (some 50) (.pointer (some ⟨g4, 4, none⟩)) _ _ rfl (by rfl) (fun W => by go_simp) ?_
                      simp only [n1, n3, n4]
                      refine @wpG_r _ _ _ _ _ (some 51) (.int .i64 fd) _ _ rfl (by rfl) (fun W hg => by have c := (S90.out.gr hg).cell 0 rfl 4 rfl; go_simp) ?_
                      simp only [n1, n3, n4]
                      refine @wpG_p _ _ _ _ _ (some 52) (.bool (decide (fd ≤ 16))) _ _ rfl (by rfl) (fun W => op_int_leq W fd 16 rfl rfl rfl Tryd.underlying3) ?_
                      simp only [n1, n3, n4]
                      refine @wpG_p _ _ _ _ _ (some 53) (.bool (decide (fd ≤ 16))) _ _ rfl (by rfl) (fun W => by go_simp) ?_
                      simp only [n1, n3, n4]
                      refine @wpG_p _ _ _ _ _ (some 2) (.bool (decide (fd ≤ 16))) _ _ rfl (by rfl) (fun _ => rfl) ?_
                      simp only [n1, n3, n4]
                      refine wpG_done (fun V125 hv126 => ?_)
                      have S127 : Hid (St w noB [blk g4 35 [.string (bstr n), .bool false, .bool l, .bool false, .int .i64 fd, .int .i64 a, .int .i64 b, .int .i64 c]] V125) := Lib.hid (S90.out.gr hv126)
                      clear S90
                      clear hv126
                      refine ⟨rfl, hK _ _ ?_⟩
                      clear hK
                      go_wp2_with fail
                      go_ret
                      obtain ⟨c128, hc128⟩ : ∃ q_, q_ = (decide (fd ≤ 16)) := ⟨_, rfl⟩
                      rw [← hc128]
                      have Hc128 := Lib.hid hc128
                      clear hc128
                      cases c128 with
                      | true =>
                        have f129 := of_decide_eq_true Hc128.out.symm
                        refine ⟨?_, S127.out.bel⟩
                        show Ending.returned (.bool true) = _
                        (first | rfl | (have e_f92 := f92.out; exact rb_t (Ma.vld_yes (by first | assumption | rfl | (cases l <;> rfl) | (cases f <;> rfl) | (cases l <;> cases f <;> rfl) | (cases s <;> rfl)) ⟨by omega, by omega⟩ ⟨by omega, by omega⟩ ⟨by omega, by omega⟩ (by assumption) ⟨by omega, by omega⟩)))
                      | false =>
                        have f130 := of_decide_eq_false Hc128.out.symm
                        refine ⟨?_, S127.out.bel⟩
                        show Ending.returned (.bool false) = _
                        (first | rfl | (have e_f92 := f92.out; first | exact rb_f (Ma.vld_name (by assumption)) | exact rb_f (Ma.vld_light (by simp only; omega)) | exact rb_f (Ma.vld_fade (by simp only; omega)) | exact rb_f (Ma.vld_kind (by first | assumption | rfl | (cases l <;> rfl) | (cases f <;> rfl) | (cases l <;> cases f <;> rfl) | (cases s <;> rfl)))))
                    | false =>
                      have f131 := of_decide_eq_false Hc123.out.symm
                      refine @wpG_no _ _ _ _ _ (some 50) _ _ rfl (by rfl) ?_
                      simp only [n1, n3, n4]
                      refine @wpG_no _ _ _ _ _ (some 51) _ _ rfl (by rfl) ?_
                      simp only [n1, n3, n4]
                      refine @wpG_no _ _ _ _ _ (some 52) _ _ rfl (by rfl) ?_
                      simp only [n1, n3, n4]
                      refine @wpG_p _ _ _ _ _ (some 53) (.bool false) _ _ rfl (by rfl) (fun W => by go_simp) ?_
                      simp only [n1, n3, n4]
                      refine @wpG_p _ _ _ _ _ (some 2) (.bool false) _ _ rfl (by rfl) (fun _ => rfl) ?_
                      simp only [n1, n3, n4]
                      refine wpG_done (fun V132 hv133 => ?_)
                      have S134 : Hid (St w noB [blk g4 35 [.string (bstr n), .bool false, .bool l, .bool false, .int .i64 fd, .int .i64 a, .int .i64 b, .int .i64 c]] V132) := Lib.hid (S90.out.gr hv133)
                      clear S90
                      clear hv133
                      refine ⟨rfl, hK _ _ ?_⟩
                      clear hK
                      go_wp2_with fail
                      go_ret
                      refine ⟨?_, S134.out.bel⟩
                      show Ending.returned (.bool false) = _
                      (first | rfl | (have e_f92 := f92.out; first | exact rb_f (Ma.vld_name (by assumption)) | exact rb_f (Ma.vld_light (by simp only; omega)) | exact rb_f (Ma.vld_fade (by simp only; omega)) | exact rb_f (Ma.vld_kind (by first | assumption | rfl | (cases l <;> rfl) | (cases f <;> rfl) | (cases l <;> cases f <;> rfl) | (cases s <;> rfl)))))
              | false =>
                have f135 := Lib.hid (Hc91.out.symm)
                refine @wpG_no _ _ _ _ _ (some 26) _ _ rfl (by rfl) ?_
                simp only [n1, n3, n4]
                refine @wpG_no _ _ _ _ _ (some 27) _ _ rfl (by rfl) ?_
                simp only [n1, n3, n4]
                refine @wpG_no _ _ _ _ _ (some 28) _ _ rfl (by rfl) ?_
                simp only [n1, n3, n4]
                refine @wpG_no _ _ _ _ _ (some 29) _ _ rfl (by rfl) ?_
                simp only [n1, n3, n4]
                refine @wpG_no _ _ _ _ _ (some 30) _ _ rfl (by rfl) ?_
                simp only [n1, n3, n4]
                refine @wpG_no _ _ _ _ _ (some 31) _ _ rfl (by rfl) ?_
                simp only [n1, n3, n4]
                refine @wpG_no _ _ _ _ _ (some 32) _ _ rfl (by rfl) ?_
                simp only [n1, n3, n4]
                refine @wpG_no _ _ _ _ _ (some 33) _ _ rfl (by rfl) ?_
                simp only [n1, n3, n4]
                refine @wpG_p _ _ _ _ _ (some 34) (.bool false) _ _ rfl (by rfl) (fun W => by go_simp) ?_
                simp only [n1, n3, n4]
                refine @wpG_p _ _ _ _ _ (some 35) (.bool false) _ _ rfl (by rfl) (fun _ => rfl) ?_
                simp only [n1, n3, n4]
                refine @wpG_no _ _ _ _ _ (some 36) _ _ rfl (by rfl) ?_
                simp only [n1, n3, n4]
                refine @wpG_no _ _ _ _ _ (some 37) _ _ rfl (by rfl) ?_
                simp only [n1, n3, n4]
                refine @wpG_no _ _ _ _ _ (some 38) _ _ rfl (by rfl) ?_
                simp only [n1, n3, n4]
                refine @wpG_no _ _ _ _ _ (some 39) _ _ rfl (by rfl) ?_
                simp only [n1, n3, n4]
                refine @wpG_no _ _ _ _ _ (some 40) _ _ rfl (by rfl) ?_
                simp only [n1, n3, n4]
                refine @wpG_no _ _ _ _ _ (some 41) _ _ rfl (by rfl) ?_
                simp only [n1, n3, n4]
                refine @wpG_no _ _ _ _ _ (some 42) _ _ rfl (by rfl) ?_
                simp only [n1, n3, n4]
                refine @wpG_p _ _ _ _ _ (some 43) (.bool false) _ _ rfl (by rfl) (fun W => by go_simp) ?_
                simp only [n1, n3, n4]
                refine @wpG_p _ _ _ _ _ (some 44) (.bool false) _ _ rfl (by rfl) (fun _ => rfl) ?_
                simp only [n1, n3, n4]
                refine @wpG_no _ _ _ _ _ (some 45) _ _ rfl (by rfl) ?_
                simp only [n1, n3, n4]
                refine @wpG_no _ _ _ _ _ (some 46) _ _ rfl (by rfl) ?_
                simp only [n1, n3, n4]
                refine @wpG_no _ _ _ _ _ (some 47) _ _ rfl (by rfl) ?_
                simp only [n1, n3, n4]
                refine @wpG_p _ _ _ _ _ (some 48) (.bool false) _ _ rfl (by rfl) (fun W => by go_simp) ?_
                simp only [n1, n3, n4]
                refine @wpG_p _ _ _ _ _ (some 49) (.bool false) _ _ rfl (by rfl) (fun _ => rfl) ?_
                simp only [n1, n3, n4]
                refine @wpG_no _ _ _ _ _ (some 50) _ _ rfl (by rfl) ?_
                simp only [n1, n3, n4]
                refine @wpG_no _ _ _ _ _ (some 51) _ _ rfl (by rfl) ?_
                simp only [n1, n3, n4]
                refine @wpG_no _ _ _ _ _ (some 52) _ _ rfl (by rfl) ?_
                simp only [n1, n3, n4]
                refine @wpG_p _ _ _ _ _ (some 53) (.bool false) _ _ rfl (by rfl) (fun W => by go_simp) ?_
                simp only [n1, n3, n4]
                refine @wpG_p _ _ _ _ _ (some 2) (.bool false) _ _ rfl (by rfl) (fun _ => rfl) ?_
                simp only [n1, n3, n4]
                refine wpG_done (fun V136 hv137 => ?_)
                have S138 : Hid (St w noB [blk g4 35 [.string (bstr n), .bool s, .bool l, .bool f, .int .i64 fd, .int .i64 a, .int .i64 b, .int .i64 c]] V136) := Lib.hid (S90.out.gr hv137)
                clear S90
                clear hv137
                refine ⟨rfl, hK _ _ ?_⟩
                clear hK
                go_wp2_with fail
                go_ret
                refine ⟨?_, S138.out.bel⟩
                show Ending.returned (.bool false) = _
                (first | rfl | (have e_f135 := f135.out; first | exact rb_f (Ma.vld_name (by assumption)) | exact rb_f (Ma.vld_light (by simp only; omega)) | exact rb_f (Ma.vld_fade (by simp only; omega)) | exact rb_f (Ma.vld_kind (by first | assumption | rfl | (cases l <;> rfl) | (cases f <;> rfl) | (cases l <;> cases f <;> rfl) | (cases s <;> rfl)))))

end Go.Proofs.YtpjjddjoegnipaaDoor
