/-
  Contracts: two tables compared.
-/
import Derived.Test.YtpjjddjoegnipaaDoorMc3
import Derived.Handy
namespace Go.Proofs.YtpjjddjoegnipaaDoor
open Go Go.RowKit
set_option linter.unusedVariables false
set_option linter.unusedSimpArgs false
set_option maxRecDepth 1000000 in
set_option maxHeartbeats 4000000 in
theorem equal_any (A : Option Addr) (n c : Nat) (ms : List Ma.Mt) (A2 : Option Addr) (n2 c2 : Nat) (ms2 : List Ma.Mt) (w : World) (hT : Tbl w A n c ms) (hT2 : Tbl w A2 n2 c2 ms2) :
    Calls Tryd.prog 37 #[.slice A n c, .slice A2 n2 c2] w fun e w' => e = .returned (.bool (Ma.same ms ms2)) ∧ Below w.heap.size w w' := by
  have HTA := Lib.hid hT
  have HLEN := Lib.hid hT.len
  have hnb : n ≤ 9223372036854775807 := Nat.le_trans hT.cap hT.bnd
  clear hT
  have HTB := Lib.hid hT2
  have HLEN2 := Lib.hid hT2.len
  clear hT2
  have S1 : Hid (St w noB [] w) := Lib.hid (St.start w)
  go_enter Tryd.func37, Tryd.ntmps37
  go_upto_region 0 with fail
  refine wpG_region_k (fun K hK => ?_)
  refine @wpG_p _ _ _ _ _ (some 4) (.bool false) _ _ rfl (by rfl) (fun _ => rfl) ?_
  simp only [n1, n3, n4]
  refine wpG_done (fun V2 hv3 => ?_)
  have S4 : Hid (St w noB [] V2) := Lib.hid (S1.out.gr hv3)
  clear S1
  clear hv3
  refine ⟨rfl, hK _ _ ?_⟩
  clear hK
  go_upto_region 1 with fail
  refine wpG_region_k (fun K hK => ?_)
  refine @wpG_p _ _ _ _ _ (some 6) (.slice A n c) _ _ rfl (by rfl) (fun _ => rfl) ?_
  simp only [n1, n3, n4]
  refine @wpG_p _ _ _ _ _ (some 7) (.int .i64 (n : Int)) _ _ rfl (by rfl) (fun W => by go_simp) ?_
  simp only [n1, n3, n4]
  refine @wpG_p _ _ _ _ _ (some 8) (.slice A2 n2 c2) _ _ rfl (by rfl) (fun _ => rfl) ?_
  simp only [n1, n3, n4]
  refine @wpG_p _ _ _ _ _ (some 9) (.int .i64 (n2 : Int)) _ _ rfl (by rfl) (fun W => by go_simp) ?_
  simp only [n1, n3, n4]
  refine @wpG_p _ _ _ _ _ (some 10) (.bool (decide ((n : Int) ≠ (n2 : Int)))) _ _ rfl (by rfl) (fun W => op_int_neq W (n : Int) (n2 : Int) rfl rfl rfl Tryd.underlying3) ?_
  simp only [n1, n3, n4]
  refine wpG_done (fun V5 hv6 => ?_)
  have S7 : Hid (St w noB [] V5) := Lib.hid (S4.out.gr hv6)
  clear S4
  clear hv6
  refine ⟨rfl, hK _ _ ?_⟩
  clear hK
  obtain ⟨c8, hc8⟩ : ∃ q_, q_ = (decide ((n : Int) ≠ (n2 : Int))) := ⟨_, rfl⟩
  rw [← hc8]
  have Hc8 := Lib.hid hc8
  clear hc8
  cases c8 with
  | true =>
    have f9 := of_decide_eq_true Hc8.out.symm
    go_upto_region 2 with fail
    refine wpG_region_k (fun K hK => ?_)
    refine @wpG_p _ _ _ _ _ (some 4) (.bool false) _ _ rfl (by rfl) (fun _ => rfl) ?_
    simp only [n1, n3, n4]
    refine wpG_done (fun V10 hv11 => ?_)
    have S12 : Hid (St w noB [] V10) := Lib.hid (S7.out.gr hv11)
    clear S7
    clear hv11
    refine ⟨rfl, hK _ _ ?_⟩
    clear hK
    go_wp2_with fail
    go_ret
    refine ⟨?_, S12.out.bel⟩
    show Ending.returned (.bool false) = _
    (first | rfl | (exact rb_f (Ma.same_len (by have := HLEN.out; have := HLEN2.out; omega))))
  | false =>
    have f13 := Lib.hid (Decidable.not_not.1 (of_decide_eq_false Hc8.out.symm))
    have f13a := Int.le_of_eq f13.out
    have f13b := Int.le_of_eq f13.out.symm
    go_upto_region 3 with fail
    refine wpG_region_k (fun K hK => ?_)
    refine @wpG_p _ _ _ _ _ (some 11) (.slice A n c) _ _ rfl (by rfl) (fun _ => rfl) ?_
    simp only [n1, n3, n4]
    refine @wpG_p _ _ _ _ _ (some 12) (.int .i64 (n : Int)) _ _ rfl (by rfl) (fun W => by go_simp) ?_
    simp only [n1, n3, n4]
    refine @wpG_p _ _ _ _ _ (some 13) (.int .i64 0) _ _ rfl (by rfl) (fun _ => rfl) ?_
    simp only [n1, n3, n4]
    refine wpG_done (fun V14 hv15 => ?_)
    have S16 : Hid (St w noB [] V14) := Lib.hid (S7.out.gr hv15)
    clear S7
    clear hv15
    refine ⟨rfl, hK _ _ ?_⟩
    clear hK
    go_wp2_with fail
    go_loopw [13] (fun v13 wr => ∃ (k : Nat), v13 = .int .i64 (k : Int) ∧ k ≤ Ma.ff (Ma.eqAt ms ms2) ms.length ∧ k ≤ n ∧ St w noB [] wr) (fun i _ => n - (intOf i).toNat)
    case atStart => exact ⟨0, rfl, Nat.zero_le _, Nat.zero_le _, S16.out⟩
    case round =>
      obtain ⟨k, rfl, hk_, hkn, hS⟩ := hrel
      have HK_ := Lib.hid hk_
      clear hk_
      have SL := Lib.hid hS
      clear S16 hS
      have S17 := SL
      clear SL
      go_upto_region 4 with fail
      refine wpG_region_k (fun K hK => ?_)
      refine @wpG_p _ _ _ _ _ (some 14) (.bool (decide ((k : Int) < (n : Int)))) _ _ rfl (by rfl) (fun W => op_int_lss W (k : Int) (n : Int) rfl rfl rfl Tryd.underlying3) ?_
      simp only [n1, n3, n4]
      refine wpG_done (fun V18 hv19 => ?_)
      have S20 : Hid (St w noB [] V18) := Lib.hid (S17.out.gr hv19)
      clear S17
      clear hv19
      refine ⟨rfl, hK _ _ ?_⟩
      clear hK
      obtain ⟨c21, hc21⟩ : ∃ q_, q_ = (decide ((k : Int) < (n : Int))) := ⟨_, rfl⟩
      rw [← hc21]
      have Hc21 := Lib.hid hc21
      clear hc21
      cases c21 with
      | true =>
        have f22 := of_decide_eq_true Hc21.out.symm
        go_upto_region 5 with fail
        refine wpG_region_k (fun K hK => ?_)
        refine @wpG_p _ _ _ _ _ (some 15) (.int .i64 (k : Int)) _ _ rfl (by rfl) (fun _ => rfl) ?_
        simp only [n1, n3, n4]
        refine @wpG_p _ _ _ _ _ (some 5) (.int .i64 (k : Int)) _ _ rfl (by rfl) (fun _ => rfl) ?_
        simp only [n1, n3, n4]
        refine wpG_done (fun V23 hv24 => ?_)
        have S25 : Hid (St w noB [] V23) := Lib.hid (S20.out.gr hv24)
        clear S20
        clear hv24
        refine ⟨rfl, hK _ _ ?_⟩
        clear hK
        go_upto_region 6 with fail
        refine wpK_region_k (by kernel_rfl) (fun K hK => ?_)
        refine wpK_ta (i := 0) (some 16) (v := .slice A n c) rfl rfl (by kernel_rfl) (fun _ _ _ h => onN_panic h) (Or.inl ⟨rfl, fun _ => rfl⟩) ?_
        simp only [n1, n3, n4]
        refine wpK_ta (i := 1) (some 17) (v := .int .i64 (k : Int)) rfl rfl (by kernel_rfl) (fun _ _ _ h => onN_panic h) (Or.inl ⟨rfl, fun _ => rfl⟩) ?_
        simp only [n1, n3, n4]
        obtain ⟨b26, o26, rfl⟩ := HTA.out.addr (by omega)
        refine wpK_ta (i := 2) (some 18) (v := .pointer (some ⟨b26, o26 + k * 8, none⟩)) rfl rfl (by kernel_rfl) (fun _ _ _ h => onN_panic h) (Or.inl ⟨by rfl, fun W => by (go_simp <;> first | rfl | omega | (simp; omega))⟩) ?_
        simp only [n1, n3, n4]
        refine wpK_tk (i := 3) (some 19) (v := .agg #[.string (bstr ((Ma.tat ms k).n)), .bool ((Ma.tat ms k).s), .bool ((Ma.tat ms k).l), .bool ((Ma.tat ms k).f), .int .i64 ((Ma.tat ms k).fd), .int .i64 ((Ma.tat ms k).a), .int .i64 ((Ma.tat ms k).b), .int .i64 ((Ma.tat ms k).c)]) rfl rfl (by kernel_rfl) (fun _ _ _ h => onN_panic h) (.load_mid (by rfl) 35 (.tmp 18) rfl b26 (o26 + k * 8) rfl [.string (bstr ((Ma.tat ms k).n)), .bool ((Ma.tat ms k).s), .bool ((Ma.tat ms k).l), .bool ((Ma.tat ms k).f), .int .i64 ((Ma.tat ms k).fd), .int .i64 ((Ma.tat ms k).a), .int .i64 ((Ma.tat ms k).b), .int .i64 ((Ma.tat ms k).c)] _ (fun W hg => ((HTA.out.gr ((S25.out.gr (Gr.un hg))).bel).elem (HTA.out.get (k := k) (by omega)))) Tryd.underlying35 rfl (by kernel_rfl)) ?_
        simp only [n1, n3, n4]
        refine wpK_ta (i := 4) (some 20) (v := .slice A2 n2 c2) rfl rfl (by kernel_rfl) (fun _ _ _ h => onN_panic h) (Or.inl ⟨rfl, fun _ => rfl⟩) ?_
        simp only [n1, n3, n4]
        refine wpK_ta (i := 5) (some 21) (v := .int .i64 (k : Int)) rfl rfl (by kernel_rfl) (fun _ _ _ h => onN_panic h) (Or.inl ⟨rfl, fun _ => rfl⟩) ?_
        simp only [n1, n3, n4]
        obtain ⟨b27, o27, rfl⟩ := HTB.out.addr (by omega)
        refine wpK_ta (i := 6) (some 22) (v := .pointer (some ⟨b27, o27 + k * 8, none⟩)) rfl rfl (by kernel_rfl) (fun _ _ _ h => onN_panic h) (Or.inl ⟨by rfl, fun W => by (go_simp <;> first | rfl | omega | (simp; omega))⟩) ?_
        simp only [n1, n3, n4]
        refine wpK_tk (i := 7) (some 23) (v := .agg #[.string (bstr ((Ma.tat ms2 k).n)), .bool ((Ma.tat ms2 k).s), .bool ((Ma.tat ms2 k).l), .bool ((Ma.tat ms2 k).f), .int .i64 ((Ma.tat ms2 k).fd), .int .i64 ((Ma.tat ms2 k).a), .int .i64 ((Ma.tat ms2 k).b), .int .i64 ((Ma.tat ms2 k).c)]) rfl rfl (by kernel_rfl) (fun _ _ _ h => onN_panic h) (.load_mid (by rfl) 35 (.tmp 22) rfl b27 (o27 + k * 8) rfl [.string (bstr ((Ma.tat ms2 k).n)), .bool ((Ma.tat ms2 k).s), .bool ((Ma.tat ms2 k).l), .bool ((Ma.tat ms2 k).f), .int .i64 ((Ma.tat ms2 k).fd), .int .i64 ((Ma.tat ms2 k).a), .int .i64 ((Ma.tat ms2 k).b), .int .i64 ((Ma.tat ms2 k).c)] _ (fun W hg => ((HTB.out.gr ((S25.out.gr (Gr.un hg))).bel).elem (HTB.out.get (k := k) (by omega)))) Tryd.underlying35 rfl (by kernel_rfl)) ?_
        simp only [n1, n3, n4]
        refine wpK_ta (i := 8) (some 24) (v := .bool (decide ((⟨((Ma.tat ms k).n), ((Ma.tat ms k).s), ((Ma.tat ms k).l), ((Ma.tat ms k).f), ((Ma.tat ms k).fd), ((Ma.tat ms k).a), ((Ma.tat ms k).b), ((Ma.tat ms k).c)⟩ : Ma.Mt) ≠ (⟨((Ma.tat ms2 k).n), ((Ma.tat ms2 k).s), ((Ma.tat ms2 k).l), ((Ma.tat ms2 k).f), ((Ma.tat ms2 k).fd), ((Ma.tat ms2 k).a), ((Ma.tat ms2 k).b), ((Ma.tat ms2 k).c)⟩ : Ma.Mt)))) rfl rfl (by kernel_rfl) (fun _ _ _ h => onN_panic h) (Or.inl ⟨by rfl, fun W => by exact op_mt_neq W ((Ma.tat ms k).n) ((Ma.tat ms2 k).n) ((Ma.tat ms k).s) ((Ma.tat ms k).l) ((Ma.tat ms k).f) ((Ma.tat ms2 k).s) ((Ma.tat ms2 k).l) ((Ma.tat ms2 k).f) ((Ma.tat ms k).fd) ((Ma.tat ms k).a) ((Ma.tat ms k).b) ((Ma.tat ms k).c) ((Ma.tat ms2 k).fd) ((Ma.tat ms2 k).a) ((Ma.tat ms2 k).b) ((Ma.tat ms2 k).c) rfl rfl rfl⟩) ?_
        simp only [n1, n3, n4]
        refine wpK_done (by kernel_rfl) (fun V28 hv29 => ?_) _
        have S30 : Hid (St w noB [] V28) := Lib.hid (S25.out.gr (Gr.un hv29))
        clear S25
        clear hv29
        refine ⟨rfl, hK _ _ ?_⟩
        clear hK
        obtain ⟨c31, hc31⟩ : ∃ q_, q_ = (decide ((⟨((Ma.tat ms k).n), ((Ma.tat ms k).s), ((Ma.tat ms k).l), ((Ma.tat ms k).f), ((Ma.tat ms k).fd), ((Ma.tat ms k).a), ((Ma.tat ms k).b), ((Ma.tat ms k).c)⟩ : Ma.Mt) ≠ (⟨((Ma.tat ms2 k).n), ((Ma.tat ms2 k).s), ((Ma.tat ms2 k).l), ((Ma.tat ms2 k).f), ((Ma.tat ms2 k).fd), ((Ma.tat ms2 k).a), ((Ma.tat ms2 k).b), ((Ma.tat ms2 k).c)⟩ : Ma.Mt))) := ⟨_, rfl⟩
        rw [← hc31]
        have Hc31 := Lib.hid hc31
        clear hc31
        cases c31 with
        | true =>
          have f32 := of_decide_eq_true Hc31.out.symm
          go_upto_region 7 with fail
          refine wpG_region_k (fun K hK => ?_)
          refine @wpG_p _ _ _ _ _ (some 4) (.bool false) _ _ rfl (by rfl) (fun _ => rfl) ?_
          simp only [n1, n3, n4]
          refine wpG_done (fun V33 hv34 => ?_)
          have S35 : Hid (St w noB [] V33) := Lib.hid (S30.out.gr hv34)
          clear S30
          clear hv34
          refine ⟨rfl, hK _ _ ?_⟩
          clear hK
          go_wp2_with fail
          go_ret
          refine ⟨?_, S35.out.bel⟩
          show Ending.returned (.bool false) = _
          (first | rfl | (have e_f13 := f13.out; exact rb_f (Ma.same_no f32)))
        | false =>
          have f36 := Lib.hid (Decidable.not_not.1 (of_decide_eq_false Hc31.out.symm))
          go_upto_region 8 with fail
          refine wpG_region_k (fun K hK => ?_)
          refine @wpG_p _ _ _ _ _ (some 25) (.int .i64 ((k : Int) + 1)) _ _ rfl (by rfl) (fun W => op_i_add W (k : Int) 1 (by omega) rfl rfl rfl Tryd.underlying3) ?_
          simp only [n1, n3, n4]
          refine @wpG_p _ _ _ _ _ (some 13) (.int .i64 ((k : Int) + 1)) _ _ rfl (by rfl) (fun _ => rfl) ?_
          simp only [n1, n3, n4]
          refine wpG_done (fun V37 hv38 => ?_)
          have S39 : Hid (St w noB [] V37) := Lib.hid (S30.out.gr hv38)
          clear S30
          clear hv38
          refine ⟨rfl, hK _ _ ?_⟩
          clear hK
          go_wp2_with fail
          go_roundw
          case rel => exact ⟨k + 1, (by first | rfl | go_num), (by have e_f13 := f13.out; have e_f36 := f36.out; exact Ma.same_step HK_.out (by have := HLEN.out; omega) e_f36), (by omega), S39.out⟩
          case measure => first | (simp [intOf]; done) | (simp [intOf]; omega) | omega
      | false =>
        have f40 := of_decide_eq_false Hc21.out.symm
        go_upto_region 9 with fail
        refine wpG_region_k (fun K hK => ?_)
        refine @wpG_p _ _ _ _ _ (some 4) (.bool true) _ _ rfl (by rfl) (fun _ => rfl) ?_
        simp only [n1, n3, n4]
        refine wpG_done (fun V41 hv42 => ?_)
        have S43 : Hid (St w noB [] V41) := Lib.hid (S20.out.gr hv42)
        clear S20
        clear hv42
        refine ⟨rfl, hK _ _ ?_⟩
        clear hK
        go_wp2_with fail
        go_ret
        refine ⟨?_, S43.out.bel⟩
        show Ending.returned (.bool true) = _
        (first | rfl | (have e_f13 := f13.out; exact rb_t (Ma.same_yes (by have := HLEN.out; have := HLEN2.out; omega) (by have h := HK_.out; have := HLEN.out; have e : k = ms.length := (by omega); rw [e] at h; exact h))))
set_option maxRecDepth 1000000 in
set_option maxHeartbeats 4000000 in
theorem rsame_any (A : Option Addr) (n c : Nat) (ms : List Ma.Mt) (A2 : Option Addr) (n2 c2 : Nat) (ms2 : List Ma.Mt) (w : World) (hT : Tbl w A n c ms) (hT2 : Tbl w A2 n2 c2 ms2) :
    Calls Tryd.prog 16 #[.slice A n c, .slice A2 n2 c2] w fun e w' => e = .returned (.bool (Ma.same ms ms2)) ∧ Below w.heap.size w w' := by
  have HTA := Lib.hid hT
  have HLEN := Lib.hid hT.len
  have hnb : n ≤ 9223372036854775807 := Nat.le_trans hT.cap hT.bnd
  clear hT
  have HTB := Lib.hid hT2
  have HLEN2 := Lib.hid hT2.len
  clear hT2
  have S1 : Hid (St w noB [] w) := Lib.hid (St.start w)
  go_enter Tryd.func16, Tryd.ntmps16
  go_upto_region 0 with fail
  refine wpG_region_k (fun K hK => ?_)
  refine @wpG_p _ _ _ _ _ (some 4) (.bool false) _ _ rfl (by rfl) (fun _ => rfl) ?_
  simp only [n1, n3, n4]
  refine wpG_done (fun V2 hv3 => ?_)
  have S4 : Hid (St w noB [] V2) := Lib.hid (S1.out.gr hv3)
  clear S1
  clear hv3
  refine ⟨rfl, hK _ _ ?_⟩
  clear hK
  go_upto_region 1 with fail
  refine wpG_region_k (fun K hK => ?_)
  refine @wpG_p _ _ _ _ _ (some 6) (.slice A n c) _ _ rfl (by rfl) (fun _ => rfl) ?_
  simp only [n1, n3, n4]
  refine @wpG_p _ _ _ _ _ (some 7) (.int .i64 (n : Int)) _ _ rfl (by rfl) (fun W => by go_simp) ?_
  simp only [n1, n3, n4]
  refine @wpG_p _ _ _ _ _ (some 8) (.slice A2 n2 c2) _ _ rfl (by rfl) (fun _ => rfl) ?_
  simp only [n1, n3, n4]
  refine @wpG_p _ _ _ _ _ (some 9) (.int .i64 (n2 : Int)) _ _ rfl (by rfl) (fun W => by go_simp) ?_
  simp only [n1, n3, n4]
  refine @wpG_p _ _ _ _ _ (some 10) (.bool (decide ((n : Int) ≠ (n2 : Int)))) _ _ rfl (by rfl) (fun W => op_int_neq W (n : Int) (n2 : Int) rfl rfl rfl Tryd.underlying3) ?_
  simp only [n1, n3, n4]
  refine wpG_done (fun V5 hv6 => ?_)
  have S7 : Hid (St w noB [] V5) := Lib.hid (S4.out.gr hv6)
  clear S4
  clear hv6
  refine ⟨rfl, hK _ _ ?_⟩
  clear hK
  obtain ⟨c8, hc8⟩ : ∃ q_, q_ = (decide ((n : Int) ≠ (n2 : Int))) := ⟨_, rfl⟩
  rw [← hc8]
  have Hc8 := Lib.hid hc8
  clear hc8
  cases c8 with
  | true =>
    have f9 := of_decide_eq_true Hc8.out.symm
    go_upto_region 2 with fail
    refine wpG_region_k (fun K hK => ?_)
    refine @wpG_p _ _ _ _ _ (some 4) (.bool false) _ _ rfl (by rfl) (fun _ => rfl) ?_
    simp only [n1, n3, n4]
    refine wpG_done (fun V10 hv11 => ?_)
    have S12 : Hid (St w noB [] V10) := Lib.hid (S7.out.gr hv11)
    clear S7
    clear hv11
    refine ⟨rfl, hK _ _ ?_⟩
    clear hK
    go_wp2_with fail
    go_ret
    refine ⟨?_, S12.out.bel⟩
    show Ending.returned (.bool false) = _
    (first | rfl | (exact rb_f (Ma.same_len (by have := HLEN.out; have := HLEN2.out; omega))))
  | false =>
    have f13 := Lib.hid (Decidable.not_not.1 (of_decide_eq_false Hc8.out.symm))
    have f13a := Int.le_of_eq f13.out
    have f13b := Int.le_of_eq f13.out.symm
    go_upto_region 3 with fail
    refine wpG_region_k (fun K hK => ?_)
    refine @wpG_p _ _ _ _ _ (some 5) (.int .i64 0) _ _ rfl (by rfl) (fun _ => rfl) ?_
    simp only [n1, n3, n4]
    refine wpG_done (fun V14 hv15 => ?_)
    have S16 : Hid (St w noB [] V14) := Lib.hid (S7.out.gr hv15)
    clear S7
    clear hv15
    refine ⟨rfl, hK _ _ ?_⟩
    clear hK
    go_wp2_with fail
    go_loopw [5] (fun v5 wr => ∃ (k : Nat), v5 = .int .i64 (k : Int) ∧ k ≤ Ma.ff (Ma.eqAt ms ms2) ms.length ∧ k ≤ n ∧ St w noB [] wr) (fun i _ => n - (intOf i).toNat)
    case atStart => exact ⟨0, rfl, Nat.zero_le _, Nat.zero_le _, S16.out⟩
    case round =>
      obtain ⟨k, rfl, hk_, hkn, hS⟩ := hrel
      have HK_ := Lib.hid hk_
      clear hk_
      have SL := Lib.hid hS
      clear S16 hS
      have S17 := SL
      clear SL
      go_upto_region 4 with fail
      refine wpG_region_k (fun K hK => ?_)
      refine @wpG_p _ _ _ _ _ (some 11) (.int .i64 (k : Int)) _ _ rfl (by rfl) (fun _ => rfl) ?_
      simp only [n1, n3, n4]
      refine @wpG_p _ _ _ _ _ (some 12) (.slice A n c) _ _ rfl (by rfl) (fun _ => rfl) ?_
      simp only [n1, n3, n4]
      refine @wpG_p _ _ _ _ _ (some 13) (.int .i64 (n : Int)) _ _ rfl (by rfl) (fun W => by go_simp) ?_
      simp only [n1, n3, n4]
      refine @wpG_p _ _ _ _ _ (some 14) (.bool (decide ((k : Int) < (n : Int)))) _ _ rfl (by rfl) (fun W => op_int_lss W (k : Int) (n : Int) rfl rfl rfl Tryd.underlying3) ?_
      simp only [n1, n3, n4]
      refine wpG_done (fun V18 hv19 => ?_)
      have S20 : Hid (St w noB [] V18) := Lib.hid (S17.out.gr hv19)
      clear S17
      clear hv19
      refine ⟨rfl, hK _ _ ?_⟩
      clear hK
      obtain ⟨c21, hc21⟩ : ∃ q_, q_ = (decide ((k : Int) < (n : Int))) := ⟨_, rfl⟩
      rw [← hc21]
      have Hc21 := Lib.hid hc21
      clear hc21
      cases c21 with
      | true =>
        have f22 := of_decide_eq_true Hc21.out.symm
        go_upto_region 6 with fail
        refine wpK_region_k (by kernel_rfl) (fun K hK => ?_)
        refine wpK_ta (i := 0) (some 17) (v := .slice A n c) rfl rfl (by kernel_rfl) (fun _ _ _ h => onN_panic h) (Or.inl ⟨rfl, fun _ => rfl⟩) ?_
        simp only [n1, n3, n4]
        refine wpK_ta (i := 1) (some 18) (v := .int .i64 (k : Int)) rfl rfl (by kernel_rfl) (fun _ _ _ h => onN_panic h) (Or.inl ⟨rfl, fun _ => rfl⟩) ?_
        simp only [n1, n3, n4]
        obtain ⟨b23, o23, rfl⟩ := HTA.out.addr (by omega)
        refine wpK_ta (i := 2) (some 19) (v := .pointer (some ⟨b23, o23 + k * 8, none⟩)) rfl rfl (by kernel_rfl) (fun _ _ _ h => onN_panic h) (Or.inl ⟨by rfl, fun W => by (go_simp <;> first | rfl | omega | (simp; omega))⟩) ?_
        simp only [n1, n3, n4]
        refine wpK_tk (i := 3) (some 20) (v := .agg #[.string (bstr ((Ma.tat ms k).n)), .bool ((Ma.tat ms k).s), .bool ((Ma.tat ms k).l), .bool ((Ma.tat ms k).f), .int .i64 ((Ma.tat ms k).fd), .int .i64 ((Ma.tat ms k).a), .int .i64 ((Ma.tat ms k).b), .int .i64 ((Ma.tat ms k).c)]) rfl rfl (by kernel_rfl) (fun _ _ _ h => onN_panic h) (.load_mid (by rfl) 35 (.tmp 19) rfl b23 (o23 + k * 8) rfl [.string (bstr ((Ma.tat ms k).n)), .bool ((Ma.tat ms k).s), .bool ((Ma.tat ms k).l), .bool ((Ma.tat ms k).f), .int .i64 ((Ma.tat ms k).fd), .int .i64 ((Ma.tat ms k).a), .int .i64 ((Ma.tat ms k).b), .int .i64 ((Ma.tat ms k).c)] _ (fun W hg => ((HTA.out.gr ((S20.out.gr (Gr.un hg))).bel).elem (HTA.out.get (k := k) (by omega)))) Tryd.underlying35 rfl (by kernel_rfl)) ?_
        simp only [n1, n3, n4]
        refine wpK_ta (i := 4) (some 21) (v := .slice A2 n2 c2) rfl rfl (by kernel_rfl) (fun _ _ _ h => onN_panic h) (Or.inl ⟨rfl, fun _ => rfl⟩) ?_
        simp only [n1, n3, n4]
        refine wpK_ta (i := 5) (some 22) (v := .int .i64 (k : Int)) rfl rfl (by kernel_rfl) (fun _ _ _ h => onN_panic h) (Or.inl ⟨rfl, fun _ => rfl⟩) ?_
        simp only [n1, n3, n4]
        obtain ⟨b24, o24, rfl⟩ := HTB.out.addr (by omega)
        refine wpK_ta (i := 6) (some 23) (v := .pointer (some ⟨b24, o24 + k * 8, none⟩)) rfl rfl (by kernel_rfl) (fun _ _ _ h => onN_panic h) (Or.inl ⟨by rfl, fun W => by (go_simp <;> first | rfl | omega | (simp; omega))⟩) ?_
        simp only [n1, n3, n4]
        refine wpK_tk (i := 7) (some 24) (v := .agg #[.string (bstr ((Ma.tat ms2 k).n)), .bool ((Ma.tat ms2 k).s), .bool ((Ma.tat ms2 k).l), .bool ((Ma.tat ms2 k).f), .int .i64 ((Ma.tat ms2 k).fd), .int .i64 ((Ma.tat ms2 k).a), .int .i64 ((Ma.tat ms2 k).b), .int .i64 ((Ma.tat ms2 k).c)]) rfl rfl (by kernel_rfl) (fun _ _ _ h => onN_panic h) (.load_mid (by rfl) 35 (.tmp 23) rfl b24 (o24 + k * 8) rfl [.string (bstr ((Ma.tat ms2 k).n)), .bool ((Ma.tat ms2 k).s), .bool ((Ma.tat ms2 k).l), .bool ((Ma.tat ms2 k).f), .int .i64 ((Ma.tat ms2 k).fd), .int .i64 ((Ma.tat ms2 k).a), .int .i64 ((Ma.tat ms2 k).b), .int .i64 ((Ma.tat ms2 k).c)] _ (fun W hg => ((HTB.out.gr ((S20.out.gr (Gr.un hg))).bel).elem (HTB.out.get (k := k) (by omega)))) Tryd.underlying35 rfl (by kernel_rfl)) ?_
        simp only [n1, n3, n4]
        refine wpK_ta (i := 8) (some 25) (v := .bool (decide ((⟨((Ma.tat ms k).n), ((Ma.tat ms k).s), ((Ma.tat ms k).l), ((Ma.tat ms k).f), ((Ma.tat ms k).fd), ((Ma.tat ms k).a), ((Ma.tat ms k).b), ((Ma.tat ms k).c)⟩ : Ma.Mt) ≠ (⟨((Ma.tat ms2 k).n), ((Ma.tat ms2 k).s), ((Ma.tat ms2 k).l), ((Ma.tat ms2 k).f), ((Ma.tat ms2 k).fd), ((Ma.tat ms2 k).a), ((Ma.tat ms2 k).b), ((Ma.tat ms2 k).c)⟩ : Ma.Mt)))) rfl rfl (by kernel_rfl) (fun _ _ _ h => onN_panic h) (Or.inl ⟨by rfl, fun W => by exact op_mt_neq W ((Ma.tat ms k).n) ((Ma.tat ms2 k).n) ((Ma.tat ms k).s) ((Ma.tat ms k).l) ((Ma.tat ms k).f) ((Ma.tat ms2 k).s) ((Ma.tat ms2 k).l) ((Ma.tat ms2 k).f) ((Ma.tat ms k).fd) ((Ma.tat ms k).a) ((Ma.tat ms k).b) ((Ma.tat ms k).c) ((Ma.tat ms2 k).fd) ((Ma.tat ms2 k).a) ((Ma.tat ms2 k).b) ((Ma.tat ms2 k).c) rfl rfl rfl⟩) ?_
        simp only [n1, n3, n4]
        refine wpK_done (by kernel_rfl) (fun V25 hv26 => ?_) _
        have S27 : Hid (St w noB [] V25) := Lib.hid (S20.out.gr (Gr.un hv26))
        clear S20
        clear hv26
        refine ⟨rfl, hK _ _ ?_⟩
        clear hK
        obtain ⟨c28, hc28⟩ : ∃ q_, q_ = (decide ((⟨((Ma.tat ms k).n), ((Ma.tat ms k).s), ((Ma.tat ms k).l), ((Ma.tat ms k).f), ((Ma.tat ms k).fd), ((Ma.tat ms k).a), ((Ma.tat ms k).b), ((Ma.tat ms k).c)⟩ : Ma.Mt) ≠ (⟨((Ma.tat ms2 k).n), ((Ma.tat ms2 k).s), ((Ma.tat ms2 k).l), ((Ma.tat ms2 k).f), ((Ma.tat ms2 k).fd), ((Ma.tat ms2 k).a), ((Ma.tat ms2 k).b), ((Ma.tat ms2 k).c)⟩ : Ma.Mt))) := ⟨_, rfl⟩
        rw [← hc28]
        have Hc28 := Lib.hid hc28
        clear hc28
        cases c28 with
        | true =>
          have f29 := of_decide_eq_true Hc28.out.symm
          go_upto_region 7 with fail
          refine wpG_region_k (fun K hK => ?_)
          refine @wpG_p _ _ _ _ _ (some 4) (.bool false) _ _ rfl (by rfl) (fun _ => rfl) ?_
          simp only [n1, n3, n4]
          refine wpG_done (fun V30 hv31 => ?_)
          have S32 : Hid (St w noB [] V30) := Lib.hid (S27.out.gr hv31)
          clear S27
          clear hv31
          refine ⟨rfl, hK _ _ ?_⟩
          clear hK
          go_wp2_with fail
          go_ret
          refine ⟨?_, S32.out.bel⟩
          show Ending.returned (.bool false) = _
          (first | rfl | (have e_f13 := f13.out; exact rb_f (Ma.same_no f29)))
        | false =>
          have f33 := Lib.hid (Decidable.not_not.1 (of_decide_eq_false Hc28.out.symm))
          go_upto_region 5 with fail
          refine wpG_region_k (fun K hK => ?_)
          refine @wpG_p _ _ _ _ _ (some 15) (.int .i64 (k : Int)) _ _ rfl (by rfl) (fun _ => rfl) ?_
          simp only [n1, n3, n4]
          refine @wpG_p _ _ _ _ _ (some 16) (.int .i64 ((k : Int) + 1)) _ _ rfl (by rfl) (fun W => op_i_add W (k : Int) 1 (by omega) rfl rfl rfl Tryd.underlying3) ?_
          simp only [n1, n3, n4]
          refine @wpG_p _ _ _ _ _ (some 5) (.int .i64 ((k : Int) + 1)) _ _ rfl (by rfl) (fun _ => rfl) ?_
          simp only [n1, n3, n4]
          refine wpG_done (fun V34 hv35 => ?_)
          have S36 : Hid (St w noB [] V34) := Lib.hid (S27.out.gr hv35)
          clear S27
          clear hv35
          refine ⟨rfl, hK _ _ ?_⟩
          clear hK
          go_wp2_with fail
          go_roundw
          case rel => exact ⟨k + 1, (by first | rfl | go_num), (by have e_f13 := f13.out; have e_f33 := f33.out; exact Ma.same_step HK_.out (by have := HLEN.out; omega) e_f33), (by omega), S36.out⟩
          case measure => first | (simp [intOf]; done) | (simp [intOf]; omega) | omega
      | false =>
        have f37 := of_decide_eq_false Hc21.out.symm
        go_upto_region 8 with fail
        refine wpG_region_k (fun K hK => ?_)
        refine @wpG_p _ _ _ _ _ (some 4) (.bool true) _ _ rfl (by rfl) (fun _ => rfl) ?_
        simp only [n1, n3, n4]
        refine wpG_done (fun V38 hv39 => ?_)
        have S40 : Hid (St w noB [] V38) := Lib.hid (S20.out.gr hv39)
        clear S20
        clear hv39
        refine ⟨rfl, hK _ _ ?_⟩
        clear hK
        go_wp2_with fail
        go_ret
        refine ⟨?_, S40.out.bel⟩
        show Ending.returned (.bool true) = _
        (first | rfl | (have e_f13 := f13.out; exact rb_t (Ma.same_yes (by have := HLEN.out; have := HLEN2.out; omega) (by have h := HK_.out; have := HLEN.out; have e : k = ms.length := (by omega); rw [e] at h; exact h))))
set_option maxRecDepth 1000000 in
set_option maxHeartbeats 4000000 in
theorem same_any (A : Option Addr) (n c : Nat) (ms : List Ma.Mt) (A2 : Option Addr) (n2 c2 : Nat) (ms2 : List Ma.Mt) (w : World) (hT : Tbl w A n c ms) (hT2 : Tbl w A2 n2 c2 ms2) :
    Calls Tryd.prog 15 #[.slice A n c, .slice A2 n2 c2] w fun e w' => e = .returned (.bool (Ma.same ms ms2)) ∧ Below w.heap.size w w' := by
  have HTA := Lib.hid hT
  have HLEN := Lib.hid hT.len
  have hnb : n ≤ 9223372036854775807 := Nat.le_trans hT.cap hT.bnd
  clear hT
  have HTB := Lib.hid hT2
  have HLEN2 := Lib.hid hT2.len
  clear hT2
  have S1 : Hid (St w noB [] w) := Lib.hid (St.start w)
  go_enter Tryd.func15, Tryd.ntmps15
  go_upto_region 0 with fail
  refine wpG_region_k (fun K hK => ?_)
  refine @wpG_p _ _ _ _ _ (some 4) (.bool false) _ _ rfl (by rfl) (fun _ => rfl) ?_
  simp only [n1, n3, n4]
  refine wpG_done (fun V2 hv3 => ?_)
  have S4 : Hid (St w noB [] V2) := Lib.hid (S1.out.gr hv3)
  clear S1
  clear hv3
  refine ⟨rfl, hK _ _ ?_⟩
  clear hK
  go_upto_region 1 with fail
  refine wpG_region_k (fun K hK => ?_)
  refine @wpG_p _ _ _ _ _ (some 5) (.slice A n c) _ _ rfl (by rfl) (fun _ => rfl) ?_
  simp only [n1, n3, n4]
  refine @wpG_p _ _ _ _ _ (some 6) (.slice A2 n2 c2) _ _ rfl (by rfl) (fun _ => rfl) ?_
  simp only [n1, n3, n4]
  refine @wpG_tk _ _ _ _ _ (some 7) (.bool (Ma.same ms ms2)) _ _ rfl (.call (f := 37) (args := #[.slice A n c, .slice A2 n2 c2]) (by rfl) (fun W => by go_simp) (fun W hg => equal_any _ _ _ ms _ _ _ ms2 W (HTA.out.gr (S4.out.gr hg).bel) (HTB.out.gr (S4.out.gr hg).bel))) ?_
  simp only [n1, n3, n4]
  refine @wpG_p _ _ _ _ _ (some 4) (.bool (Ma.same ms ms2)) _ _ rfl (by rfl) (fun _ => rfl) ?_
  simp only [n1, n3, n4]
  refine wpG_done (fun V5 hv6 => ?_)
  have S7 : Hid (St w noB [] V5) := Lib.hid (S4.out.gr hv6)
  clear S4
  clear hv6
  refine ⟨rfl, hK _ _ ?_⟩
  clear hK
  go_wp2_with fail
  go_ret
  refine ⟨?_, S7.out.bel⟩
  show Ending.returned (.bool (Ma.same ms ms2)) = _
  (first | rfl | (rfl))

end Go.Proofs.YtpjjddjoegnipaaDoor
