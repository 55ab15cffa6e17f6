/-
  Contracts: Check.
-/
import Derived.Test.YtpjjddjoegnipaaDoorMc4
import Derived.Handy
namespace Go.Proofs.YtpjjddjoegnipaaDoor
open Go Go.RowKit
set_option linter.unusedVariables false
set_option linter.unusedSimpArgs false
set_option maxRecDepth 1000000 in
set_option maxHeartbeats 4000000 in
theorem check_any (A : Option Addr) (n c : Nat) (ms : List Ma.Mt) (w : World) (hT : Tbl w A n c ms) (hK : Kt w) :
    Calls Tryd.prog 11 #[.slice A n c] w fun e w' => e = .returned (.tuple #[.int .i64 ((Ma.check ms).1), .int .i64 ((Ma.check ms).2)]) ∧ Below w.heap.size w w' := by
  have HTA := Lib.hid hT
  have HLEN := Lib.hid hT.len
  have hnb : n ≤ 9223372036854775807 := Nat.le_trans hT.cap hT.bnd
  clear hT
  have HK := Lib.hid hK
  clear hK
  have S1 : Hid (St w noB [] w) := Lib.hid (St.start w)
  go_enter Tryd.func11, Tryd.ntmps11
  go_upto_region 0 with fail
  refine wpG_region_k (fun K hK => ?_)
  refine @wpG_p _ _ _ _ _ (some 2) (.int .i64 0) _ _ rfl (by rfl) (fun _ => rfl) ?_
  simp only [n1, n3, n4]
  refine @wpG_p _ _ _ _ _ (some 3) (.int .i64 0) _ _ rfl (by rfl) (fun _ => rfl) ?_
  simp only [n1, n3, n4]
  refine wpG_done (fun V2 hv3 => ?_)
  have S4 : Hid (St w noB [] V2) := Lib.hid (S1.out.gr hv3)
  clear S1
  clear hv3
  refine ⟨rfl, hK _ _ ?_⟩
  clear hK
  go_upto_region 1 with fail
  refine wpG_region_k (fun K hK => ?_)
  refine @wpG_p _ _ _ _ _ (some 9) (.slice A n c) _ _ rfl (by rfl) (fun _ => rfl) ?_
  simp only [n1, n3, n4]
  refine @wpG_p _ _ _ _ _ (some 10) (.int .i64 (n : Int)) _ _ rfl (by rfl) (fun W => by go_simp) ?_
  simp only [n1, n3, n4]
  refine @wpG_p _ _ _ _ _ (some 11) (.bool (decide ((n : Int) > 256))) _ _ rfl (by rfl) (fun W => op_int_gtr W (n : Int) 256 rfl rfl rfl Tryd.underlying3) ?_
  simp only [n1, n3, n4]
  refine @wpG_p _ _ _ _ _ (some 8) (.bool (decide ((n : Int) > 256))) _ _ rfl (by rfl) (fun _ => rfl) ?_
  simp only [n1, n3, n4]
  refine wpG_done (fun V5 hv6 => ?_)
  have S7 : Hid (St w noB [] V5) := Lib.hid (S4.out.gr hv6)
  clear S4
  clear hv6
  refine ⟨rfl, hK _ _ ?_⟩
  clear hK
  obtain ⟨c8, hc8⟩ : ∃ q_, q_ = (decide ((n : Int) > 256)) := ⟨_, rfl⟩
  rw [← hc8]
  have Hc8 := Lib.hid hc8
  clear hc8
  cases c8 with
  | true =>
    have f9 := of_decide_eq_true Hc8.out.symm
    go_upto_region 2 with fail
    refine wpG_region_k (fun K hK => ?_)
    refine @wpG_p _ _ _ _ _ (some 2) (.int .i64 (-1)) _ _ rfl (by rfl) (fun _ => rfl) ?_
    simp only [n1, n3, n4]
    refine @wpG_p _ _ _ _ _ (some 3) (.int .i64 2) _ _ rfl (by rfl) (fun _ => rfl) ?_
    simp only [n1, n3, n4]
    refine wpG_done (fun V10 hv11 => ?_)
    have S12 : Hid (St w noB [] V10) := Lib.hid (S7.out.gr hv11)
    clear S7
    clear hv11
    refine ⟨rfl, hK _ _ ?_⟩
    clear hK
    go_wp2_with fail
    go_ret2
    refine ⟨?_, S12.out.bel⟩
    show Ending.returned (.tuple #[.int .i64 (-1), .int .i64 2]) = _
    (first | rfl | (rw [Ma.check_limit (by have := HLEN.out; omega)]))
  | false =>
    have f13 := of_decide_eq_false Hc8.out.symm
    go_upto_region 3 with fail
    refine wpG_region_k (fun K hK => ?_)
    refine @wpG_p _ _ _ _ _ (some 13) (.slice A n c) _ _ rfl (by rfl) (fun _ => rfl) ?_
    simp only [n1, n3, n4]
    refine @wpG_p _ _ _ _ _ (some 14) (.int .i64 (n : Int)) _ _ rfl (by rfl) (fun W => by go_simp) ?_
    simp only [n1, n3, n4]
    refine @wpG_p _ _ _ _ _ (some 15) (.bool (decide ((n : Int) = 0))) _ _ rfl (by rfl) (fun W => op_int_eql W (n : Int) 0 rfl rfl rfl Tryd.underlying3) ?_
    simp only [n1, n3, n4]
    refine @wpG_p _ _ _ _ _ (some 12) (.bool (decide ((n : Int) = 0))) _ _ rfl (by rfl) (fun _ => rfl) ?_
    simp only [n1, n3, n4]
    refine wpG_done (fun V14 hv15 => ?_)
    have S16 : Hid (St w noB [] V14) := Lib.hid (S7.out.gr hv15)
    clear S7
    clear hv15
    refine ⟨rfl, hK _ _ ?_⟩
    clear hK
    obtain ⟨c17, hc17⟩ : ∃ q_, q_ = (decide ((n : Int) = 0)) := ⟨_, rfl⟩
    rw [← hc17]
    have Hc17 := Lib.hid hc17
    clear hc17
    cases c17 with
    | true =>
      have f18 := Lib.hid (of_decide_eq_true Hc17.out.symm)
      have f18a := Int.le_of_eq f18.out
      have f18b := Int.le_of_eq f18.out.symm
      go_upto_region 4 with fail
      refine wpG_region_k (fun K hK => ?_)
      refine @wpG_p _ _ _ _ _ (some 2) (.int .i64 (-1)) _ _ rfl (by rfl) (fun _ => rfl) ?_
      simp only [n1, n3, n4]
      refine @wpG_p _ _ _ _ _ (some 3) (.int .i64 1) _ _ rfl (by rfl) (fun _ => rfl) ?_
      simp only [n1, n3, n4]
      refine wpG_done (fun V19 hv20 => ?_)
      have S21 : Hid (St w noB [] V19) := Lib.hid (S16.out.gr hv20)
      clear S16
      clear hv20
      refine ⟨rfl, hK _ _ ?_⟩
      clear hK
      go_wp2_with fail
      go_ret2
      refine ⟨?_, S21.out.bel⟩
      show Ending.returned (.tuple #[.int .i64 (-1), .int .i64 1]) = _
      (first | rfl | (have e_f18 := f18.out; rw [Ma.check_empty (by have := HLEN.out; omega)]))
    | false =>
      have f22 := of_decide_eq_false Hc17.out.symm
      go_upto_region 5 with fail
      refine wpK_region_k (by kernel_rfl) (fun K hK => ?_)
      refine wpK_ta (i := 0) (some 17) (v := .slice A n c) rfl rfl (by kernel_rfl) (fun _ _ _ h => onN_panic h) (Or.inl ⟨rfl, fun _ => rfl⟩) ?_
      simp only [n1, n3, n4]
      obtain ⟨b23, o23, rfl⟩ := HTA.out.addr (by omega)
      refine wpK_ta (i := 1) (some 18) (v := .pointer (some ⟨b23, o23 + 0, none⟩)) rfl rfl (by kernel_rfl) (fun _ _ _ h => onN_panic h) (Or.inl ⟨by rfl, fun W => by (go_simp <;> first | rfl | omega | (simp; omega))⟩) ?_
      simp only [n1, n3, n4]
      refine wpK_tk (i := 2) (some 19) (v := .agg #[.string (bstr ((Ma.tat ms 0).n)), .bool ((Ma.tat ms 0).s), .bool ((Ma.tat ms 0).l), .bool ((Ma.tat ms 0).f), .int .i64 ((Ma.tat ms 0).fd), .int .i64 ((Ma.tat ms 0).a), .int .i64 ((Ma.tat ms 0).b), .int .i64 ((Ma.tat ms 0).c)]) rfl rfl (by kernel_rfl) (fun _ _ _ h => onN_panic h) (.load_mid (by rfl) 35 (.tmp 18) rfl b23 (o23 + 0) rfl [.string (bstr ((Ma.tat ms 0).n)), .bool ((Ma.tat ms 0).s), .bool ((Ma.tat ms 0).l), .bool ((Ma.tat ms 0).f), .int .i64 ((Ma.tat ms 0).fd), .int .i64 ((Ma.tat ms 0).a), .int .i64 ((Ma.tat ms 0).b), .int .i64 ((Ma.tat ms 0).c)] _ (fun W hg => ((HTA.out.gr ((S16.out.gr (Gr.un hg))).bel).elem (HTA.out.get (k := 0) (by omega)))) Tryd.underlying35 rfl (by kernel_rfl)) ?_
      simp only [n1, n3, n4]
      refine wpK_tk (i := 3) (some 20) (v := .agg #[.string (bstr [97, 105, 114]), .bool false, .bool false, .bool false, .int .i64 1, .int .i64 0, .int .i64 0, .int .i64 0]) rfl rfl (by kernel_rfl) (fun _ _ _ h => onN_panic h) (.call (f := 29) (args := #[]) (by rfl) (fun W => by go_simp) (fun W hg => air_any W)) ?_
      simp only [n1, n3, n4]
      refine wpK_ta (i := 4) (some 21) (v := .bool (decide ((⟨((Ma.tat ms 0).n), ((Ma.tat ms 0).s), ((Ma.tat ms 0).l), ((Ma.tat ms 0).f), ((Ma.tat ms 0).fd), ((Ma.tat ms 0).a), ((Ma.tat ms 0).b), ((Ma.tat ms 0).c)⟩ : Ma.Mt) ≠ Ma.air))) rfl rfl (by kernel_rfl) (fun _ _ _ h => onN_panic h) (Or.inl ⟨by rfl, fun W => by exact op_mt_neq W ((Ma.tat ms 0).n) [97, 105, 114] ((Ma.tat ms 0).s) ((Ma.tat ms 0).l) ((Ma.tat ms 0).f) false false false ((Ma.tat ms 0).fd) ((Ma.tat ms 0).a) ((Ma.tat ms 0).b) ((Ma.tat ms 0).c) 1 0 0 0 rfl rfl rfl⟩) ?_
      simp only [n1, n3, n4]
      refine wpK_ta (i := 5) (some 16) (v := .bool (decide ((⟨((Ma.tat ms 0).n), ((Ma.tat ms 0).s), ((Ma.tat ms 0).l), ((Ma.tat ms 0).f), ((Ma.tat ms 0).fd), ((Ma.tat ms 0).a), ((Ma.tat ms 0).b), ((Ma.tat ms 0).c)⟩ : Ma.Mt) ≠ Ma.air))) rfl rfl (by kernel_rfl) (fun _ _ _ h => onN_panic h) (Or.inl ⟨rfl, fun _ => rfl⟩) ?_
      simp only [n1, n3, n4]
      refine wpK_done (by kernel_rfl) (fun V24 hv25 => ?_) _
      have S26 : Hid (St w noB [] V24) := Lib.hid (S16.out.gr (Gr.un hv25))
      clear S16
      clear hv25
      refine ⟨rfl, hK _ _ ?_⟩
      clear hK
      obtain ⟨c27, hc27⟩ : ∃ q_, q_ = (decide ((⟨((Ma.tat ms 0).n), ((Ma.tat ms 0).s), ((Ma.tat ms 0).l), ((Ma.tat ms 0).f), ((Ma.tat ms 0).fd), ((Ma.tat ms 0).a), ((Ma.tat ms 0).b), ((Ma.tat ms 0).c)⟩ : Ma.Mt) ≠ Ma.air)) := ⟨_, rfl⟩
      rw [← hc27]
      have Hc27 := Lib.hid hc27
      clear hc27
      cases c27 with
      | true =>
        have f28 := of_decide_eq_true Hc27.out.symm
        go_upto_region 6 with fail
        refine wpG_region_k (fun K hK => ?_)
        refine @wpG_p _ _ _ _ _ (some 2) (.int .i64 0) _ _ rfl (by rfl) (fun _ => rfl) ?_
        simp only [n1, n3, n4]
        refine @wpG_p _ _ _ _ _ (some 3) (.int .i64 1) _ _ rfl (by rfl) (fun _ => rfl) ?_
        simp only [n1, n3, n4]
        refine wpG_done (fun V29 hv30 => ?_)
        have S31 : Hid (St w noB [] V29) := Lib.hid (S26.out.gr hv30)
        clear S26
        clear hv30
        refine ⟨rfl, hK _ _ ?_⟩
        clear hK
        go_wp2_with fail
        go_ret2
        refine ⟨?_, S31.out.bel⟩
        show Ending.returned (.tuple #[.int .i64 0, .int .i64 1]) = _
        (first | rfl | (rw [Ma.check_air (by have := HLEN.out; omega) (by have := HLEN.out; omega) f28]))
      | false =>
        have f32 := Lib.hid (Decidable.not_not.1 (of_decide_eq_false Hc27.out.symm))
        go_upto_region 7 with fail
        refine wpG_region_k (fun K hK => ?_)
        refine @wpG_p _ _ _ _ _ (some 22) (.slice (some ⟨b23, o23, none⟩) n c) _ _ rfl (by rfl) (fun _ => rfl) ?_
        simp only [n1, n3, n4]
        refine @wpG_p _ _ _ _ _ (some 23) (.int .i64 (n : Int)) _ _ rfl (by rfl) (fun W => by go_simp) ?_
        simp only [n1, n3, n4]
        refine @wpG_p _ _ _ _ _ (some 24) (.int .i64 0) _ _ rfl (by rfl) (fun _ => rfl) ?_
        simp only [n1, n3, n4]
        refine wpG_done (fun V33 hv34 => ?_)
        have S35 : Hid (St w noB [] V33) := Lib.hid (S26.out.gr hv34)
        clear S26
        clear hv34
        refine ⟨rfl, hK _ _ ?_⟩
        clear hK
        go_wp2_with fail
        go_loopw [24] (fun v24 wr => ∃ (k : Nat), v24 = .int .i64 (k : Int) ∧ k ≤ Ma.ff (Ma.okAt ms) ms.length ∧ k ≤ n ∧ St w noB [] wr) (fun i _ => n - (intOf i).toNat)
        case atStart => exact ⟨0, rfl, Nat.zero_le _, Nat.zero_le _, S35.out⟩
        case round =>
          obtain ⟨k, rfl, hk_, hkn, hS⟩ := hrel
          have HK_ := Lib.hid hk_
          clear hk_
          have SL := Lib.hid hS
          clear S35 hS
          have S36 := SL
          clear SL
          go_upto_region 8 with fail
          refine wpG_region_k (fun K hK => ?_)
          refine @wpG_p _ _ _ _ _ (some 25) (.bool (decide ((k : Int) < (n : Int)))) _ _ rfl (by rfl) (fun W => op_int_lss W (k : Int) (n : Int) rfl rfl rfl Tryd.underlying3) ?_
          simp only [n1, n3, n4]
          refine wpG_done (fun V37 hv38 => ?_)
          have S39 : Hid (St w noB [] V37) := Lib.hid (S36.out.gr hv38)
          clear S36
          clear hv38
          refine ⟨rfl, hK _ _ ?_⟩
          clear hK
          obtain ⟨c40, hc40⟩ : ∃ q_, q_ = (decide ((k : Int) < (n : Int))) := ⟨_, rfl⟩
          rw [← hc40]
          have Hc40 := Lib.hid hc40
          clear hc40
          cases c40 with
          | true =>
            have f41 := of_decide_eq_true Hc40.out.symm
            go_upto_region 9 with fail
            refine wpG_region_k (fun K hK => ?_)
            refine @wpG_p _ _ _ _ _ (some 26) (.int .i64 (k : Int)) _ _ rfl (by rfl) (fun _ => rfl) ?_
            simp only [n1, n3, n4]
            refine @wpG_p _ _ _ _ _ (some 27) (.pointer (some ⟨b23, o23 + k * 8, none⟩)) _ _ rfl (by rfl) (fun W => by (go_simp <;> first | rfl | omega | (simp; omega))) ?_
            simp only [n1, n3, n4]
            refine @wpG_tk _ _ _ _ _ (some 28) (.agg #[.string (bstr ((Ma.tat ms k).n)), .bool ((Ma.tat ms k).s), .bool ((Ma.tat ms k).l), .bool ((Ma.tat ms k).f), .int .i64 ((Ma.tat ms k).fd), .int .i64 ((Ma.tat ms k).a), .int .i64 ((Ma.tat ms k).b), .int .i64 ((Ma.tat ms k).c)]) _ _ rfl (.load_mid (by rfl) 35 (.tmp 27) rfl b23 (o23 + k * 8) rfl [.string (bstr ((Ma.tat ms k).n)), .bool ((Ma.tat ms k).s), .bool ((Ma.tat ms k).l), .bool ((Ma.tat ms k).f), .int .i64 ((Ma.tat ms k).fd), .int .i64 ((Ma.tat ms k).a), .int .i64 ((Ma.tat ms k).b), .int .i64 ((Ma.tat ms k).c)] _ (fun W hg => ((HTA.out.gr ((S39.out.gr hg)).bel).elem (HTA.out.get (k := k) (by omega)))) Tryd.underlying35 rfl (by kernel_rfl)) ?_
            simp only [n1, n3, n4]
            refine wpG_val (some 5) rfl (by rfl) (fun W42 hg43 => ⟨.pointer (some ⟨W42.heap.size, 0, none⟩), W42.alloc (.cells #[.string ⟨#[]⟩, .bool false, .bool false, .bool false, .int .i64 0, .int .i64 0, .int .i64 0, .int .i64 0] 35), by (first | (go_simp; done) | (go_simp <;> rfl)), ?_⟩)
            simp only [n1, n3, n4]
            obtain ⟨g44, U45, hg_, hu_, hS_⟩ := (S39.out.gr hg43).made [.string ⟨#[]⟩, .bool false, .bool false, .bool false, .int .i64 0, .int .i64 0, .int .i64 0, .int .i64 0] 35
            rw [← hu_, ← hg_]
            have S46 : Hid (St w noB [blk g44 35 [.string ⟨#[]⟩, .bool false, .bool false, .bool false, .int .i64 0, .int .i64 0, .int .i64 0, .int .i64 0]] U45) := Lib.hid hS_
            clear S39
            clear hg_ hu_ hS_ hg43
            refine @wpG_p _ _ _ _ _ (some 4) (.int .i64 (k : Int)) _ _ rfl (by rfl) (fun _ => rfl) ?_
            simp only [n1, n3, n4]
            refine wpG_store (none) rfl (by rfl) (fun W47 hg48 => ⟨_, run_store_mid 35 (.tmp 5) (.tmp 28) rfl g44 0 #[.string (bstr ((Ma.tat ms k).n)), .bool ((Ma.tat ms k).s), .bool ((Ma.tat ms k).l), .bool ((Ma.tat ms k).f), .int .i64 ((Ma.tat ms k).fd), .int .i64 ((Ma.tat ms k).a), .int .i64 ((Ma.tat ms k).b), .int .i64 ((Ma.tat ms k).c)] rfl rfl ((S46.out.gr hg48).room 0 rfl 0 8 (by simp)) (by kernel_rfl) (by kernel_rfl), ?_⟩)
            simp only [n2]
            obtain ⟨U49, hu_, hS_⟩ := ((S46.out.gr hg48).put 0 rfl 0 (#[.string (bstr ((Ma.tat ms k).n)), .bool ((Ma.tat ms k).s), .bool ((Ma.tat ms k).l), .bool ((Ma.tat ms k).f), .int .i64 ((Ma.tat ms k).fd), .int .i64 ((Ma.tat ms k).a), .int .i64 ((Ma.tat ms k).b), .int .i64 ((Ma.tat ms k).c)] : Array Value).toList (ds := [.string (bstr ((Ma.tat ms k).n)), .bool ((Ma.tat ms k).s), .bool ((Ma.tat ms k).l), .bool ((Ma.tat ms k).f), .int .i64 ((Ma.tat ms k).fd), .int .i64 ((Ma.tat ms k).a), .int .i64 ((Ma.tat ms k).b), .int .i64 ((Ma.tat ms k).c)]) rfl).named
            rw [← hu_]
            have S50 : Hid (St w noB [blk g44 35 [.string (bstr ((Ma.tat ms k).n)), .bool ((Ma.tat ms k).s), .bool ((Ma.tat ms k).l), .bool ((Ma.tat ms k).f), .int .i64 ((Ma.tat ms k).fd), .int .i64 ((Ma.tat ms k).a), .int .i64 ((Ma.tat ms k).b), .int .i64 ((Ma.tat ms k).c)]] U49) := Lib.hid hS_
            clear S46
            clear hu_ hS_ hg48
            refine wpG_done (fun V51 hv52 => ?_)
            have S53 : Hid (St w noB [blk g44 35 [.string (bstr ((Ma.tat ms k).n)), .bool ((Ma.tat ms k).s), .bool ((Ma.tat ms k).l), .bool ((Ma.tat ms k).f), .int .i64 ((Ma.tat ms k).fd), .int .i64 ((Ma.tat ms k).a), .int .i64 ((Ma.tat ms k).b), .int .i64 ((Ma.tat ms k).c)]] V51) := Lib.hid (S50.out.gr hv52)
            clear S50
            clear hv52
            refine ⟨rfl, hK _ _ ?_⟩
            clear hK
            go_upto_region 10 with fail
            refine wpG_region_k (fun K hK => ?_)
            refine @wpG_tk _ _ _ _ _ (some 29) (.agg #[.string (bstr ((Ma.tat ms k).n)), .bool ((Ma.tat ms k).s), .bool ((Ma.tat ms k).l), .bool ((Ma.tat ms k).f), .int .i64 ((Ma.tat ms k).fd), .int .i64 ((Ma.tat ms k).a), .int .i64 ((Ma.tat ms k).b), .int .i64 ((Ma.tat ms k).c)]) _ _ rfl (.load_mid (by rfl) 35 (.tmp 5) rfl g44 0 rfl [.string (bstr ((Ma.tat ms k).n)), .bool ((Ma.tat ms k).s), .bool ((Ma.tat ms k).l), .bool ((Ma.tat ms k).f), .int .i64 ((Ma.tat ms k).fd), .int .i64 ((Ma.tat ms k).a), .int .i64 ((Ma.tat ms k).b), .int .i64 ((Ma.tat ms k).c)] _ (fun W hg => (S53.out.gr hg).range 0 rfl 0 8 rfl) Tryd.underlying35 rfl (by kernel_rfl)) ?_
            simp only [n1, n3, n4]
            refine @wpG_tk _ _ _ _ _ (some 30) (.bool (Ma.vld (⟨((Ma.tat ms k).n), ((Ma.tat ms k).s), ((Ma.tat ms k).l), ((Ma.tat ms k).f), ((Ma.tat ms k).fd), ((Ma.tat ms k).a), ((Ma.tat ms k).b), ((Ma.tat ms k).c)⟩ : Ma.Mt))) _ _ rfl (.call (f := 30) (args := #[.agg #[.string (bstr ((Ma.tat ms k).n)), .bool ((Ma.tat ms k).s), .bool ((Ma.tat ms k).l), .bool ((Ma.tat ms k).f), .int .i64 ((Ma.tat ms k).fd), .int .i64 ((Ma.tat ms k).a), .int .i64 ((Ma.tat ms k).b), .int .i64 ((Ma.tat ms k).c)]]) (by rfl) (fun W => by go_simp) (fun W hg => valid_any ((Ma.tat ms k).n) ((Ma.tat ms k).s) ((Ma.tat ms k).l) ((Ma.tat ms k).f) ((Ma.tat ms k).fd) ((Ma.tat ms k).a) ((Ma.tat ms k).b) ((Ma.tat ms k).c) W (HK.out.gr (S53.out.gr hg).bel))) ?_
            simp only [n1, n3, n4]
            refine @wpG_p _ _ _ _ _ (some 31) (.bool (!(Ma.vld (⟨((Ma.tat ms k).n), ((Ma.tat ms k).s), ((Ma.tat ms k).l), ((Ma.tat ms k).f), ((Ma.tat ms k).fd), ((Ma.tat ms k).a), ((Ma.tat ms k).b), ((Ma.tat ms k).c)⟩ : Ma.Mt)))) _ _ rfl (by rfl) (fun W => by go_simp) ?_
            simp only [n1, n3, n4]
            refine wpG_done (fun V54 hv55 => ?_)
            have S56 : Hid (St w noB [blk g44 35 [.string (bstr ((Ma.tat ms k).n)), .bool ((Ma.tat ms k).s), .bool ((Ma.tat ms k).l), .bool ((Ma.tat ms k).f), .int .i64 ((Ma.tat ms k).fd), .int .i64 ((Ma.tat ms k).a), .int .i64 ((Ma.tat ms k).b), .int .i64 ((Ma.tat ms k).c)]] V54) := Lib.hid (S53.out.gr hv55)
            clear S53
            clear hv55
            refine ⟨rfl, hK _ _ ?_⟩
            clear hK
            obtain ⟨c57, hc57⟩ : ∃ q_, q_ = (!(Ma.vld (⟨((Ma.tat ms k).n), ((Ma.tat ms k).s), ((Ma.tat ms k).l), ((Ma.tat ms k).f), ((Ma.tat ms k).fd), ((Ma.tat ms k).a), ((Ma.tat ms k).b), ((Ma.tat ms k).c)⟩ : Ma.Mt))) := ⟨_, rfl⟩
            rw [← hc57]
            have Hc57 := Lib.hid hc57
            clear hc57
            cases c57 with
            | true =>
              have f58 := Lib.hid ((bnt Hc57.out))
              go_upto_region 11 with fail
              refine wpG_region_k (fun K hK => ?_)
              refine @wpG_p _ _ _ _ _ (some 32) (.int .i64 (k : Int)) _ _ rfl (by rfl) (fun _ => rfl) ?_
              simp only [n1, n3, n4]
              refine @wpG_p _ _ _ _ _ (some 2) (.int .i64 (k : Int)) _ _ rfl (by rfl) (fun _ => rfl) ?_
              simp only [n1, n3, n4]
              refine @wpG_p _ _ _ _ _ (some 3) (.int .i64 1) _ _ rfl (by rfl) (fun _ => rfl) ?_
              simp only [n1, n3, n4]
              refine wpG_done (fun V59 hv60 => ?_)
              have S61 : Hid (St w noB [blk g44 35 [.string (bstr ((Ma.tat ms k).n)), .bool ((Ma.tat ms k).s), .bool ((Ma.tat ms k).l), .bool ((Ma.tat ms k).f), .int .i64 ((Ma.tat ms k).fd), .int .i64 ((Ma.tat ms k).a), .int .i64 ((Ma.tat ms k).b), .int .i64 ((Ma.tat ms k).c)]] V59) := Lib.hid (S56.out.gr hv60)
              clear S56
              clear hv60
              refine ⟨rfl, hK _ _ ?_⟩
              clear hK
              go_wp2_with fail
              go_ret2
              refine ⟨?_, S61.out.bel⟩
              show Ending.returned (.tuple #[.int .i64 (k : Int), .int .i64 1]) = _
              (first | rfl | (have e_f32 := f32.out; have e_f58 := f58.out; rw [Ma.check_bad (by have := HLEN.out; omega) (by have := HLEN.out; omega) e_f32 HK_.out (by have := HLEN.out; omega) e_f58]))
            | false =>
              have f62 := Lib.hid ((bnf Hc57.out))
              go_upto_region 12 with fail
              refine wpG_region_k (fun K hK => ?_)
              refine @wpG_p _ _ _ _ _ (some 34) (.slice (some ⟨b23, o23, none⟩) n c) _ _ rfl (by rfl) (fun _ => rfl) ?_
              simp only [n1, n3, n4]
              refine @wpG_p _ _ _ _ _ (some 35) (.pointer (some ⟨g44, 0, none⟩)) _ _ rfl (by rfl) (fun W => by go_simp) ?_
              simp only [n1, n3, n4]
              refine @wpG_r _ _ _ _ _ (some 36) (.string (bstr ((Ma.tat ms k).n))) _ _ rfl (by rfl) (fun W hg => by have c := (S56.out.gr hg).cell 0 rfl 0 rfl; go_simp) ?_
              simp only [n1, n3, n4]
              refine @wpG_tk _ _ _ _ _ (some 37) (.tuple #[.int .i64 ((Ma.find ms ((Ma.tat ms k).n)).1), .bool ((Ma.find ms ((Ma.tat ms k).n)).2)]) _ _ rfl (.call (f := 17) (args := #[.slice (some ⟨b23, o23, none⟩) n c, .string (bstr ((Ma.tat ms k).n))]) (by rfl) (fun W => by go_simp) (fun W hg => find_any _ _ _ ms ((Ma.tat ms k).n) W (HTA.out.gr (S56.out.gr hg).bel))) ?_
              simp only [n1, n3, n4]
              refine @wpG_p _ _ _ _ _ (some 33) (.tuple #[.int .i64 ((Ma.find ms ((Ma.tat ms k).n)).1), .bool ((Ma.find ms ((Ma.tat ms k).n)).2)]) _ _ rfl (by rfl) (fun _ => rfl) ?_
              simp only [n1, n3, n4]
              refine @wpG_p _ _ _ _ _ (some 38) (.int .i64 ((Ma.find ms ((Ma.tat ms k).n)).1)) _ _ rfl (by rfl) (fun W => by go_simp) ?_
              simp only [n1, n3, n4]
              refine @wpG_p _ _ _ _ _ (some 39) (.bool ((Ma.find ms ((Ma.tat ms k).n)).2)) _ _ rfl (by rfl) (fun W => by go_simp) ?_
              simp only [n1, n3, n4]
              refine @wpG_p _ _ _ _ _ (some 6) (.int .i64 ((Ma.find ms ((Ma.tat ms k).n)).1)) _ _ rfl (by rfl) (fun _ => rfl) ?_
              simp only [n1, n3, n4]
              refine @wpG_p _ _ _ _ _ (some 7) (.bool ((Ma.find ms ((Ma.tat ms k).n)).2)) _ _ rfl (by rfl) (fun _ => rfl) ?_
              simp only [n1, n3, n4]
              refine wpG_done (fun V63 hv64 => ?_)
              have S65 : Hid (St w noB [blk g44 35 [.string (bstr ((Ma.tat ms k).n)), .bool ((Ma.tat ms k).s), .bool ((Ma.tat ms k).l), .bool ((Ma.tat ms k).f), .int .i64 ((Ma.tat ms k).fd), .int .i64 ((Ma.tat ms k).a), .int .i64 ((Ma.tat ms k).b), .int .i64 ((Ma.tat ms k).c)]] V63) := Lib.hid (S56.out.gr hv64)
              clear S56
              clear hv64
              refine ⟨rfl, hK _ _ ?_⟩
              clear hK
              go_upto_region 13 with fail
              refine wpG_region_k (fun K hK => ?_)
              refine @wpG_p _ _ _ _ _ (some 40) (.int .i64 ((Ma.find ms ((Ma.tat ms k).n)).1)) _ _ rfl (by rfl) (fun _ => rfl) ?_
              simp only [n1, n3, n4]
              refine @wpG_p _ _ _ _ _ (some 41) (.int .i64 (k : Int)) _ _ rfl (by rfl) (fun _ => rfl) ?_
              simp only [n1, n3, n4]
              refine @wpG_p _ _ _ _ _ (some 42) (.bool (decide ((Ma.find ms ((Ma.tat ms k).n)).1 < (k : Int)))) _ _ rfl (by rfl) (fun W => op_int_lss W ((Ma.find ms ((Ma.tat ms k).n)).1) (k : Int) rfl rfl rfl Tryd.underlying3) ?_
              simp only [n1, n3, n4]
              refine wpG_done (fun V66 hv67 => ?_)
              have S68 : Hid (St w noB [blk g44 35 [.string (bstr ((Ma.tat ms k).n)), .bool ((Ma.tat ms k).s), .bool ((Ma.tat ms k).l), .bool ((Ma.tat ms k).f), .int .i64 ((Ma.tat ms k).fd), .int .i64 ((Ma.tat ms k).a), .int .i64 ((Ma.tat ms k).b), .int .i64 ((Ma.tat ms k).c)]] V66) := Lib.hid (S65.out.gr hv67)
              clear S65
              clear hv67
              refine ⟨rfl, hK _ _ ?_⟩
              clear hK
              obtain ⟨c69, hc69⟩ : ∃ q_, q_ = (decide ((Ma.find ms ((Ma.tat ms k).n)).1 < (k : Int))) := ⟨_, rfl⟩
              rw [← hc69]
              have Hc69 := Lib.hid hc69
              clear hc69
              cases c69 with
              | true =>
                have f70 := of_decide_eq_true Hc69.out.symm
                go_upto_region 14 with fail
                refine wpG_region_k (fun K hK => ?_)
                refine @wpG_p _ _ _ _ _ (some 43) (.int .i64 (k : Int)) _ _ rfl (by rfl) (fun _ => rfl) ?_
                simp only [n1, n3, n4]
                refine @wpG_p _ _ _ _ _ (some 2) (.int .i64 (k : Int)) _ _ rfl (by rfl) (fun _ => rfl) ?_
                simp only [n1, n3, n4]
                refine @wpG_p _ _ _ _ _ (some 3) (.int .i64 10) _ _ rfl (by rfl) (fun _ => rfl) ?_
                simp only [n1, n3, n4]
                refine wpG_done (fun V71 hv72 => ?_)
                have S73 : Hid (St w noB [blk g44 35 [.string (bstr ((Ma.tat ms k).n)), .bool ((Ma.tat ms k).s), .bool ((Ma.tat ms k).l), .bool ((Ma.tat ms k).f), .int .i64 ((Ma.tat ms k).fd), .int .i64 ((Ma.tat ms k).a), .int .i64 ((Ma.tat ms k).b), .int .i64 ((Ma.tat ms k).c)]] V71) := Lib.hid (S68.out.gr hv72)
                clear S68
                clear hv72
                refine ⟨rfl, hK _ _ ?_⟩
                clear hK
                go_wp2_with fail
                go_ret2
                refine ⟨?_, S73.out.bel⟩
                show Ending.returned (.tuple #[.int .i64 (k : Int), .int .i64 10]) = _
                (first | rfl | (have e_f32 := f32.out; have e_f62 := f62.out; rw [Ma.check_twice (by have := HLEN.out; omega) (by have := HLEN.out; omega) e_f32 HK_.out (by have := HLEN.out; omega) e_f62 (by omega)]))
              | false =>
                have f74 := of_decide_eq_false Hc69.out.symm
                go_upto_region 15 with fail
                refine wpG_region_k (fun K hK => ?_)
                refine @wpG_p _ _ _ _ _ (some 44) (.int .i64 ((k : Int) + 1)) _ _ rfl (by rfl) (fun W => op_i_add W (k : Int) 1 (by omega) rfl rfl rfl Tryd.underlying3) ?_
                simp only [n1, n3, n4]
                refine @wpG_p _ _ _ _ _ (some 24) (.int .i64 ((k : Int) + 1)) _ _ rfl (by rfl) (fun _ => rfl) ?_
                simp only [n1, n3, n4]
                refine wpG_done (fun V75 hv76 => ?_)
                have S77 : Hid (St w noB [blk g44 35 [.string (bstr ((Ma.tat ms k).n)), .bool ((Ma.tat ms k).s), .bool ((Ma.tat ms k).l), .bool ((Ma.tat ms k).f), .int .i64 ((Ma.tat ms k).fd), .int .i64 ((Ma.tat ms k).a), .int .i64 ((Ma.tat ms k).b), .int .i64 ((Ma.tat ms k).c)]] V75) := Lib.hid (S68.out.gr hv76)
                clear S68
                clear hv76
                refine ⟨rfl, hK _ _ ?_⟩
                clear hK
                go_wp2_with fail
                go_roundw
                case rel => exact ⟨k + 1, (by first | rfl | go_num), (by have e_f32 := f32.out; have e_f62 := f62.out; exact Ma.check_step HK_.out (by have := HLEN.out; omega) e_f62 (by omega)), (by omega), S77.out.sub (.cons _ .slnil)⟩
                case measure => first | (simp [intOf]; done) | (simp [intOf]; omega) | omega
          | false =>
            have f78 := of_decide_eq_false Hc40.out.symm
            go_upto_region 16 with fail
            refine wpG_region_k (fun K hK => ?_)
            refine @wpG_p _ _ _ _ _ (some 2) (.int .i64 0) _ _ rfl (by rfl) (fun _ => rfl) ?_
            simp only [n1, n3, n4]
            refine @wpG_p _ _ _ _ _ (some 3) (.int .i64 0) _ _ rfl (by rfl) (fun _ => rfl) ?_
            simp only [n1, n3, n4]
            refine wpG_done (fun V79 hv80 => ?_)
            have S81 : Hid (St w noB [] V79) := Lib.hid (S39.out.gr hv80)
            clear S39
            clear hv80
            refine ⟨rfl, hK _ _ ?_⟩
            clear hK
            go_wp2_with fail
            go_ret2
            refine ⟨?_, S81.out.bel⟩
            show Ending.returned (.tuple #[.int .i64 0, .int .i64 0]) = _
            (first | rfl | (have e_f32 := f32.out; rw [Ma.check_good (by have := HLEN.out; omega) (by have := HLEN.out; omega) e_f32 (by have h := HK_.out; have := HLEN.out; have e : k = ms.length := (by omega); rw [e] at h; exact h)]))
set_option maxRecDepth 1000000 in
set_option maxHeartbeats 4000000 in
theorem rcheck_any (A : Option Addr) (n c : Nat) (ms : List Ma.Mt) (w : World) (hT : Tbl w A n c ms) :
    Calls Tryd.prog 12 #[.slice A n c] w fun e w' => e = .returned (.tuple #[.int .i64 ((Ma.check ms).1), .int .i64 ((Ma.check ms).2)]) ∧ Below w.heap.size w w' := by
  have HTA := Lib.hid hT
  have HLEN := Lib.hid hT.len
  have hnb : n ≤ 9223372036854775807 := Nat.le_trans hT.cap hT.bnd
  clear hT
  have S1 : Hid (St w noB [] w) := Lib.hid (St.start w)
  go_enter Tryd.func12, Tryd.ntmps12
  go_upto_region 0 with fail
  refine wpG_region_k (fun K hK => ?_)
  refine @wpG_p _ _ _ _ _ (some 2) (.int .i64 0) _ _ rfl (by rfl) (fun _ => rfl) ?_
  simp only [n1, n3, n4]
  refine @wpG_p _ _ _ _ _ (some 3) (.int .i64 0) _ _ rfl (by rfl) (fun _ => rfl) ?_
  simp only [n1, n3, n4]
  refine wpG_done (fun V2 hv3 => ?_)
  have S4 : Hid (St w noB [] V2) := Lib.hid (S1.out.gr hv3)
  clear S1
  clear hv3
  refine ⟨rfl, hK _ _ ?_⟩
  clear hK
  go_upto_region 1 with fail
  refine wpG_region_k (fun K hK => ?_)
  refine @wpG_p _ _ _ _ _ (some 8) (.slice A n c) _ _ rfl (by rfl) (fun _ => rfl) ?_
  simp only [n1, n3, n4]
  refine @wpG_p _ _ _ _ _ (some 9) (.int .i64 (n : Int)) _ _ rfl (by rfl) (fun W => by go_simp) ?_
  simp only [n1, n3, n4]
  refine @wpG_p _ _ _ _ _ (some 10) (.bool (decide ((n : Int) > 256))) _ _ rfl (by rfl) (fun W => op_int_gtr W (n : Int) 256 rfl rfl rfl Tryd.underlying3) ?_
  simp only [n1, n3, n4]
  refine wpG_done (fun V5 hv6 => ?_)
  have S7 : Hid (St w noB [] V5) := Lib.hid (S4.out.gr hv6)
  clear S4
  clear hv6
  refine ⟨rfl, hK _ _ ?_⟩
  clear hK
  obtain ⟨c8, hc8⟩ : ∃ q_, q_ = (decide ((n : Int) > 256)) := ⟨_, rfl⟩
  rw [← hc8]
  have Hc8 := Lib.hid hc8
  clear hc8
  cases c8 with
  | true =>
    have f9 := of_decide_eq_true Hc8.out.symm
    go_upto_region 2 with fail
    refine wpG_region_k (fun K hK => ?_)
    refine @wpG_p _ _ _ _ _ (some 2) (.int .i64 (-1)) _ _ rfl (by rfl) (fun _ => rfl) ?_
    simp only [n1, n3, n4]
    refine @wpG_p _ _ _ _ _ (some 3) (.int .i64 2) _ _ rfl (by rfl) (fun _ => rfl) ?_
    simp only [n1, n3, n4]
    refine wpG_done (fun V10 hv11 => ?_)
    have S12 : Hid (St w noB [] V10) := Lib.hid (S7.out.gr hv11)
    clear S7
    clear hv11
    refine ⟨rfl, hK _ _ ?_⟩
    clear hK
    go_wp2_with fail
    go_ret2
    refine ⟨?_, S12.out.bel⟩
    show Ending.returned (.tuple #[.int .i64 (-1), .int .i64 2]) = _
    (first | rfl | (rw [Ma.check_limit (by have := HLEN.out; omega)]))
  | false =>
    have f13 := of_decide_eq_false Hc8.out.symm
    go_upto_region 3 with fail
    refine wpG_region_k (fun K hK => ?_)
    refine @wpG_p _ _ _ _ _ (some 11) (.slice A n c) _ _ rfl (by rfl) (fun _ => rfl) ?_
    simp only [n1, n3, n4]
    refine @wpG_p _ _ _ _ _ (some 12) (.int .i64 (n : Int)) _ _ rfl (by rfl) (fun W => by go_simp) ?_
    simp only [n1, n3, n4]
    refine @wpG_p _ _ _ _ _ (some 13) (.bool (decide ((n : Int) = 0))) _ _ rfl (by rfl) (fun W => op_int_eql W (n : Int) 0 rfl rfl rfl Tryd.underlying3) ?_
    simp only [n1, n3, n4]
    refine wpG_done (fun V14 hv15 => ?_)
    have S16 : Hid (St w noB [] V14) := Lib.hid (S7.out.gr hv15)
    clear S7
    clear hv15
    refine ⟨rfl, hK _ _ ?_⟩
    clear hK
    obtain ⟨c17, hc17⟩ : ∃ q_, q_ = (decide ((n : Int) = 0)) := ⟨_, rfl⟩
    rw [← hc17]
    have Hc17 := Lib.hid hc17
    clear hc17
    cases c17 with
    | true =>
      have f18 := Lib.hid (of_decide_eq_true Hc17.out.symm)
      have f18a := Int.le_of_eq f18.out
      have f18b := Int.le_of_eq f18.out.symm
      go_upto_region 4 with fail
      refine wpG_region_k (fun K hK => ?_)
      refine @wpG_p _ _ _ _ _ (some 2) (.int .i64 (-1)) _ _ rfl (by rfl) (fun _ => rfl) ?_
      simp only [n1, n3, n4]
      refine @wpG_p _ _ _ _ _ (some 3) (.int .i64 1) _ _ rfl (by rfl) (fun _ => rfl) ?_
      simp only [n1, n3, n4]
      refine wpG_done (fun V19 hv20 => ?_)
      have S21 : Hid (St w noB [] V19) := Lib.hid (S16.out.gr hv20)
      clear S16
      clear hv20
      refine ⟨rfl, hK _ _ ?_⟩
      clear hK
      go_wp2_with fail
      go_ret2
      refine ⟨?_, S21.out.bel⟩
      show Ending.returned (.tuple #[.int .i64 (-1), .int .i64 1]) = _
      (first | rfl | (have e_f18 := f18.out; rw [Ma.check_empty (by have := HLEN.out; omega)]))
    | false =>
      have f22 := of_decide_eq_false Hc17.out.symm
      go_upto_region 5 with fail
      refine wpK_region_k (by kernel_rfl) (fun K hK => ?_)
      refine wpK_ta (i := 0) (some 14) (v := .slice A n c) rfl rfl (by kernel_rfl) (fun _ _ _ h => onN_panic h) (Or.inl ⟨rfl, fun _ => rfl⟩) ?_
      simp only [n1, n3, n4]
      obtain ⟨b23, o23, rfl⟩ := HTA.out.addr (by omega)
      refine wpK_ta (i := 1) (some 15) (v := .pointer (some ⟨b23, o23 + 0, none⟩)) rfl rfl (by kernel_rfl) (fun _ _ _ h => onN_panic h) (Or.inl ⟨by rfl, fun W => by (go_simp <;> first | rfl | omega | (simp; omega))⟩) ?_
      simp only [n1, n3, n4]
      refine wpK_tk (i := 2) (some 16) (v := .agg #[.string (bstr ((Ma.tat ms 0).n)), .bool ((Ma.tat ms 0).s), .bool ((Ma.tat ms 0).l), .bool ((Ma.tat ms 0).f), .int .i64 ((Ma.tat ms 0).fd), .int .i64 ((Ma.tat ms 0).a), .int .i64 ((Ma.tat ms 0).b), .int .i64 ((Ma.tat ms 0).c)]) rfl rfl (by kernel_rfl) (fun _ _ _ h => onN_panic h) (.load_mid (by rfl) 35 (.tmp 15) rfl b23 (o23 + 0) rfl [.string (bstr ((Ma.tat ms 0).n)), .bool ((Ma.tat ms 0).s), .bool ((Ma.tat ms 0).l), .bool ((Ma.tat ms 0).f), .int .i64 ((Ma.tat ms 0).fd), .int .i64 ((Ma.tat ms 0).a), .int .i64 ((Ma.tat ms 0).b), .int .i64 ((Ma.tat ms 0).c)] _ (fun W hg => ((HTA.out.gr ((S16.out.gr (Gr.un hg))).bel).elem (HTA.out.get (k := 0) (by omega)))) Tryd.underlying35 rfl (by kernel_rfl)) ?_
      simp only [n1, n3, n4]
      refine wpK_tk (i := 3) (some 17) (v := .agg #[.string (bstr [97, 105, 114]), .bool false, .bool false, .bool false, .int .i64 1, .int .i64 0, .int .i64 0, .int .i64 0]) rfl rfl (by kernel_rfl) (fun _ _ _ h => onN_panic h) (.call (f := 31) (args := #[]) (by rfl) (fun W => by go_simp) (fun W hg => rair_any W)) ?_
      simp only [n1, n3, n4]
      refine wpK_ta (i := 4) (some 18) (v := .bool (decide ((⟨((Ma.tat ms 0).n), ((Ma.tat ms 0).s), ((Ma.tat ms 0).l), ((Ma.tat ms 0).f), ((Ma.tat ms 0).fd), ((Ma.tat ms 0).a), ((Ma.tat ms 0).b), ((Ma.tat ms 0).c)⟩ : Ma.Mt) ≠ Ma.air))) rfl rfl (by kernel_rfl) (fun _ _ _ h => onN_panic h) (Or.inl ⟨by rfl, fun W => by exact op_mt_neq W ((Ma.tat ms 0).n) [97, 105, 114] ((Ma.tat ms 0).s) ((Ma.tat ms 0).l) ((Ma.tat ms 0).f) false false false ((Ma.tat ms 0).fd) ((Ma.tat ms 0).a) ((Ma.tat ms 0).b) ((Ma.tat ms 0).c) 1 0 0 0 rfl rfl rfl⟩) ?_
      simp only [n1, n3, n4]
      refine wpK_done (by kernel_rfl) (fun V24 hv25 => ?_) _
      have S26 : Hid (St w noB [] V24) := Lib.hid (S16.out.gr (Gr.un hv25))
      clear S16
      clear hv25
      refine ⟨rfl, hK _ _ ?_⟩
      clear hK
      obtain ⟨c27, hc27⟩ : ∃ q_, q_ = (decide ((⟨((Ma.tat ms 0).n), ((Ma.tat ms 0).s), ((Ma.tat ms 0).l), ((Ma.tat ms 0).f), ((Ma.tat ms 0).fd), ((Ma.tat ms 0).a), ((Ma.tat ms 0).b), ((Ma.tat ms 0).c)⟩ : Ma.Mt) ≠ Ma.air)) := ⟨_, rfl⟩
      rw [← hc27]
      have Hc27 := Lib.hid hc27
      clear hc27
      cases c27 with
      | true =>
        have f28 := of_decide_eq_true Hc27.out.symm
        go_upto_region 6 with fail
        refine wpG_region_k (fun K hK => ?_)
        refine @wpG_p _ _ _ _ _ (some 2) (.int .i64 0) _ _ rfl (by rfl) (fun _ => rfl) ?_
        simp only [n1, n3, n4]
        refine @wpG_p _ _ _ _ _ (some 3) (.int .i64 1) _ _ rfl (by rfl) (fun _ => rfl) ?_
        simp only [n1, n3, n4]
        refine wpG_done (fun V29 hv30 => ?_)
        have S31 : Hid (St w noB [] V29) := Lib.hid (S26.out.gr hv30)
        clear S26
        clear hv30
        refine ⟨rfl, hK _ _ ?_⟩
        clear hK
        go_wp2_with fail
        go_ret2
        refine ⟨?_, S31.out.bel⟩
        show Ending.returned (.tuple #[.int .i64 0, .int .i64 1]) = _
        (first | rfl | (rw [Ma.check_air (by have := HLEN.out; omega) (by have := HLEN.out; omega) f28]))
      | false =>
        have f32 := Lib.hid (Decidable.not_not.1 (of_decide_eq_false Hc27.out.symm))
        go_upto_region 7 with fail
        refine wpG_region_k (fun K hK => ?_)
        refine @wpG_p _ _ _ _ _ (some 4) (.int .i64 0) _ _ rfl (by rfl) (fun _ => rfl) ?_
        simp only [n1, n3, n4]
        refine wpG_done (fun V33 hv34 => ?_)
        have S35 : Hid (St w noB [] V33) := Lib.hid (S26.out.gr hv34)
        clear S26
        clear hv34
        refine ⟨rfl, hK _ _ ?_⟩
        clear hK
        go_wp2_with fail
        go_loopw [4] (fun v4 wr => ∃ (k : Nat), v4 = .int .i64 (k : Int) ∧ k ≤ Ma.ff (Ma.okAt ms) ms.length ∧ k ≤ n ∧ St w noB [] wr) (fun i _ => n - (intOf i).toNat)
        case atStart => exact ⟨0, rfl, Nat.zero_le _, Nat.zero_le _, S35.out⟩
        case round =>
          obtain ⟨k, rfl, hk_, hkn, hS⟩ := hrel
          have HK_ := Lib.hid hk_
          clear hk_
          have SL := Lib.hid hS
          clear S35 hS
          have S36 := SL
          clear SL
          go_upto_region 8 with fail
          refine wpG_region_k (fun K hK => ?_)
          refine @wpG_p _ _ _ _ _ (some 19) (.int .i64 (k : Int)) _ _ rfl (by rfl) (fun _ => rfl) ?_
          simp only [n1, n3, n4]
          refine @wpG_p _ _ _ _ _ (some 20) (.slice (some ⟨b23, o23, none⟩) n c) _ _ rfl (by rfl) (fun _ => rfl) ?_
          simp only [n1, n3, n4]
          refine @wpG_p _ _ _ _ _ (some 21) (.int .i64 (n : Int)) _ _ rfl (by rfl) (fun W => by go_simp) ?_
          simp only [n1, n3, n4]
          refine @wpG_p _ _ _ _ _ (some 22) (.bool (decide ((k : Int) < (n : Int)))) _ _ rfl (by rfl) (fun W => op_int_lss W (k : Int) (n : Int) rfl rfl rfl Tryd.underlying3) ?_
          simp only [n1, n3, n4]
          refine wpG_done (fun V37 hv38 => ?_)
          have S39 : Hid (St w noB [] V37) := Lib.hid (S36.out.gr hv38)
          clear S36
          clear hv38
          refine ⟨rfl, hK _ _ ?_⟩
          clear hK
          obtain ⟨c40, hc40⟩ : ∃ q_, q_ = (decide ((k : Int) < (n : Int))) := ⟨_, rfl⟩
          rw [← hc40]
          have Hc40 := Lib.hid hc40
          clear hc40
          cases c40 with
          | true =>
            have f41 := of_decide_eq_true Hc40.out.symm
            go_upto_region 10 with fail
            refine wpG_region_k (fun K hK => ?_)
            refine @wpG_p _ _ _ _ _ (some 25) (.slice (some ⟨b23, o23, none⟩) n c) _ _ rfl (by rfl) (fun _ => rfl) ?_
            simp only [n1, n3, n4]
            refine @wpG_p _ _ _ _ _ (some 26) (.int .i64 (k : Int)) _ _ rfl (by rfl) (fun _ => rfl) ?_
            simp only [n1, n3, n4]
            refine @wpG_p _ _ _ _ _ (some 27) (.pointer (some ⟨b23, o23 + k * 8, none⟩)) _ _ rfl (by rfl) (fun W => by (go_simp <;> first | rfl | omega | (simp; omega))) ?_
            simp only [n1, n3, n4]
            refine @wpG_tk _ _ _ _ _ (some 28) (.agg #[.string (bstr ((Ma.tat ms k).n)), .bool ((Ma.tat ms k).s), .bool ((Ma.tat ms k).l), .bool ((Ma.tat ms k).f), .int .i64 ((Ma.tat ms k).fd), .int .i64 ((Ma.tat ms k).a), .int .i64 ((Ma.tat ms k).b), .int .i64 ((Ma.tat ms k).c)]) _ _ rfl (.load_mid (by rfl) 35 (.tmp 27) rfl b23 (o23 + k * 8) rfl [.string (bstr ((Ma.tat ms k).n)), .bool ((Ma.tat ms k).s), .bool ((Ma.tat ms k).l), .bool ((Ma.tat ms k).f), .int .i64 ((Ma.tat ms k).fd), .int .i64 ((Ma.tat ms k).a), .int .i64 ((Ma.tat ms k).b), .int .i64 ((Ma.tat ms k).c)] _ (fun W hg => ((HTA.out.gr ((S39.out.gr hg)).bel).elem (HTA.out.get (k := k) (by omega)))) Tryd.underlying35 rfl (by kernel_rfl)) ?_
            simp only [n1, n3, n4]
            refine @wpG_tk _ _ _ _ _ (some 29) (.bool (Ma.vld (⟨((Ma.tat ms k).n), ((Ma.tat ms k).s), ((Ma.tat ms k).l), ((Ma.tat ms k).f), ((Ma.tat ms k).fd), ((Ma.tat ms k).a), ((Ma.tat ms k).b), ((Ma.tat ms k).c)⟩ : Ma.Mt))) _ _ rfl (.call (f := 32) (args := #[.agg #[.string (bstr ((Ma.tat ms k).n)), .bool ((Ma.tat ms k).s), .bool ((Ma.tat ms k).l), .bool ((Ma.tat ms k).f), .int .i64 ((Ma.tat ms k).fd), .int .i64 ((Ma.tat ms k).a), .int .i64 ((Ma.tat ms k).b), .int .i64 ((Ma.tat ms k).c)]]) (by rfl) (fun W => by go_simp) (fun W hg => rvalid_any ((Ma.tat ms k).n) ((Ma.tat ms k).s) ((Ma.tat ms k).l) ((Ma.tat ms k).f) ((Ma.tat ms k).fd) ((Ma.tat ms k).a) ((Ma.tat ms k).b) ((Ma.tat ms k).c) W)) ?_
            simp only [n1, n3, n4]
            refine @wpG_p _ _ _ _ _ (some 5) (.bool (Ma.vld (⟨((Ma.tat ms k).n), ((Ma.tat ms k).s), ((Ma.tat ms k).l), ((Ma.tat ms k).f), ((Ma.tat ms k).fd), ((Ma.tat ms k).a), ((Ma.tat ms k).b), ((Ma.tat ms k).c)⟩ : Ma.Mt))) _ _ rfl (by rfl) (fun _ => rfl) ?_
            simp only [n1, n3, n4]
            refine wpG_done (fun V42 hv43 => ?_)
            have S44 : Hid (St w noB [] V42) := Lib.hid (S39.out.gr hv43)
            clear S39
            clear hv43
            refine ⟨rfl, hK _ _ ?_⟩
            clear hK
            go_upto_region 11 with fail
            refine wpG_region_k (fun K hK => ?_)
            refine @wpG_p _ _ _ _ _ (some 30) (.bool (Ma.vld (⟨((Ma.tat ms k).n), ((Ma.tat ms k).s), ((Ma.tat ms k).l), ((Ma.tat ms k).f), ((Ma.tat ms k).fd), ((Ma.tat ms k).a), ((Ma.tat ms k).b), ((Ma.tat ms k).c)⟩ : Ma.Mt))) _ _ rfl (by rfl) (fun _ => rfl) ?_
            simp only [n1, n3, n4]
            refine @wpG_p _ _ _ _ _ (some 31) (.bool (!(Ma.vld (⟨((Ma.tat ms k).n), ((Ma.tat ms k).s), ((Ma.tat ms k).l), ((Ma.tat ms k).f), ((Ma.tat ms k).fd), ((Ma.tat ms k).a), ((Ma.tat ms k).b), ((Ma.tat ms k).c)⟩ : Ma.Mt)))) _ _ rfl (by rfl) (fun W => by go_simp) ?_
            simp only [n1, n3, n4]
            refine wpG_done (fun V45 hv46 => ?_)
            have S47 : Hid (St w noB [] V45) := Lib.hid (S44.out.gr hv46)
            clear S44
            clear hv46
            refine ⟨rfl, hK _ _ ?_⟩
            clear hK
            obtain ⟨c48, hc48⟩ : ∃ q_, q_ = (!(Ma.vld (⟨((Ma.tat ms k).n), ((Ma.tat ms k).s), ((Ma.tat ms k).l), ((Ma.tat ms k).f), ((Ma.tat ms k).fd), ((Ma.tat ms k).a), ((Ma.tat ms k).b), ((Ma.tat ms k).c)⟩ : Ma.Mt))) := ⟨_, rfl⟩
            rw [← hc48]
            have Hc48 := Lib.hid hc48
            clear hc48
            cases c48 with
            | true =>
              have f49 := Lib.hid ((bnt Hc48.out))
              go_upto_region 12 with fail
              refine wpG_region_k (fun K hK => ?_)
              refine @wpG_p _ _ _ _ _ (some 32) (.int .i64 (k : Int)) _ _ rfl (by rfl) (fun _ => rfl) ?_
              simp only [n1, n3, n4]
              refine @wpG_p _ _ _ _ _ (some 2) (.int .i64 (k : Int)) _ _ rfl (by rfl) (fun _ => rfl) ?_
              simp only [n1, n3, n4]
              refine @wpG_p _ _ _ _ _ (some 3) (.int .i64 1) _ _ rfl (by rfl) (fun _ => rfl) ?_
              simp only [n1, n3, n4]
              refine wpG_done (fun V50 hv51 => ?_)
              have S52 : Hid (St w noB [] V50) := Lib.hid (S47.out.gr hv51)
              clear S47
              clear hv51
              refine ⟨rfl, hK _ _ ?_⟩
              clear hK
              go_wp2_with fail
              go_ret2
              refine ⟨?_, S52.out.bel⟩
              show Ending.returned (.tuple #[.int .i64 (k : Int), .int .i64 1]) = _
              (first | rfl | (have e_f32 := f32.out; have e_f49 := f49.out; rw [Ma.check_bad (by have := HLEN.out; omega) (by have := HLEN.out; omega) e_f32 HK_.out (by have := HLEN.out; omega) e_f49]))
            | false =>
              have f53 := Lib.hid ((bnf Hc48.out))
              go_upto_region 13 with fail
              refine wpG_region_k (fun K hK => ?_)
              refine @wpG_p _ _ _ _ _ (some 34) (.slice (some ⟨b23, o23, none⟩) n c) _ _ rfl (by rfl) (fun _ => rfl) ?_
              simp only [n1, n3, n4]
              refine @wpG_p _ _ _ _ _ (some 35) (.slice (some ⟨b23, o23, none⟩) n c) _ _ rfl (by rfl) (fun _ => rfl) ?_
              simp only [n1, n3, n4]
              refine @wpG_p _ _ _ _ _ (some 36) (.int .i64 (k : Int)) _ _ rfl (by rfl) (fun _ => rfl) ?_
              simp only [n1, n3, n4]
              refine @wpG_p _ _ _ _ _ (some 37) (.pointer (some ⟨b23, o23 + k * 8, none⟩)) _ _ rfl (by rfl) (fun W => by (go_simp <;> first | rfl | omega | (simp; omega))) ?_
              simp only [n1, n3, n4]
              refine @wpG_p _ _ _ _ _ (some 38) (.pointer (some ⟨b23, o23 + k * 8, none⟩)) _ _ rfl (by rfl) (fun W => by (go_simp <;> first | rfl | omega)) ?_
              simp only [n1, n3, n4]
              refine @wpG_r _ _ _ _ _ (some 39) (.string (bstr ((Ma.tat ms k).n))) _ _ rfl (by rfl) (fun W hg => by have c := (((HTA.out.gr ((S47.out.gr hg)).bel).elem (HTA.out.get (k := k) (by omega)))) 0 _ rfl; (try simp only [Nat.add_zero, Nat.zero_add] at c); go_simp) ?_
              simp only [n1, n3, n4]
              refine @wpG_tk _ _ _ _ _ (some 40) (.tuple #[.int .i64 ((Ma.find ms ((Ma.tat ms k).n)).1), .bool ((Ma.find ms ((Ma.tat ms k).n)).2)]) _ _ rfl (.call (f := 18) (args := #[.slice (some ⟨b23, o23, none⟩) n c, .string (bstr ((Ma.tat ms k).n))]) (by rfl) (fun W => by go_simp) (fun W hg => rfind_any _ _ _ ms ((Ma.tat ms k).n) W (HTA.out.gr (S47.out.gr hg).bel))) ?_
              simp only [n1, n3, n4]
              refine @wpG_p _ _ _ _ _ (some 33) (.tuple #[.int .i64 ((Ma.find ms ((Ma.tat ms k).n)).1), .bool ((Ma.find ms ((Ma.tat ms k).n)).2)]) _ _ rfl (by rfl) (fun _ => rfl) ?_
              simp only [n1, n3, n4]
              refine @wpG_p _ _ _ _ _ (some 41) (.int .i64 ((Ma.find ms ((Ma.tat ms k).n)).1)) _ _ rfl (by rfl) (fun W => by go_simp) ?_
              simp only [n1, n3, n4]
              refine @wpG_p _ _ _ _ _ (some 42) (.bool ((Ma.find ms ((Ma.tat ms k).n)).2)) _ _ rfl (by rfl) (fun W => by go_simp) ?_
              simp only [n1, n3, n4]
              refine @wpG_p _ _ _ _ _ (some 6) (.int .i64 ((Ma.find ms ((Ma.tat ms k).n)).1)) _ _ rfl (by rfl) (fun _ => rfl) ?_
              simp only [n1, n3, n4]
              refine @wpG_p _ _ _ _ _ (some 7) (.bool ((Ma.find ms ((Ma.tat ms k).n)).2)) _ _ rfl (by rfl) (fun _ => rfl) ?_
              simp only [n1, n3, n4]
              refine wpG_done (fun V54 hv55 => ?_)
              have S56 : Hid (St w noB [] V54) := Lib.hid (S47.out.gr hv55)
              clear S47
              clear hv55
              refine ⟨rfl, hK _ _ ?_⟩
              clear hK
              go_upto_region 14 with fail
              refine wpG_region_k (fun K hK => ?_)
              refine @wpG_p _ _ _ _ _ (some 43) (.int .i64 ((Ma.find ms ((Ma.tat ms k).n)).1)) _ _ rfl (by rfl) (fun _ => rfl) ?_
              simp only [n1, n3, n4]
              refine @wpG_p _ _ _ _ _ (some 44) (.int .i64 (k : Int)) _ _ rfl (by rfl) (fun _ => rfl) ?_
              simp only [n1, n3, n4]
              refine @wpG_p _ _ _ _ _ (some 45) (.bool (decide ((Ma.find ms ((Ma.tat ms k).n)).1 < (k : Int)))) _ _ rfl (by rfl) (fun W => op_int_lss W ((Ma.find ms ((Ma.tat ms k).n)).1) (k : Int) rfl rfl rfl Tryd.underlying3) ?_
              simp only [n1, n3, n4]
              refine wpG_done (fun V57 hv58 => ?_)
              have S59 : Hid (St w noB [] V57) := Lib.hid (S56.out.gr hv58)
              clear S56
              clear hv58
              refine ⟨rfl, hK _ _ ?_⟩
              clear hK
              obtain ⟨c60, hc60⟩ : ∃ q_, q_ = (decide ((Ma.find ms ((Ma.tat ms k).n)).1 < (k : Int))) := ⟨_, rfl⟩
              rw [← hc60]
              have Hc60 := Lib.hid hc60
              clear hc60
              cases c60 with
              | true =>
                have f61 := of_decide_eq_true Hc60.out.symm
                go_upto_region 15 with fail
                refine wpG_region_k (fun K hK => ?_)
                refine @wpG_p _ _ _ _ _ (some 46) (.int .i64 (k : Int)) _ _ rfl (by rfl) (fun _ => rfl) ?_
                simp only [n1, n3, n4]
                refine @wpG_p _ _ _ _ _ (some 2) (.int .i64 (k : Int)) _ _ rfl (by rfl) (fun _ => rfl) ?_
                simp only [n1, n3, n4]
                refine @wpG_p _ _ _ _ _ (some 3) (.int .i64 10) _ _ rfl (by rfl) (fun _ => rfl) ?_
                simp only [n1, n3, n4]
                refine wpG_done (fun V62 hv63 => ?_)
                have S64 : Hid (St w noB [] V62) := Lib.hid (S59.out.gr hv63)
                clear S59
                clear hv63
                refine ⟨rfl, hK _ _ ?_⟩
                clear hK
                go_wp2_with fail
                go_ret2
                refine ⟨?_, S64.out.bel⟩
                show Ending.returned (.tuple #[.int .i64 (k : Int), .int .i64 10]) = _
                (first | rfl | (have e_f32 := f32.out; have e_f53 := f53.out; rw [Ma.check_twice (by have := HLEN.out; omega) (by have := HLEN.out; omega) e_f32 HK_.out (by have := HLEN.out; omega) e_f53 (by omega)]))
              | false =>
                have f65 := of_decide_eq_false Hc60.out.symm
                go_upto_region 9 with fail
                refine wpG_region_k (fun K hK => ?_)
                refine @wpG_p _ _ _ _ _ (some 23) (.int .i64 (k : Int)) _ _ rfl (by rfl) (fun _ => rfl) ?_
                simp only [n1, n3, n4]
                refine @wpG_p _ _ _ _ _ (some 24) (.int .i64 ((k : Int) + 1)) _ _ rfl (by rfl) (fun W => op_i_add W (k : Int) 1 (by omega) rfl rfl rfl Tryd.underlying3) ?_
                simp only [n1, n3, n4]
                refine @wpG_p _ _ _ _ _ (some 4) (.int .i64 ((k : Int) + 1)) _ _ rfl (by rfl) (fun _ => rfl) ?_
                simp only [n1, n3, n4]
                refine wpG_done (fun V66 hv67 => ?_)
                have S68 : Hid (St w noB [] V66) := Lib.hid (S59.out.gr hv67)
                clear S59
                clear hv67
                refine ⟨rfl, hK _ _ ?_⟩
                clear hK
                go_wp2_with fail
                go_roundw
                case rel => exact ⟨k + 1, (by first | rfl | go_num), (by have e_f32 := f32.out; have e_f53 := f53.out; exact Ma.check_step HK_.out (by have := HLEN.out; omega) e_f53 (by omega)), (by omega), S68.out⟩
                case measure => first | (simp [intOf]; done) | (simp [intOf]; omega) | omega
          | false =>
            have f69 := of_decide_eq_false Hc40.out.symm
            go_upto_region 16 with fail
            refine wpG_region_k (fun K hK => ?_)
            refine @wpG_p _ _ _ _ _ (some 2) (.int .i64 0) _ _ rfl (by rfl) (fun _ => rfl) ?_
            simp only [n1, n3, n4]
            refine @wpG_p _ _ _ _ _ (some 3) (.int .i64 0) _ _ rfl (by rfl) (fun _ => rfl) ?_
            simp only [n1, n3, n4]
            refine wpG_done (fun V70 hv71 => ?_)
            have S72 : Hid (St w noB [] V70) := Lib.hid (S39.out.gr hv71)
            clear S39
            clear hv71
            refine ⟨rfl, hK _ _ ?_⟩
            clear hK
            go_wp2_with fail
            go_ret2
            refine ⟨?_, S72.out.bel⟩
            show Ending.returned (.tuple #[.int .i64 0, .int .i64 0]) = _
            (first | rfl | (have e_f32 := f32.out; rw [Ma.check_good (by have := HLEN.out; omega) (by have := HLEN.out; omega) e_f32 (by have h := HK_.out; have := HLEN.out; have e : k = ms.length := (by omega); rw [e] at h; exact h)]))

end Go.Proofs.YtpjjddjoegnipaaDoor
