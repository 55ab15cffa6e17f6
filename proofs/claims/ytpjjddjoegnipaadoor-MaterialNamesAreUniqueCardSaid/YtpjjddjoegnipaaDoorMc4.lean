/-
  Contracts: Find; few materials.
-/
import Derived.Test.YtpjjddjoegnipaaDoorMc3
import Derived.Handy
namespace Go.Proofs.YtpjjddjoegnipaaDoor
open Go Go.RowKit
set_option linter.unusedVariables false
set_option linter.unusedSimpArgs false
set_option maxRecDepth 1000000 in
set_option maxHeartbeats 4000000 in
theorem find_any (A : Option Addr) (n c : Nat) (ms : List Ma.Mt) (x : List UInt8) (w : World) (hT : Tbl w A n c ms) :
    Calls Tryd.prog 17 #[.slice A n c, .string (bstr x)] w fun e w' => e = .returned (.tuple #[.int .i64 ((Ma.find ms x).1), .bool ((Ma.find ms x).2)]) ∧ Below w.heap.size w w' := by
  have HTA := Lib.hid hT
  have HLEN := Lib.hid hT.len
  have hnb : n ≤ 9223372036854775807 := Nat.le_trans hT.cap hT.bnd
  clear hT
  have S1 : Hid (St w noB [] w) := Lib.hid (St.start w)
  go_enter Tryd.func17, Tryd.ntmps17
  go_upto_region 0 with fail
  refine wpG_region_k (fun K hK => ?_)
  refine @wpG_p _ _ _ _ _ (some 4) (.int .i64 0) _ _ rfl (by rfl) (fun _ => rfl) ?_
  simp only [n1, n3, n4]
  refine @wpG_p _ _ _ _ _ (some 5) (.bool false) _ _ rfl (by rfl) (fun _ => rfl) ?_
  simp only [n1, n3, n4]
  refine wpG_done (fun V2 hv3 => ?_)
  have S4 : Hid (St w noB [] V2) := Lib.hid (S1.out.gr hv3)
  clear S1
  clear hv3
  refine ⟨rfl, hK _ _ ?_⟩
  clear hK
  go_upto_region 1 with fail
  refine wpG_region_k (fun K hK => ?_)
  refine @wpG_p _ _ _ _ _ (some 8) (.slice A n c) _ _ rfl (by rfl) (fun _ => rfl) ?_
  simp only [n1, n3, n4]
  refine @wpG_p _ _ _ _ _ (some 9) (.int .i64 (n : Int)) _ _ rfl (by rfl) (fun W => by go_simp) ?_
  simp only [n1, n3, n4]
  refine @wpG_p _ _ _ _ _ (some 10) (.int .i64 0) _ _ rfl (by rfl) (fun _ => rfl) ?_
  simp only [n1, n3, n4]
  refine wpG_done (fun V5 hv6 => ?_)
  have S7 : Hid (St w noB [] V5) := Lib.hid (S4.out.gr hv6)
  clear S4
  clear hv6
  refine ⟨rfl, hK _ _ ?_⟩
  clear hK
  go_wp2_with fail
  go_loopw [10] (fun v10 wr => ∃ (k : Nat), v10 = .int .i64 (k : Int) ∧ k ≤ Ma.fnd ms x ∧ k ≤ n ∧ St w noB [] wr) (fun i _ => n - (intOf i).toNat)
  case atStart => exact ⟨0, rfl, Nat.zero_le _, Nat.zero_le _, S7.out⟩
  case round =>
    obtain ⟨k, rfl, hk_, hkn, hS⟩ := hrel
    have HK_ := Lib.hid hk_
    clear hk_
    have SL := Lib.hid hS
    clear S7 hS
    have S8 := SL
    clear SL
    go_upto_region 2 with fail
    refine wpG_region_k (fun K hK => ?_)
    refine @wpG_p _ _ _ _ _ (some 11) (.bool (decide ((k : Int) < (n : Int)))) _ _ rfl (by rfl) (fun W => op_int_lss W (k : Int) (n : Int) rfl rfl rfl Tryd.underlying3) ?_
    simp only [n1, n3, n4]
    refine wpG_done (fun V9 hv10 => ?_)
    have S11 : Hid (St w noB [] V9) := Lib.hid (S8.out.gr hv10)
    clear S8
    clear hv10
    refine ⟨rfl, hK _ _ ?_⟩
    clear hK
    obtain ⟨c12, hc12⟩ : ∃ q_, q_ = (decide ((k : Int) < (n : Int))) := ⟨_, rfl⟩
    rw [← hc12]
    have Hc12 := Lib.hid hc12
    clear hc12
    cases c12 with
    | true =>
      have f13 := of_decide_eq_true Hc12.out.symm
      go_upto_region 3 with fail
      refine wpG_region_k (fun K hK => ?_)
      refine @wpG_p _ _ _ _ _ (some 12) (.int .i64 (k : Int)) _ _ rfl (by rfl) (fun _ => rfl) ?_
      simp only [n1, n3, n4]
      obtain ⟨b14, o14, rfl⟩ := HTA.out.addr (by omega)
      refine @wpG_p _ _ _ _ _ (some 13) (.pointer (some ⟨b14, o14 + k * 8, none⟩)) _ _ rfl (by rfl) (fun W => by (go_simp <;> first | rfl | omega | (simp; omega))) ?_
      simp only [n1, n3, n4]
      refine @wpG_tk _ _ _ _ _ (some 14) (.agg #[.string (bstr ((Ma.tat ms k).n)), .bool ((Ma.tat ms k).s), .bool ((Ma.tat ms k).l), .bool ((Ma.tat ms k).f), .int .i64 ((Ma.tat ms k).fd), .int .i64 ((Ma.tat ms k).a), .int .i64 ((Ma.tat ms k).b), .int .i64 ((Ma.tat ms k).c)]) _ _ rfl (.load_mid (by rfl) 35 (.tmp 13) rfl b14 (o14 + k * 8) rfl [.string (bstr ((Ma.tat ms k).n)), .bool ((Ma.tat ms k).s), .bool ((Ma.tat ms k).l), .bool ((Ma.tat ms k).f), .int .i64 ((Ma.tat ms k).fd), .int .i64 ((Ma.tat ms k).a), .int .i64 ((Ma.tat ms k).b), .int .i64 ((Ma.tat ms k).c)] _ (fun W hg => ((HTA.out.gr ((S11.out.gr hg)).bel).elem (HTA.out.get (k := k) (by omega)))) Tryd.underlying35 rfl (by kernel_rfl)) ?_
      simp only [n1, n3, n4]
      refine wpG_val (some 7) rfl (by rfl) (fun W15 hg16 => ⟨.pointer (some ⟨W15.heap.size, 0, none⟩), W15.alloc (.cells #[.string ⟨#[]⟩, .bool false, .bool false, .bool false, .int .i64 0, .int .i64 0, .int .i64 0, .int .i64 0] 35), by (first | (go_simp; done) | (go_simp <;> rfl)), ?_⟩)
      simp only [n1, n3, n4]
      obtain ⟨g17, U18, hg_, hu_, hS_⟩ := (S11.out.gr hg16).made [.string ⟨#[]⟩, .bool false, .bool false, .bool false, .int .i64 0, .int .i64 0, .int .i64 0, .int .i64 0] 35
      rw [← hu_, ← hg_]
      have S19 : Hid (St w noB [blk g17 35 [.string ⟨#[]⟩, .bool false, .bool false, .bool false, .int .i64 0, .int .i64 0, .int .i64 0, .int .i64 0]] U18) := Lib.hid hS_
      clear S11
      clear hg_ hu_ hS_ hg16
      refine @wpG_p _ _ _ _ _ (some 6) (.int .i64 (k : Int)) _ _ rfl (by rfl) (fun _ => rfl) ?_
      simp only [n1, n3, n4]
      refine wpG_store (none) rfl (by rfl) (fun W20 hg21 => ⟨_, run_store_mid 35 (.tmp 7) (.tmp 14) rfl g17 0 #[.string (bstr ((Ma.tat ms k).n)), .bool ((Ma.tat ms k).s), .bool ((Ma.tat ms k).l), .bool ((Ma.tat ms k).f), .int .i64 ((Ma.tat ms k).fd), .int .i64 ((Ma.tat ms k).a), .int .i64 ((Ma.tat ms k).b), .int .i64 ((Ma.tat ms k).c)] rfl rfl ((S19.out.gr hg21).room 0 rfl 0 8 (by simp)) (by kernel_rfl) (by kernel_rfl), ?_⟩)
      simp only [n2]
      obtain ⟨U22, hu_, hS_⟩ := ((S19.out.gr hg21).put 0 rfl 0 (#[.string (bstr ((Ma.tat ms k).n)), .bool ((Ma.tat ms k).s), .bool ((Ma.tat ms k).l), .bool ((Ma.tat ms k).f), .int .i64 ((Ma.tat ms k).fd), .int .i64 ((Ma.tat ms k).a), .int .i64 ((Ma.tat ms k).b), .int .i64 ((Ma.tat ms k).c)] : Array Value).toList (ds := [.string (bstr ((Ma.tat ms k).n)), .bool ((Ma.tat ms k).s), .bool ((Ma.tat ms k).l), .bool ((Ma.tat ms k).f), .int .i64 ((Ma.tat ms k).fd), .int .i64 ((Ma.tat ms k).a), .int .i64 ((Ma.tat ms k).b), .int .i64 ((Ma.tat ms k).c)]) rfl).named
      rw [← hu_]
      have S23 : Hid (St w noB [blk g17 35 [.string (bstr ((Ma.tat ms k).n)), .bool ((Ma.tat ms k).s), .bool ((Ma.tat ms k).l), .bool ((Ma.tat ms k).f), .int .i64 ((Ma.tat ms k).fd), .int .i64 ((Ma.tat ms k).a), .int .i64 ((Ma.tat ms k).b), .int .i64 ((Ma.tat ms k).c)]] U22) := Lib.hid hS_
      clear S19
      clear hu_ hS_ hg21
      refine wpG_done (fun V24 hv25 => ?_)
      have S26 : Hid (St w noB [blk g17 35 [.string (bstr ((Ma.tat ms k).n)), .bool ((Ma.tat ms k).s), .bool ((Ma.tat ms k).l), .bool ((Ma.tat ms k).f), .int .i64 ((Ma.tat ms k).fd), .int .i64 ((Ma.tat ms k).a), .int .i64 ((Ma.tat ms k).b), .int .i64 ((Ma.tat ms k).c)]] V24) := Lib.hid (S23.out.gr hv25)
      clear S23
      clear hv25
      refine ⟨rfl, hK _ _ ?_⟩
      clear hK
      go_upto_region 4 with fail
      refine wpG_region_k (fun K hK => ?_)
      refine @wpG_p _ _ _ _ _ (some 15) (.pointer (some ⟨g17, 0, none⟩)) _ _ rfl (by rfl) (fun W => by go_simp) ?_
      simp only [n1, n3, n4]
      refine @wpG_r _ _ _ _ _ (some 16) (.string (bstr ((Ma.tat ms k).n))) _ _ rfl (by rfl) (fun W hg => by have c := (S26.out.gr hg).cell 0 rfl 0 rfl; go_simp) ?_
      simp only [n1, n3, n4]
      refine @wpG_p _ _ _ _ _ (some 17) (.string (bstr x)) _ _ rfl (by rfl) (fun _ => rfl) ?_
      simp only [n1, n3, n4]
      refine @wpG_p _ _ _ _ _ (some 18) (.bool (decide ((Ma.tat ms k).n = x))) _ _ rfl (by rfl) (fun W => op_str_eql W ((Ma.tat ms k).n) x rfl rfl rfl Tryd.underlying9) ?_
      simp only [n1, n3, n4]
      refine wpG_done (fun V27 hv28 => ?_)
      have S29 : Hid (St w noB [blk g17 35 [.string (bstr ((Ma.tat ms k).n)), .bool ((Ma.tat ms k).s), .bool ((Ma.tat ms k).l), .bool ((Ma.tat ms k).f), .int .i64 ((Ma.tat ms k).fd), .int .i64 ((Ma.tat ms k).a), .int .i64 ((Ma.tat ms k).b), .int .i64 ((Ma.tat ms k).c)]] V27) := Lib.hid (S26.out.gr hv28)
      clear S26
      clear hv28
      refine ⟨rfl, hK _ _ ?_⟩
      clear hK
      obtain ⟨c30, hc30⟩ : ∃ q_, q_ = (decide ((Ma.tat ms k).n = x)) := ⟨_, rfl⟩
      rw [← hc30]
      have Hc30 := Lib.hid hc30
      clear hc30
      cases c30 with
      | true =>
        have f31 := Lib.hid (of_decide_eq_true Hc30.out.symm)
        go_upto_region 5 with fail
        refine wpG_region_k (fun K hK => ?_)
        refine @wpG_p _ _ _ _ _ (some 19) (.int .i64 (k : Int)) _ _ rfl (by rfl) (fun _ => rfl) ?_
        simp only [n1, n3, n4]
        refine @wpG_p _ _ _ _ _ (some 4) (.int .i64 (k : Int)) _ _ rfl (by rfl) (fun _ => rfl) ?_
        simp only [n1, n3, n4]
        refine @wpG_p _ _ _ _ _ (some 5) (.bool true) _ _ rfl (by rfl) (fun _ => rfl) ?_
        simp only [n1, n3, n4]
        refine wpG_done (fun V32 hv33 => ?_)
        have S34 : Hid (St w noB [blk g17 35 [.string (bstr ((Ma.tat ms k).n)), .bool ((Ma.tat ms k).s), .bool ((Ma.tat ms k).l), .bool ((Ma.tat ms k).f), .int .i64 ((Ma.tat ms k).fd), .int .i64 ((Ma.tat ms k).a), .int .i64 ((Ma.tat ms k).b), .int .i64 ((Ma.tat ms k).c)]] V32) := Lib.hid (S29.out.gr hv33)
        clear S29
        clear hv33
        refine ⟨rfl, hK _ _ ?_⟩
        clear hK
        go_wp2_with fail
        go_ret2
        refine ⟨?_, S34.out.bel⟩
        show Ending.returned (.tuple #[.int .i64 (k : Int), .bool true]) = _
        (first | rfl | (have e_f31 := f31.out; have hf := Ma.fnd_hit HK_.out (by have := HLEN.out; omega) e_f31; rw [hf]))
      | false =>
        have f35 := of_decide_eq_false Hc30.out.symm
        go_upto_region 6 with fail
        refine wpG_region_k (fun K hK => ?_)
        refine @wpG_p _ _ _ _ _ (some 20) (.int .i64 ((k : Int) + 1)) _ _ rfl (by rfl) (fun W => op_i_add W (k : Int) 1 (by omega) rfl rfl rfl Tryd.underlying3) ?_
        simp only [n1, n3, n4]
        refine @wpG_p _ _ _ _ _ (some 10) (.int .i64 ((k : Int) + 1)) _ _ rfl (by rfl) (fun _ => rfl) ?_
        simp only [n1, n3, n4]
        refine wpG_done (fun V36 hv37 => ?_)
        have S38 : Hid (St w noB [blk g17 35 [.string (bstr ((Ma.tat ms k).n)), .bool ((Ma.tat ms k).s), .bool ((Ma.tat ms k).l), .bool ((Ma.tat ms k).f), .int .i64 ((Ma.tat ms k).fd), .int .i64 ((Ma.tat ms k).a), .int .i64 ((Ma.tat ms k).b), .int .i64 ((Ma.tat ms k).c)]] V36) := Lib.hid (S29.out.gr hv37)
        clear S29
        clear hv37
        refine ⟨rfl, hK _ _ ?_⟩
        clear hK
        go_wp2_with fail
        go_roundw
        case rel => exact ⟨k + 1, (by first | rfl | go_num), (by exact Ma.fnd_step HK_.out (by have := HLEN.out; omega) f35), (by omega), S38.out.sub (.cons _ .slnil)⟩
        case measure => first | (simp [intOf]; done) | (simp [intOf]; omega) | omega
    | false =>
      have f39 := of_decide_eq_false Hc12.out.symm
      go_upto_region 7 with fail
      refine wpG_region_k (fun K hK => ?_)
      refine @wpG_p _ _ _ _ _ (some 4) (.int .i64 0) _ _ rfl (by rfl) (fun _ => rfl) ?_
      simp only [n1, n3, n4]
      refine @wpG_p _ _ _ _ _ (some 5) (.bool false) _ _ rfl (by rfl) (fun _ => rfl) ?_
      simp only [n1, n3, n4]
      refine wpG_done (fun V40 hv41 => ?_)
      have S42 : Hid (St w noB [] V40) := Lib.hid (S11.out.gr hv41)
      clear S11
      clear hv41
      refine ⟨rfl, hK _ _ ?_⟩
      clear hK
      go_wp2_with fail
      go_ret2
      refine ⟨?_, S42.out.bel⟩
      show Ending.returned (.tuple #[.int .i64 0, .bool false]) = _
      (first | rfl | (have hf := Ma.fnd_none (ms := ms) (x := x) (by have h := HK_.out; have := HLEN.out; have e : k = ms.length := (by omega); rw [e] at h; exact h); rw [hf]))
set_option maxRecDepth 1000000 in
set_option maxHeartbeats 4000000 in
theorem rfind_any (A : Option Addr) (n c : Nat) (ms : List Ma.Mt) (x : List UInt8) (w : World) (hT : Tbl w A n c ms) :
    Calls Tryd.prog 18 #[.slice A n c, .string (bstr x)] w fun e w' => e = .returned (.tuple #[.int .i64 ((Ma.find ms x).1), .bool ((Ma.find ms x).2)]) ∧ Below w.heap.size w w' := by
  have HTA := Lib.hid hT
  have HLEN := Lib.hid hT.len
  have hnb : n ≤ 9223372036854775807 := Nat.le_trans hT.cap hT.bnd
  clear hT
  have S1 : Hid (St w noB [] w) := Lib.hid (St.start w)
  go_enter Tryd.func18, Tryd.ntmps18
  go_upto_region 0 with fail
  refine wpG_region_k (fun K hK => ?_)
  refine @wpG_p _ _ _ _ _ (some 4) (.int .i64 0) _ _ rfl (by rfl) (fun _ => rfl) ?_
  simp only [n1, n3, n4]
  refine @wpG_p _ _ _ _ _ (some 5) (.bool false) _ _ rfl (by rfl) (fun _ => rfl) ?_
  simp only [n1, n3, n4]
  refine wpG_done (fun V2 hv3 => ?_)
  have S4 : Hid (St w noB [] V2) := Lib.hid (S1.out.gr hv3)
  clear S1
  clear hv3
  refine ⟨rfl, hK _ _ ?_⟩
  clear hK
  go_upto_region 1 with fail
  refine wpG_region_k (fun K hK => ?_)
  refine @wpG_p _ _ _ _ _ (some 6) (.int .i64 0) _ _ rfl (by rfl) (fun _ => rfl) ?_
  simp only [n1, n3, n4]
  refine wpG_done (fun V5 hv6 => ?_)
  have S7 : Hid (St w noB [] V5) := Lib.hid (S4.out.gr hv6)
  clear S4
  clear hv6
  refine ⟨rfl, hK _ _ ?_⟩
  clear hK
  go_wp2_with fail
  go_loopw [6] (fun v6 wr => ∃ (k : Nat), v6 = .int .i64 (k : Int) ∧ k ≤ Ma.fnd ms x ∧ k ≤ n ∧ St w noB [] wr) (fun i _ => n - (intOf i).toNat)
  case atStart => exact ⟨0, rfl, Nat.zero_le _, Nat.zero_le _, S7.out⟩
  case round =>
    obtain ⟨k, rfl, hk_, hkn, hS⟩ := hrel
    have HK_ := Lib.hid hk_
    clear hk_
    have SL := Lib.hid hS
    clear S7 hS
    have S8 := SL
    clear SL
    go_upto_region 2 with fail
    refine wpG_region_k (fun K hK => ?_)
    refine @wpG_p _ _ _ _ _ (some 7) (.int .i64 (k : Int)) _ _ rfl (by rfl) (fun _ => rfl) ?_
    simp only [n1, n3, n4]
    refine @wpG_p _ _ _ _ _ (some 8) (.slice A n c) _ _ rfl (by rfl) (fun _ => rfl) ?_
    simp only [n1, n3, n4]
    refine @wpG_p _ _ _ _ _ (some 9) (.int .i64 (n : Int)) _ _ rfl (by rfl) (fun W => by go_simp) ?_
    simp only [n1, n3, n4]
    refine @wpG_p _ _ _ _ _ (some 10) (.bool (decide ((k : Int) < (n : Int)))) _ _ rfl (by rfl) (fun W => op_int_lss W (k : Int) (n : Int) rfl rfl rfl Tryd.underlying3) ?_
    simp only [n1, n3, n4]
    refine wpG_done (fun V9 hv10 => ?_)
    have S11 : Hid (St w noB [] V9) := Lib.hid (S8.out.gr hv10)
    clear S8
    clear hv10
    refine ⟨rfl, hK _ _ ?_⟩
    clear hK
    obtain ⟨c12, hc12⟩ : ∃ q_, q_ = (decide ((k : Int) < (n : Int))) := ⟨_, rfl⟩
    rw [← hc12]
    have Hc12 := Lib.hid hc12
    clear hc12
    cases c12 with
    | true =>
      have f13 := of_decide_eq_true Hc12.out.symm
      go_upto_region 4 with fail
      refine wpG_region_k (fun K hK => ?_)
      refine @wpG_p _ _ _ _ _ (some 13) (.slice A n c) _ _ rfl (by rfl) (fun _ => rfl) ?_
      simp only [n1, n3, n4]
      refine @wpG_p _ _ _ _ _ (some 14) (.int .i64 (k : Int)) _ _ rfl (by rfl) (fun _ => rfl) ?_
      simp only [n1, n3, n4]
      obtain ⟨b14, o14, rfl⟩ := HTA.out.addr (by omega)
      refine @wpG_p _ _ _ _ _ (some 15) (.pointer (some ⟨b14, o14 + k * 8, none⟩)) _ _ rfl (by rfl) (fun W => by (go_simp <;> first | rfl | omega | (simp; omega))) ?_
      simp only [n1, n3, n4]
      refine @wpG_p _ _ _ _ _ (some 16) (.pointer (some ⟨b14, o14 + k * 8, none⟩)) _ _ rfl (by rfl) (fun W => by (go_simp <;> first | rfl | omega)) ?_
      simp only [n1, n3, n4]
      refine @wpG_r _ _ _ _ _ (some 17) (.string (bstr ((Ma.tat ms k).n))) _ _ rfl (by rfl) (fun W hg => by have c := (((HTA.out.gr ((S11.out.gr hg)).bel).elem (HTA.out.get (k := k) (by omega)))) 0 _ rfl; (try simp only [Nat.add_zero, Nat.zero_add] at c); go_simp) ?_
      simp only [n1, n3, n4]
      refine @wpG_p _ _ _ _ _ (some 18) (.string (bstr x)) _ _ rfl (by rfl) (fun _ => rfl) ?_
      simp only [n1, n3, n4]
      refine @wpG_p _ _ _ _ _ (some 19) (.bool (decide ((Ma.tat ms k).n = x))) _ _ rfl (by rfl) (fun W => op_str_eql W ((Ma.tat ms k).n) x rfl rfl rfl Tryd.underlying9) ?_
      simp only [n1, n3, n4]
      refine wpG_done (fun V15 hv16 => ?_)
      have S17 : Hid (St w noB [] V15) := Lib.hid (S11.out.gr hv16)
      clear S11
      clear hv16
      refine ⟨rfl, hK _ _ ?_⟩
      clear hK
      obtain ⟨c18, hc18⟩ : ∃ q_, q_ = (decide ((Ma.tat ms k).n = x)) := ⟨_, rfl⟩
      rw [← hc18]
      have Hc18 := Lib.hid hc18
      clear hc18
      cases c18 with
      | true =>
        have f19 := Lib.hid (of_decide_eq_true Hc18.out.symm)
        go_upto_region 5 with fail
        refine wpG_region_k (fun K hK => ?_)
        refine @wpG_p _ _ _ _ _ (some 20) (.int .i64 (k : Int)) _ _ rfl (by rfl) (fun _ => rfl) ?_
        simp only [n1, n3, n4]
        refine @wpG_p _ _ _ _ _ (some 4) (.int .i64 (k : Int)) _ _ rfl (by rfl) (fun _ => rfl) ?_
        simp only [n1, n3, n4]
        refine @wpG_p _ _ _ _ _ (some 5) (.bool true) _ _ rfl (by rfl) (fun _ => rfl) ?_
        simp only [n1, n3, n4]
        refine wpG_done (fun V20 hv21 => ?_)
        have S22 : Hid (St w noB [] V20) := Lib.hid (S17.out.gr hv21)
        clear S17
        clear hv21
        refine ⟨rfl, hK _ _ ?_⟩
        clear hK
        go_wp2_with fail
        go_ret2
        refine ⟨?_, S22.out.bel⟩
        show Ending.returned (.tuple #[.int .i64 (k : Int), .bool true]) = _
        (first | rfl | (have e_f19 := f19.out; have hf := Ma.fnd_hit HK_.out (by have := HLEN.out; omega) e_f19; rw [hf]))
      | false =>
        have f23 := of_decide_eq_false Hc18.out.symm
        go_upto_region 3 with fail
        refine wpG_region_k (fun K hK => ?_)
        refine @wpG_p _ _ _ _ _ (some 11) (.int .i64 (k : Int)) _ _ rfl (by rfl) (fun _ => rfl) ?_
        simp only [n1, n3, n4]
        refine @wpG_p _ _ _ _ _ (some 12) (.int .i64 ((k : Int) + 1)) _ _ rfl (by rfl) (fun W => op_i_add W (k : Int) 1 (by omega) rfl rfl rfl Tryd.underlying3) ?_
        simp only [n1, n3, n4]
        refine @wpG_p _ _ _ _ _ (some 6) (.int .i64 ((k : Int) + 1)) _ _ rfl (by rfl) (fun _ => rfl) ?_
        simp only [n1, n3, n4]
        refine wpG_done (fun V24 hv25 => ?_)
        have S26 : Hid (St w noB [] V24) := Lib.hid (S17.out.gr hv25)
        clear S17
        clear hv25
        refine ⟨rfl, hK _ _ ?_⟩
        clear hK
        go_wp2_with fail
        go_roundw
        case rel => exact ⟨k + 1, (by first | rfl | go_num), (by exact Ma.fnd_step HK_.out (by have := HLEN.out; omega) f23), (by omega), S26.out⟩
        case measure => first | (simp [intOf]; done) | (simp [intOf]; omega) | omega
    | false =>
      have f27 := of_decide_eq_false Hc12.out.symm
      go_upto_region 6 with fail
      refine wpG_region_k (fun K hK => ?_)
      refine @wpG_p _ _ _ _ _ (some 4) (.int .i64 0) _ _ rfl (by rfl) (fun _ => rfl) ?_
      simp only [n1, n3, n4]
      refine @wpG_p _ _ _ _ _ (some 5) (.bool false) _ _ rfl (by rfl) (fun _ => rfl) ?_
      simp only [n1, n3, n4]
      refine wpG_done (fun V28 hv29 => ?_)
      have S30 : Hid (St w noB [] V28) := Lib.hid (S11.out.gr hv29)
      clear S11
      clear hv29
      refine ⟨rfl, hK _ _ ?_⟩
      clear hK
      go_wp2_with fail
      go_ret2
      refine ⟨?_, S30.out.bel⟩
      show Ending.returned (.tuple #[.int .i64 0, .bool false]) = _
      (first | rfl | (have hf := Ma.fnd_none (ms := ms) (x := x) (by have h := HK_.out; have := HLEN.out; have e : k = ms.length := (by omega); rw [e] at h; exact h); rw [hf]))
set_option maxRecDepth 1000000 in
set_option maxHeartbeats 4000000 in
theorem few_any (A : Option Addr) (n c : Nat) (ms : List Ma.Mt) (w : World) (hT : Tbl w A n c ms) :
    Calls Tryd.prog 10 #[.slice A n c] w fun e w' => e = .returned (.bool (Ma.few ms)) ∧ Below w.heap.size w w' := by
  have HTA := Lib.hid hT
  have HLEN := Lib.hid hT.len
  have hnb : n ≤ 9223372036854775807 := Nat.le_trans hT.cap hT.bnd
  clear hT
  have S1 : Hid (St w noB [] w) := Lib.hid (St.start w)
  go_enter Tryd.func10, Tryd.ntmps10
  go_upto_region 0 with fail
  refine wpG_region_k (fun K hK => ?_)
  refine @wpG_p _ _ _ _ _ (some 2) (.bool false) _ _ rfl (by rfl) (fun _ => rfl) ?_
  simp only [n1, n3, n4]
  refine wpG_done (fun V2 hv3 => ?_)
  have S4 : Hid (St w noB [] V2) := Lib.hid (S1.out.gr hv3)
  clear S1
  clear hv3
  refine ⟨rfl, hK _ _ ?_⟩
  clear hK
  go_upto_region 1 with fail
  refine wpG_region_k (fun K hK => ?_)
  refine @wpG_p _ _ _ _ _ (some 4) (.slice A n c) _ _ rfl (by rfl) (fun _ => rfl) ?_
  simp only [n1, n3, n4]
  refine @wpG_p _ _ _ _ _ (some 5) (.int .i64 (n : Int)) _ _ rfl (by rfl) (fun W => by go_simp) ?_
  simp only [n1, n3, n4]
  refine @wpG_p _ _ _ _ _ (some 6) (.bool (decide ((n : Int) > 300))) _ _ rfl (by rfl) (fun W => op_int_gtr W (n : Int) 300 rfl rfl rfl Tryd.underlying3) ?_
  simp only [n1, n3, n4]
  refine wpG_done (fun V5 hv6 => ?_)
  have S7 : Hid (St w noB [] V5) := Lib.hid (S4.out.gr hv6)
  clear S4
  clear hv6
  refine ⟨rfl, hK _ _ ?_⟩
  clear hK
  obtain ⟨c8, hc8⟩ : ∃ q_, q_ = (decide ((n : Int) > 300)) := ⟨_, rfl⟩
  rw [← hc8]
  have Hc8 := Lib.hid hc8
  clear hc8
  cases c8 with
  | true =>
    have f9 := of_decide_eq_true Hc8.out.symm
    go_upto_region 2 with fail
    refine wpG_region_k (fun K hK => ?_)
    refine @wpG_p _ _ _ _ _ (some 2) (.bool false) _ _ rfl (by rfl) (fun _ => rfl) ?_
    simp only [n1, n3, n4]
    refine wpG_done (fun V10 hv11 => ?_)
    have S12 : Hid (St w noB [] V10) := Lib.hid (S7.out.gr hv11)
    clear S7
    clear hv11
    refine ⟨rfl, hK _ _ ?_⟩
    clear hK
    go_wp2_with fail
    go_ret
    refine ⟨?_, S12.out.bel⟩
    show Ending.returned (.bool false) = _
    (first | rfl | (exact rb_f (Ma.few_long (by have := HLEN.out; omega))))
  | false =>
    have f13 := of_decide_eq_false Hc8.out.symm
    go_upto_region 3 with fail
    refine wpG_region_k (fun K hK => ?_)
    refine @wpG_p _ _ _ _ _ (some 3) (.int .i64 0) _ _ rfl (by rfl) (fun _ => rfl) ?_
    simp only [n1, n3, n4]
    refine wpG_done (fun V14 hv15 => ?_)
    have S16 : Hid (St w noB [] V14) := Lib.hid (S7.out.gr hv15)
    clear S7
    clear hv15
    refine ⟨rfl, hK _ _ ?_⟩
    clear hK
    go_wp2_with fail
    go_loopw [3] (fun v3 wr => ∃ (k : Nat), v3 = .int .i64 (k : Int) ∧ k ≤ Ma.ff (fun i => decide ((Ma.tat ms i).n.length ≤ 60)) ms.length ∧ k ≤ n ∧ St w noB [] wr) (fun i _ => n - (intOf i).toNat)
    case atStart => exact ⟨0, rfl, Nat.zero_le _, Nat.zero_le _, S16.out⟩
    case round =>
      obtain ⟨k, rfl, hk_, hkn, hS⟩ := hrel
      have HK_ := Lib.hid hk_
      clear hk_
      have SL := Lib.hid hS
      clear S16 hS
      have S17 := SL
      clear SL
      go_upto_region 4 with fail
      refine wpG_region_k (fun K hK => ?_)
      refine @wpG_p _ _ _ _ _ (some 7) (.int .i64 (k : Int)) _ _ rfl (by rfl) (fun _ => rfl) ?_
      simp only [n1, n3, n4]
      refine @wpG_p _ _ _ _ _ (some 8) (.slice A n c) _ _ rfl (by rfl) (fun _ => rfl) ?_
      simp only [n1, n3, n4]
      refine @wpG_p _ _ _ _ _ (some 9) (.int .i64 (n : Int)) _ _ rfl (by rfl) (fun W => by go_simp) ?_
      simp only [n1, n3, n4]
      refine @wpG_p _ _ _ _ _ (some 10) (.bool (decide ((k : Int) < (n : Int)))) _ _ rfl (by rfl) (fun W => op_int_lss W (k : Int) (n : Int) rfl rfl rfl Tryd.underlying3) ?_
      simp only [n1, n3, n4]
      refine wpG_done (fun V18 hv19 => ?_)
      have S20 : Hid (St w noB [] V18) := Lib.hid (S17.out.gr hv19)
      clear S17
      clear hv19
      refine ⟨rfl, hK _ _ ?_⟩
      clear hK
      obtain ⟨c21, hc21⟩ : ∃ q_, q_ = (decide ((k : Int) < (n : Int))) := ⟨_, rfl⟩
      rw [← hc21]
      have Hc21 := Lib.hid hc21
      clear hc21
      cases c21 with
      | true =>
        have f22 := of_decide_eq_true Hc21.out.symm
        go_upto_region 6 with fail
        refine wpG_region_k (fun K hK => ?_)
        refine @wpG_p _ _ _ _ _ (some 13) (.slice A n c) _ _ rfl (by rfl) (fun _ => rfl) ?_
        simp only [n1, n3, n4]
        refine @wpG_p _ _ _ _ _ (some 14) (.int .i64 (k : Int)) _ _ rfl (by rfl) (fun _ => rfl) ?_
        simp only [n1, n3, n4]
        obtain ⟨b23, o23, rfl⟩ := HTA.out.addr (by omega)
        refine @wpG_p _ _ _ _ _ (some 15) (.pointer (some ⟨b23, o23 + k * 8, none⟩)) _ _ rfl (by rfl) (fun W => by (go_simp <;> first | rfl | omega | (simp; omega))) ?_
        simp only [n1, n3, n4]
        refine @wpG_p _ _ _ _ _ (some 16) (.pointer (some ⟨b23, o23 + k * 8, none⟩)) _ _ rfl (by rfl) (fun W => by (go_simp <;> first | rfl | omega)) ?_
        simp only [n1, n3, n4]
        refine @wpG_r _ _ _ _ _ (some 17) (.string (bstr ((Ma.tat ms k).n))) _ _ rfl (by rfl) (fun W hg => by have c := (((HTA.out.gr ((S20.out.gr hg)).bel).elem (HTA.out.get (k := k) (by omega)))) 0 _ rfl; (try simp only [Nat.add_zero, Nat.zero_add] at c); go_simp) ?_
        simp only [n1, n3, n4]
        refine @wpG_p _ _ _ _ _ (some 18) (.int .i64 (((Ma.tat ms k).n).length : Int)) _ _ rfl (by rfl) (fun W => op_str_len W ((Ma.tat ms k).n) rfl rfl Tryd.underlying9) ?_
        simp only [n1, n3, n4]
        refine @wpG_p _ _ _ _ _ (some 19) (.bool (decide ((((Ma.tat ms k).n).length : Int) > 60))) _ _ rfl (by rfl) (fun W => op_int_gtr W (((Ma.tat ms k).n).length : Int) 60 rfl rfl rfl Tryd.underlying3) ?_
        simp only [n1, n3, n4]
        refine wpG_done (fun V24 hv25 => ?_)
        have S26 : Hid (St w noB [] V24) := Lib.hid (S20.out.gr hv25)
        clear S20
        clear hv25
        refine ⟨rfl, hK _ _ ?_⟩
        clear hK
        obtain ⟨c27, hc27⟩ : ∃ q_, q_ = (decide ((((Ma.tat ms k).n).length : Int) > 60)) := ⟨_, rfl⟩
        rw [← hc27]
        have Hc27 := Lib.hid hc27
        clear hc27
        cases c27 with
        | true =>
          have f28 := of_decide_eq_true Hc27.out.symm
          go_upto_region 7 with fail
          refine wpG_region_k (fun K hK => ?_)
          refine @wpG_p _ _ _ _ _ (some 2) (.bool false) _ _ rfl (by rfl) (fun _ => rfl) ?_
          simp only [n1, n3, n4]
          refine wpG_done (fun V29 hv30 => ?_)
          have S31 : Hid (St w noB [] V29) := Lib.hid (S26.out.gr hv30)
          clear S26
          clear hv30
          refine ⟨rfl, hK _ _ ?_⟩
          clear hK
          go_wp2_with fail
          go_ret
          refine ⟨?_, S31.out.bel⟩
          show Ending.returned (.bool false) = _
          (first | rfl | (exact rb_f (Ma.few_no HK_.out (by have := HLEN.out; omega) (by omega))))
        | false =>
          have f32 := of_decide_eq_false Hc27.out.symm
          go_upto_region 5 with fail
          refine wpG_region_k (fun K hK => ?_)
          refine @wpG_p _ _ _ _ _ (some 11) (.int .i64 (k : Int)) _ _ rfl (by rfl) (fun _ => rfl) ?_
          simp only [n1, n3, n4]
          refine @wpG_p _ _ _ _ _ (some 12) (.int .i64 ((k : Int) + 1)) _ _ rfl (by rfl) (fun W => op_i_add W (k : Int) 1 (by omega) rfl rfl rfl Tryd.underlying3) ?_
          simp only [n1, n3, n4]
          refine @wpG_p _ _ _ _ _ (some 3) (.int .i64 ((k : Int) + 1)) _ _ rfl (by rfl) (fun _ => rfl) ?_
          simp only [n1, n3, n4]
          refine wpG_done (fun V33 hv34 => ?_)
          have S35 : Hid (St w noB [] V33) := Lib.hid (S26.out.gr hv34)
          clear S26
          clear hv34
          refine ⟨rfl, hK _ _ ?_⟩
          clear hK
          go_wp2_with fail
          go_roundw
          case rel => exact ⟨k + 1, (by first | rfl | go_num), (by exact Ma.few_step HK_.out (by have := HLEN.out; omega) (by omega)), (by omega), S35.out⟩
          case measure => first | (simp [intOf]; done) | (simp [intOf]; omega) | omega
      | false =>
        have f36 := of_decide_eq_false Hc21.out.symm
        go_upto_region 8 with fail
        refine wpG_region_k (fun K hK => ?_)
        refine @wpG_p _ _ _ _ _ (some 2) (.bool true) _ _ rfl (by rfl) (fun _ => rfl) ?_
        simp only [n1, n3, n4]
        refine wpG_done (fun V37 hv38 => ?_)
        have S39 : Hid (St w noB [] V37) := Lib.hid (S20.out.gr hv38)
        clear S20
        clear hv38
        refine ⟨rfl, hK _ _ ?_⟩
        clear hK
        go_wp2_with fail
        go_ret
        refine ⟨?_, S39.out.bel⟩
        show Ending.returned (.bool true) = _
        (first | rfl | (exact rb_t (Ma.few_yes (by have := HLEN.out; omega) (by have h := HK_.out; have := HLEN.out; have e : k = ms.length := (by omega); rw [e] at h; exact h))))

end Go.Proofs.YtpjjddjoegnipaaDoor
