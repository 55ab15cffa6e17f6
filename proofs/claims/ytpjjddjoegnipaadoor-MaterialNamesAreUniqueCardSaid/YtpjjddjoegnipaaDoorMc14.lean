/-
  Contracts: a table printed.
-/
import Derived.Test.YtpjjddjoegnipaaDoorMc13
import Derived.Test.YtpjjddjoegnipaaDoorMc7
import Derived.Test.YtpjjddjoegnipaaDoorMag
import Derived.Handy
namespace Go.Proofs.YtpjjddjoegnipaaDoor
open Go Go.RowKit
set_option linter.unusedVariables false
set_option linter.unusedSimpArgs false
set_option maxRecDepth 1000000 in
set_option maxHeartbeats 4000000 in
theorem print_any (A : Option Addr) (n c : Nat) (ms : List Ma.Mt) (w : World) (hT : Tbl w A n c ms) (hK : Kt w) :
    Calls Tryd.prog 13 #[.slice A n c] w fun e w' => e = .returned (.tuple #[.string (bstr ((Ma.print ms).1)), .int .i64 ((Ma.print ms).2)]) ∧ Below w.heap.size w w' := by
  have HTA := Lib.hid hT
  have HLEN := Lib.hid hT.len
  have hnb : n ≤ 9223372036854775807 := Nat.le_trans hT.cap hT.bnd
  clear hT
  have HK := Lib.hid hK
  clear hK
  have S1 : Hid (St w noB [] w) := Lib.hid (St.start w)
  go_enter Tryd.func13, Tryd.ntmps13
  go_upto_region 0 with fail
  refine wpG_region_k (fun K hK => ?_)
  refine @wpG_p _ _ _ _ _ (some 2) (.string ⟨#[]⟩) _ _ rfl (by rfl) (fun _ => rfl) ?_
  simp only [n1, n3, n4]
  refine @wpG_p _ _ _ _ _ (some 3) (.int .i64 0) _ _ rfl (by rfl) (fun _ => rfl) ?_
  simp only [n1, n3, n4]
  refine wpG_done (fun V2 hv3 => ?_)
  have S4 : Hid (St w noB [] V2) := Lib.hid (S1.out.gr hv3)
  clear S1
  clear hv3
  refine ⟨rfl, hK _ _ ?_⟩
  clear hK
  go_upto_region 1 with fail
  refine wpG_region_k (fun K hK => ?_)
  refine @wpG_p _ _ _ _ _ (some 10) (.slice A n c) _ _ rfl (by rfl) (fun _ => rfl) ?_
  simp only [n1, n3, n4]
  refine @wpG_tk _ _ _ _ _ (some 11) (.tuple #[.int .i64 ((Ma.check ms).1), .int .i64 ((Ma.check ms).2)]) _ _ rfl (.call (f := 11) (args := #[.slice A n c]) (by rfl) (fun W => by go_simp) (fun W hg => check_any _ _ _ ms W (HTA.out.gr (S4.out.gr hg).bel) (HK.out.gr (S4.out.gr hg).bel))) ?_
  simp only [n1, n3, n4]
  refine @wpG_p _ _ _ _ _ (some 9) (.tuple #[.int .i64 ((Ma.check ms).1), .int .i64 ((Ma.check ms).2)]) _ _ rfl (by rfl) (fun _ => rfl) ?_
  simp only [n1, n3, n4]
  refine @wpG_p _ _ _ _ _ (some 12) (.int .i64 ((Ma.check ms).1)) _ _ rfl (by rfl) (fun W => by go_simp) ?_
  simp only [n1, n3, n4]
  refine @wpG_p _ _ _ _ _ (some 13) (.int .i64 ((Ma.check ms).2)) _ _ rfl (by rfl) (fun W => by go_simp) ?_
  simp only [n1, n3, n4]
  refine @wpG_p _ _ _ _ _ (some 4) (.int .i64 ((Ma.check ms).1)) _ _ rfl (by rfl) (fun _ => rfl) ?_
  simp only [n1, n3, n4]
  refine @wpG_p _ _ _ _ _ (some 5) (.int .i64 ((Ma.check ms).2)) _ _ rfl (by rfl) (fun _ => rfl) ?_
  simp only [n1, n3, n4]
  refine wpG_done (fun V5 hv6 => ?_)
  have S7 : Hid (St w noB [] V5) := Lib.hid (S4.out.gr hv6)
  clear S4
  clear hv6
  refine ⟨rfl, hK _ _ ?_⟩
  clear hK
  go_upto_region 2 with fail
  refine wpG_region_k (fun K hK => ?_)
  refine @wpG_p _ _ _ _ _ (some 14) (.int .i64 ((Ma.check ms).2)) _ _ rfl (by rfl) (fun _ => rfl) ?_
  simp only [n1, n3, n4]
  refine @wpG_p _ _ _ _ _ (some 15) (.bool (decide ((Ma.check ms).2 ≠ 0))) _ _ rfl (by rfl) (fun W => op_int_neq W ((Ma.check ms).2) 0 rfl rfl rfl Tryd.underlying25) ?_
  simp only [n1, n3, n4]
  refine wpG_done (fun V8 hv9 => ?_)
  have S10 : Hid (St w noB [] V8) := Lib.hid (S7.out.gr hv9)
  clear S7
  clear hv9
  refine ⟨rfl, hK _ _ ?_⟩
  clear hK
  obtain ⟨c11, hc11⟩ : ∃ q_, q_ = (decide ((Ma.check ms).2 ≠ 0)) := ⟨_, rfl⟩
  rw [← hc11]
  have Hc11 := Lib.hid hc11
  clear hc11
  cases c11 with
  | true =>
    have f12 := of_decide_eq_true Hc11.out.symm
    go_upto_region 3 with fail
    refine wpG_region_k (fun K hK => ?_)
    refine @wpG_p _ _ _ _ _ (some 16) (.int .i64 ((Ma.check ms).2)) _ _ rfl (by rfl) (fun _ => rfl) ?_
    simp only [n1, n3, n4]
    refine @wpG_p _ _ _ _ _ (some 2) (.string ⟨#[]⟩) _ _ rfl (by rfl) (fun _ => rfl) ?_
    simp only [n1, n3, n4]
    refine @wpG_p _ _ _ _ _ (some 3) (.int .i64 ((Ma.check ms).2)) _ _ rfl (by rfl) (fun _ => rfl) ?_
    simp only [n1, n3, n4]
    refine wpG_done (fun V13 hv14 => ?_)
    have S15 : Hid (St w noB [] V13) := Lib.hid (S10.out.gr hv14)
    clear S10
    clear hv14
    refine ⟨rfl, hK _ _ ?_⟩
    clear hK
    go_wp2_with fail
    go_ret2
    refine ⟨?_, S15.out.bel⟩
    show Ending.returned (.tuple #[.string ⟨#[]⟩, .int .i64 ((Ma.check ms).2)]) = _
    (first | rfl | (rw [Ma.print_bad f12]; rfl))
  | false =>
    have f16 := Lib.hid (Decidable.not_not.1 (of_decide_eq_false Hc11.out.symm))
    have f16a := Int.le_of_eq f16.out
    have f16b := Int.le_of_eq f16.out.symm
    go_upto_region 4 with fail
    refine wpG_region_k (fun K hK => ?_)
    refine wpG_val (some 6) rfl (by rfl) (fun W17 hg18 => ⟨.pointer (some ⟨W17.heap.size, 0, none⟩), W17.alloc (.cells #[.pointer none, .slice none 0 0] 54), by (first | (go_simp; done) | (go_simp <;> rfl)), ?_⟩)
    simp only [n1, n3, n4]
    obtain ⟨g19, U20, hg_, hu_, hS_⟩ := (S10.out.gr hg18).made [.pointer none, .slice none 0 0] 54
    rw [← hu_, ← hg_]
    have S21 : Hid (St w noB [blk g19 54 [.pointer none, .slice none 0 0]] U20) := Lib.hid hS_
    clear S10
    clear hg_ hu_ hS_ hg18
    refine wpG_done (fun V22 hv23 => ?_)
    have S24 : Hid (St w noB [blk g19 54 [.pointer none, .slice none 0 0]] V22) := Lib.hid (S21.out.gr hv23)
    clear S21
    clear hv23
    refine ⟨rfl, hK _ _ ?_⟩
    clear hK
    go_upto_region 5 with fail
    refine wpG_region_k (fun K hK => ?_)
    refine @wpG_p _ _ _ _ _ (some 17) (.slice A n c) _ _ rfl (by rfl) (fun _ => rfl) ?_
    simp only [n1, n3, n4]
    refine @wpG_p _ _ _ _ _ (some 18) (.int .i64 (n : Int)) _ _ rfl (by rfl) (fun W => by go_simp) ?_
    simp only [n1, n3, n4]
    refine @wpG_p _ _ _ _ _ (some 19) (.int .i64 0) _ _ rfl (by rfl) (fun _ => rfl) ?_
    simp only [n1, n3, n4]
    refine wpG_done (fun V25 hv26 => ?_)
    have S27 : Hid (St w noB [blk g19 54 [.pointer none, .slice none 0 0]] V25) := Lib.hid (S24.out.gr hv26)
    clear S24
    clear hv26
    refine ⟨rfl, hK _ _ ?_⟩
    clear hK
    have S28 : Hid (St w noB [bldr g19 []] V25) := Lib.hid (S27.out.toBld (e := 5))
    clear S27
    go_wp2_with fail
    go_loopw [19] (fun v19 wr => ∃ (k : Nat), v19 = .int .i64 (k : Int) ∧ (∀ i, i < ms.length → Ma.vld (Ma.tat ms i) = true) ∧ ms.length ≤ 256 ∧ k ≤ n ∧ St w noB [bldr g19 (Ma.lines (ms.take k))] wr) (fun i _ => n - (intOf i).toNat)
    case atStart => exact ⟨0, rfl, (by have e_f16 := f16.out; exact fun i hi => ((Ma.check_of e_f16).2.2.2.1 i hi).1), (by have e_f16 := f16.out; have h_ := (Ma.check_of e_f16).1; omega), (Nat.zero_le _), S28.out⟩
    case round =>
      obtain ⟨k, rfl, hvv_, hmx, hkn, hS⟩ := hrel
      have HVV_ := Lib.hid hvv_
      clear hvv_
      have SL := Lib.hid hS
      clear S28 hS
      have S29 := SL
      clear SL
      have hll := Ma.lines_le HVV_.out k (by have := HLEN.out; omega)
      go_upto_region 6 with fail
      refine wpG_region_k (fun K hK => ?_)
      refine @wpG_p _ _ _ _ _ (some 20) (.bool (decide ((k : Int) < (n : Int)))) _ _ rfl (by rfl) (fun W => op_int_lss W (k : Int) (n : Int) rfl rfl rfl Tryd.underlying3) ?_
      simp only [n1, n3, n4]
      refine wpG_done (fun V30 hv31 => ?_)
      have S32 : Hid (St w noB [bldr g19 (Ma.lines (ms.take k))] V30) := Lib.hid (S29.out.gr hv31)
      clear S29
      clear hv31
      refine ⟨rfl, hK _ _ ?_⟩
      clear hK
      obtain ⟨c33, hc33⟩ : ∃ q_, q_ = (decide ((k : Int) < (n : Int))) := ⟨_, rfl⟩
      rw [← hc33]
      have Hc33 := Lib.hid hc33
      clear hc33
      cases c33 with
      | true =>
        have f34 := of_decide_eq_true Hc33.out.symm
        go_upto_region 7 with fail
        refine wpG_region_k (fun K hK => ?_)
        obtain ⟨b35, o35, rfl⟩ := HTA.out.addr (by omega)
        refine @wpG_p _ _ _ _ _ (some 21) (.pointer (some ⟨b35, o35 + k * 8, none⟩)) _ _ rfl (by rfl) (fun W => by (go_simp <;> first | rfl | omega | (simp; omega))) ?_
        simp only [n1, n3, n4]
        refine @wpG_tk _ _ _ _ _ (some 22) (.agg #[.string (bstr ((Ma.tat ms k).n)), .bool ((Ma.tat ms k).s), .bool ((Ma.tat ms k).l), .bool ((Ma.tat ms k).f), .int .i64 ((Ma.tat ms k).fd), .int .i64 ((Ma.tat ms k).a), .int .i64 ((Ma.tat ms k).b), .int .i64 ((Ma.tat ms k).c)]) _ _ rfl (.load_mid (by rfl) 35 (.tmp 21) rfl b35 (o35 + k * 8) rfl [.string (bstr ((Ma.tat ms k).n)), .bool ((Ma.tat ms k).s), .bool ((Ma.tat ms k).l), .bool ((Ma.tat ms k).f), .int .i64 ((Ma.tat ms k).fd), .int .i64 ((Ma.tat ms k).a), .int .i64 ((Ma.tat ms k).b), .int .i64 ((Ma.tat ms k).c)] _ (fun W hg => ((HTA.out.gr ((S32.out.gr hg)).bel).elem (HTA.out.get (k := k) (by omega)))) Tryd.underlying35 rfl (by kernel_rfl)) ?_
        simp only [n1, n3, n4]
        refine wpG_val (some 8) rfl (by rfl) (fun W36 hg37 => ⟨.pointer (some ⟨W36.heap.size, 0, none⟩), W36.alloc (.cells #[.string ⟨#[]⟩, .bool false, .bool false, .bool false, .int .i64 0, .int .i64 0, .int .i64 0, .int .i64 0] 35), by (first | (go_simp; done) | (go_simp <;> rfl)), ?_⟩)
        simp only [n1, n3, n4]
        obtain ⟨g38, U39, hg_, hu_, hS_⟩ := (S32.out.gr hg37).made [.string ⟨#[]⟩, .bool false, .bool false, .bool false, .int .i64 0, .int .i64 0, .int .i64 0, .int .i64 0] 35
        rw [← hu_, ← hg_]
        have S40 : Hid (St w noB [blk g38 35 [.string ⟨#[]⟩, .bool false, .bool false, .bool false, .int .i64 0, .int .i64 0, .int .i64 0, .int .i64 0], bldr g19 (Ma.lines (ms.take k))] U39) := Lib.hid hS_
        clear S32
        clear hg_ hu_ hS_ hg37
        refine wpG_store (none) rfl (by rfl) (fun W41 hg42 => ⟨_, run_store_mid 35 (.tmp 8) (.tmp 22) rfl g38 0 #[.string (bstr ((Ma.tat ms k).n)), .bool ((Ma.tat ms k).s), .bool ((Ma.tat ms k).l), .bool ((Ma.tat ms k).f), .int .i64 ((Ma.tat ms k).fd), .int .i64 ((Ma.tat ms k).a), .int .i64 ((Ma.tat ms k).b), .int .i64 ((Ma.tat ms k).c)] rfl rfl ((S40.out.gr hg42).room 0 rfl 0 8 (by simp)) (by kernel_rfl) (by kernel_rfl), ?_⟩)
        simp only [n2]
        obtain ⟨U43, hu_, hS_⟩ := ((S40.out.gr hg42).put 0 rfl 0 (#[.string (bstr ((Ma.tat ms k).n)), .bool ((Ma.tat ms k).s), .bool ((Ma.tat ms k).l), .bool ((Ma.tat ms k).f), .int .i64 ((Ma.tat ms k).fd), .int .i64 ((Ma.tat ms k).a), .int .i64 ((Ma.tat ms k).b), .int .i64 ((Ma.tat ms k).c)] : Array Value).toList (ds := [.string (bstr ((Ma.tat ms k).n)), .bool ((Ma.tat ms k).s), .bool ((Ma.tat ms k).l), .bool ((Ma.tat ms k).f), .int .i64 ((Ma.tat ms k).fd), .int .i64 ((Ma.tat ms k).a), .int .i64 ((Ma.tat ms k).b), .int .i64 ((Ma.tat ms k).c)]) rfl).named
        rw [← hu_]
        have S44 : Hid (St w noB [blk g38 35 [.string (bstr ((Ma.tat ms k).n)), .bool ((Ma.tat ms k).s), .bool ((Ma.tat ms k).l), .bool ((Ma.tat ms k).f), .int .i64 ((Ma.tat ms k).fd), .int .i64 ((Ma.tat ms k).a), .int .i64 ((Ma.tat ms k).b), .int .i64 ((Ma.tat ms k).c)], bldr g19 (Ma.lines (ms.take k))] U43) := Lib.hid hS_
        clear S40
        clear hu_ hS_ hg42
        refine wpG_done (fun V45 hv46 => ?_)
        have S47 : Hid (St w noB [blk g38 35 [.string (bstr ((Ma.tat ms k).n)), .bool ((Ma.tat ms k).s), .bool ((Ma.tat ms k).l), .bool ((Ma.tat ms k).f), .int .i64 ((Ma.tat ms k).fd), .int .i64 ((Ma.tat ms k).a), .int .i64 ((Ma.tat ms k).b), .int .i64 ((Ma.tat ms k).c)], bldr g19 (Ma.lines (ms.take k))] V45) := Lib.hid (S44.out.gr hv46)
        clear S44
        clear hv46
        refine ⟨rfl, hK _ _ ?_⟩
        clear hK
        go_upto_region 8 with fail
        refine wpG_region_k (fun K hK => ?_)
        refine @wpG_tk _ _ _ _ _ (some 23) (.agg #[.string (bstr ((Ma.tat ms k).n)), .bool ((Ma.tat ms k).s), .bool ((Ma.tat ms k).l), .bool ((Ma.tat ms k).f), .int .i64 ((Ma.tat ms k).fd), .int .i64 ((Ma.tat ms k).a), .int .i64 ((Ma.tat ms k).b), .int .i64 ((Ma.tat ms k).c)]) _ _ rfl (.load_mid (by rfl) 35 (.tmp 8) rfl g38 0 rfl [.string (bstr ((Ma.tat ms k).n)), .bool ((Ma.tat ms k).s), .bool ((Ma.tat ms k).l), .bool ((Ma.tat ms k).f), .int .i64 ((Ma.tat ms k).fd), .int .i64 ((Ma.tat ms k).a), .int .i64 ((Ma.tat ms k).b), .int .i64 ((Ma.tat ms k).c)] _ (fun W hg => (S47.out.gr hg).range 0 rfl 0 8 rfl) Tryd.underlying35 rfl (by kernel_rfl)) ?_
        simp only [n1, n3, n4]
        refine @wpG_tk _ _ _ _ _ (some 24) (.string (bstr (Ma.line (Ma.tat ms k) ++ [10]))) _ _ rfl (.call (f := 34) (args := #[.agg #[.string (bstr ((Ma.tat ms k).n)), .bool ((Ma.tat ms k).s), .bool ((Ma.tat ms k).l), .bool ((Ma.tat ms k).f), .int .i64 ((Ma.tat ms k).fd), .int .i64 ((Ma.tat ms k).a), .int .i64 ((Ma.tat ms k).b), .int .i64 ((Ma.tat ms k).c)]]) (by rfl) (fun W => by go_simp) (fun W hg => printLine_any ((Ma.tat ms k).n) ((Ma.tat ms k).s) ((Ma.tat ms k).l) ((Ma.tat ms k).f) ((Ma.tat ms k).fd) ((Ma.tat ms k).a) ((Ma.tat ms k).b) ((Ma.tat ms k).c) W (HK.out.gr (S47.out.gr hg).bel) (HVV_.out k (by have := HLEN.out; omega)))) ?_
        simp only [n1, n3, n4]
        refine wpG_call (some 25) 33 #[.pointer (some ⟨g19, 0, none⟩), .string (bstr (Ma.line (Ma.tat ms k) ++ [10]))] rfl (by rfl) (fun W => by go_simp) (fun W48 hg49 => ?_)
        refine (write_b g19 (Ma.lines (ms.take k)) (Ma.line (Ma.tat ms k) ++ [10]) w W48 ((S47.out.gr hg49).sub (.cons _ (.cons_cons _ .slnil))) (by have hz := HLEN.out; have hl1 := Ma.line_le (HVV_.out k (by have := HLEN.out; omega)); simp; omega)).mono ?_
        rintro e w50 ⟨⟨v51, rfl⟩, hS_⟩
        refine ⟨_, rfl, ?_⟩
        simp only [n1, n3, n4]
        have S52 : Hid (St w noB [bldr g19 ((Ma.lines (ms.take k)) ++ (Ma.line (Ma.tat ms k) ++ [10]))] w50) := Lib.hid hS_
        clear S47
        clear hS_ hg49
        refine wpG_done (fun V53 hv54 => ?_)
        have S55 : Hid (St w noB [bldr g19 ((Ma.lines (ms.take k)) ++ (Ma.line (Ma.tat ms k) ++ [10]))] V53) := Lib.hid (S52.out.gr hv54)
        clear S52
        clear hv54
        refine ⟨rfl, hK _ _ ?_⟩
        clear hK
        go_upto_region 9 with fail
        refine wpG_region_k (fun K hK => ?_)
        refine @wpG_p _ _ _ _ _ (some 26) (.int .i64 ((k : Int) + 1)) _ _ rfl (by rfl) (fun W => op_i_add W (k : Int) 1 (by omega) rfl rfl rfl Tryd.underlying3) ?_
        simp only [n1, n3, n4]
        refine @wpG_p _ _ _ _ _ (some 19) (.int .i64 ((k : Int) + 1)) _ _ rfl (by rfl) (fun _ => rfl) ?_
        simp only [n1, n3, n4]
        refine wpG_done (fun V56 hv57 => ?_)
        have S58 : Hid (St w noB [bldr g19 ((Ma.lines (ms.take k)) ++ (Ma.line (Ma.tat ms k) ++ [10]))] V56) := Lib.hid (S55.out.gr hv57)
        clear S55
        clear hv57
        refine ⟨rfl, hK _ _ ?_⟩
        clear hK
        go_wp2_with fail
        go_roundw
        case rel => exact ⟨k + 1, (by first | rfl | go_num), HVV_.out, hmx, (by omega), (by rw [Ma.lines_succ (by have := HLEN.out; omega), List.append_assoc]; exact S58.out)⟩
        case measure => first | (simp [intOf]; done) | (simp [intOf]; omega) | omega
      | false =>
        have f59 := of_decide_eq_false Hc33.out.symm
        go_upto_region 10 with fail
        refine wpG_region_k (fun K hK => ?_)
        refine wpG_call (some 27) 35 #[.pointer (some ⟨g19, 0, none⟩)] rfl (by rfl) (fun W => by go_simp) (fun W60 hg61 => ?_)
        refine (string_b g19 (Ma.lines (ms.take k)) w W60 (S32.out.gr hg61)).mono ?_
        rintro e w62 ⟨rfl, hS_⟩
        refine ⟨_, rfl, ?_⟩
        simp only [n1, n3, n4]
        have S63 : Hid (St w noB [bldr g19 (Ma.lines (ms.take k))] w62) := Lib.hid hS_
        clear S32
        clear hS_ hg61
        refine @wpG_p _ _ _ _ _ (some 2) (.string (bstr (Ma.lines (ms.take k)))) _ _ rfl (by rfl) (fun _ => rfl) ?_
        simp only [n1, n3, n4]
        refine @wpG_p _ _ _ _ _ (some 3) (.int .i64 0) _ _ rfl (by rfl) (fun _ => rfl) ?_
        simp only [n1, n3, n4]
        refine wpG_done (fun V64 hv65 => ?_)
        have S66 : Hid (St w noB [bldr g19 (Ma.lines (ms.take k))] V64) := Lib.hid (S63.out.gr hv65)
        clear S63
        clear hv65
        refine ⟨rfl, hK _ _ ?_⟩
        clear hK
        go_wp2_with fail
        go_ret2
        refine ⟨?_, S66.out.bel⟩
        show Ending.returned (.tuple #[.string (bstr (Ma.lines (ms.take k))), .int .i64 0]) = _
        (first | rfl | (have e_f16 := f16.out; rw [Ma.print_good e_f16, Ma.lines_all (by have := HLEN.out; omega)]))
set_option maxRecDepth 1000000 in
set_option maxHeartbeats 4000000 in
theorem rprint_any (A : Option Addr) (n c : Nat) (ms : List Ma.Mt) (w : World) (hT : Tbl w A n c ms) :
    Calls Tryd.prog 14 #[.slice A n c] w fun e w' => e = .returned (.tuple #[.string (bstr ((Ma.print ms).1)), .int .i64 ((Ma.print ms).2)]) ∧ Below w.heap.size w w' := by
  have HTA := Lib.hid hT
  have HLEN := Lib.hid hT.len
  have hnb : n ≤ 9223372036854775807 := Nat.le_trans hT.cap hT.bnd
  clear hT
  have S1 : Hid (St w noB [] w) := Lib.hid (St.start w)
  go_enter Tryd.func14, Tryd.ntmps14
  go_upto_region 0 with fail
  refine wpG_region_k (fun K hK => ?_)
  refine @wpG_p _ _ _ _ _ (some 2) (.string ⟨#[]⟩) _ _ rfl (by rfl) (fun _ => rfl) ?_
  simp only [n1, n3, n4]
  refine @wpG_p _ _ _ _ _ (some 3) (.int .i64 0) _ _ rfl (by rfl) (fun _ => rfl) ?_
  simp only [n1, n3, n4]
  refine wpG_done (fun V2 hv3 => ?_)
  have S4 : Hid (St w noB [] V2) := Lib.hid (S1.out.gr hv3)
  clear S1
  clear hv3
  refine ⟨rfl, hK _ _ ?_⟩
  clear hK
  go_upto_region 1 with fail
  refine wpG_region_k (fun K hK => ?_)
  refine @wpG_p _ _ _ _ _ (some 9) (.slice A n c) _ _ rfl (by rfl) (fun _ => rfl) ?_
  simp only [n1, n3, n4]
  refine @wpG_tk _ _ _ _ _ (some 10) (.tuple #[.int .i64 ((Ma.check ms).1), .int .i64 ((Ma.check ms).2)]) _ _ rfl (.call (f := 12) (args := #[.slice A n c]) (by rfl) (fun W => by go_simp) (fun W hg => rcheck_any _ _ _ ms W (HTA.out.gr (S4.out.gr hg).bel))) ?_
  simp only [n1, n3, n4]
  refine @wpG_p _ _ _ _ _ (some 8) (.tuple #[.int .i64 ((Ma.check ms).1), .int .i64 ((Ma.check ms).2)]) _ _ rfl (by rfl) (fun _ => rfl) ?_
  simp only [n1, n3, n4]
  refine @wpG_p _ _ _ _ _ (some 11) (.int .i64 ((Ma.check ms).1)) _ _ rfl (by rfl) (fun W => by go_simp) ?_
  simp only [n1, n3, n4]
  refine @wpG_p _ _ _ _ _ (some 12) (.int .i64 ((Ma.check ms).2)) _ _ rfl (by rfl) (fun W => by go_simp) ?_
  simp only [n1, n3, n4]
  refine @wpG_p _ _ _ _ _ (some 4) (.int .i64 ((Ma.check ms).1)) _ _ rfl (by rfl) (fun _ => rfl) ?_
  simp only [n1, n3, n4]
  refine @wpG_p _ _ _ _ _ (some 5) (.int .i64 ((Ma.check ms).2)) _ _ rfl (by rfl) (fun _ => rfl) ?_
  simp only [n1, n3, n4]
  refine wpG_done (fun V5 hv6 => ?_)
  have S7 : Hid (St w noB [] V5) := Lib.hid (S4.out.gr hv6)
  clear S4
  clear hv6
  refine ⟨rfl, hK _ _ ?_⟩
  clear hK
  go_upto_region 2 with fail
  refine wpG_region_k (fun K hK => ?_)
  refine @wpG_p _ _ _ _ _ (some 13) (.int .i64 ((Ma.check ms).2)) _ _ rfl (by rfl) (fun _ => rfl) ?_
  simp only [n1, n3, n4]
  refine @wpG_p _ _ _ _ _ (some 14) (.bool (decide ((Ma.check ms).2 ≠ 0))) _ _ rfl (by rfl) (fun W => op_int_neq W ((Ma.check ms).2) 0 rfl rfl rfl Tryd.underlying25) ?_
  simp only [n1, n3, n4]
  refine wpG_done (fun V8 hv9 => ?_)
  have S10 : Hid (St w noB [] V8) := Lib.hid (S7.out.gr hv9)
  clear S7
  clear hv9
  refine ⟨rfl, hK _ _ ?_⟩
  clear hK
  obtain ⟨c11, hc11⟩ : ∃ q_, q_ = (decide ((Ma.check ms).2 ≠ 0)) := ⟨_, rfl⟩
  rw [← hc11]
  have Hc11 := Lib.hid hc11
  clear hc11
  cases c11 with
  | true =>
    have f12 := of_decide_eq_true Hc11.out.symm
    go_upto_region 3 with fail
    refine wpG_region_k (fun K hK => ?_)
    refine @wpG_p _ _ _ _ _ (some 15) (.int .i64 ((Ma.check ms).2)) _ _ rfl (by rfl) (fun _ => rfl) ?_
    simp only [n1, n3, n4]
    refine @wpG_p _ _ _ _ _ (some 2) (.string ⟨#[]⟩) _ _ rfl (by rfl) (fun _ => rfl) ?_
    simp only [n1, n3, n4]
    refine @wpG_p _ _ _ _ _ (some 3) (.int .i64 ((Ma.check ms).2)) _ _ rfl (by rfl) (fun _ => rfl) ?_
    simp only [n1, n3, n4]
    refine wpG_done (fun V13 hv14 => ?_)
    have S15 : Hid (St w noB [] V13) := Lib.hid (S10.out.gr hv14)
    clear S10
    clear hv14
    refine ⟨rfl, hK _ _ ?_⟩
    clear hK
    go_wp2_with fail
    go_ret2
    refine ⟨?_, S15.out.bel⟩
    show Ending.returned (.tuple #[.string ⟨#[]⟩, .int .i64 ((Ma.check ms).2)]) = _
    (first | rfl | (rw [Ma.print_bad f12]; rfl))
  | false =>
    have f16 := Lib.hid (Decidable.not_not.1 (of_decide_eq_false Hc11.out.symm))
    have f16a := Int.le_of_eq f16.out
    have f16b := Int.le_of_eq f16.out.symm
    go_upto_region 4 with fail
    refine wpG_region_k (fun K hK => ?_)
    refine @wpG_p _ _ _ _ _ (some 6) (.string ⟨#[]⟩) _ _ rfl (by rfl) (fun _ => rfl) ?_
    simp only [n1, n3, n4]
    refine wpG_done (fun V17 hv18 => ?_)
    have S19 : Hid (St w noB [] V17) := Lib.hid (S10.out.gr hv18)
    clear S10
    clear hv18
    refine ⟨rfl, hK _ _ ?_⟩
    clear hK
    go_upto_region 5 with fail
    refine wpG_region_k (fun K hK => ?_)
    refine @wpG_p _ _ _ _ _ (some 7) (.int .i64 0) _ _ rfl (by rfl) (fun _ => rfl) ?_
    simp only [n1, n3, n4]
    refine wpG_done (fun V20 hv21 => ?_)
    have S22 : Hid (St w noB [] V20) := Lib.hid (S19.out.gr hv21)
    clear S19
    clear hv21
    refine ⟨rfl, hK _ _ ?_⟩
    clear hK
    go_wp2_with fail
    go_loopw [6, 7] (fun v6 v7 wr => ∃ (k : Nat), v6 = .string (bstr (Ma.lines (ms.take k))) ∧ v7 = .int .i64 (k : Int) ∧ (∀ i, i < ms.length → Ma.vld (Ma.tat ms i) = true) ∧ ms.length ≤ 256 ∧ k ≤ n ∧ St w noB [] wr) (fun _ i _ => n - (intOf i).toNat)
    case atStart => exact ⟨0, rfl, rfl, (by have e_f16 := f16.out; exact fun i hi => ((Ma.check_of e_f16).2.2.2.1 i hi).1), (by have e_f16 := f16.out; have h_ := (Ma.check_of e_f16).1; omega), (Nat.zero_le _), S22.out⟩
    case round =>
      obtain ⟨k, rfl, rfl, hvv_, hmx, hkn, hS⟩ := hrel
      have HVV_ := Lib.hid hvv_
      clear hvv_
      have SL := Lib.hid hS
      clear S22 hS
      have S23 := SL
      clear SL
      have hll := Ma.lines_le HVV_.out k (by have := HLEN.out; omega)
      go_upto_region 6 with fail
      refine wpG_region_k (fun K hK => ?_)
      refine @wpG_p _ _ _ _ _ (some 16) (.int .i64 (k : Int)) _ _ rfl (by rfl) (fun _ => rfl) ?_
      simp only [n1, n3, n4]
      refine @wpG_p _ _ _ _ _ (some 17) (.slice A n c) _ _ rfl (by rfl) (fun _ => rfl) ?_
      simp only [n1, n3, n4]
      refine @wpG_p _ _ _ _ _ (some 18) (.int .i64 (n : Int)) _ _ rfl (by rfl) (fun W => by go_simp) ?_
      simp only [n1, n3, n4]
      refine @wpG_p _ _ _ _ _ (some 19) (.bool (decide ((k : Int) < (n : Int)))) _ _ rfl (by rfl) (fun W => op_int_lss W (k : Int) (n : Int) rfl rfl rfl Tryd.underlying3) ?_
      simp only [n1, n3, n4]
      refine wpG_done (fun V24 hv25 => ?_)
      have S26 : Hid (St w noB [] V24) := Lib.hid (S23.out.gr hv25)
      clear S23
      clear hv25
      refine ⟨rfl, hK _ _ ?_⟩
      clear hK
      obtain ⟨c27, hc27⟩ : ∃ q_, q_ = (decide ((k : Int) < (n : Int))) := ⟨_, rfl⟩
      rw [← hc27]
      have Hc27 := Lib.hid hc27
      clear hc27
      cases c27 with
      | true =>
        have f28 := of_decide_eq_true Hc27.out.symm
        go_upto_region 8 with fail
        refine wpG_region_k (fun K hK => ?_)
        refine @wpG_p _ _ _ _ _ (some 22) (.string (bstr (Ma.lines (ms.take k)))) _ _ rfl (by rfl) (fun _ => rfl) ?_
        simp only [n1, n3, n4]
        refine @wpG_p _ _ _ _ _ (some 23) (.slice A n c) _ _ rfl (by rfl) (fun _ => rfl) ?_
        simp only [n1, n3, n4]
        refine @wpG_p _ _ _ _ _ (some 24) (.int .i64 (k : Int)) _ _ rfl (by rfl) (fun _ => rfl) ?_
        simp only [n1, n3, n4]
        obtain ⟨b29, o29, rfl⟩ := HTA.out.addr (by omega)
        refine @wpG_p _ _ _ _ _ (some 25) (.pointer (some ⟨b29, o29 + k * 8, none⟩)) _ _ rfl (by rfl) (fun W => by (go_simp <;> first | rfl | omega | (simp; omega))) ?_
        simp only [n1, n3, n4]
        refine @wpG_tk _ _ _ _ _ (some 26) (.agg #[.string (bstr ((Ma.tat ms k).n)), .bool ((Ma.tat ms k).s), .bool ((Ma.tat ms k).l), .bool ((Ma.tat ms k).f), .int .i64 ((Ma.tat ms k).fd), .int .i64 ((Ma.tat ms k).a), .int .i64 ((Ma.tat ms k).b), .int .i64 ((Ma.tat ms k).c)]) _ _ rfl (.load_mid (by rfl) 35 (.tmp 25) rfl b29 (o29 + k * 8) rfl [.string (bstr ((Ma.tat ms k).n)), .bool ((Ma.tat ms k).s), .bool ((Ma.tat ms k).l), .bool ((Ma.tat ms k).f), .int .i64 ((Ma.tat ms k).fd), .int .i64 ((Ma.tat ms k).a), .int .i64 ((Ma.tat ms k).b), .int .i64 ((Ma.tat ms k).c)] _ (fun W hg => ((HTA.out.gr ((S26.out.gr hg)).bel).elem (HTA.out.get (k := k) (by omega)))) Tryd.underlying35 rfl (by kernel_rfl)) ?_
        simp only [n1, n3, n4]
        refine @wpG_tk _ _ _ _ _ (some 27) (.string (bstr (Ma.line (Ma.tat ms k)))) _ _ rfl (.call (f := 36) (args := #[.agg #[.string (bstr ((Ma.tat ms k).n)), .bool ((Ma.tat ms k).s), .bool ((Ma.tat ms k).l), .bool ((Ma.tat ms k).f), .int .i64 ((Ma.tat ms k).fd), .int .i64 ((Ma.tat ms k).a), .int .i64 ((Ma.tat ms k).b), .int .i64 ((Ma.tat ms k).c)]]) (by rfl) (fun W => by go_simp) (fun W hg => rline_any ((Ma.tat ms k).n) ((Ma.tat ms k).s) ((Ma.tat ms k).l) ((Ma.tat ms k).f) ((Ma.tat ms k).fd) ((Ma.tat ms k).a) ((Ma.tat ms k).b) ((Ma.tat ms k).c) W (HVV_.out k (by have := HLEN.out; omega)))) ?_
        simp only [n1, n3, n4]
        refine @wpG_p _ _ _ _ _ (some 28) (.string (bstr ((Ma.lines (ms.take k)) ++ (Ma.line (Ma.tat ms k))))) _ _ rfl (by rfl) (fun W => op_str_add W (Ma.lines (ms.take k)) (Ma.line (Ma.tat ms k)) (by (have hz := HLEN.out; have hl1 := Ma.line_le (HVV_.out k (by have := HLEN.out; omega)); first | omega | (simp; omega))) rfl rfl rfl Tryd.underlying9) ?_
        simp only [n1, n3, n4]
        refine @wpG_p _ _ _ _ _ (some 29) (.string (bstr (((Ma.lines (ms.take k)) ++ (Ma.line (Ma.tat ms k))) ++ [10]))) _ _ rfl (by rfl) (fun W => op_str_add W ((Ma.lines (ms.take k)) ++ (Ma.line (Ma.tat ms k))) [10] (by (have hz := HLEN.out; have hl1 := Ma.line_le (HVV_.out k (by have := HLEN.out; omega)); first | omega | (simp; omega))) rfl rfl rfl Tryd.underlying9) ?_
        simp only [n1, n3, n4]
        refine @wpG_p _ _ _ _ _ (some 6) (.string (bstr (((Ma.lines (ms.take k)) ++ (Ma.line (Ma.tat ms k))) ++ [10]))) _ _ rfl (by rfl) (fun _ => rfl) ?_
        simp only [n1, n3, n4]
        refine wpG_done (fun V30 hv31 => ?_)
        have S32 : Hid (St w noB [] V30) := Lib.hid (S26.out.gr hv31)
        clear S26
        clear hv31
        refine ⟨rfl, hK _ _ ?_⟩
        clear hK
        go_upto_region 7 with fail
        refine wpG_region_k (fun K hK => ?_)
        refine @wpG_p _ _ _ _ _ (some 20) (.int .i64 (k : Int)) _ _ rfl (by rfl) (fun _ => rfl) ?_
        simp only [n1, n3, n4]
        refine @wpG_p _ _ _ _ _ (some 21) (.int .i64 ((k : Int) + 1)) _ _ rfl (by rfl) (fun W => op_i_add W (k : Int) 1 (by omega) rfl rfl rfl Tryd.underlying3) ?_
        simp only [n1, n3, n4]
        refine @wpG_p _ _ _ _ _ (some 7) (.int .i64 ((k : Int) + 1)) _ _ rfl (by rfl) (fun _ => rfl) ?_
        simp only [n1, n3, n4]
        refine wpG_done (fun V33 hv34 => ?_)
        have S35 : Hid (St w noB [] V33) := Lib.hid (S32.out.gr hv34)
        clear S32
        clear hv34
        refine ⟨rfl, hK _ _ ?_⟩
        clear hK
        go_wp2_with fail
        go_roundw
        have hls_ := Ma.lines_succ (ms := ms) (k := k) (by have := HLEN.out; omega)
        rw [← hls_]
        case rel => exact ⟨k + 1, (by first | rfl | go_num), (by first | rfl | go_num), HVV_.out, hmx, (by omega), S35.out⟩
        case measure => first | (simp [intOf]; done) | (simp [intOf]; omega) | omega
      | false =>
        have f36 := of_decide_eq_false Hc27.out.symm
        go_upto_region 9 with fail
        refine wpG_region_k (fun K hK => ?_)
        refine @wpG_p _ _ _ _ _ (some 30) (.string (bstr (Ma.lines (ms.take k)))) _ _ rfl (by rfl) (fun _ => rfl) ?_
        simp only [n1, n3, n4]
        refine @wpG_p _ _ _ _ _ (some 2) (.string (bstr (Ma.lines (ms.take k)))) _ _ rfl (by rfl) (fun _ => rfl) ?_
        simp only [n1, n3, n4]
        refine @wpG_p _ _ _ _ _ (some 3) (.int .i64 0) _ _ rfl (by rfl) (fun _ => rfl) ?_
        simp only [n1, n3, n4]
        refine wpG_done (fun V37 hv38 => ?_)
        have S39 : Hid (St w noB [] V37) := Lib.hid (S26.out.gr hv38)
        clear S26
        clear hv38
        refine ⟨rfl, hK _ _ ?_⟩
        clear hK
        go_wp2_with fail
        go_ret2
        refine ⟨?_, S39.out.bel⟩
        show Ending.returned (.tuple #[.string (bstr (Ma.lines (ms.take k))), .int .i64 0]) = _
        (first | rfl | (have e_f16 := f16.out; rw [Ma.print_good e_f16, Ma.lines_all (by have := HLEN.out; omega)]))

end Go.Proofs.YtpjjddjoegnipaaDoor
