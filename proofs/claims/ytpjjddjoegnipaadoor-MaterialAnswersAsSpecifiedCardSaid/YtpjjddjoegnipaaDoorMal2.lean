/-
  MaterialAnswersAsSpecified: the walk.
-/
import Derived.Test.YtpjjddjoegnipaaDoorMai
import Derived.Handy
namespace Go.Proofs.YtpjjddjoegnipaaDoor
open Go Go.RowKit
set_option linter.unusedVariables false
set_option linter.unusedSimpArgs false
set_option maxRecDepth 1000000 in
set_option maxHeartbeats 4000000 in
theorem law2 (A : Option Addr) (n c : Nat) (ms : List Ma.Mt) (x : List UInt8) (k : Int) (w : World) (hT : Tbl w A n c ms) (hE : Ev w) :
    Calls Tryd.prog 4 #[.slice A n c, .string (bstr x), .int .i64 k] w fun e w' => e = .returned (.bool true) ∧ Below w.heap.size w w' := by
  have HTA := Lib.hid hT
  have HLEN := Lib.hid hT.len
  have hnb : n ≤ 9223372036854775807 := Nat.le_trans hT.cap hT.bnd
  clear hT
  have HE := Lib.hid hE
  have HK := Lib.hid hE.k
  clear hE
  have S1 : Hid (St w noB [] w) := Lib.hid (St.start w)
  go_enter Tryd.func4, Tryd.ntmps4
  go_upto_region 0 with fail
  refine wpG_region_k (fun K hK => ?_)
  refine @wpG_p _ _ _ _ _ (some 6) (.bool false) _ _ rfl (by rfl) (fun _ => rfl) ?_
  simp only [n1, n3, n4]
  refine wpG_done (fun V2 hv3 => ?_)
  have S4 : Hid (St w noB [] V2) := Lib.hid (S1.out.gr hv3)
  clear S1
  clear hv3
  refine ⟨rfl, hK _ _ ?_⟩
  clear hK
  go_upto_region 1 with fail
  refine wpG_region_k (fun K hK => ?_)
  refine @wpG_tk _ _ _ _ _ (some 14) (.bool true) _ _ rfl (.call (f := 9) (args := #[]) (by rfl) (fun W => by go_simp) (fun W hg => sanity_any W (HE.out.st (S4.out.gr hg) noGlob))) ?_
  simp only [n1, n3, n4]
  refine @wpG_p _ _ _ _ _ (some 7) (.bool true) _ _ rfl (by rfl) (fun _ => rfl) ?_
  simp only [n1, n3, n4]
  refine wpG_done (fun V5 hv6 => ?_)
  have S7 : Hid (St w noB [] V5) := Lib.hid (S4.out.gr hv6)
  clear S4
  clear hv6
  refine ⟨rfl, hK _ _ ?_⟩
  clear hK
  go_upto_region 2 with fail
  refine wpG_region_k (fun K hK => ?_)
  refine @wpG_p _ _ _ _ _ (some 15) (.slice A n c) _ _ rfl (by rfl) (fun _ => rfl) ?_
  simp only [n1, n3, n4]
  refine @wpG_tk _ _ _ _ _ (some 16) (.bool (Ma.few ms)) _ _ rfl (.call (f := 10) (args := #[.slice A n c]) (by rfl) (fun W => by go_simp) (fun W hg => few_any _ _ _ ms W (HTA.out.gr (S7.out.gr hg).bel))) ?_
  simp only [n1, n3, n4]
  refine @wpG_p _ _ _ _ _ (some 17) (.bool (!(Ma.few ms))) _ _ rfl (by rfl) (fun W => by go_simp) ?_
  simp only [n1, n3, n4]
  refine @wpG_p _ _ _ _ _ (some 18) (.bool (!(Ma.few ms))) _ _ rfl (by rfl) (fun _ => rfl) ?_
  simp only [n1, n3, n4]
  obtain ⟨c8, hc8⟩ : ∃ q_, q_ = (!(Ma.few ms)) := ⟨_, rfl⟩
  rw [← hc8]
  have Hc8 := Lib.hid hc8
  clear hc8
  cases c8 with
  | true =>
    have f9 := Lib.hid ((bnt Hc8.out))
    refine @wpG_no _ _ _ _ _ (some 19) _ _ rfl (by rfl) ?_
    simp only [n1, n3, n4]
    refine @wpG_no _ _ _ _ _ (some 20) _ _ rfl (by rfl) ?_
    simp only [n1, n3, n4]
    refine @wpG_no _ _ _ _ _ (some 21) _ _ rfl (by rfl) ?_
    simp only [n1, n3, n4]
    refine @wpG_p _ _ _ _ _ (some 22) (.bool true) _ _ rfl (by rfl) (fun W => by go_simp) ?_
    simp only [n1, n3, n4]
    refine wpG_done (fun V10 hv11 => ?_)
    have S12 : Hid (St w noB [] V10) := Lib.hid (S7.out.gr hv11)
    clear S7
    clear hv11
    refine ⟨rfl, hK _ _ ?_⟩
    clear hK
    go_upto_region 3 with fail
    refine wpG_region_k (fun K hK => ?_)
    refine @wpG_p _ _ _ _ _ (some 23) (.bool true) _ _ rfl (by rfl) (fun _ => rfl) ?_
    simp only [n1, n3, n4]
    refine @wpG_p _ _ _ _ _ (some 6) (.bool true) _ _ rfl (by rfl) (fun _ => rfl) ?_
    simp only [n1, n3, n4]
    refine wpG_done (fun V13 hv14 => ?_)
    have S15 : Hid (St w noB [] V13) := Lib.hid (S12.out.gr hv14)
    clear S12
    clear hv14
    refine ⟨rfl, hK _ _ ?_⟩
    clear hK
    go_wp2_with fail
    go_ret
    refine ⟨?_, S15.out.bel⟩
    show Ending.returned (.bool true) = _
    (first | rfl | (have e_f9 := f9.out; rfl))
  | false =>
    have f16 := Lib.hid ((bnf Hc8.out))
    refine @wpG_p _ _ _ _ _ (some 19) (.string (bstr x)) _ _ rfl (by rfl) (fun _ => rfl) ?_
    simp only [n1, n3, n4]
    refine @wpG_p _ _ _ _ _ (some 20) (.int .i64 (x.length : Int)) _ _ rfl (by rfl) (fun W => op_str_len W x rfl rfl Tryd.underlying9) ?_
    simp only [n1, n3, n4]
    refine @wpG_p _ _ _ _ _ (some 21) (.bool (decide ((x.length : Int) > 100))) _ _ rfl (by rfl) (fun W => op_int_gtr W (x.length : Int) 100 rfl rfl rfl Tryd.underlying3) ?_
    simp only [n1, n3, n4]
    refine @wpG_p _ _ _ _ _ (some 22) (.bool (decide ((x.length : Int) > 100))) _ _ rfl (by rfl) (fun W => by go_simp) ?_
    simp only [n1, n3, n4]
    refine wpG_done (fun V17 hv18 => ?_)
    have S19 : Hid (St w noB [] V17) := Lib.hid (S7.out.gr hv18)
    clear S7
    clear hv18
    refine ⟨rfl, hK _ _ ?_⟩
    clear hK
    obtain ⟨c20, hc20⟩ : ∃ q_, q_ = (decide ((x.length : Int) > 100)) := ⟨_, rfl⟩
    rw [← hc20]
    have Hc20 := Lib.hid hc20
    clear hc20
    cases c20 with
    | true =>
      have f21 := of_decide_eq_true Hc20.out.symm
      go_upto_region 3 with fail
      refine wpG_region_k (fun K hK => ?_)
      refine @wpG_p _ _ _ _ _ (some 23) (.bool true) _ _ rfl (by rfl) (fun _ => rfl) ?_
      simp only [n1, n3, n4]
      refine @wpG_p _ _ _ _ _ (some 6) (.bool true) _ _ rfl (by rfl) (fun _ => rfl) ?_
      simp only [n1, n3, n4]
      refine wpG_done (fun V22 hv23 => ?_)
      have S24 : Hid (St w noB [] V22) := Lib.hid (S19.out.gr hv23)
      clear S19
      clear hv23
      refine ⟨rfl, hK _ _ ?_⟩
      clear hK
      go_wp2_with fail
      go_ret
      refine ⟨?_, S24.out.bel⟩
      show Ending.returned (.bool true) = _
      (first | rfl | (have e_f16 := f16.out; rfl))
    | false =>
      have f25 := of_decide_eq_false Hc20.out.symm
      go_upto_region 4 with fail
      refine wpG_region_k (fun K hK => ?_)
      refine @wpG_p _ _ _ _ _ (some 25) (.slice A n c) _ _ rfl (by rfl) (fun _ => rfl) ?_
      simp only [n1, n3, n4]
      refine @wpG_p _ _ _ _ _ (some 26) (.string (bstr x)) _ _ rfl (by rfl) (fun _ => rfl) ?_
      simp only [n1, n3, n4]
      refine @wpG_tk _ _ _ _ _ (some 27) (.tuple #[.int .i64 ((Ma.find ms x).1), .bool ((Ma.find ms x).2)]) _ _ rfl (.call (f := 17) (args := #[.slice A n c, .string (bstr x)]) (by rfl) (fun W => by go_simp) (fun W hg => find_any _ _ _ ms x W (HTA.out.gr (S19.out.gr hg).bel))) ?_
      simp only [n1, n3, n4]
      refine @wpG_p _ _ _ _ _ (some 24) (.tuple #[.int .i64 ((Ma.find ms x).1), .bool ((Ma.find ms x).2)]) _ _ rfl (by rfl) (fun _ => rfl) ?_
      simp only [n1, n3, n4]
      refine @wpG_p _ _ _ _ _ (some 28) (.int .i64 ((Ma.find ms x).1)) _ _ rfl (by rfl) (fun W => by go_simp) ?_
      simp only [n1, n3, n4]
      refine @wpG_p _ _ _ _ _ (some 29) (.bool ((Ma.find ms x).2)) _ _ rfl (by rfl) (fun W => by go_simp) ?_
      simp only [n1, n3, n4]
      refine @wpG_p _ _ _ _ _ (some 8) (.int .i64 ((Ma.find ms x).1)) _ _ rfl (by rfl) (fun _ => rfl) ?_
      simp only [n1, n3, n4]
      refine @wpG_p _ _ _ _ _ (some 9) (.bool ((Ma.find ms x).2)) _ _ rfl (by rfl) (fun _ => rfl) ?_
      simp only [n1, n3, n4]
      refine wpG_done (fun V26 hv27 => ?_)
      have S28 : Hid (St w noB [] V26) := Lib.hid (S19.out.gr hv27)
      clear S19
      clear hv27
      refine ⟨rfl, hK _ _ ?_⟩
      clear hK
      go_upto_region 5 with fail
      refine wpG_region_k (fun K hK => ?_)
      refine @wpG_p _ _ _ _ _ (some 31) (.slice A n c) _ _ rfl (by rfl) (fun _ => rfl) ?_
      simp only [n1, n3, n4]
      refine @wpG_p _ _ _ _ _ (some 32) (.string (bstr x)) _ _ rfl (by rfl) (fun _ => rfl) ?_
      simp only [n1, n3, n4]
      refine @wpG_tk _ _ _ _ _ (some 33) (.tuple #[.int .i64 ((Ma.find ms x).1), .bool ((Ma.find ms x).2)]) _ _ rfl (.call (f := 18) (args := #[.slice A n c, .string (bstr x)]) (by rfl) (fun W => by go_simp) (fun W hg => rfind_any _ _ _ ms x W (HTA.out.gr (S28.out.gr hg).bel))) ?_
      simp only [n1, n3, n4]
      refine @wpG_p _ _ _ _ _ (some 30) (.tuple #[.int .i64 ((Ma.find ms x).1), .bool ((Ma.find ms x).2)]) _ _ rfl (by rfl) (fun _ => rfl) ?_
      simp only [n1, n3, n4]
      refine @wpG_p _ _ _ _ _ (some 34) (.int .i64 ((Ma.find ms x).1)) _ _ rfl (by rfl) (fun W => by go_simp) ?_
      simp only [n1, n3, n4]
      refine @wpG_p _ _ _ _ _ (some 35) (.bool ((Ma.find ms x).2)) _ _ rfl (by rfl) (fun W => by go_simp) ?_
      simp only [n1, n3, n4]
      refine @wpG_p _ _ _ _ _ (some 10) (.int .i64 ((Ma.find ms x).1)) _ _ rfl (by rfl) (fun _ => rfl) ?_
      simp only [n1, n3, n4]
      refine @wpG_p _ _ _ _ _ (some 11) (.bool ((Ma.find ms x).2)) _ _ rfl (by rfl) (fun _ => rfl) ?_
      simp only [n1, n3, n4]
      refine wpG_done (fun V29 hv30 => ?_)
      have S31 : Hid (St w noB [] V29) := Lib.hid (S28.out.gr hv30)
      clear S28
      clear hv30
      refine ⟨rfl, hK _ _ ?_⟩
      clear hK
      go_upto_region 6 with fail
      refine wpG_region_k (fun K hK => ?_)
      refine @wpG_p _ _ _ _ _ (some 36) (.slice A n c) _ _ rfl (by rfl) (fun _ => rfl) ?_
      simp only [n1, n3, n4]
      refine @wpG_p _ _ _ _ _ (some 37) (.int .i64 k) _ _ rfl (by rfl) (fun _ => rfl) ?_
      simp only [n1, n3, n4]
      refine @wpG_tk _ _ _ _ _ (some 38) (.agg #[.string (bstr ((Ma.mat_of ms k).n)), .bool ((Ma.mat_of ms k).s), .bool ((Ma.mat_of ms k).l), .bool ((Ma.mat_of ms k).f), .int .i64 ((Ma.mat_of ms k).fd), .int .i64 ((Ma.mat_of ms k).a), .int .i64 ((Ma.mat_of ms k).b), .int .i64 ((Ma.mat_of ms k).c)]) _ _ rfl (.call (f := 19) (args := #[.slice A n c, .int .i64 k]) (by rfl) (fun W => by go_simp) (fun W hg => at_any _ _ _ ms k W (HTA.out.gr (S31.out.gr hg).bel))) ?_
      simp only [n1, n3, n4]
      refine wpG_val (some 12) rfl (by rfl) (fun W32 hg33 => ⟨.pointer (some ⟨W32.heap.size, 0, none⟩), W32.alloc (.cells #[.string ⟨#[]⟩, .bool false, .bool false, .bool false, .int .i64 0, .int .i64 0, .int .i64 0, .int .i64 0] 35), by (first | (go_simp; done) | (go_simp <;> rfl)), ?_⟩)
      simp only [n1, n3, n4]
      obtain ⟨g34, U35, hg_, hu_, hS_⟩ := (S31.out.gr hg33).made [.string ⟨#[]⟩, .bool false, .bool false, .bool false, .int .i64 0, .int .i64 0, .int .i64 0, .int .i64 0] 35
      rw [← hu_, ← hg_]
      have S36 : Hid (St w noB [blk g34 35 [.string ⟨#[]⟩, .bool false, .bool false, .bool false, .int .i64 0, .int .i64 0, .int .i64 0, .int .i64 0]] U35) := Lib.hid hS_
      clear S31
      clear hg_ hu_ hS_ hg33
      refine wpG_store (none) rfl (by rfl) (fun W37 hg38 => ⟨_, run_store_mid 35 (.tmp 12) (.tmp 38) rfl g34 0 #[.string (bstr ((Ma.mat_of ms k).n)), .bool ((Ma.mat_of ms k).s), .bool ((Ma.mat_of ms k).l), .bool ((Ma.mat_of ms k).f), .int .i64 ((Ma.mat_of ms k).fd), .int .i64 ((Ma.mat_of ms k).a), .int .i64 ((Ma.mat_of ms k).b), .int .i64 ((Ma.mat_of ms k).c)] rfl rfl ((S36.out.gr hg38).room 0 rfl 0 8 (by simp)) (by kernel_rfl) (by kernel_rfl), ?_⟩)
      simp only [n2]
      obtain ⟨U39, hu_, hS_⟩ := ((S36.out.gr hg38).put 0 rfl 0 (#[.string (bstr ((Ma.mat_of ms k).n)), .bool ((Ma.mat_of ms k).s), .bool ((Ma.mat_of ms k).l), .bool ((Ma.mat_of ms k).f), .int .i64 ((Ma.mat_of ms k).fd), .int .i64 ((Ma.mat_of ms k).a), .int .i64 ((Ma.mat_of ms k).b), .int .i64 ((Ma.mat_of ms k).c)] : Array Value).toList (ds := [.string (bstr ((Ma.mat_of ms k).n)), .bool ((Ma.mat_of ms k).s), .bool ((Ma.mat_of ms k).l), .bool ((Ma.mat_of ms k).f), .int .i64 ((Ma.mat_of ms k).fd), .int .i64 ((Ma.mat_of ms k).a), .int .i64 ((Ma.mat_of ms k).b), .int .i64 ((Ma.mat_of ms k).c)]) rfl).named
      rw [← hu_]
      have S40 : Hid (St w noB [blk g34 35 [.string (bstr ((Ma.mat_of ms k).n)), .bool ((Ma.mat_of ms k).s), .bool ((Ma.mat_of ms k).l), .bool ((Ma.mat_of ms k).f), .int .i64 ((Ma.mat_of ms k).fd), .int .i64 ((Ma.mat_of ms k).a), .int .i64 ((Ma.mat_of ms k).b), .int .i64 ((Ma.mat_of ms k).c)]] U39) := Lib.hid hS_
      clear S36
      clear hu_ hS_ hg38
      refine wpG_done (fun V41 hv42 => ?_)
      have S43 : Hid (St w noB [blk g34 35 [.string (bstr ((Ma.mat_of ms k).n)), .bool ((Ma.mat_of ms k).s), .bool ((Ma.mat_of ms k).l), .bool ((Ma.mat_of ms k).f), .int .i64 ((Ma.mat_of ms k).fd), .int .i64 ((Ma.mat_of ms k).a), .int .i64 ((Ma.mat_of ms k).b), .int .i64 ((Ma.mat_of ms k).c)]] V41) := Lib.hid (S40.out.gr hv42)
      clear S40
      clear hv42
      refine ⟨rfl, hK _ _ ?_⟩
      clear hK
      go_upto_region 7 with fail
      refine wpG_region_k (fun K hK => ?_)
      refine wpG_call (some 39) 20 #[] rfl (by rfl) (fun W => by go_simp) (fun W45 hg46 => ?_)
      refine (default_any W45).mono ?_
      rintro e w47 ⟨dg44, rfl, hS_⟩
      refine ⟨_, rfl, ?_⟩
      have hT_ := (S43.out.gr hg46).got hS_
      simp only [n1, n3, n4]
      have S48 : Hid (St w noB [own (.slice (some ⟨dg44, 0, none⟩) 9 9) 35 8 9 (mcs Ma.dflt), blk g34 35 [.string (bstr ((Ma.mat_of ms k).n)), .bool ((Ma.mat_of ms k).s), .bool ((Ma.mat_of ms k).l), .bool ((Ma.mat_of ms k).f), .int .i64 ((Ma.mat_of ms k).fd), .int .i64 ((Ma.mat_of ms k).a), .int .i64 ((Ma.mat_of ms k).b), .int .i64 ((Ma.mat_of ms k).c)]] w47) := Lib.hid hT_
      clear S43
      clear hT_ hS_ hg46
      refine wpG_call (some 40) 21 #[] rfl (by rfl) (fun W => by go_simp) (fun W50 hg51 => ?_)
      refine (rdefault_any W50).mono ?_
      rintro e w52 ⟨dg49, rfl, hS_⟩
      refine ⟨_, rfl, ?_⟩
      have hT_ := (S48.out.gr hg51).got hS_
      simp only [n1, n3, n4]
      have S53 : Hid (St w noB [own (.slice (some ⟨dg49, 0, none⟩) 9 9) 35 8 9 (mcs Ma.dflt), own (.slice (some ⟨dg44, 0, none⟩) 9 9) 35 8 9 (mcs Ma.dflt), blk g34 35 [.string (bstr ((Ma.mat_of ms k).n)), .bool ((Ma.mat_of ms k).s), .bool ((Ma.mat_of ms k).l), .bool ((Ma.mat_of ms k).f), .int .i64 ((Ma.mat_of ms k).fd), .int .i64 ((Ma.mat_of ms k).a), .int .i64 ((Ma.mat_of ms k).b), .int .i64 ((Ma.mat_of ms k).c)]] w52) := Lib.hid hT_
      clear S48
      clear hT_ hS_ hg51
      refine @wpG_tk _ _ _ _ _ (some 41) (.bool true) _ _ rfl (.call (f := 16) (args := #[.slice (some ⟨dg44, 0, none⟩) 9 9, .slice (some ⟨dg49, 0, none⟩) 9 9]) (by rfl) (fun W => by go_simp) (fun W hg => ((rsame_any _ _ _ Ma.dflt _ _ _ Ma.dflt W (Tbl.ofOwn ((S53.out.gr hg).ownr 1 rfl)) (Tbl.ofOwn ((S53.out.gr hg).ownr 0 rfl))).mono (fun e w' h => ⟨h.1.trans (by rw [Ma.same_self]), h.2⟩)))) ?_
      simp only [n1, n3, n4]
      refine @wpG_p _ _ _ _ _ (some 13) (.bool true) _ _ rfl (by rfl) (fun _ => rfl) ?_
      simp only [n1, n3, n4]
      refine wpG_done (fun V54 hv55 => ?_)
      have S56 : Hid (St w noB [own (.slice (some ⟨dg49, 0, none⟩) 9 9) 35 8 9 (mcs Ma.dflt), own (.slice (some ⟨dg44, 0, none⟩) 9 9) 35 8 9 (mcs Ma.dflt), blk g34 35 [.string (bstr ((Ma.mat_of ms k).n)), .bool ((Ma.mat_of ms k).s), .bool ((Ma.mat_of ms k).l), .bool ((Ma.mat_of ms k).f), .int .i64 ((Ma.mat_of ms k).fd), .int .i64 ((Ma.mat_of ms k).a), .int .i64 ((Ma.mat_of ms k).b), .int .i64 ((Ma.mat_of ms k).c)]] V54) := Lib.hid (S53.out.gr hv55)
      clear S53
      clear hv55
      refine ⟨rfl, hK _ _ ?_⟩
      clear hK
      go_upto_region 8 with fail
      refine wpK_region_k (by kernel_rfl) (fun K hK => ?_)
      refine wpK_ta (i := 0) (some 42) (v := .bool true) rfl rfl (by kernel_rfl) (fun _ _ _ h => onN_panic h) (Or.inl ⟨rfl, fun _ => rfl⟩) ?_
      simp only [n1, n3, n4]
      refine wpK_ta (i := 1) (some 43) (v := .bool true) rfl rfl (by kernel_rfl) (fun _ _ _ h => onN_panic h) (Or.inl ⟨rfl, fun _ => rfl⟩) ?_
      simp only [n1, n3, n4]
      refine wpK_ta (i := 2) (some 44) (v := .bool true) rfl rfl (by kernel_rfl) (fun _ _ _ h => onN_panic h) (Or.inl ⟨rfl, fun _ => rfl⟩) ?_
      simp only [n1, n3, n4]
      refine wpK_ta (i := 3) (some 45) (v := .bool true) rfl rfl (by kernel_rfl) (fun _ _ _ h => onN_panic h) (Or.inl ⟨by rfl, fun W => by go_simp⟩) ?_
      simp only [n1, n3, n4]
      refine wpK_ta (i := 4) (some 46) (v := .bool true) rfl rfl (by kernel_rfl) (fun _ _ _ h => onN_panic h) (Or.inl ⟨rfl, fun _ => rfl⟩) ?_
      simp only [n1, n3, n4]
      refine wpK_ta (i := 5) (some 47) (v := .int .i64 ((Ma.find ms x).1)) rfl rfl (by kernel_rfl) (fun _ _ _ h => onN_panic h) (Or.inl ⟨rfl, fun _ => rfl⟩) ?_
      simp only [n1, n3, n4]
      refine wpK_ta (i := 6) (some 48) (v := .int .i64 ((Ma.find ms x).1)) rfl rfl (by kernel_rfl) (fun _ _ _ h => onN_panic h) (Or.inl ⟨rfl, fun _ => rfl⟩) ?_
      simp only [n1, n3, n4]
      refine wpK_ta (i := 7) (some 49) (v := .bool true) rfl rfl (by kernel_rfl) (fun _ _ _ h => onN_panic h) (Or.inl ⟨by rfl, fun W => by go_simp⟩) ?_
      simp only [n1, n3, n4]
      refine wpK_ta (i := 8) (some 50) (v := .bool true) rfl rfl (by kernel_rfl) (fun _ _ _ h => onN_panic h) (Or.inl ⟨by rfl, fun W => by go_simp⟩) ?_
      simp only [n1, n3, n4]
      refine wpK_ta (i := 9) (some 51) (v := .bool true) rfl rfl (by kernel_rfl) (fun _ _ _ h => onN_panic h) (Or.inl ⟨rfl, fun _ => rfl⟩) ?_
      simp only [n1, n3, n4]
      refine wpK_ta (i := 10) (some 52) (v := .bool ((Ma.find ms x).2)) rfl rfl (by kernel_rfl) (fun _ _ _ h => onN_panic h) (Or.inl ⟨rfl, fun _ => rfl⟩) ?_
      simp only [n1, n3, n4]
      refine wpK_ta (i := 11) (some 53) (v := .bool ((Ma.find ms x).2)) rfl rfl (by kernel_rfl) (fun _ _ _ h => onN_panic h) (Or.inl ⟨rfl, fun _ => rfl⟩) ?_
      simp only [n1, n3, n4]
      refine wpK_ta (i := 12) (some 54) (v := .bool true) rfl rfl (by kernel_rfl) (fun _ _ _ h => onN_panic h) (Or.inl ⟨by rfl, fun W => by first | (go_simp; done) | (skip <;> rfl) | (skip <;> go_simp)⟩) ?_
      simp only [n1, n3, n4]
      refine wpK_ta (i := 13) (some 55) (v := .bool true) rfl rfl (by kernel_rfl) (fun _ _ _ h => onN_panic h) (Or.inl ⟨by rfl, fun W => by go_simp⟩) ?_
      simp only [n1, n3, n4]
      refine wpK_ta (i := 14) (some 56) (v := .bool true) rfl rfl (by kernel_rfl) (fun _ _ _ h => onN_panic h) (Or.inl ⟨rfl, fun _ => rfl⟩) ?_
      simp only [n1, n3, n4]
      refine wpK_ta (i := 15) (some 57) (v := .slice A n c) rfl rfl (by kernel_rfl) (fun _ _ _ h => onN_panic h) (Or.inl ⟨rfl, fun _ => rfl⟩) ?_
      simp only [n1, n3, n4]
      refine wpK_ta (i := 16) (some 58) (v := .int .i64 k) rfl rfl (by kernel_rfl) (fun _ _ _ h => onN_panic h) (Or.inl ⟨rfl, fun _ => rfl⟩) ?_
      simp only [n1, n3, n4]
      refine wpK_ta (i := 18) (some 60) (v := .pointer (some ⟨g34, 1, none⟩)) rfl rfl (by kernel_rfl) (fun _ _ _ h => onN_panic h) (Or.inl ⟨by rfl, fun W => by go_simp⟩) ?_
      simp only [n1, n3, n4]
      refine wpK_tk (i := 17) (some 59) (v := .bool ((Ma.mat_of ms k).s)) rfl rfl (by kernel_rfl) (fun _ _ _ h => onN_panic h) (.call (f := 22) (args := #[.slice A n c, .int .i64 k]) (by rfl) (fun W => by go_simp) (fun W hg => qsolid_any _ _ _ ms k W (HTA.out.gr (S56.out.gr (Gr.un hg)).bel))) ?_
      simp only [n1, n3, n4]
      refine wpK_tk (i := 19) (some 61) (v := .bool ((Ma.mat_of ms k).s)) rfl rfl (by kernel_rfl) (fun _ _ _ h => onN_panic h) (.val (by rfl) (fun W hg => by have c := (S56.out.gr (Gr.un hg)).cell 2 rfl 1 rfl; go_simp)) ?_
      simp only [n1, n3, n4]
      refine wpK_ta (i := 20) (some 62) (v := .bool true) rfl rfl (by kernel_rfl) (fun _ _ _ h => onN_panic h) (Or.inl ⟨by rfl, fun W => by first | (go_simp; done) | (skip <;> rfl) | (skip <;> go_simp)⟩) ?_
      simp only [n1, n3, n4]
      refine wpK_ta (i := 21) (some 63) (v := .bool true) rfl rfl (by kernel_rfl) (fun _ _ _ h => onN_panic h) (Or.inl ⟨by rfl, fun W => by go_simp⟩) ?_
      simp only [n1, n3, n4]
      refine wpK_ta (i := 22) (some 64) (v := .bool true) rfl rfl (by kernel_rfl) (fun _ _ _ h => onN_panic h) (Or.inl ⟨rfl, fun _ => rfl⟩) ?_
      simp only [n1, n3, n4]
      refine wpK_ta (i := 23) (some 65) (v := .slice A n c) rfl rfl (by kernel_rfl) (fun _ _ _ h => onN_panic h) (Or.inl ⟨rfl, fun _ => rfl⟩) ?_
      simp only [n1, n3, n4]
      refine wpK_ta (i := 24) (some 66) (v := .int .i64 k) rfl rfl (by kernel_rfl) (fun _ _ _ h => onN_panic h) (Or.inl ⟨rfl, fun _ => rfl⟩) ?_
      simp only [n1, n3, n4]
      refine wpK_ta (i := 26) (some 68) (v := .pointer (some ⟨g34, 2, none⟩)) rfl rfl (by kernel_rfl) (fun _ _ _ h => onN_panic h) (Or.inl ⟨by rfl, fun W => by go_simp⟩) ?_
      simp only [n1, n3, n4]
      refine wpK_tk (i := 25) (some 67) (v := .bool ((Ma.mat_of ms k).l)) rfl rfl (by kernel_rfl) (fun _ _ _ h => onN_panic h) (.call (f := 23) (args := #[.slice A n c, .int .i64 k]) (by rfl) (fun W => by go_simp) (fun W hg => qliquid_any _ _ _ ms k W (HTA.out.gr (S56.out.gr (Gr.un hg)).bel))) ?_
      simp only [n1, n3, n4]
      refine wpK_tk (i := 27) (some 69) (v := .bool ((Ma.mat_of ms k).l)) rfl rfl (by kernel_rfl) (fun _ _ _ h => onN_panic h) (.val (by rfl) (fun W hg => by have c := (S56.out.gr (Gr.un hg)).cell 2 rfl 2 rfl; go_simp)) ?_
      simp only [n1, n3, n4]
      refine wpK_ta (i := 28) (some 70) (v := .bool true) rfl rfl (by kernel_rfl) (fun _ _ _ h => onN_panic h) (Or.inl ⟨by rfl, fun W => by first | (go_simp; done) | (skip <;> rfl) | (skip <;> go_simp)⟩) ?_
      simp only [n1, n3, n4]
      refine wpK_ta (i := 29) (some 71) (v := .bool true) rfl rfl (by kernel_rfl) (fun _ _ _ h => onN_panic h) (Or.inl ⟨by rfl, fun W => by go_simp⟩) ?_
      simp only [n1, n3, n4]
      refine wpK_ta (i := 30) (some 72) (v := .bool true) rfl rfl (by kernel_rfl) (fun _ _ _ h => onN_panic h) (Or.inl ⟨rfl, fun _ => rfl⟩) ?_
      simp only [n1, n3, n4]
      refine wpK_ta (i := 31) (some 73) (v := .slice A n c) rfl rfl (by kernel_rfl) (fun _ _ _ h => onN_panic h) (Or.inl ⟨rfl, fun _ => rfl⟩) ?_
      simp only [n1, n3, n4]
      refine wpK_ta (i := 32) (some 74) (v := .int .i64 k) rfl rfl (by kernel_rfl) (fun _ _ _ h => onN_panic h) (Or.inl ⟨rfl, fun _ => rfl⟩) ?_
      simp only [n1, n3, n4]
      refine wpK_ta (i := 34) (some 76) (v := .pointer (some ⟨g34, 3, none⟩)) rfl rfl (by kernel_rfl) (fun _ _ _ h => onN_panic h) (Or.inl ⟨by rfl, fun W => by go_simp⟩) ?_
      simp only [n1, n3, n4]
      refine wpK_tk (i := 33) (some 75) (v := .bool ((Ma.mat_of ms k).f)) rfl rfl (by kernel_rfl) (fun _ _ _ h => onN_panic h) (.call (f := 24) (args := #[.slice A n c, .int .i64 k]) (by rfl) (fun W => by go_simp) (fun W hg => qfalling_any _ _ _ ms k W (HTA.out.gr (S56.out.gr (Gr.un hg)).bel))) ?_
      simp only [n1, n3, n4]
      refine wpK_tk (i := 35) (some 77) (v := .bool ((Ma.mat_of ms k).f)) rfl rfl (by kernel_rfl) (fun _ _ _ h => onN_panic h) (.val (by rfl) (fun W hg => by have c := (S56.out.gr (Gr.un hg)).cell 2 rfl 3 rfl; go_simp)) ?_
      simp only [n1, n3, n4]
      refine wpK_ta (i := 36) (some 78) (v := .bool true) rfl rfl (by kernel_rfl) (fun _ _ _ h => onN_panic h) (Or.inl ⟨by rfl, fun W => by first | (go_simp; done) | (skip <;> rfl) | (skip <;> go_simp)⟩) ?_
      simp only [n1, n3, n4]
      refine wpK_ta (i := 37) (some 79) (v := .bool true) rfl rfl (by kernel_rfl) (fun _ _ _ h => onN_panic h) (Or.inl ⟨by rfl, fun W => by go_simp⟩) ?_
      simp only [n1, n3, n4]
      refine wpK_ta (i := 38) (some 80) (v := .bool true) rfl rfl (by kernel_rfl) (fun _ _ _ h => onN_panic h) (Or.inl ⟨rfl, fun _ => rfl⟩) ?_
      simp only [n1, n3, n4]
      refine wpK_ta (i := 39) (some 81) (v := .slice A n c) rfl rfl (by kernel_rfl) (fun _ _ _ h => onN_panic h) (Or.inl ⟨rfl, fun _ => rfl⟩) ?_
      simp only [n1, n3, n4]
      refine wpK_ta (i := 40) (some 82) (v := .int .i64 k) rfl rfl (by kernel_rfl) (fun _ _ _ h => onN_panic h) (Or.inl ⟨rfl, fun _ => rfl⟩) ?_
      simp only [n1, n3, n4]
      refine wpK_ta (i := 42) (some 84) (v := .pointer (some ⟨g34, 4, none⟩)) rfl rfl (by kernel_rfl) (fun _ _ _ h => onN_panic h) (Or.inl ⟨by rfl, fun W => by go_simp⟩) ?_
      simp only [n1, n3, n4]
      refine wpK_tk (i := 41) (some 83) (v := .int .i64 ((Ma.mat_of ms k).fd)) rfl rfl (by kernel_rfl) (fun _ _ _ h => onN_panic h) (.call (f := 25) (args := #[.slice A n c, .int .i64 k]) (by rfl) (fun W => by go_simp) (fun W hg => qfade_any _ _ _ ms k W (HTA.out.gr (S56.out.gr (Gr.un hg)).bel))) ?_
      simp only [n1, n3, n4]
      refine wpK_tk (i := 43) (some 85) (v := .int .i64 ((Ma.mat_of ms k).fd)) rfl rfl (by kernel_rfl) (fun _ _ _ h => onN_panic h) (.val (by rfl) (fun W hg => by have c := (S56.out.gr (Gr.un hg)).cell 2 rfl 4 rfl; go_simp)) ?_
      simp only [n1, n3, n4]
      refine wpK_ta (i := 44) (some 86) (v := .bool true) rfl rfl (by kernel_rfl) (fun _ _ _ h => onN_panic h) (Or.inl ⟨by rfl, fun W => by go_simp⟩) ?_
      simp only [n1, n3, n4]
      refine wpK_ta (i := 45) (some 87) (v := .bool true) rfl rfl (by kernel_rfl) (fun _ _ _ h => onN_panic h) (Or.inl ⟨by rfl, fun W => by go_simp⟩) ?_
      simp only [n1, n3, n4]
      refine wpK_ta (i := 46) (some 88) (v := .bool true) rfl rfl (by kernel_rfl) (fun _ _ _ h => onN_panic h) (Or.inl ⟨rfl, fun _ => rfl⟩) ?_
      simp only [n1, n3, n4]
      refine wpK_ta (i := 47) (some 89) (v := .slice A n c) rfl rfl (by kernel_rfl) (fun _ _ _ h => onN_panic h) (Or.inl ⟨rfl, fun _ => rfl⟩) ?_
      simp only [n1, n3, n4]
      refine wpK_ta (i := 48) (some 90) (v := .int .i64 k) rfl rfl (by kernel_rfl) (fun _ _ _ h => onN_panic h) (Or.inl ⟨rfl, fun _ => rfl⟩) ?_
      simp only [n1, n3, n4]
      refine wpK_ta (i := 50) (some 92) (v := .pointer (some ⟨g34, 5, none⟩)) rfl rfl (by kernel_rfl) (fun _ _ _ h => onN_panic h) (Or.inl ⟨by rfl, fun W => by go_simp⟩) ?_
      simp only [n1, n3, n4]
      refine wpK_tk (i := 49) (some 91) (v := .agg #[.int .i64 ((Ma.mat_of ms k).a), .int .i64 ((Ma.mat_of ms k).b), .int .i64 ((Ma.mat_of ms k).c)]) rfl rfl (by kernel_rfl) (fun _ _ _ h => onN_panic h) (.call (f := 26) (args := #[.slice A n c, .int .i64 k]) (by rfl) (fun W => by go_simp) (fun W hg => qemit_any _ _ _ ms k W (HTA.out.gr (S56.out.gr (Gr.un hg)).bel))) ?_
      simp only [n1, n3, n4]
      refine wpK_tk (i := 51) (some 93) (v := .agg #[.int .i64 ((Ma.mat_of ms k).a), .int .i64 ((Ma.mat_of ms k).b), .int .i64 ((Ma.mat_of ms k).c)]) rfl rfl (by kernel_rfl) (fun _ _ _ h => onN_panic h) (.load_mid (by rfl) 33 (.tmp 92) rfl g34 5 rfl [.int .i64 ((Ma.mat_of ms k).a), .int .i64 ((Ma.mat_of ms k).b), .int .i64 ((Ma.mat_of ms k).c)] _ (fun W hg => (S56.out.gr (Gr.un hg)).range 2 rfl 5 3 rfl) Tryd.underlying33 rfl (by kernel_rfl)) ?_
      simp only [n1, n3, n4]
      refine wpK_ta (i := 52) (some 94) (v := .bool true) rfl rfl (by kernel_rfl) (fun _ _ _ h => onN_panic h) (Or.inl ⟨by rfl, fun W => by exact op_i3_same W ((Ma.mat_of ms k).a) ((Ma.mat_of ms k).b) ((Ma.mat_of ms k).c) rfl rfl rfl⟩) ?_
      simp only [n1, n3, n4]
      refine wpK_ta (i := 53) (some 95) (v := .bool true) rfl rfl (by kernel_rfl) (fun _ _ _ h => onN_panic h) (Or.inl ⟨by rfl, fun W => by go_simp⟩) ?_
      simp only [n1, n3, n4]
      refine wpK_ta (i := 54) (some 6) (v := .bool true) rfl rfl (by kernel_rfl) (fun _ _ _ h => onN_panic h) (Or.inl ⟨rfl, fun _ => rfl⟩) ?_
      simp only [n1, n3, n4]
      refine wpK_done (by kernel_rfl) (fun V57 hv58 => ?_) _
      have S59 : Hid (St w noB [own (.slice (some ⟨dg49, 0, none⟩) 9 9) 35 8 9 (mcs Ma.dflt), own (.slice (some ⟨dg44, 0, none⟩) 9 9) 35 8 9 (mcs Ma.dflt), blk g34 35 [.string (bstr ((Ma.mat_of ms k).n)), .bool ((Ma.mat_of ms k).s), .bool ((Ma.mat_of ms k).l), .bool ((Ma.mat_of ms k).f), .int .i64 ((Ma.mat_of ms k).fd), .int .i64 ((Ma.mat_of ms k).a), .int .i64 ((Ma.mat_of ms k).b), .int .i64 ((Ma.mat_of ms k).c)]] V57) := Lib.hid (S56.out.gr (Gr.un hv58))
      clear S56
      clear hv58
      refine ⟨rfl, hK _ _ ?_⟩
      clear hK
      go_wp2_with fail
      go_ret
      refine ⟨?_, S59.out.bel⟩
      show Ending.returned (.bool true) = _
      (first | rfl | (have e_f16 := f16.out; rfl))

end Go.Proofs.YtpjjddjoegnipaaDoor
