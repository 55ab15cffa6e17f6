/-
  Contracts: kindOf, kindNamed, validName, and their like.
-/
import Derived.Test.YtpjjddjoegnipaaDoorMc1
import Derived.Test.YtpjjddjoegnipaaDoorMac
import Derived.Handy
namespace Go.Proofs.YtpjjddjoegnipaaDoor
open Go Go.RowKit
set_option linter.unusedVariables false
set_option linter.unusedSimpArgs false
set_option maxRecDepth 1000000 in
set_option maxHeartbeats 4000000 in
theorem kindOf_any (n : List UInt8) (s l f : Bool) (fd a b c : Int) (w : World) (hK : Kt w) :
    Calls Tryd.prog 42 #[.agg #[.string (bstr n), .bool s, .bool l, .bool f, .int .i64 fd, .int .i64 a, .int .i64 b, .int .i64 c]] w fun e w' => e = .returned (.tuple #[.string (bstr (Ma.kdn s l f)), .bool ((Ma.kd s l f).isSome)]) ∧ Below w.heap.size w w' := by
  have HK := Lib.hid hK
  clear hK
  have S1 : Hid (St w noB [] w) := Lib.hid (St.start w)
  go_enter Tryd.func42, Tryd.ntmps42
  go_upto_region 0 with fail
  refine wpG_region_k (fun K hK => ?_)
  refine wpG_val (some 1) rfl (by rfl) (fun W2 hg3 => ⟨.pointer (some ⟨W2.heap.size, 0, none⟩), W2.alloc (.cells #[.string (bstr n), .bool s, .bool l, .bool f, .int .i64 fd, .int .i64 a, .int .i64 b, .int .i64 c] 35), by (first | (go_simp; done) | (go_simp <;> rfl)), ?_⟩)
  simp only [n1, n3, n4]
  obtain ⟨g4, U5, hg_, hu_, hS_⟩ := (S1.out.gr hg3).made [.string (bstr n), .bool s, .bool l, .bool f, .int .i64 fd, .int .i64 a, .int .i64 b, .int .i64 c] 35
  rw [← hu_, ← hg_]
  have S6 : Hid (St w noB [blk g4 35 [.string (bstr n), .bool s, .bool l, .bool f, .int .i64 fd, .int .i64 a, .int .i64 b, .int .i64 c]] U5) := Lib.hid hS_
  clear S1
  clear hg_ hu_ hS_ hg3
  refine @wpG_p _ _ _ _ _ (some 2) (.string ⟨#[]⟩) _ _ rfl (by rfl) (fun _ => rfl) ?_
  simp only [n1, n3, n4]
  refine @wpG_p _ _ _ _ _ (some 3) (.bool false) _ _ rfl (by rfl) (fun _ => rfl) ?_
  simp only [n1, n3, n4]
  refine wpG_done (fun V7 hv8 => ?_)
  have S9 : Hid (St w noB [blk g4 35 [.string (bstr n), .bool s, .bool l, .bool f, .int .i64 fd, .int .i64 a, .int .i64 b, .int .i64 c]] V7) := Lib.hid (S6.out.gr hv8)
  clear S6
  clear hv8
  refine ⟨rfl, hK _ _ ?_⟩
  clear hK
  go_upto_region 1 with fail
  refine wpG_region_k (fun K hK => ?_)
  refine @wpG_tk _ _ _ _ _ (some 6) (.agg #[.string (bstr Ma.wGas), .bool false, .bool false, .bool false, .string (bstr Ma.wSolid), .bool true, .bool false, .bool false, .string (bstr Ma.wFalling), .bool true, .bool false, .bool true, .string (bstr Ma.wLiquid), .bool false, .bool true, .bool false]) _ _ rfl (.load_mid (by rfl) 84 (.global 0) rfl (0) 0 rfl [.string (bstr Ma.wGas), .bool false, .bool false, .bool false, .string (bstr Ma.wSolid), .bool true, .bool false, .bool false, .string (bstr Ma.wFalling), .bool true, .bool false, .bool true, .string (bstr Ma.wLiquid), .bool false, .bool true, .bool false] _ (fun W hg => (HK.out.gr ((S9.out.gr hg)).bel)) Tryd.underlying84 rfl (by kernel_rfl)) ?_
  simp only [n1, n3, n4]
  refine @wpG_p _ _ _ _ _ (some 7) (.int .i64 0) _ _ rfl (by rfl) (fun _ => rfl) ?_
  simp only [n1, n3, n4]
  refine wpG_done (fun V10 hv11 => ?_)
  have S12 : Hid (St w noB [blk g4 35 [.string (bstr n), .bool s, .bool l, .bool f, .int .i64 fd, .int .i64 a, .int .i64 b, .int .i64 c]] V10) := Lib.hid (S9.out.gr hv11)
  clear S9
  clear hv11
  refine ⟨rfl, hK _ _ ?_⟩
  clear hK
  go_wp2_with fail
  refine wp_loop_rounds 5 ?_
  rw [rounds_succ]
  go_upto_region 2 with fail
  refine wpG_region_k (fun K hK => ?_)
  refine @wpG_p _ _ _ _ _ (some 8) (.bool true) _ _ rfl (by rfl) (fun W => by go_simp) ?_
  simp only [n1, n3, n4]
  refine wpG_done (fun V13 hv14 => ?_)
  have S15 : Hid (St w noB [blk g4 35 [.string (bstr n), .bool s, .bool l, .bool f, .int .i64 fd, .int .i64 a, .int .i64 b, .int .i64 c]] V13) := Lib.hid (S12.out.gr hv14)
  clear S12
  clear hv14
  refine ⟨rfl, hK _ _ ?_⟩
  clear hK
  go_upto_region 3 with fail
  refine wpG_region_k (fun K hK => ?_)
  refine @wpG_p _ _ _ _ _ (some 9) (.agg #[.string (bstr Ma.wGas), .bool false, .bool false, .bool false]) _ _ rfl (by rfl) (fun W => by first | kernel_rfl | (go_simp; done) | (go_simp <;> rfl)) ?_
  simp only [n1, n3, n4]
  refine wpG_val (some 5) rfl (by rfl) (fun W16 hg17 => ⟨.pointer (some ⟨W16.heap.size, 0, none⟩), W16.alloc (.cells #[.string ⟨#[]⟩, .bool false, .bool false, .bool false] 75), by (first | (go_simp; done) | (go_simp <;> rfl)), ?_⟩)
  simp only [n1, n3, n4]
  obtain ⟨g18, U19, hg_, hu_, hS_⟩ := (S15.out.gr hg17).made [.string ⟨#[]⟩, .bool false, .bool false, .bool false] 75
  rw [← hu_, ← hg_]
  have S20 : Hid (St w noB [blk g18 75 [.string ⟨#[]⟩, .bool false, .bool false, .bool false], blk g4 35 [.string (bstr n), .bool s, .bool l, .bool f, .int .i64 fd, .int .i64 a, .int .i64 b, .int .i64 c]] U19) := Lib.hid hS_
  clear S15
  clear hg_ hu_ hS_ hg17
  refine wpG_store (none) rfl (by rfl) (fun W21 hg22 => ⟨_, run_store_mid 75 (.tmp 5) (.tmp 9) rfl g18 0 #[.string (bstr Ma.wGas), .bool false, .bool false, .bool false] rfl rfl ((S20.out.gr hg22).room 0 rfl 0 4 (by simp)) (by kernel_rfl) (by kernel_rfl), ?_⟩)
  simp only [n2]
  obtain ⟨U23, hu_, hS_⟩ := ((S20.out.gr hg22).put 0 rfl 0 (#[.string (bstr Ma.wGas), .bool false, .bool false, .bool false] : Array Value).toList (ds := [.string (bstr Ma.wGas), .bool false, .bool false, .bool false]) rfl).named
  rw [← hu_]
  have S24 : Hid (St w noB [blk g18 75 [.string (bstr Ma.wGas), .bool false, .bool false, .bool false], blk g4 35 [.string (bstr n), .bool s, .bool l, .bool f, .int .i64 fd, .int .i64 a, .int .i64 b, .int .i64 c]] U23) := Lib.hid hS_
  clear S20
  clear hu_ hS_ hg22
  refine wpG_done (fun V25 hv26 => ?_)
  have S27 : Hid (St w noB [blk g18 75 [.string (bstr Ma.wGas), .bool false, .bool false, .bool false], blk g4 35 [.string (bstr n), .bool s, .bool l, .bool f, .int .i64 fd, .int .i64 a, .int .i64 b, .int .i64 c]] V25) := Lib.hid (S24.out.gr hv26)
  clear S24
  clear hv26
  refine ⟨rfl, hK _ _ ?_⟩
  clear hK
  go_upto_region 4 with fail
  refine wpG_region_k (fun K hK => ?_)
  refine @wpG_p _ _ _ _ _ (some 10) (.pointer (some ⟨g4, 1, none⟩)) _ _ rfl (by rfl) (fun W => by go_simp) ?_
  simp only [n1, n3, n4]
  refine @wpG_r _ _ _ _ _ (some 11) (.bool s) _ _ rfl (by rfl) (fun W hg => by have c := (S27.out.gr hg).cell 1 rfl 1 rfl; go_simp) ?_
  simp only [n1, n3, n4]
  refine @wpG_p _ _ _ _ _ (some 12) (.pointer (some ⟨g18, 1, none⟩)) _ _ rfl (by rfl) (fun W => by go_simp) ?_
  simp only [n1, n3, n4]
  refine @wpG_r _ _ _ _ _ (some 13) (.bool false) _ _ rfl (by rfl) (fun W hg => by have c := (S27.out.gr hg).cell 0 rfl 1 rfl; go_simp) ?_
  simp only [n1, n3, n4]
  refine @wpG_p _ _ _ _ _ (some 14) (.bool (!s)) _ _ rfl (by rfl) (fun W => by first | (go_simp; done) | (cases s <;> rfl) | (cases s <;> go_simp)) ?_
  simp only [n1, n3, n4]
  refine @wpG_p _ _ _ _ _ (some 15) (.bool (!s)) _ _ rfl (by rfl) (fun _ => rfl) ?_
  simp only [n1, n3, n4]
  obtain ⟨c28, hc28⟩ : ∃ q_, q_ = (!s) := ⟨_, rfl⟩
  rw [← hc28]
  have Hc28 := Lib.hid hc28
  clear hc28
  refine @wpG_tk _ _ _ _ _ (some 16) ((bif c28 then .pointer (some ⟨g4, 2, none⟩) else undef)) _ _ rfl (by cases c28 with | false => exact .no (by rfl) | true => exact (.val (by rfl) (fun W hg => by go_simp))) ?_
  simp only [n1, n3, n4]
  refine @wpG_tk _ _ _ _ _ (some 17) ((bif c28 then .bool l else undef)) _ _ rfl (by cases c28 with | false => exact .no (by rfl) | true => exact (.val (by rfl) (fun W hg => by have c := (S27.out.gr hg).cell 1 rfl 2 rfl; go_simp))) ?_
  simp only [n1, n3, n4]
  refine @wpG_tk _ _ _ _ _ (some 18) ((bif c28 then .pointer (some ⟨g18, 2, none⟩) else undef)) _ _ rfl (by cases c28 with | false => exact .no (by rfl) | true => exact (.val (by rfl) (fun W hg => by go_simp))) ?_
  simp only [n1, n3, n4]
  refine @wpG_tk _ _ _ _ _ (some 19) ((bif c28 then .bool false else undef)) _ _ rfl (by cases c28 with | false => exact .no (by rfl) | true => exact (.val (by rfl) (fun W hg => by have c := (S27.out.gr hg).cell 0 rfl 2 rfl; go_simp))) ?_
  simp only [n1, n3, n4]
  refine @wpG_tk _ _ _ _ _ (some 20) ((bif c28 then .bool (!l) else undef)) _ _ rfl (by cases c28 with | false => exact .no (by rfl) | true => exact (.val (by rfl) (fun W hg => by first | (go_simp; done) | (cases l <;> rfl) | (cases l <;> go_simp)))) ?_
  simp only [n1, n3, n4]
  refine @wpG_p _ _ _ _ _ (some 21) (.bool (c28 && (!l))) _ _ rfl (by rfl) (fun W => by cases c28 <;> go_simp) ?_
  simp only [n1, n3, n4]
  obtain ⟨c29, hc29⟩ : ∃ q_, q_ = (c28 && (!l)) := ⟨_, rfl⟩
  rw [← hc29]
  have Hc29 := Lib.hid hc29
  clear hc29
  refine @wpG_p _ _ _ _ _ (some 22) (.bool c29) _ _ rfl (by rfl) (fun _ => rfl) ?_
  simp only [n1, n3, n4]
  refine @wpG_tk _ _ _ _ _ (some 23) ((bif c29 then .pointer (some ⟨g4, 3, none⟩) else undef)) _ _ rfl (by cases c29 with | false => exact .no (by rfl) | true => exact (.val (by rfl) (fun W hg => by go_simp))) ?_
  simp only [n1, n3, n4]
  refine @wpG_tk _ _ _ _ _ (some 24) ((bif c29 then .bool f else undef)) _ _ rfl (by cases c29 with | false => exact .no (by rfl) | true => exact (.val (by rfl) (fun W hg => by have c := (S27.out.gr hg).cell 1 rfl 3 rfl; go_simp))) ?_
  simp only [n1, n3, n4]
  refine @wpG_tk _ _ _ _ _ (some 25) ((bif c29 then .pointer (some ⟨g18, 3, none⟩) else undef)) _ _ rfl (by cases c29 with | false => exact .no (by rfl) | true => exact (.val (by rfl) (fun W hg => by go_simp))) ?_
  simp only [n1, n3, n4]
  refine @wpG_tk _ _ _ _ _ (some 26) ((bif c29 then .bool false else undef)) _ _ rfl (by cases c29 with | false => exact .no (by rfl) | true => exact (.val (by rfl) (fun W hg => by have c := (S27.out.gr hg).cell 0 rfl 3 rfl; go_simp))) ?_
  simp only [n1, n3, n4]
  refine @wpG_tk _ _ _ _ _ (some 27) ((bif c29 then .bool (!f) else undef)) _ _ rfl (by cases c29 with | false => exact .no (by rfl) | true => exact (.val (by rfl) (fun W hg => by first | (go_simp; done) | (cases f <;> rfl) | (cases f <;> go_simp)))) ?_
  simp only [n1, n3, n4]
  refine @wpG_p _ _ _ _ _ (some 28) (.bool (c29 && (!f))) _ _ rfl (by rfl) (fun W => by cases c29 <;> go_simp) ?_
  simp only [n1, n3, n4]
  obtain ⟨c30, hc30⟩ : ∃ q_, q_ = (c29 && (!f)) := ⟨_, rfl⟩
  rw [← hc30]
  have Hc30 := Lib.hid hc30
  clear hc30
  refine wpG_done (fun V31 hv32 => ?_)
  have S33 : Hid (St w noB [blk g18 75 [.string (bstr Ma.wGas), .bool false, .bool false, .bool false], blk g4 35 [.string (bstr n), .bool s, .bool l, .bool f, .int .i64 fd, .int .i64 a, .int .i64 b, .int .i64 c]] V31) := Lib.hid (S27.out.gr hv32)
  clear S27
  clear hv32
  refine ⟨rfl, hK _ _ ?_⟩
  clear hK
  cases c30 with
  | true =>
    have f34 := Lib.hid (Hc30.out.symm)
    go_upto_region 5 with fail
    refine wpG_region_k (fun K hK => ?_)
    refine @wpG_p _ _ _ _ _ (some 29) (.pointer (some ⟨g18, 0, none⟩)) _ _ rfl (by rfl) (fun W => by go_simp) ?_
    simp only [n1, n3, n4]
    refine @wpG_r _ _ _ _ _ (some 30) (.string (bstr Ma.wGas)) _ _ rfl (by rfl) (fun W hg => by have c := (S33.out.gr hg).cell 0 rfl 0 rfl; go_simp) ?_
    simp only [n1, n3, n4]
    refine @wpG_p _ _ _ _ _ (some 2) (.string (bstr Ma.wGas)) _ _ rfl (by rfl) (fun _ => rfl) ?_
    simp only [n1, n3, n4]
    refine @wpG_p _ _ _ _ _ (some 3) (.bool true) _ _ rfl (by rfl) (fun _ => rfl) ?_
    simp only [n1, n3, n4]
    refine wpG_done (fun V35 hv36 => ?_)
    have S37 : Hid (St w noB [blk g18 75 [.string (bstr Ma.wGas), .bool false, .bool false, .bool false], blk g4 35 [.string (bstr n), .bool s, .bool l, .bool f, .int .i64 fd, .int .i64 a, .int .i64 b, .int .i64 c]] V35) := Lib.hid (S33.out.gr hv36)
    clear S33
    clear hv36
    refine ⟨rfl, hK _ _ ?_⟩
    clear hK
    go_wp2_with fail
    go_ret2
    refine ⟨?_, S37.out.bel⟩
    show Ending.returned (.tuple #[.string (bstr Ma.wGas), .bool true]) = _
    (first | rfl | (obtain rfl := Hc28.out; obtain rfl := Hc29.out; have e_f34 := f34.out; (cases s <;> cases l <;> cases f <;> first | rfl | (simp at *))))
  | false =>
    have f38 := Lib.hid (Hc30.out.symm)
    go_upto_region 6 with fail
    refine wpG_region_k (fun K hK => ?_)
    refine @wpG_p _ _ _ _ _ (some 31) (.int .i64 1) _ _ rfl (by rfl) (fun W => by go_simp <;> rfl) ?_
    simp only [n1, n3, n4]
    refine @wpG_p _ _ _ _ _ (some 7) (.int .i64 1) _ _ rfl (by rfl) (fun _ => rfl) ?_
    simp only [n1, n3, n4]
    refine wpG_done (fun V39 hv40 => ?_)
    have S41 : Hid (St w noB [blk g18 75 [.string (bstr Ma.wGas), .bool false, .bool false, .bool false], blk g4 35 [.string (bstr n), .bool s, .bool l, .bool f, .int .i64 fd, .int .i64 a, .int .i64 b, .int .i64 c]] V39) := Lib.hid (S33.out.gr hv40)
    clear S33
    clear hv40
    refine ⟨rfl, hK _ _ ?_⟩
    clear hK
    go_wp2_with fail
    rw [rounds_succ]
    go_upto_region 2 with fail
    refine wpG_region_k (fun K hK => ?_)
    refine @wpG_p _ _ _ _ _ (some 8) (.bool true) _ _ rfl (by rfl) (fun W => by go_simp) ?_
    simp only [n1, n3, n4]
    refine wpG_done (fun V42 hv43 => ?_)
    have S44 : Hid (St w noB [blk g18 75 [.string (bstr Ma.wGas), .bool false, .bool false, .bool false], blk g4 35 [.string (bstr n), .bool s, .bool l, .bool f, .int .i64 fd, .int .i64 a, .int .i64 b, .int .i64 c]] V42) := Lib.hid (S41.out.gr hv43)
    clear S41
    clear hv43
    refine ⟨rfl, hK _ _ ?_⟩
    clear hK
    go_upto_region 3 with fail
    refine wpG_region_k (fun K hK => ?_)
    refine @wpG_p _ _ _ _ _ (some 9) (.agg #[.string (bstr Ma.wSolid), .bool true, .bool false, .bool false]) _ _ rfl (by rfl) (fun W => by first | kernel_rfl | (go_simp; done) | (go_simp <;> rfl)) ?_
    simp only [n1, n3, n4]
    refine wpG_val (some 5) rfl (by rfl) (fun W45 hg46 => ⟨.pointer (some ⟨W45.heap.size, 0, none⟩), W45.alloc (.cells #[.string ⟨#[]⟩, .bool false, .bool false, .bool false] 75), by (first | (go_simp; done) | (go_simp <;> rfl)), ?_⟩)
    simp only [n1, n3, n4]
    obtain ⟨g47, U48, hg_, hu_, hS_⟩ := (S44.out.gr hg46).made [.string ⟨#[]⟩, .bool false, .bool false, .bool false] 75
    rw [← hu_, ← hg_]
    have S49 : Hid (St w noB [blk g47 75 [.string ⟨#[]⟩, .bool false, .bool false, .bool false], blk g18 75 [.string (bstr Ma.wGas), .bool false, .bool false, .bool false], blk g4 35 [.string (bstr n), .bool s, .bool l, .bool f, .int .i64 fd, .int .i64 a, .int .i64 b, .int .i64 c]] U48) := Lib.hid hS_
    clear S44
    clear hg_ hu_ hS_ hg46
    refine wpG_store (none) rfl (by rfl) (fun W50 hg51 => ⟨_, run_store_mid 75 (.tmp 5) (.tmp 9) rfl g47 0 #[.string (bstr Ma.wSolid), .bool true, .bool false, .bool false] rfl rfl ((S49.out.gr hg51).room 0 rfl 0 4 (by simp)) (by kernel_rfl) (by kernel_rfl), ?_⟩)
    simp only [n2]
    obtain ⟨U52, hu_, hS_⟩ := ((S49.out.gr hg51).put 0 rfl 0 (#[.string (bstr Ma.wSolid), .bool true, .bool false, .bool false] : Array Value).toList (ds := [.string (bstr Ma.wSolid), .bool true, .bool false, .bool false]) rfl).named
    rw [← hu_]
    have S53 : Hid (St w noB [blk g47 75 [.string (bstr Ma.wSolid), .bool true, .bool false, .bool false], blk g18 75 [.string (bstr Ma.wGas), .bool false, .bool false, .bool false], blk g4 35 [.string (bstr n), .bool s, .bool l, .bool f, .int .i64 fd, .int .i64 a, .int .i64 b, .int .i64 c]] U52) := Lib.hid hS_
    clear S49
    clear hu_ hS_ hg51
    refine wpG_done (fun V54 hv55 => ?_)
    have S56 : Hid (St w noB [blk g47 75 [.string (bstr Ma.wSolid), .bool true, .bool false, .bool false], blk g18 75 [.string (bstr Ma.wGas), .bool false, .bool false, .bool false], blk g4 35 [.string (bstr n), .bool s, .bool l, .bool f, .int .i64 fd, .int .i64 a, .int .i64 b, .int .i64 c]] V54) := Lib.hid (S53.out.gr hv55)
    clear S53
    clear hv55
    refine ⟨rfl, hK _ _ ?_⟩
    clear hK
    go_upto_region 4 with fail
    refine wpG_region_k (fun K hK => ?_)
    refine @wpG_p _ _ _ _ _ (some 10) (.pointer (some ⟨g4, 1, none⟩)) _ _ rfl (by rfl) (fun W => by go_simp) ?_
    simp only [n1, n3, n4]
    refine @wpG_r _ _ _ _ _ (some 11) (.bool s) _ _ rfl (by rfl) (fun W hg => by have c := (S56.out.gr hg).cell 2 rfl 1 rfl; go_simp) ?_
    simp only [n1, n3, n4]
    refine @wpG_p _ _ _ _ _ (some 12) (.pointer (some ⟨g47, 1, none⟩)) _ _ rfl (by rfl) (fun W => by go_simp) ?_
    simp only [n1, n3, n4]
    refine @wpG_r _ _ _ _ _ (some 13) (.bool true) _ _ rfl (by rfl) (fun W hg => by have c := (S56.out.gr hg).cell 0 rfl 1 rfl; go_simp) ?_
    simp only [n1, n3, n4]
    refine @wpG_p _ _ _ _ _ (some 14) (.bool s) _ _ rfl (by rfl) (fun W => by first | (go_simp; done) | (cases s <;> rfl) | (cases s <;> go_simp)) ?_
    simp only [n1, n3, n4]
    refine @wpG_p _ _ _ _ _ (some 15) (.bool s) _ _ rfl (by rfl) (fun _ => rfl) ?_
    simp only [n1, n3, n4]
    refine @wpG_tk _ _ _ _ _ (some 16) ((bif s then .pointer (some ⟨g4, 2, none⟩) else undef)) _ _ rfl (by cases s with | false => exact .no (by rfl) | true => exact (.val (by rfl) (fun W hg => by go_simp))) ?_
    simp only [n1, n3, n4]
    refine @wpG_tk _ _ _ _ _ (some 17) ((bif s then .bool l else undef)) _ _ rfl (by cases s with | false => exact .no (by rfl) | true => exact (.val (by rfl) (fun W hg => by have c := (S56.out.gr hg).cell 2 rfl 2 rfl; go_simp))) ?_
    simp only [n1, n3, n4]
    refine @wpG_tk _ _ _ _ _ (some 18) ((bif s then .pointer (some ⟨g47, 2, none⟩) else undef)) _ _ rfl (by cases s with | false => exact .no (by rfl) | true => exact (.val (by rfl) (fun W hg => by go_simp))) ?_
    simp only [n1, n3, n4]
    refine @wpG_tk _ _ _ _ _ (some 19) ((bif s then .bool false else undef)) _ _ rfl (by cases s with | false => exact .no (by rfl) | true => exact (.val (by rfl) (fun W hg => by have c := (S56.out.gr hg).cell 0 rfl 2 rfl; go_simp))) ?_
    simp only [n1, n3, n4]
    refine @wpG_tk _ _ _ _ _ (some 20) ((bif s then .bool (!l) else undef)) _ _ rfl (by cases s with | false => exact .no (by rfl) | true => exact (.val (by rfl) (fun W hg => by first | (go_simp; done) | (cases l <;> rfl) | (cases l <;> go_simp)))) ?_
    simp only [n1, n3, n4]
    refine @wpG_p _ _ _ _ _ (some 21) (.bool (s && (!l))) _ _ rfl (by rfl) (fun W => by cases s <;> go_simp) ?_
    simp only [n1, n3, n4]
    obtain ⟨c57, hc57⟩ : ∃ q_, q_ = (s && (!l)) := ⟨_, rfl⟩
    rw [← hc57]
    have Hc57 := Lib.hid hc57
    clear hc57
    refine @wpG_p _ _ _ _ _ (some 22) (.bool c57) _ _ rfl (by rfl) (fun _ => rfl) ?_
    simp only [n1, n3, n4]
    refine @wpG_tk _ _ _ _ _ (some 23) ((bif c57 then .pointer (some ⟨g4, 3, none⟩) else undef)) _ _ rfl (by cases c57 with | false => exact .no (by rfl) | true => exact (.val (by rfl) (fun W hg => by go_simp))) ?_
    simp only [n1, n3, n4]
    refine @wpG_tk _ _ _ _ _ (some 24) ((bif c57 then .bool f else undef)) _ _ rfl (by cases c57 with | false => exact .no (by rfl) | true => exact (.val (by rfl) (fun W hg => by have c := (S56.out.gr hg).cell 2 rfl 3 rfl; go_simp))) ?_
    simp only [n1, n3, n4]
    refine @wpG_tk _ _ _ _ _ (some 25) ((bif c57 then .pointer (some ⟨g47, 3, none⟩) else undef)) _ _ rfl (by cases c57 with | false => exact .no (by rfl) | true => exact (.val (by rfl) (fun W hg => by go_simp))) ?_
    simp only [n1, n3, n4]
    refine @wpG_tk _ _ _ _ _ (some 26) ((bif c57 then .bool false else undef)) _ _ rfl (by cases c57 with | false => exact .no (by rfl) | true => exact (.val (by rfl) (fun W hg => by have c := (S56.out.gr hg).cell 0 rfl 3 rfl; go_simp))) ?_
    simp only [n1, n3, n4]
    refine @wpG_tk _ _ _ _ _ (some 27) ((bif c57 then .bool (!f) else undef)) _ _ rfl (by cases c57 with | false => exact .no (by rfl) | true => exact (.val (by rfl) (fun W hg => by first | (go_simp; done) | (cases f <;> rfl) | (cases f <;> go_simp)))) ?_
    simp only [n1, n3, n4]
    refine @wpG_p _ _ _ _ _ (some 28) (.bool (c57 && (!f))) _ _ rfl (by rfl) (fun W => by cases c57 <;> go_simp) ?_
    simp only [n1, n3, n4]
    obtain ⟨c58, hc58⟩ : ∃ q_, q_ = (c57 && (!f)) := ⟨_, rfl⟩
    rw [← hc58]
    have Hc58 := Lib.hid hc58
    clear hc58
    refine wpG_done (fun V59 hv60 => ?_)
    have S61 : Hid (St w noB [blk g47 75 [.string (bstr Ma.wSolid), .bool true, .bool false, .bool false], blk g18 75 [.string (bstr Ma.wGas), .bool false, .bool false, .bool false], blk g4 35 [.string (bstr n), .bool s, .bool l, .bool f, .int .i64 fd, .int .i64 a, .int .i64 b, .int .i64 c]] V59) := Lib.hid (S56.out.gr hv60)
    clear S56
    clear hv60
    refine ⟨rfl, hK _ _ ?_⟩
    clear hK
    cases c58 with
    | true =>
      have f62 := Lib.hid (Hc58.out.symm)
      go_upto_region 5 with fail
      refine wpG_region_k (fun K hK => ?_)
      refine @wpG_p _ _ _ _ _ (some 29) (.pointer (some ⟨g47, 0, none⟩)) _ _ rfl (by rfl) (fun W => by go_simp) ?_
      simp only [n1, n3, n4]
      refine @wpG_r _ _ _ _ _ (some 30) (.string (bstr Ma.wSolid)) _ _ rfl (by rfl) (fun W hg => by have c := (S61.out.gr hg).cell 0 rfl 0 rfl; go_simp) ?_
      simp only [n1, n3, n4]
      refine @wpG_p _ _ _ _ _ (some 2) (.string (bstr Ma.wSolid)) _ _ rfl (by rfl) (fun _ => rfl) ?_
      simp only [n1, n3, n4]
      refine @wpG_p _ _ _ _ _ (some 3) (.bool true) _ _ rfl (by rfl) (fun _ => rfl) ?_
      simp only [n1, n3, n4]
      refine wpG_done (fun V63 hv64 => ?_)
      have S65 : Hid (St w noB [blk g47 75 [.string (bstr Ma.wSolid), .bool true, .bool false, .bool false], blk g18 75 [.string (bstr Ma.wGas), .bool false, .bool false, .bool false], blk g4 35 [.string (bstr n), .bool s, .bool l, .bool f, .int .i64 fd, .int .i64 a, .int .i64 b, .int .i64 c]] V63) := Lib.hid (S61.out.gr hv64)
      clear S61
      clear hv64
      refine ⟨rfl, hK _ _ ?_⟩
      clear hK
      go_wp2_with fail
      go_ret2
      refine ⟨?_, S65.out.bel⟩
      show Ending.returned (.tuple #[.string (bstr Ma.wSolid), .bool true]) = _
      (first | rfl | (obtain rfl := Hc28.out; obtain rfl := Hc29.out; obtain rfl := Hc57.out; have e_f38 := f38.out; have e_f62 := f62.out; (cases s <;> cases l <;> cases f <;> first | rfl | (simp at *))))
    | false =>
      have f66 := Lib.hid (Hc58.out.symm)
      go_upto_region 6 with fail
      refine wpG_region_k (fun K hK => ?_)
      refine @wpG_p _ _ _ _ _ (some 31) (.int .i64 2) _ _ rfl (by rfl) (fun W => by go_simp <;> rfl) ?_
      simp only [n1, n3, n4]
      refine @wpG_p _ _ _ _ _ (some 7) (.int .i64 2) _ _ rfl (by rfl) (fun _ => rfl) ?_
      simp only [n1, n3, n4]
      refine wpG_done (fun V67 hv68 => ?_)
      have S69 : Hid (St w noB [blk g47 75 [.string (bstr Ma.wSolid), .bool true, .bool false, .bool false], blk g18 75 [.string (bstr Ma.wGas), .bool false, .bool false, .bool false], blk g4 35 [.string (bstr n), .bool s, .bool l, .bool f, .int .i64 fd, .int .i64 a, .int .i64 b, .int .i64 c]] V67) := Lib.hid (S61.out.gr hv68)
      clear S61
      clear hv68
      refine ⟨rfl, hK _ _ ?_⟩
      clear hK
      go_wp2_with fail
      rw [rounds_succ]
      go_upto_region 2 with fail
      refine wpG_region_k (fun K hK => ?_)
      refine @wpG_p _ _ _ _ _ (some 8) (.bool true) _ _ rfl (by rfl) (fun W => by go_simp) ?_
      simp only [n1, n3, n4]
      refine wpG_done (fun V70 hv71 => ?_)
      have S72 : Hid (St w noB [blk g47 75 [.string (bstr Ma.wSolid), .bool true, .bool false, .bool false], blk g18 75 [.string (bstr Ma.wGas), .bool false, .bool false, .bool false], blk g4 35 [.string (bstr n), .bool s, .bool l, .bool f, .int .i64 fd, .int .i64 a, .int .i64 b, .int .i64 c]] V70) := Lib.hid (S69.out.gr hv71)
      clear S69
      clear hv71
      refine ⟨rfl, hK _ _ ?_⟩
      clear hK
      go_upto_region 3 with fail
      refine wpG_region_k (fun K hK => ?_)
      refine @wpG_p _ _ _ _ _ (some 9) (.agg #[.string (bstr Ma.wFalling), .bool true, .bool false, .bool true]) _ _ rfl (by rfl) (fun W => by first | kernel_rfl | (go_simp; done) | (go_simp <;> rfl)) ?_
      simp only [n1, n3, n4]
      refine wpG_val (some 5) rfl (by rfl) (fun W73 hg74 => ⟨.pointer (some ⟨W73.heap.size, 0, none⟩), W73.alloc (.cells #[.string ⟨#[]⟩, .bool false, .bool false, .bool false] 75), by (first | (go_simp; done) | (go_simp <;> rfl)), ?_⟩)
      simp only [n1, n3, n4]
      obtain ⟨g75, U76, hg_, hu_, hS_⟩ := (S72.out.gr hg74).made [.string ⟨#[]⟩, .bool false, .bool false, .bool false] 75
      rw [← hu_, ← hg_]
      have S77 : Hid (St w noB [blk g75 75 [.string ⟨#[]⟩, .bool false, .bool false, .bool false], blk g47 75 [.string (bstr Ma.wSolid), .bool true, .bool false, .bool false], blk g18 75 [.string (bstr Ma.wGas), .bool false, .bool false, .bool false], blk g4 35 [.string (bstr n), .bool s, .bool l, .bool f, .int .i64 fd, .int .i64 a, .int .i64 b, .int .i64 c]] U76) := Lib.hid hS_
      clear S72
      clear hg_ hu_ hS_ hg74
      refine wpG_store (none) rfl (by rfl) (fun W78 hg79 => ⟨_, run_store_mid 75 (.tmp 5) (.tmp 9) rfl g75 0 #[.string (bstr Ma.wFalling), .bool true, .bool false, .bool true] rfl rfl ((S77.out.gr hg79).room 0 rfl 0 4 (by simp)) (by kernel_rfl) (by kernel_rfl), ?_⟩)
      simp only [n2]
      obtain ⟨U80, hu_, hS_⟩ := ((S77.out.gr hg79).put 0 rfl 0 (#[.string (bstr Ma.wFalling), .bool true, .bool false, .bool true] : Array Value).toList (ds := [.string (bstr Ma.wFalling), .bool true, .bool false, .bool true]) rfl).named
      rw [← hu_]
      have S81 : Hid (St w noB [blk g75 75 [.string (bstr Ma.wFalling), .bool true, .bool false, .bool true], blk g47 75 [.string (bstr Ma.wSolid), .bool true, .bool false, .bool false], blk g18 75 [.string (bstr Ma.wGas), .bool false, .bool false, .bool false], blk g4 35 [.string (bstr n), .bool s, .bool l, .bool f, .int .i64 fd, .int .i64 a, .int .i64 b, .int .i64 c]] U80) := Lib.hid hS_
      clear S77
      clear hu_ hS_ hg79
      refine wpG_done (fun V82 hv83 => ?_)
      have S84 : Hid (St w noB [blk g75 75 [.string (bstr Ma.wFalling), .bool true, .bool false, .bool true], blk g47 75 [.string (bstr Ma.wSolid), .bool true, .bool false, .bool false], blk g18 75 [.string (bstr Ma.wGas), .bool false, .bool false, .bool false], blk g4 35 [.string (bstr n), .bool s, .bool l, .bool f, .int .i64 fd, .int .i64 a, .int .i64 b, .int .i64 c]] V82) := Lib.hid (S81.out.gr hv83)
      clear S81
      clear hv83
      refine ⟨rfl, hK _ _ ?_⟩
      clear hK
      go_upto_region 4 with fail
      refine wpG_region_k (fun K hK => ?_)
      refine @wpG_p _ _ _ _ _ (some 10) (.pointer (some ⟨g4, 1, none⟩)) _ _ rfl (by rfl) (fun W => by go_simp) ?_
      simp only [n1, n3, n4]
      refine @wpG_r _ _ _ _ _ (some 11) (.bool s) _ _ rfl (by rfl) (fun W hg => by have c := (S84.out.gr hg).cell 3 rfl 1 rfl; go_simp) ?_
      simp only [n1, n3, n4]
      refine @wpG_p _ _ _ _ _ (some 12) (.pointer (some ⟨g75, 1, none⟩)) _ _ rfl (by rfl) (fun W => by go_simp) ?_
      simp only [n1, n3, n4]
      refine @wpG_r _ _ _ _ _ (some 13) (.bool true) _ _ rfl (by rfl) (fun W hg => by have c := (S84.out.gr hg).cell 0 rfl 1 rfl; go_simp) ?_
      simp only [n1, n3, n4]
      refine @wpG_p _ _ _ _ _ (some 14) (.bool s) _ _ rfl (by rfl) (fun W => by first | (go_simp; done) | (cases s <;> rfl) | (cases s <;> go_simp)) ?_
      simp only [n1, n3, n4]
      refine @wpG_p _ _ _ _ _ (some 15) (.bool s) _ _ rfl (by rfl) (fun _ => rfl) ?_
      simp only [n1, n3, n4]
      refine @wpG_tk _ _ _ _ _ (some 16) ((bif s then .pointer (some ⟨g4, 2, none⟩) else undef)) _ _ rfl (by cases s with | false => exact .no (by rfl) | true => exact (.val (by rfl) (fun W hg => by go_simp))) ?_
      simp only [n1, n3, n4]
      refine @wpG_tk _ _ _ _ _ (some 17) ((bif s then .bool l else undef)) _ _ rfl (by cases s with | false => exact .no (by rfl) | true => exact (.val (by rfl) (fun W hg => by have c := (S84.out.gr hg).cell 3 rfl 2 rfl; go_simp))) ?_
      simp only [n1, n3, n4]
      refine @wpG_tk _ _ _ _ _ (some 18) ((bif s then .pointer (some ⟨g75, 2, none⟩) else undef)) _ _ rfl (by cases s with | false => exact .no (by rfl) | true => exact (.val (by rfl) (fun W hg => by go_simp))) ?_
      simp only [n1, n3, n4]
      refine @wpG_tk _ _ _ _ _ (some 19) ((bif s then .bool false else undef)) _ _ rfl (by cases s with | false => exact .no (by rfl) | true => exact (.val (by rfl) (fun W hg => by have c := (S84.out.gr hg).cell 0 rfl 2 rfl; go_simp))) ?_
      simp only [n1, n3, n4]
      refine @wpG_tk _ _ _ _ _ (some 20) ((bif s then .bool (!l) else undef)) _ _ rfl (by cases s with | false => exact .no (by rfl) | true => exact (.val (by rfl) (fun W hg => by first | (go_simp; done) | (cases l <;> rfl) | (cases l <;> go_simp)))) ?_
      simp only [n1, n3, n4]
      refine @wpG_p _ _ _ _ _ (some 21) (.bool (s && (!l))) _ _ rfl (by rfl) (fun W => by cases s <;> go_simp) ?_
      simp only [n1, n3, n4]
      obtain ⟨c85, hc85⟩ : ∃ q_, q_ = (s && (!l)) := ⟨_, rfl⟩
      rw [← hc85]
      have Hc85 := Lib.hid hc85
      clear hc85
      refine @wpG_p _ _ _ _ _ (some 22) (.bool c85) _ _ rfl (by rfl) (fun _ => rfl) ?_
      simp only [n1, n3, n4]
      refine @wpG_tk _ _ _ _ _ (some 23) ((bif c85 then .pointer (some ⟨g4, 3, none⟩) else undef)) _ _ rfl (by cases c85 with | false => exact .no (by rfl) | true => exact (.val (by rfl) (fun W hg => by go_simp))) ?_
      simp only [n1, n3, n4]
      refine @wpG_tk _ _ _ _ _ (some 24) ((bif c85 then .bool f else undef)) _ _ rfl (by cases c85 with | false => exact .no (by rfl) | true => exact (.val (by rfl) (fun W hg => by have c := (S84.out.gr hg).cell 3 rfl 3 rfl; go_simp))) ?_
      simp only [n1, n3, n4]
      refine @wpG_tk _ _ _ _ _ (some 25) ((bif c85 then .pointer (some ⟨g75, 3, none⟩) else undef)) _ _ rfl (by cases c85 with | false => exact .no (by rfl) | true => exact (.val (by rfl) (fun W hg => by go_simp))) ?_
      simp only [n1, n3, n4]
      refine @wpG_tk _ _ _ _ _ (some 26) ((bif c85 then .bool true else undef)) _ _ rfl (by cases c85 with | false => exact .no (by rfl) | true => exact (.val (by rfl) (fun W hg => by have c := (S84.out.gr hg).cell 0 rfl 3 rfl; go_simp))) ?_
      simp only [n1, n3, n4]
      refine @wpG_tk _ _ _ _ _ (some 27) ((bif c85 then .bool f else undef)) _ _ rfl (by cases c85 with | false => exact .no (by rfl) | true => exact (.val (by rfl) (fun W hg => by first | (go_simp; done) | (cases f <;> rfl) | (cases f <;> go_simp)))) ?_
      simp only [n1, n3, n4]
      refine @wpG_p _ _ _ _ _ (some 28) (.bool (c85 && f)) _ _ rfl (by rfl) (fun W => by cases c85 <;> go_simp) ?_
      simp only [n1, n3, n4]
      obtain ⟨c86, hc86⟩ : ∃ q_, q_ = (c85 && f) := ⟨_, rfl⟩
      rw [← hc86]
      have Hc86 := Lib.hid hc86
      clear hc86
      refine wpG_done (fun V87 hv88 => ?_)
      have S89 : Hid (St w noB [blk g75 75 [.string (bstr Ma.wFalling), .bool true, .bool false, .bool true], blk g47 75 [.string (bstr Ma.wSolid), .bool true, .bool false, .bool false], blk g18 75 [.string (bstr Ma.wGas), .bool false, .bool false, .bool false], blk g4 35 [.string (bstr n), .bool s, .bool l, .bool f, .int .i64 fd, .int .i64 a, .int .i64 b, .int .i64 c]] V87) := Lib.hid (S84.out.gr hv88)
      clear S84
      clear hv88
      refine ⟨rfl, hK _ _ ?_⟩
      clear hK
      cases c86 with
      | true =>
        have f90 := Lib.hid (Hc86.out.symm)
        go_upto_region 5 with fail
        refine wpG_region_k (fun K hK => ?_)
        refine @wpG_p _ _ _ _ _ (some 29) (.pointer (some ⟨g75, 0, none⟩)) _ _ rfl (by rfl) (fun W => by go_simp) ?_
        simp only [n1, n3, n4]
        refine @wpG_r _ _ _ _ _ (some 30) (.string (bstr Ma.wFalling)) _ _ rfl (by rfl) (fun W hg => by have c := (S89.out.gr hg).cell 0 rfl 0 rfl; go_simp) ?_
        simp only [n1, n3, n4]
        refine @wpG_p _ _ _ _ _ (some 2) (.string (bstr Ma.wFalling)) _ _ rfl (by rfl) (fun _ => rfl) ?_
        simp only [n1, n3, n4]
        refine @wpG_p _ _ _ _ _ (some 3) (.bool true) _ _ rfl (by rfl) (fun _ => rfl) ?_
        simp only [n1, n3, n4]
        refine wpG_done (fun V91 hv92 => ?_)
        have S93 : Hid (St w noB [blk g75 75 [.string (bstr Ma.wFalling), .bool true, .bool false, .bool true], blk g47 75 [.string (bstr Ma.wSolid), .bool true, .bool false, .bool false], blk g18 75 [.string (bstr Ma.wGas), .bool false, .bool false, .bool false], blk g4 35 [.string (bstr n), .bool s, .bool l, .bool f, .int .i64 fd, .int .i64 a, .int .i64 b, .int .i64 c]] V91) := Lib.hid (S89.out.gr hv92)
        clear S89
        clear hv92
        refine ⟨rfl, hK _ _ ?_⟩
        clear hK
        go_wp2_with fail
        go_ret2
        refine ⟨?_, S93.out.bel⟩
        show Ending.returned (.tuple #[.string (bstr Ma.wFalling), .bool true]) = _
        (first | rfl | (obtain rfl := Hc28.out; obtain rfl := Hc29.out; obtain rfl := Hc57.out; obtain rfl := Hc85.out; have e_f38 := f38.out; have e_f66 := f66.out; have e_f90 := f90.out; (cases s <;> cases l <;> cases f <;> first | rfl | (simp at *))))
      | false =>
        have f94 := Lib.hid (Hc86.out.symm)
        go_upto_region 6 with fail
        refine wpG_region_k (fun K hK => ?_)
        refine @wpG_p _ _ _ _ _ (some 31) (.int .i64 3) _ _ rfl (by rfl) (fun W => by go_simp <;> rfl) ?_
        simp only [n1, n3, n4]
        refine @wpG_p _ _ _ _ _ (some 7) (.int .i64 3) _ _ rfl (by rfl) (fun _ => rfl) ?_
        simp only [n1, n3, n4]
        refine wpG_done (fun V95 hv96 => ?_)
        have S97 : Hid (St w noB [blk g75 75 [.string (bstr Ma.wFalling), .bool true, .bool false, .bool true], blk g47 75 [.string (bstr Ma.wSolid), .bool true, .bool false, .bool false], blk g18 75 [.string (bstr Ma.wGas), .bool false, .bool false, .bool false], blk g4 35 [.string (bstr n), .bool s, .bool l, .bool f, .int .i64 fd, .int .i64 a, .int .i64 b, .int .i64 c]] V95) := Lib.hid (S89.out.gr hv96)
        clear S89
        clear hv96
        refine ⟨rfl, hK _ _ ?_⟩
        clear hK
        go_wp2_with fail
        rw [rounds_succ]
        go_upto_region 2 with fail
        refine wpG_region_k (fun K hK => ?_)
        refine @wpG_p _ _ _ _ _ (some 8) (.bool true) _ _ rfl (by rfl) (fun W => by go_simp) ?_
        simp only [n1, n3, n4]
        refine wpG_done (fun V98 hv99 => ?_)
        have S100 : Hid (St w noB [blk g75 75 [.string (bstr Ma.wFalling), .bool true, .bool false, .bool true], blk g47 75 [.string (bstr Ma.wSolid), .bool true, .bool false, .bool false], blk g18 75 [.string (bstr Ma.wGas), .bool false, .bool false, .bool false], blk g4 35 [.string (bstr n), .bool s, .bool l, .bool f, .int .i64 fd, .int .i64 a, .int .i64 b, .int .i64 c]] V98) := Lib.hid (S97.out.gr hv99)
        clear S97
        clear hv99
        refine ⟨rfl, hK _ _ ?_⟩
        clear hK
        go_upto_region 3 with fail
        refine wpG_region_k (fun K hK => ?_)
        refine @wpG_p _ _ _ _ _ (some 9) (.agg #[.string (bstr Ma.wLiquid), .bool false, .bool true, .bool false]) _ _ rfl (by rfl) (fun W => by first | kernel_rfl | (go_simp; done) | (go_simp <;> rfl)) ?_
        simp only [n1, n3, n4]
        refine wpG_val (some 5) rfl (by rfl) (fun W101 hg102 => ⟨.pointer (some ⟨W101.heap.size, 0, none⟩), W101.alloc (.cells #[.string ⟨#[]⟩, .bool false, .bool false, .bool false] 75), by (first | (go_simp; done) | (go_simp <;> rfl)), ?_⟩)
        simp only [n1, n3, n4]
        obtain ⟨g103, U104, hg_, hu_, hS_⟩ := (S100.out.gr hg102).made [.string ⟨#[]⟩, .bool false, .bool false, .bool false] 75
        rw [← hu_, ← hg_]
        have S105 : Hid (St w noB [blk g103 75 [.string ⟨#[]⟩, .bool false, .bool false, .bool false], blk g75 75 [.string (bstr Ma.wFalling), .bool true, .bool false, .bool true], blk g47 75 [.string (bstr Ma.wSolid), .bool true, .bool false, .bool false], blk g18 75 [.string (bstr Ma.wGas), .bool false, .bool false, .bool false], blk g4 35 [.string (bstr n), .bool s, .bool l, .bool f, .int .i64 fd, .int .i64 a, .int .i64 b, .int .i64 c]] U104) := Lib.hid hS_
        clear S100
        clear hg_ hu_ hS_ hg102
        refine wpG_store (none) rfl (by rfl) (fun W106 hg107 => ⟨_, run_store_mid 75 (.tmp 5) (.tmp 9) rfl g103 0 #[.string (bstr Ma.wLiquid), .bool false, .bool true, .bool false] rfl rfl ((S105.out.gr hg107).room 0 rfl 0 4 (by simp)) (by kernel_rfl) (by kernel_rfl), ?_⟩)
        simp only [n2]
        obtain ⟨U108, hu_, hS_⟩ := ((S105.out.gr hg107).put 0 rfl 0 (#[.string (bstr Ma.wLiquid), .bool false, .bool true, .bool false] : Array Value).toList (ds := [.string (bstr Ma.wLiquid), .bool false, .bool true, .bool false]) rfl).named
        rw [← hu_]
        have S109 : Hid (St w noB [blk g103 75 [.string (bstr Ma.wLiquid), .bool false, .bool true, .bool false], blk g75 75 [.string (bstr Ma.wFalling), .bool true, .bool false, .bool true], blk g47 75 [.string (bstr Ma.wSolid), .bool true, .bool false, .bool false], blk g18 75 [.string (bstr Ma.wGas), .bool false, .bool false, .bool false], blk g4 35 [.string (bstr n), .bool s, .bool l, .bool f, .int .i64 fd, .int .i64 a, .int .i64 b, .int .i64 c]] U108) := Lib.hid hS_
        clear S105
        clear hu_ hS_ hg107
        refine wpG_done (fun V110 hv111 => ?_)
        have S112 : Hid (St w noB [blk g103 75 [.string (bstr Ma.wLiquid), .bool false, .bool true, .bool false], blk g75 75 [.string (bstr Ma.wFalling), .bool true, .bool false, .bool true], blk g47 75 [.string (bstr Ma.wSolid), .bool true, .bool false, .bool false], blk g18 75 [.string (bstr Ma.wGas), .bool false, .bool false, .bool false], blk g4 35 [.string (bstr n), .bool s, .bool l, .bool f, .int .i64 fd, .int .i64 a, .int .i64 b, .int .i64 c]] V110) := Lib.hid (S109.out.gr hv111)
        clear S109
        clear hv111
        refine ⟨rfl, hK _ _ ?_⟩
        clear hK
        go_upto_region 4 with fail
        refine wpG_region_k (fun K hK => ?_)
        refine @wpG_p _ _ _ _ _ (some 10) (.pointer (some ⟨g4, 1, none⟩)) _ _ rfl (by rfl) (fun W => by go_simp) ?_
        simp only [n1, n3, n4]
        refine @wpG_r _ _ _ _ _ (some 11) (.bool s) _ _ rfl (by rfl) (fun W hg => by have c := (S112.out.gr hg).cell 4 rfl 1 rfl; go_simp) ?_
        simp only [n1, n3, n4]
        refine @wpG_p _ _ _ _ _ (some 12) (.pointer (some ⟨g103, 1, none⟩)) _ _ rfl (by rfl) (fun W => by go_simp) ?_
        simp only [n1, n3, n4]
        refine @wpG_r _ _ _ _ _ (some 13) (.bool false) _ _ rfl (by rfl) (fun W hg => by have c := (S112.out.gr hg).cell 0 rfl 1 rfl; go_simp) ?_
        simp only [n1, n3, n4]
        refine @wpG_p _ _ _ _ _ (some 14) (.bool (!s)) _ _ rfl (by rfl) (fun W => by first | (go_simp; done) | (cases s <;> rfl) | (cases s <;> go_simp)) ?_
        simp only [n1, n3, n4]
        refine @wpG_p _ _ _ _ _ (some 15) (.bool (!s)) _ _ rfl (by rfl) (fun _ => rfl) ?_
        simp only [n1, n3, n4]
        obtain ⟨c113, hc113⟩ : ∃ q_, q_ = (!s) := ⟨_, rfl⟩
        rw [← hc113]
        have Hc113 := Lib.hid hc113
        clear hc113
        refine @wpG_tk _ _ _ _ _ (some 16) ((bif c113 then .pointer (some ⟨g4, 2, none⟩) else undef)) _ _ rfl (by cases c113 with | false => exact .no (by rfl) | true => exact (.val (by rfl) (fun W hg => by go_simp))) ?_
        simp only [n1, n3, n4]
        refine @wpG_tk _ _ _ _ _ (some 17) ((bif c113 then .bool l else undef)) _ _ rfl (by cases c113 with | false => exact .no (by rfl) | true => exact (.val (by rfl) (fun W hg => by have c := (S112.out.gr hg).cell 4 rfl 2 rfl; go_simp))) ?_
        simp only [n1, n3, n4]
        refine @wpG_tk _ _ _ _ _ (some 18) ((bif c113 then .pointer (some ⟨g103, 2, none⟩) else undef)) _ _ rfl (by cases c113 with | false => exact .no (by rfl) | true => exact (.val (by rfl) (fun W hg => by go_simp))) ?_
        simp only [n1, n3, n4]
        refine @wpG_tk _ _ _ _ _ (some 19) ((bif c113 then .bool true else undef)) _ _ rfl (by cases c113 with | false => exact .no (by rfl) | true => exact (.val (by rfl) (fun W hg => by have c := (S112.out.gr hg).cell 0 rfl 2 rfl; go_simp))) ?_
        simp only [n1, n3, n4]
        refine @wpG_tk _ _ _ _ _ (some 20) ((bif c113 then .bool l else undef)) _ _ rfl (by cases c113 with | false => exact .no (by rfl) | true => exact (.val (by rfl) (fun W hg => by first | (go_simp; done) | (cases l <;> rfl) | (cases l <;> go_simp)))) ?_
        simp only [n1, n3, n4]
        refine @wpG_p _ _ _ _ _ (some 21) (.bool (c113 && l)) _ _ rfl (by rfl) (fun W => by cases c113 <;> go_simp) ?_
        simp only [n1, n3, n4]
        obtain ⟨c114, hc114⟩ : ∃ q_, q_ = (c113 && l) := ⟨_, rfl⟩
        rw [← hc114]
        have Hc114 := Lib.hid hc114
        clear hc114
        refine @wpG_p _ _ _ _ _ (some 22) (.bool c114) _ _ rfl (by rfl) (fun _ => rfl) ?_
        simp only [n1, n3, n4]
        refine @wpG_tk _ _ _ _ _ (some 23) ((bif c114 then .pointer (some ⟨g4, 3, none⟩) else undef)) _ _ rfl (by cases c114 with | false => exact .no (by rfl) | true => exact (.val (by rfl) (fun W hg => by go_simp))) ?_
        simp only [n1, n3, n4]
        refine @wpG_tk _ _ _ _ _ (some 24) ((bif c114 then .bool f else undef)) _ _ rfl (by cases c114 with | false => exact .no (by rfl) | true => exact (.val (by rfl) (fun W hg => by have c := (S112.out.gr hg).cell 4 rfl 3 rfl; go_simp))) ?_
        simp only [n1, n3, n4]
        refine @wpG_tk _ _ _ _ _ (some 25) ((bif c114 then .pointer (some ⟨g103, 3, none⟩) else undef)) _ _ rfl (by cases c114 with | false => exact .no (by rfl) | true => exact (.val (by rfl) (fun W hg => by go_simp))) ?_
        simp only [n1, n3, n4]
        refine @wpG_tk _ _ _ _ _ (some 26) ((bif c114 then .bool false else undef)) _ _ rfl (by cases c114 with | false => exact .no (by rfl) | true => exact (.val (by rfl) (fun W hg => by have c := (S112.out.gr hg).cell 0 rfl 3 rfl; go_simp))) ?_
        simp only [n1, n3, n4]
        refine @wpG_tk _ _ _ _ _ (some 27) ((bif c114 then .bool (!f) else undef)) _ _ rfl (by cases c114 with | false => exact .no (by rfl) | true => exact (.val (by rfl) (fun W hg => by first | (go_simp; done) | (cases f <;> rfl) | (cases f <;> go_simp)))) ?_
        simp only [n1, n3, n4]
        refine @wpG_p _ _ _ _ _ (some 28) (.bool (c114 && (!f))) _ _ rfl (by rfl) (fun W => by cases c114 <;> go_simp) ?_
        simp only [n1, n3, n4]
        obtain ⟨c115, hc115⟩ : ∃ q_, q_ = (c114 && (!f)) := ⟨_, rfl⟩
        rw [← hc115]
        have Hc115 := Lib.hid hc115
        clear hc115
        refine wpG_done (fun V116 hv117 => ?_)
        have S118 : Hid (St w noB [blk g103 75 [.string (bstr Ma.wLiquid), .bool false, .bool true, .bool false], blk g75 75 [.string (bstr Ma.wFalling), .bool true, .bool false, .bool true], blk g47 75 [.string (bstr Ma.wSolid), .bool true, .bool false, .bool false], blk g18 75 [.string (bstr Ma.wGas), .bool false, .bool false, .bool false], blk g4 35 [.string (bstr n), .bool s, .bool l, .bool f, .int .i64 fd, .int .i64 a, .int .i64 b, .int .i64 c]] V116) := Lib.hid (S112.out.gr hv117)
        clear S112
        clear hv117
        refine ⟨rfl, hK _ _ ?_⟩
        clear hK
        cases c115 with
        | true =>
          have f119 := Lib.hid (Hc115.out.symm)
          go_upto_region 5 with fail
          refine wpG_region_k (fun K hK => ?_)
          refine @wpG_p _ _ _ _ _ (some 29) (.pointer (some ⟨g103, 0, none⟩)) _ _ rfl (by rfl) (fun W => by go_simp) ?_
          simp only [n1, n3, n4]
          refine @wpG_r _ _ _ _ _ (some 30) (.string (bstr Ma.wLiquid)) _ _ rfl (by rfl) (fun W hg => by have c := (S118.out.gr hg).cell 0 rfl 0 rfl; go_simp) ?_
          simp only [n1, n3, n4]
          refine @wpG_p _ _ _ _ _ (some 2) (.string (bstr Ma.wLiquid)) _ _ rfl (by rfl) (fun _ => rfl) ?_
          simp only [n1, n3, n4]
          refine @wpG_p _ _ _ _ _ (some 3) (.bool true) _ _ rfl (by rfl) (fun _ => rfl) ?_
          simp only [n1, n3, n4]
          refine wpG_done (fun V120 hv121 => ?_)
          have S122 : Hid (St w noB [blk g103 75 [.string (bstr Ma.wLiquid), .bool false, .bool true, .bool false], blk g75 75 [.string (bstr Ma.wFalling), .bool true, .bool false, .bool true], blk g47 75 [.string (bstr Ma.wSolid), .bool true, .bool false, .bool false], blk g18 75 [.string (bstr Ma.wGas), .bool false, .bool false, .bool false], blk g4 35 [.string (bstr n), .bool s, .bool l, .bool f, .int .i64 fd, .int .i64 a, .int .i64 b, .int .i64 c]] V120) := Lib.hid (S118.out.gr hv121)
          clear S118
          clear hv121
          refine ⟨rfl, hK _ _ ?_⟩
          clear hK
          go_wp2_with fail
          go_ret2
          refine ⟨?_, S122.out.bel⟩
          show Ending.returned (.tuple #[.string (bstr Ma.wLiquid), .bool true]) = _
          (first | rfl | (obtain rfl := Hc28.out; obtain rfl := Hc29.out; obtain rfl := Hc57.out; obtain rfl := Hc85.out; obtain rfl := Hc113.out; obtain rfl := Hc114.out; have e_f38 := f38.out; have e_f66 := f66.out; have e_f94 := f94.out; have e_f119 := f119.out; (cases s <;> cases l <;> cases f <;> first | rfl | (simp at *))))
        | false =>
          have f123 := Lib.hid (Hc115.out.symm)
          go_upto_region 6 with fail
          refine wpG_region_k (fun K hK => ?_)
          refine @wpG_p _ _ _ _ _ (some 31) (.int .i64 4) _ _ rfl (by rfl) (fun W => by go_simp <;> rfl) ?_
          simp only [n1, n3, n4]
          refine @wpG_p _ _ _ _ _ (some 7) (.int .i64 4) _ _ rfl (by rfl) (fun _ => rfl) ?_
          simp only [n1, n3, n4]
          refine wpG_done (fun V124 hv125 => ?_)
          have S126 : Hid (St w noB [blk g103 75 [.string (bstr Ma.wLiquid), .bool false, .bool true, .bool false], blk g75 75 [.string (bstr Ma.wFalling), .bool true, .bool false, .bool true], blk g47 75 [.string (bstr Ma.wSolid), .bool true, .bool false, .bool false], blk g18 75 [.string (bstr Ma.wGas), .bool false, .bool false, .bool false], blk g4 35 [.string (bstr n), .bool s, .bool l, .bool f, .int .i64 fd, .int .i64 a, .int .i64 b, .int .i64 c]] V124) := Lib.hid (S118.out.gr hv125)
          clear S118
          clear hv125
          refine ⟨rfl, hK _ _ ?_⟩
          clear hK
          go_wp2_with fail
          rw [rounds_succ]
          go_upto_region 2 with fail
          refine wpG_region_k (fun K hK => ?_)
          refine @wpG_p _ _ _ _ _ (some 8) (.bool false) _ _ rfl (by rfl) (fun W => by go_simp) ?_
          simp only [n1, n3, n4]
          refine wpG_done (fun V127 hv128 => ?_)
          have S129 : Hid (St w noB [blk g103 75 [.string (bstr Ma.wLiquid), .bool false, .bool true, .bool false], blk g75 75 [.string (bstr Ma.wFalling), .bool true, .bool false, .bool true], blk g47 75 [.string (bstr Ma.wSolid), .bool true, .bool false, .bool false], blk g18 75 [.string (bstr Ma.wGas), .bool false, .bool false, .bool false], blk g4 35 [.string (bstr n), .bool s, .bool l, .bool f, .int .i64 fd, .int .i64 a, .int .i64 b, .int .i64 c]] V127) := Lib.hid (S126.out.gr hv128)
          clear S126
          clear hv128
          refine ⟨rfl, hK _ _ ?_⟩
          clear hK
          go_upto_region 7 with fail
          refine wpG_region_k (fun K hK => ?_)
          refine @wpG_p _ _ _ _ _ (some 2) (.string ⟨#[]⟩) _ _ rfl (by rfl) (fun _ => rfl) ?_
          simp only [n1, n3, n4]
          refine @wpG_p _ _ _ _ _ (some 3) (.bool false) _ _ rfl (by rfl) (fun _ => rfl) ?_
          simp only [n1, n3, n4]
          refine wpG_done (fun V130 hv131 => ?_)
          have S132 : Hid (St w noB [blk g103 75 [.string (bstr Ma.wLiquid), .bool false, .bool true, .bool false], blk g75 75 [.string (bstr Ma.wFalling), .bool true, .bool false, .bool true], blk g47 75 [.string (bstr Ma.wSolid), .bool true, .bool false, .bool false], blk g18 75 [.string (bstr Ma.wGas), .bool false, .bool false, .bool false], blk g4 35 [.string (bstr n), .bool s, .bool l, .bool f, .int .i64 fd, .int .i64 a, .int .i64 b, .int .i64 c]] V130) := Lib.hid (S129.out.gr hv131)
          clear S129
          clear hv131
          refine ⟨rfl, hK _ _ ?_⟩
          clear hK
          go_wp2_with fail
          go_ret2
          refine ⟨?_, S132.out.bel⟩
          show Ending.returned (.tuple #[.string ⟨#[]⟩, .bool false]) = _
          (first | rfl | (obtain rfl := Hc28.out; obtain rfl := Hc29.out; obtain rfl := Hc57.out; obtain rfl := Hc85.out; obtain rfl := Hc113.out; obtain rfl := Hc114.out; have e_f38 := f38.out; have e_f66 := f66.out; have e_f94 := f94.out; have e_f123 := f123.out; (cases s <;> cases l <;> cases f <;> first | rfl | (simp at *))))
set_option maxRecDepth 1000000 in
set_option maxHeartbeats 4000000 in
theorem kindNamed_any (x : List UInt8) (w : World) (hK : Kt w) :
    Calls Tryd.prog 52 #[.string (bstr x)] w fun e w' => e = .returned (.tuple #[.agg #[.string (bstr (Ma.kN x)), .bool (Ma.kS x), .bool (Ma.kL x), .bool (Ma.kF x)], .bool ((Ma.kn x).isSome)]) ∧ Below w.heap.size w w' := by
  have HK := Lib.hid hK
  clear hK
  have S1 : Hid (St w noB [] w) := Lib.hid (St.start w)
  go_enter Tryd.func52, Tryd.ntmps52
  go_upto_region 0 with fail
  refine wpG_region_k (fun K hK => ?_)
  refine wpG_val (some 2) rfl (by rfl) (fun W2 hg3 => ⟨.pointer (some ⟨W2.heap.size, 0, none⟩), W2.alloc (.cells #[.string ⟨#[]⟩, .bool false, .bool false, .bool false] 75), by (first | (go_simp; done) | (go_simp <;> rfl)), ?_⟩)
  simp only [n1, n3, n4]
  obtain ⟨g4, U5, hg_, hu_, hS_⟩ := (S1.out.gr hg3).made [.string ⟨#[]⟩, .bool false, .bool false, .bool false] 75
  rw [← hu_, ← hg_]
  have S6 : Hid (St w noB [blk g4 75 [.string ⟨#[]⟩, .bool false, .bool false, .bool false]] U5) := Lib.hid hS_
  clear S1
  clear hg_ hu_ hS_ hg3
  refine @wpG_p _ _ _ _ _ (some 3) (.bool false) _ _ rfl (by rfl) (fun _ => rfl) ?_
  simp only [n1, n3, n4]
  refine wpG_done (fun V7 hv8 => ?_)
  have S9 : Hid (St w noB [blk g4 75 [.string ⟨#[]⟩, .bool false, .bool false, .bool false]] V7) := Lib.hid (S6.out.gr hv8)
  clear S6
  clear hv8
  refine ⟨rfl, hK _ _ ?_⟩
  clear hK
  go_upto_region 1 with fail
  refine wpG_region_k (fun K hK => ?_)
  refine @wpG_tk _ _ _ _ _ (some 6) (.agg #[.string (bstr Ma.wGas), .bool false, .bool false, .bool false, .string (bstr Ma.wSolid), .bool true, .bool false, .bool false, .string (bstr Ma.wFalling), .bool true, .bool false, .bool true, .string (bstr Ma.wLiquid), .bool false, .bool true, .bool false]) _ _ rfl (.load_mid (by rfl) 84 (.global 0) rfl (0) 0 rfl [.string (bstr Ma.wGas), .bool false, .bool false, .bool false, .string (bstr Ma.wSolid), .bool true, .bool false, .bool false, .string (bstr Ma.wFalling), .bool true, .bool false, .bool true, .string (bstr Ma.wLiquid), .bool false, .bool true, .bool false] _ (fun W hg => (HK.out.gr ((S9.out.gr hg)).bel)) Tryd.underlying84 rfl (by kernel_rfl)) ?_
  simp only [n1, n3, n4]
  refine @wpG_p _ _ _ _ _ (some 7) (.int .i64 0) _ _ rfl (by rfl) (fun _ => rfl) ?_
  simp only [n1, n3, n4]
  refine wpG_done (fun V10 hv11 => ?_)
  have S12 : Hid (St w noB [blk g4 75 [.string ⟨#[]⟩, .bool false, .bool false, .bool false]] V10) := Lib.hid (S9.out.gr hv11)
  clear S9
  clear hv11
  refine ⟨rfl, hK _ _ ?_⟩
  clear hK
  go_wp2_with fail
  refine wp_loop_rounds 5 ?_
  rw [rounds_succ]
  go_upto_region 2 with fail
  refine wpG_region_k (fun K hK => ?_)
  refine @wpG_p _ _ _ _ _ (some 8) (.bool true) _ _ rfl (by rfl) (fun W => by go_simp) ?_
  simp only [n1, n3, n4]
  refine wpG_done (fun V13 hv14 => ?_)
  have S15 : Hid (St w noB [blk g4 75 [.string ⟨#[]⟩, .bool false, .bool false, .bool false]] V13) := Lib.hid (S12.out.gr hv14)
  clear S12
  clear hv14
  refine ⟨rfl, hK _ _ ?_⟩
  clear hK
  go_upto_region 3 with fail
  refine wpG_region_k (fun K hK => ?_)
  refine @wpG_p _ _ _ _ _ (some 9) (.agg #[.string (bstr Ma.wGas), .bool false, .bool false, .bool false]) _ _ rfl (by rfl) (fun W => by first | kernel_rfl | (go_simp; done) | (go_simp <;> rfl)) ?_
  simp only [n1, n3, n4]
  refine wpG_val (some 5) rfl (by rfl) (fun W16 hg17 => ⟨.pointer (some ⟨W16.heap.size, 0, none⟩), W16.alloc (.cells #[.string ⟨#[]⟩, .bool false, .bool false, .bool false] 75), by (first | (go_simp; done) | (go_simp <;> rfl)), ?_⟩)
  simp only [n1, n3, n4]
  obtain ⟨g18, U19, hg_, hu_, hS_⟩ := (S15.out.gr hg17).made [.string ⟨#[]⟩, .bool false, .bool false, .bool false] 75
  rw [← hu_, ← hg_]
  have S20 : Hid (St w noB [blk g18 75 [.string ⟨#[]⟩, .bool false, .bool false, .bool false], blk g4 75 [.string ⟨#[]⟩, .bool false, .bool false, .bool false]] U19) := Lib.hid hS_
  clear S15
  clear hg_ hu_ hS_ hg17
  refine wpG_store (none) rfl (by rfl) (fun W21 hg22 => ⟨_, run_store_mid 75 (.tmp 5) (.tmp 9) rfl g18 0 #[.string (bstr Ma.wGas), .bool false, .bool false, .bool false] rfl rfl ((S20.out.gr hg22).room 0 rfl 0 4 (by simp)) (by kernel_rfl) (by kernel_rfl), ?_⟩)
  simp only [n2]
  obtain ⟨U23, hu_, hS_⟩ := ((S20.out.gr hg22).put 0 rfl 0 (#[.string (bstr Ma.wGas), .bool false, .bool false, .bool false] : Array Value).toList (ds := [.string (bstr Ma.wGas), .bool false, .bool false, .bool false]) rfl).named
  rw [← hu_]
  have S24 : Hid (St w noB [blk g18 75 [.string (bstr Ma.wGas), .bool false, .bool false, .bool false], blk g4 75 [.string ⟨#[]⟩, .bool false, .bool false, .bool false]] U23) := Lib.hid hS_
  clear S20
  clear hu_ hS_ hg22
  refine wpG_done (fun V25 hv26 => ?_)
  have S27 : Hid (St w noB [blk g18 75 [.string (bstr Ma.wGas), .bool false, .bool false, .bool false], blk g4 75 [.string ⟨#[]⟩, .bool false, .bool false, .bool false]] V25) := Lib.hid (S24.out.gr hv26)
  clear S24
  clear hv26
  refine ⟨rfl, hK _ _ ?_⟩
  clear hK
  go_upto_region 4 with fail
  refine wpG_region_k (fun K hK => ?_)
  refine @wpG_p _ _ _ _ _ (some 10) (.pointer (some ⟨g18, 0, none⟩)) _ _ rfl (by rfl) (fun W => by go_simp) ?_
  simp only [n1, n3, n4]
  refine @wpG_r _ _ _ _ _ (some 11) (.string (bstr Ma.wGas)) _ _ rfl (by rfl) (fun W hg => by have c := (S27.out.gr hg).cell 0 rfl 0 rfl; go_simp) ?_
  simp only [n1, n3, n4]
  refine @wpG_p _ _ _ _ _ (some 12) (.string (bstr x)) _ _ rfl (by rfl) (fun _ => rfl) ?_
  simp only [n1, n3, n4]
  refine @wpG_p _ _ _ _ _ (some 13) (.bool (decide (Ma.wGas = x))) _ _ rfl (by rfl) (fun W => op_str_eql W Ma.wGas x rfl rfl rfl Tryd.underlying9) ?_
  simp only [n1, n3, n4]
  refine wpG_done (fun V28 hv29 => ?_)
  have S30 : Hid (St w noB [blk g18 75 [.string (bstr Ma.wGas), .bool false, .bool false, .bool false], blk g4 75 [.string ⟨#[]⟩, .bool false, .bool false, .bool false]] V28) := Lib.hid (S27.out.gr hv29)
  clear S27
  clear hv29
  refine ⟨rfl, hK _ _ ?_⟩
  clear hK
  obtain ⟨c31, hc31⟩ : ∃ q_, q_ = (decide (Ma.wGas = x)) := ⟨_, rfl⟩
  rw [← hc31]
  have Hc31 := Lib.hid hc31
  clear hc31
  cases c31 with
  | true =>
    have f32 := Lib.hid (of_decide_eq_true Hc31.out.symm)
    go_upto_region 5 with fail
    refine wpG_region_k (fun K hK => ?_)
    refine @wpG_tk _ _ _ _ _ (some 14) (.agg #[.string (bstr Ma.wGas), .bool false, .bool false, .bool false]) _ _ rfl (.load_mid (by rfl) 75 (.tmp 5) rfl g18 0 rfl [.string (bstr Ma.wGas), .bool false, .bool false, .bool false] _ (fun W hg => (S30.out.gr hg).range 0 rfl 0 4 rfl) Tryd.underlying75 rfl (by kernel_rfl)) ?_
    simp only [n1, n3, n4]
    refine wpG_store (none) rfl (by rfl) (fun W33 hg34 => ⟨_, run_store_mid 75 (.tmp 2) (.tmp 14) rfl g4 0 #[.string (bstr Ma.wGas), .bool false, .bool false, .bool false] rfl rfl ((S30.out.gr hg34).room 1 rfl 0 4 (by simp)) (by kernel_rfl) (by kernel_rfl), ?_⟩)
    simp only [n2]
    obtain ⟨U35, hu_, hS_⟩ := ((S30.out.gr hg34).put 1 rfl 0 (#[.string (bstr Ma.wGas), .bool false, .bool false, .bool false] : Array Value).toList (ds := [.string (bstr Ma.wGas), .bool false, .bool false, .bool false]) rfl).named
    rw [← hu_]
    have S36 : Hid (St w noB [blk g18 75 [.string (bstr Ma.wGas), .bool false, .bool false, .bool false], blk g4 75 [.string (bstr Ma.wGas), .bool false, .bool false, .bool false]] U35) := Lib.hid hS_
    clear S30
    clear hu_ hS_ hg34
    refine @wpG_p _ _ _ _ _ (some 3) (.bool true) _ _ rfl (by rfl) (fun _ => rfl) ?_
    simp only [n1, n3, n4]
    refine wpG_done (fun V37 hv38 => ?_)
    have S39 : Hid (St w noB [blk g18 75 [.string (bstr Ma.wGas), .bool false, .bool false, .bool false], blk g4 75 [.string (bstr Ma.wGas), .bool false, .bool false, .bool false]] V37) := Lib.hid (S36.out.gr hv38)
    clear S36
    clear hv38
    refine ⟨rfl, hK _ _ ?_⟩
    clear hK
    go_wp2_with fail
    (try simp only [Exit.inBlock, Exit.then])
    refine bodyPost_ret (results_cell_tmp rfl _ _ _ g4 0 [.string (bstr Ma.wGas), .bool false, .bool false, .bool false] _ rfl (S39.out.range 1 rfl 0 4 rfl) Tryd.underlying75 rfl (by kernel_rfl)) rfl ?_
    refine ⟨?_, S39.out.bel⟩
    show Ending.returned (.tuple #[.agg #[.string (bstr Ma.wGas), .bool false, .bool false, .bool false], .bool true]) = _
    (first | rfl | (have e_f32 := f32.out; subst e_f32; first | rfl | decide))
  | false =>
    have f40 := of_decide_eq_false Hc31.out.symm
    go_upto_region 6 with fail
    refine wpG_region_k (fun K hK => ?_)
    refine @wpG_p _ _ _ _ _ (some 15) (.int .i64 1) _ _ rfl (by rfl) (fun W => by go_simp <;> rfl) ?_
    simp only [n1, n3, n4]
    refine @wpG_p _ _ _ _ _ (some 7) (.int .i64 1) _ _ rfl (by rfl) (fun _ => rfl) ?_
    simp only [n1, n3, n4]
    refine wpG_done (fun V41 hv42 => ?_)
    have S43 : Hid (St w noB [blk g18 75 [.string (bstr Ma.wGas), .bool false, .bool false, .bool false], blk g4 75 [.string ⟨#[]⟩, .bool false, .bool false, .bool false]] V41) := Lib.hid (S30.out.gr hv42)
    clear S30
    clear hv42
    refine ⟨rfl, hK _ _ ?_⟩
    clear hK
    go_wp2_with fail
    rw [rounds_succ]
    go_upto_region 2 with fail
    refine wpG_region_k (fun K hK => ?_)
    refine @wpG_p _ _ _ _ _ (some 8) (.bool true) _ _ rfl (by rfl) (fun W => by go_simp) ?_
    simp only [n1, n3, n4]
    refine wpG_done (fun V44 hv45 => ?_)
    have S46 : Hid (St w noB [blk g18 75 [.string (bstr Ma.wGas), .bool false, .bool false, .bool false], blk g4 75 [.string ⟨#[]⟩, .bool false, .bool false, .bool false]] V44) := Lib.hid (S43.out.gr hv45)
    clear S43
    clear hv45
    refine ⟨rfl, hK _ _ ?_⟩
    clear hK
    go_upto_region 3 with fail
    refine wpG_region_k (fun K hK => ?_)
    refine @wpG_p _ _ _ _ _ (some 9) (.agg #[.string (bstr Ma.wSolid), .bool true, .bool false, .bool false]) _ _ rfl (by rfl) (fun W => by first | kernel_rfl | (go_simp; done) | (go_simp <;> rfl)) ?_
    simp only [n1, n3, n4]
    refine wpG_val (some 5) rfl (by rfl) (fun W47 hg48 => ⟨.pointer (some ⟨W47.heap.size, 0, none⟩), W47.alloc (.cells #[.string ⟨#[]⟩, .bool false, .bool false, .bool false] 75), by (first | (go_simp; done) | (go_simp <;> rfl)), ?_⟩)
    simp only [n1, n3, n4]
    obtain ⟨g49, U50, hg_, hu_, hS_⟩ := (S46.out.gr hg48).made [.string ⟨#[]⟩, .bool false, .bool false, .bool false] 75
    rw [← hu_, ← hg_]
    have S51 : Hid (St w noB [blk g49 75 [.string ⟨#[]⟩, .bool false, .bool false, .bool false], blk g18 75 [.string (bstr Ma.wGas), .bool false, .bool false, .bool false], blk g4 75 [.string ⟨#[]⟩, .bool false, .bool false, .bool false]] U50) := Lib.hid hS_
    clear S46
    clear hg_ hu_ hS_ hg48
    refine wpG_store (none) rfl (by rfl) (fun W52 hg53 => ⟨_, run_store_mid 75 (.tmp 5) (.tmp 9) rfl g49 0 #[.string (bstr Ma.wSolid), .bool true, .bool false, .bool false] rfl rfl ((S51.out.gr hg53).room 0 rfl 0 4 (by simp)) (by kernel_rfl) (by kernel_rfl), ?_⟩)
    simp only [n2]
    obtain ⟨U54, hu_, hS_⟩ := ((S51.out.gr hg53).put 0 rfl 0 (#[.string (bstr Ma.wSolid), .bool true, .bool false, .bool false] : Array Value).toList (ds := [.string (bstr Ma.wSolid), .bool true, .bool false, .bool false]) rfl).named
    rw [← hu_]
    have S55 : Hid (St w noB [blk g49 75 [.string (bstr Ma.wSolid), .bool true, .bool false, .bool false], blk g18 75 [.string (bstr Ma.wGas), .bool false, .bool false, .bool false], blk g4 75 [.string ⟨#[]⟩, .bool false, .bool false, .bool false]] U54) := Lib.hid hS_
    clear S51
    clear hu_ hS_ hg53
    refine wpG_done (fun V56 hv57 => ?_)
    have S58 : Hid (St w noB [blk g49 75 [.string (bstr Ma.wSolid), .bool true, .bool false, .bool false], blk g18 75 [.string (bstr Ma.wGas), .bool false, .bool false, .bool false], blk g4 75 [.string ⟨#[]⟩, .bool false, .bool false, .bool false]] V56) := Lib.hid (S55.out.gr hv57)
    clear S55
    clear hv57
    refine ⟨rfl, hK _ _ ?_⟩
    clear hK
    go_upto_region 4 with fail
    refine wpG_region_k (fun K hK => ?_)
    refine @wpG_p _ _ _ _ _ (some 10) (.pointer (some ⟨g49, 0, none⟩)) _ _ rfl (by rfl) (fun W => by go_simp) ?_
    simp only [n1, n3, n4]
    refine @wpG_r _ _ _ _ _ (some 11) (.string (bstr Ma.wSolid)) _ _ rfl (by rfl) (fun W hg => by have c := (S58.out.gr hg).cell 0 rfl 0 rfl; go_simp) ?_
    simp only [n1, n3, n4]
    refine @wpG_p _ _ _ _ _ (some 12) (.string (bstr x)) _ _ rfl (by rfl) (fun _ => rfl) ?_
    simp only [n1, n3, n4]
    refine @wpG_p _ _ _ _ _ (some 13) (.bool (decide (Ma.wSolid = x))) _ _ rfl (by rfl) (fun W => op_str_eql W Ma.wSolid x rfl rfl rfl Tryd.underlying9) ?_
    simp only [n1, n3, n4]
    refine wpG_done (fun V59 hv60 => ?_)
    have S61 : Hid (St w noB [blk g49 75 [.string (bstr Ma.wSolid), .bool true, .bool false, .bool false], blk g18 75 [.string (bstr Ma.wGas), .bool false, .bool false, .bool false], blk g4 75 [.string ⟨#[]⟩, .bool false, .bool false, .bool false]] V59) := Lib.hid (S58.out.gr hv60)
    clear S58
    clear hv60
    refine ⟨rfl, hK _ _ ?_⟩
    clear hK
    obtain ⟨c62, hc62⟩ : ∃ q_, q_ = (decide (Ma.wSolid = x)) := ⟨_, rfl⟩
    rw [← hc62]
    have Hc62 := Lib.hid hc62
    clear hc62
    cases c62 with
    | true =>
      have f63 := Lib.hid (of_decide_eq_true Hc62.out.symm)
      go_upto_region 5 with fail
      refine wpG_region_k (fun K hK => ?_)
      refine @wpG_tk _ _ _ _ _ (some 14) (.agg #[.string (bstr Ma.wSolid), .bool true, .bool false, .bool false]) _ _ rfl (.load_mid (by rfl) 75 (.tmp 5) rfl g49 0 rfl [.string (bstr Ma.wSolid), .bool true, .bool false, .bool false] _ (fun W hg => (S61.out.gr hg).range 0 rfl 0 4 rfl) Tryd.underlying75 rfl (by kernel_rfl)) ?_
      simp only [n1, n3, n4]
      refine wpG_store (none) rfl (by rfl) (fun W64 hg65 => ⟨_, run_store_mid 75 (.tmp 2) (.tmp 14) rfl g4 0 #[.string (bstr Ma.wSolid), .bool true, .bool false, .bool false] rfl rfl ((S61.out.gr hg65).room 2 rfl 0 4 (by simp)) (by kernel_rfl) (by kernel_rfl), ?_⟩)
      simp only [n2]
      obtain ⟨U66, hu_, hS_⟩ := ((S61.out.gr hg65).put 2 rfl 0 (#[.string (bstr Ma.wSolid), .bool true, .bool false, .bool false] : Array Value).toList (ds := [.string (bstr Ma.wSolid), .bool true, .bool false, .bool false]) rfl).named
      rw [← hu_]
      have S67 : Hid (St w noB [blk g49 75 [.string (bstr Ma.wSolid), .bool true, .bool false, .bool false], blk g18 75 [.string (bstr Ma.wGas), .bool false, .bool false, .bool false], blk g4 75 [.string (bstr Ma.wSolid), .bool true, .bool false, .bool false]] U66) := Lib.hid hS_
      clear S61
      clear hu_ hS_ hg65
      refine @wpG_p _ _ _ _ _ (some 3) (.bool true) _ _ rfl (by rfl) (fun _ => rfl) ?_
      simp only [n1, n3, n4]
      refine wpG_done (fun V68 hv69 => ?_)
      have S70 : Hid (St w noB [blk g49 75 [.string (bstr Ma.wSolid), .bool true, .bool false, .bool false], blk g18 75 [.string (bstr Ma.wGas), .bool false, .bool false, .bool false], blk g4 75 [.string (bstr Ma.wSolid), .bool true, .bool false, .bool false]] V68) := Lib.hid (S67.out.gr hv69)
      clear S67
      clear hv69
      refine ⟨rfl, hK _ _ ?_⟩
      clear hK
      go_wp2_with fail
      (try simp only [Exit.inBlock, Exit.then])
      refine bodyPost_ret (results_cell_tmp rfl _ _ _ g4 0 [.string (bstr Ma.wSolid), .bool true, .bool false, .bool false] _ rfl (S70.out.range 2 rfl 0 4 rfl) Tryd.underlying75 rfl (by kernel_rfl)) rfl ?_
      refine ⟨?_, S70.out.bel⟩
      show Ending.returned (.tuple #[.agg #[.string (bstr Ma.wSolid), .bool true, .bool false, .bool false], .bool true]) = _
      (first | rfl | (have e_f63 := f63.out; subst e_f63; first | rfl | decide))
    | false =>
      have f71 := of_decide_eq_false Hc62.out.symm
      go_upto_region 6 with fail
      refine wpG_region_k (fun K hK => ?_)
      refine @wpG_p _ _ _ _ _ (some 15) (.int .i64 2) _ _ rfl (by rfl) (fun W => by go_simp <;> rfl) ?_
      simp only [n1, n3, n4]
      refine @wpG_p _ _ _ _ _ (some 7) (.int .i64 2) _ _ rfl (by rfl) (fun _ => rfl) ?_
      simp only [n1, n3, n4]
      refine wpG_done (fun V72 hv73 => ?_)
      have S74 : Hid (St w noB [blk g49 75 [.string (bstr Ma.wSolid), .bool true, .bool false, .bool false], blk g18 75 [.string (bstr Ma.wGas), .bool false, .bool false, .bool false], blk g4 75 [.string ⟨#[]⟩, .bool false, .bool false, .bool false]] V72) := Lib.hid (S61.out.gr hv73)
      clear S61
      clear hv73
      refine ⟨rfl, hK _ _ ?_⟩
      clear hK
      go_wp2_with fail
      rw [rounds_succ]
      go_upto_region 2 with fail
      refine wpG_region_k (fun K hK => ?_)
      refine @wpG_p _ _ _ _ _ (some 8) (.bool true) _ _ rfl (by rfl) (fun W => by go_simp) ?_
      simp only [n1, n3, n4]
      refine wpG_done (fun V75 hv76 => ?_)
      have S77 : Hid (St w noB [blk g49 75 [.string (bstr Ma.wSolid), .bool true, .bool false, .bool false], blk g18 75 [.string (bstr Ma.wGas), .bool false, .bool false, .bool false], blk g4 75 [.string ⟨#[]⟩, .bool false, .bool false, .bool false]] V75) := Lib.hid (S74.out.gr hv76)
      clear S74
      clear hv76
      refine ⟨rfl, hK _ _ ?_⟩
      clear hK
      go_upto_region 3 with fail
      refine wpG_region_k (fun K hK => ?_)
      refine @wpG_p _ _ _ _ _ (some 9) (.agg #[.string (bstr Ma.wFalling), .bool true, .bool false, .bool true]) _ _ rfl (by rfl) (fun W => by first | kernel_rfl | (go_simp; done) | (go_simp <;> rfl)) ?_
      simp only [n1, n3, n4]
      refine wpG_val (some 5) rfl (by rfl) (fun W78 hg79 => ⟨.pointer (some ⟨W78.heap.size, 0, none⟩), W78.alloc (.cells #[.string ⟨#[]⟩, .bool false, .bool false, .bool false] 75), by (first | (go_simp; done) | (go_simp <;> rfl)), ?_⟩)
      simp only [n1, n3, n4]
      obtain ⟨g80, U81, hg_, hu_, hS_⟩ := (S77.out.gr hg79).made [.string ⟨#[]⟩, .bool false, .bool false, .bool false] 75
      rw [← hu_, ← hg_]
      have S82 : Hid (St w noB [blk g80 75 [.string ⟨#[]⟩, .bool false, .bool false, .bool false], blk g49 75 [.string (bstr Ma.wSolid), .bool true, .bool false, .bool false], blk g18 75 [.string (bstr Ma.wGas), .bool false, .bool false, .bool false], blk g4 75 [.string ⟨#[]⟩, .bool false, .bool false, .bool false]] U81) := Lib.hid hS_
      clear S77
      clear hg_ hu_ hS_ hg79
      refine wpG_store (none) rfl (by rfl) (fun W83 hg84 => ⟨_, run_store_mid 75 (.tmp 5) (.tmp 9) rfl g80 0 #[.string (bstr Ma.wFalling), .bool true, .bool false, .bool true] rfl rfl ((S82.out.gr hg84).room 0 rfl 0 4 (by simp)) (by kernel_rfl) (by kernel_rfl), ?_⟩)
      simp only [n2]
      obtain ⟨U85, hu_, hS_⟩ := ((S82.out.gr hg84).put 0 rfl 0 (#[.string (bstr Ma.wFalling), .bool true, .bool false, .bool true] : Array Value).toList (ds := [.string (bstr Ma.wFalling), .bool true, .bool false, .bool true]) rfl).named
      rw [← hu_]
      have S86 : Hid (St w noB [blk g80 75 [.string (bstr Ma.wFalling), .bool true, .bool false, .bool true], blk g49 75 [.string (bstr Ma.wSolid), .bool true, .bool false, .bool false], blk g18 75 [.string (bstr Ma.wGas), .bool false, .bool false, .bool false], blk g4 75 [.string ⟨#[]⟩, .bool false, .bool false, .bool false]] U85) := Lib.hid hS_
      clear S82
      clear hu_ hS_ hg84
      refine wpG_done (fun V87 hv88 => ?_)
      have S89 : Hid (St w noB [blk g80 75 [.string (bstr Ma.wFalling), .bool true, .bool false, .bool true], blk g49 75 [.string (bstr Ma.wSolid), .bool true, .bool false, .bool false], blk g18 75 [.string (bstr Ma.wGas), .bool false, .bool false, .bool false], blk g4 75 [.string ⟨#[]⟩, .bool false, .bool false, .bool false]] V87) := Lib.hid (S86.out.gr hv88)
      clear S86
      clear hv88
      refine ⟨rfl, hK _ _ ?_⟩
      clear hK
      go_upto_region 4 with fail
      refine wpG_region_k (fun K hK => ?_)
      refine @wpG_p _ _ _ _ _ (some 10) (.pointer (some ⟨g80, 0, none⟩)) _ _ rfl (by rfl) (fun W => by go_simp) ?_
      simp only [n1, n3, n4]
      refine @wpG_r _ _ _ _ _ (some 11) (.string (bstr Ma.wFalling)) _ _ rfl (by rfl) (fun W hg => by have c := (S89.out.gr hg).cell 0 rfl 0 rfl; go_simp) ?_
      simp only [n1, n3, n4]
      refine @wpG_p _ _ _ _ _ (some 12) (.string (bstr x)) _ _ rfl (by rfl) (fun _ => rfl) ?_
      simp only [n1, n3, n4]
      refine @wpG_p _ _ _ _ _ (some 13) (.bool (decide (Ma.wFalling = x))) _ _ rfl (by rfl) (fun W => op_str_eql W Ma.wFalling x rfl rfl rfl Tryd.underlying9) ?_
      simp only [n1, n3, n4]
      refine wpG_done (fun V90 hv91 => ?_)
      have S92 : Hid (St w noB [blk g80 75 [.string (bstr Ma.wFalling), .bool true, .bool false, .bool true], blk g49 75 [.string (bstr Ma.wSolid), .bool true, .bool false, .bool false], blk g18 75 [.string (bstr Ma.wGas), .bool false, .bool false, .bool false], blk g4 75 [.string ⟨#[]⟩, .bool false, .bool false, .bool false]] V90) := Lib.hid (S89.out.gr hv91)
      clear S89
      clear hv91
      refine ⟨rfl, hK _ _ ?_⟩
      clear hK
      obtain ⟨c93, hc93⟩ : ∃ q_, q_ = (decide (Ma.wFalling = x)) := ⟨_, rfl⟩
      rw [← hc93]
      have Hc93 := Lib.hid hc93
      clear hc93
      cases c93 with
      | true =>
        have f94 := Lib.hid (of_decide_eq_true Hc93.out.symm)
        go_upto_region 5 with fail
        refine wpG_region_k (fun K hK => ?_)
        refine @wpG_tk _ _ _ _ _ (some 14) (.agg #[.string (bstr Ma.wFalling), .bool true, .bool false, .bool true]) _ _ rfl (.load_mid (by rfl) 75 (.tmp 5) rfl g80 0 rfl [.string (bstr Ma.wFalling), .bool true, .bool false, .bool true] _ (fun W hg => (S92.out.gr hg).range 0 rfl 0 4 rfl) Tryd.underlying75 rfl (by kernel_rfl)) ?_
        simp only [n1, n3, n4]
        refine wpG_store (none) rfl (by rfl) (fun W95 hg96 => ⟨_, run_store_mid 75 (.tmp 2) (.tmp 14) rfl g4 0 #[.string (bstr Ma.wFalling), .bool true, .bool false, .bool true] rfl rfl ((S92.out.gr hg96).room 3 rfl 0 4 (by simp)) (by kernel_rfl) (by kernel_rfl), ?_⟩)
        simp only [n2]
        obtain ⟨U97, hu_, hS_⟩ := ((S92.out.gr hg96).put 3 rfl 0 (#[.string (bstr Ma.wFalling), .bool true, .bool false, .bool true] : Array Value).toList (ds := [.string (bstr Ma.wFalling), .bool true, .bool false, .bool true]) rfl).named
        rw [← hu_]
        have S98 : Hid (St w noB [blk g80 75 [.string (bstr Ma.wFalling), .bool true, .bool false, .bool true], blk g49 75 [.string (bstr Ma.wSolid), .bool true, .bool false, .bool false], blk g18 75 [.string (bstr Ma.wGas), .bool false, .bool false, .bool false], blk g4 75 [.string (bstr Ma.wFalling), .bool true, .bool false, .bool true]] U97) := Lib.hid hS_
        clear S92
        clear hu_ hS_ hg96
        refine @wpG_p _ _ _ _ _ (some 3) (.bool true) _ _ rfl (by rfl) (fun _ => rfl) ?_
        simp only [n1, n3, n4]
        refine wpG_done (fun V99 hv100 => ?_)
        have S101 : Hid (St w noB [blk g80 75 [.string (bstr Ma.wFalling), .bool true, .bool false, .bool true], blk g49 75 [.string (bstr Ma.wSolid), .bool true, .bool false, .bool false], blk g18 75 [.string (bstr Ma.wGas), .bool false, .bool false, .bool false], blk g4 75 [.string (bstr Ma.wFalling), .bool true, .bool false, .bool true]] V99) := Lib.hid (S98.out.gr hv100)
        clear S98
        clear hv100
        refine ⟨rfl, hK _ _ ?_⟩
        clear hK
        go_wp2_with fail
        (try simp only [Exit.inBlock, Exit.then])
        refine bodyPost_ret (results_cell_tmp rfl _ _ _ g4 0 [.string (bstr Ma.wFalling), .bool true, .bool false, .bool true] _ rfl (S101.out.range 3 rfl 0 4 rfl) Tryd.underlying75 rfl (by kernel_rfl)) rfl ?_
        refine ⟨?_, S101.out.bel⟩
        show Ending.returned (.tuple #[.agg #[.string (bstr Ma.wFalling), .bool true, .bool false, .bool true], .bool true]) = _
        (first | rfl | (have e_f94 := f94.out; subst e_f94; first | rfl | decide))
      | false =>
        have f102 := of_decide_eq_false Hc93.out.symm
        go_upto_region 6 with fail
        refine wpG_region_k (fun K hK => ?_)
        refine @wpG_p _ _ _ _ _ (some 15) (.int .i64 3) _ _ rfl (by rfl) (fun W => by go_simp <;> rfl) ?_
        simp only [n1, n3, n4]
        refine @wpG_p _ _ _ _ _ (some 7) (.int .i64 3) _ _ rfl (by rfl) (fun _ => rfl) ?_
        simp only [n1, n3, n4]
        refine wpG_done (fun V103 hv104 => ?_)
        have S105 : Hid (St w noB [blk g80 75 [.string (bstr Ma.wFalling), .bool true, .bool false, .bool true], blk g49 75 [.string (bstr Ma.wSolid), .bool true, .bool false, .bool false], blk g18 75 [.string (bstr Ma.wGas), .bool false, .bool false, .bool false], blk g4 75 [.string ⟨#[]⟩, .bool false, .bool false, .bool false]] V103) := Lib.hid (S92.out.gr hv104)
        clear S92
        clear hv104
        refine ⟨rfl, hK _ _ ?_⟩
        clear hK
        go_wp2_with fail
        rw [rounds_succ]
        go_upto_region 2 with fail
        refine wpG_region_k (fun K hK => ?_)
        refine @wpG_p _ _ _ _ _ (some 8) (.bool true) _ _ rfl (by rfl) (fun W => by go_simp) ?_
        simp only [n1, n3, n4]
        refine wpG_done (fun V106 hv107 => ?_)
        have S108 : Hid (St w noB [blk g80 75 [.string (bstr Ma.wFalling), .bool true, .bool false, .bool true], blk g49 75 [.string (bstr Ma.wSolid), .bool true, .bool false, .bool false], blk g18 75 [.string (bstr Ma.wGas), .bool false, .bool false, .bool false], blk g4 75 [.string ⟨#[]⟩, .bool false, .bool false, .bool false]] V106) := Lib.hid (S105.out.gr hv107)
        clear S105
        clear hv107
        refine ⟨rfl, hK _ _ ?_⟩
        clear hK
        go_upto_region 3 with fail
        refine wpG_region_k (fun K hK => ?_)
        refine @wpG_p _ _ _ _ _ (some 9) (.agg #[.string (bstr Ma.wLiquid), .bool false, .bool true, .bool false]) _ _ rfl (by rfl) (fun W => by first | kernel_rfl | (go_simp; done) | (go_simp <;> rfl)) ?_
        simp only [n1, n3, n4]
        refine wpG_val (some 5) rfl (by rfl) (fun W109 hg110 => ⟨.pointer (some ⟨W109.heap.size, 0, none⟩), W109.alloc (.cells #[.string ⟨#[]⟩, .bool false, .bool false, .bool false] 75), by (first | (go_simp; done) | (go_simp <;> rfl)), ?_⟩)
        simp only [n1, n3, n4]
        obtain ⟨g111, U112, hg_, hu_, hS_⟩ := (S108.out.gr hg110).made [.string ⟨#[]⟩, .bool false, .bool false, .bool false] 75
        rw [← hu_, ← hg_]
        have S113 : Hid (St w noB [blk g111 75 [.string ⟨#[]⟩, .bool false, .bool false, .bool false], blk g80 75 [.string (bstr Ma.wFalling), .bool true, .bool false, .bool true], blk g49 75 [.string (bstr Ma.wSolid), .bool true, .bool false, .bool false], blk g18 75 [.string (bstr Ma.wGas), .bool false, .bool false, .bool false], blk g4 75 [.string ⟨#[]⟩, .bool false, .bool false, .bool false]] U112) := Lib.hid hS_
        clear S108
        clear hg_ hu_ hS_ hg110
        refine wpG_store (none) rfl (by rfl) (fun W114 hg115 => ⟨_, run_store_mid 75 (.tmp 5) (.tmp 9) rfl g111 0 #[.string (bstr Ma.wLiquid), .bool false, .bool true, .bool false] rfl rfl ((S113.out.gr hg115).room 0 rfl 0 4 (by simp)) (by kernel_rfl) (by kernel_rfl), ?_⟩)
        simp only [n2]
        obtain ⟨U116, hu_, hS_⟩ := ((S113.out.gr hg115).put 0 rfl 0 (#[.string (bstr Ma.wLiquid), .bool false, .bool true, .bool false] : Array Value).toList (ds := [.string (bstr Ma.wLiquid), .bool false, .bool true, .bool false]) rfl).named
        rw [← hu_]
        have S117 : Hid (St w noB [blk g111 75 [.string (bstr Ma.wLiquid), .bool false, .bool true, .bool false], blk g80 75 [.string (bstr Ma.wFalling), .bool true, .bool false, .bool true], blk g49 75 [.string (bstr Ma.wSolid), .bool true, .bool false, .bool false], blk g18 75 [.string (bstr Ma.wGas), .bool false, .bool false, .bool false], blk g4 75 [.string ⟨#[]⟩, .bool false, .bool false, .bool false]] U116) := Lib.hid hS_
        clear S113
        clear hu_ hS_ hg115
        refine wpG_done (fun V118 hv119 => ?_)
        have S120 : Hid (St w noB [blk g111 75 [.string (bstr Ma.wLiquid), .bool false, .bool true, .bool false], blk g80 75 [.string (bstr Ma.wFalling), .bool true, .bool false, .bool true], blk g49 75 [.string (bstr Ma.wSolid), .bool true, .bool false, .bool false], blk g18 75 [.string (bstr Ma.wGas), .bool false, .bool false, .bool false], blk g4 75 [.string ⟨#[]⟩, .bool false, .bool false, .bool false]] V118) := Lib.hid (S117.out.gr hv119)
        clear S117
        clear hv119
        refine ⟨rfl, hK _ _ ?_⟩
        clear hK
        go_upto_region 4 with fail
        refine wpG_region_k (fun K hK => ?_)
        refine @wpG_p _ _ _ _ _ (some 10) (.pointer (some ⟨g111, 0, none⟩)) _ _ rfl (by rfl) (fun W => by go_simp) ?_
        simp only [n1, n3, n4]
        refine @wpG_r _ _ _ _ _ (some 11) (.string (bstr Ma.wLiquid)) _ _ rfl (by rfl) (fun W hg => by have c := (S120.out.gr hg).cell 0 rfl 0 rfl; go_simp) ?_
        simp only [n1, n3, n4]
        refine @wpG_p _ _ _ _ _ (some 12) (.string (bstr x)) _ _ rfl (by rfl) (fun _ => rfl) ?_
        simp only [n1, n3, n4]
        refine @wpG_p _ _ _ _ _ (some 13) (.bool (decide (Ma.wLiquid = x))) _ _ rfl (by rfl) (fun W => op_str_eql W Ma.wLiquid x rfl rfl rfl Tryd.underlying9) ?_
        simp only [n1, n3, n4]
        refine wpG_done (fun V121 hv122 => ?_)
        have S123 : Hid (St w noB [blk g111 75 [.string (bstr Ma.wLiquid), .bool false, .bool true, .bool false], blk g80 75 [.string (bstr Ma.wFalling), .bool true, .bool false, .bool true], blk g49 75 [.string (bstr Ma.wSolid), .bool true, .bool false, .bool false], blk g18 75 [.string (bstr Ma.wGas), .bool false, .bool false, .bool false], blk g4 75 [.string ⟨#[]⟩, .bool false, .bool false, .bool false]] V121) := Lib.hid (S120.out.gr hv122)
        clear S120
        clear hv122
        refine ⟨rfl, hK _ _ ?_⟩
        clear hK
        obtain ⟨c124, hc124⟩ : ∃ q_, q_ = (decide (Ma.wLiquid = x)) := ⟨_, rfl⟩
        rw [← hc124]
        have Hc124 := Lib.hid hc124
        clear hc124
        cases c124 with
        | true =>
          have f125 := Lib.hid (of_decide_eq_true Hc124.out.symm)
          go_upto_region 5 with fail
          refine wpG_region_k (fun K hK => ?_)
          refine @wpG_tk _ _ _ _ _ (some 14) (.agg #[.string (bstr Ma.wLiquid), .bool false, .bool true, .bool false]) _ _ rfl (.load_mid (by rfl) 75 (.tmp 5) rfl g111 0 rfl [.string (bstr Ma.wLiquid), .bool false, .bool true, .bool false] _ (fun W hg => (S123.out.gr hg).range 0 rfl 0 4 rfl) Tryd.underlying75 rfl (by kernel_rfl)) ?_
          simp only [n1, n3, n4]
          refine wpG_store (none) rfl (by rfl) (fun W126 hg127 => ⟨_, run_store_mid 75 (.tmp 2) (.tmp 14) rfl g4 0 #[.string (bstr Ma.wLiquid), .bool false, .bool true, .bool false] rfl rfl ((S123.out.gr hg127).room 4 rfl 0 4 (by simp)) (by kernel_rfl) (by kernel_rfl), ?_⟩)
          simp only [n2]
          obtain ⟨U128, hu_, hS_⟩ := ((S123.out.gr hg127).put 4 rfl 0 (#[.string (bstr Ma.wLiquid), .bool false, .bool true, .bool false] : Array Value).toList (ds := [.string (bstr Ma.wLiquid), .bool false, .bool true, .bool false]) rfl).named
          rw [← hu_]
          have S129 : Hid (St w noB [blk g111 75 [.string (bstr Ma.wLiquid), .bool false, .bool true, .bool false], blk g80 75 [.string (bstr Ma.wFalling), .bool true, .bool false, .bool true], blk g49 75 [.string (bstr Ma.wSolid), .bool true, .bool false, .bool false], blk g18 75 [.string (bstr Ma.wGas), .bool false, .bool false, .bool false], blk g4 75 [.string (bstr Ma.wLiquid), .bool false, .bool true, .bool false]] U128) := Lib.hid hS_
          clear S123
          clear hu_ hS_ hg127
          refine @wpG_p _ _ _ _ _ (some 3) (.bool true) _ _ rfl (by rfl) (fun _ => rfl) ?_
          simp only [n1, n3, n4]
          refine wpG_done (fun V130 hv131 => ?_)
          have S132 : Hid (St w noB [blk g111 75 [.string (bstr Ma.wLiquid), .bool false, .bool true, .bool false], blk g80 75 [.string (bstr Ma.wFalling), .bool true, .bool false, .bool true], blk g49 75 [.string (bstr Ma.wSolid), .bool true, .bool false, .bool false], blk g18 75 [.string (bstr Ma.wGas), .bool false, .bool false, .bool false], blk g4 75 [.string (bstr Ma.wLiquid), .bool false, .bool true, .bool false]] V130) := Lib.hid (S129.out.gr hv131)
          clear S129
          clear hv131
          refine ⟨rfl, hK _ _ ?_⟩
          clear hK
          go_wp2_with fail
          (try simp only [Exit.inBlock, Exit.then])
          refine bodyPost_ret (results_cell_tmp rfl _ _ _ g4 0 [.string (bstr Ma.wLiquid), .bool false, .bool true, .bool false] _ rfl (S132.out.range 4 rfl 0 4 rfl) Tryd.underlying75 rfl (by kernel_rfl)) rfl ?_
          refine ⟨?_, S132.out.bel⟩
          show Ending.returned (.tuple #[.agg #[.string (bstr Ma.wLiquid), .bool false, .bool true, .bool false], .bool true]) = _
          (first | rfl | (have e_f125 := f125.out; subst e_f125; first | rfl | decide))
        | false =>
          have f133 := of_decide_eq_false Hc124.out.symm
          go_upto_region 6 with fail
          refine wpG_region_k (fun K hK => ?_)
          refine @wpG_p _ _ _ _ _ (some 15) (.int .i64 4) _ _ rfl (by rfl) (fun W => by go_simp <;> rfl) ?_
          simp only [n1, n3, n4]
          refine @wpG_p _ _ _ _ _ (some 7) (.int .i64 4) _ _ rfl (by rfl) (fun _ => rfl) ?_
          simp only [n1, n3, n4]
          refine wpG_done (fun V134 hv135 => ?_)
          have S136 : Hid (St w noB [blk g111 75 [.string (bstr Ma.wLiquid), .bool false, .bool true, .bool false], blk g80 75 [.string (bstr Ma.wFalling), .bool true, .bool false, .bool true], blk g49 75 [.string (bstr Ma.wSolid), .bool true, .bool false, .bool false], blk g18 75 [.string (bstr Ma.wGas), .bool false, .bool false, .bool false], blk g4 75 [.string ⟨#[]⟩, .bool false, .bool false, .bool false]] V134) := Lib.hid (S123.out.gr hv135)
          clear S123
          clear hv135
          refine ⟨rfl, hK _ _ ?_⟩
          clear hK
          go_wp2_with fail
          rw [rounds_succ]
          go_upto_region 2 with fail
          refine wpG_region_k (fun K hK => ?_)
          refine @wpG_p _ _ _ _ _ (some 8) (.bool false) _ _ rfl (by rfl) (fun W => by go_simp) ?_
          simp only [n1, n3, n4]
          refine wpG_done (fun V137 hv138 => ?_)
          have S139 : Hid (St w noB [blk g111 75 [.string (bstr Ma.wLiquid), .bool false, .bool true, .bool false], blk g80 75 [.string (bstr Ma.wFalling), .bool true, .bool false, .bool true], blk g49 75 [.string (bstr Ma.wSolid), .bool true, .bool false, .bool false], blk g18 75 [.string (bstr Ma.wGas), .bool false, .bool false, .bool false], blk g4 75 [.string ⟨#[]⟩, .bool false, .bool false, .bool false]] V137) := Lib.hid (S136.out.gr hv138)
          clear S136
          clear hv138
          refine ⟨rfl, hK _ _ ?_⟩
          clear hK
          go_upto_region 7 with fail
          refine wpG_region_k (fun K hK => ?_)
          refine @wpG_p _ _ _ _ _ (some 16) (.agg #[.string ⟨#[]⟩, .bool false, .bool false, .bool false]) _ _ rfl (by rfl) (fun W => by go_simp) ?_
          simp only [n1, n3, n4]
          refine wpG_store (none) rfl (by rfl) (fun W140 hg141 => ⟨_, run_store_mid 75 (.tmp 2) (.tmp 16) rfl g4 0 #[.string ⟨#[]⟩, .bool false, .bool false, .bool false] rfl rfl ((S139.out.gr hg141).room 4 rfl 0 4 (by simp)) (by kernel_rfl) (by kernel_rfl), ?_⟩)
          simp only [n2]
          obtain ⟨U142, hu_, hS_⟩ := ((S139.out.gr hg141).put 4 rfl 0 (#[.string ⟨#[]⟩, .bool false, .bool false, .bool false] : Array Value).toList (ds := [.string ⟨#[]⟩, .bool false, .bool false, .bool false]) rfl).named
          rw [← hu_]
          have S143 : Hid (St w noB [blk g111 75 [.string (bstr Ma.wLiquid), .bool false, .bool true, .bool false], blk g80 75 [.string (bstr Ma.wFalling), .bool true, .bool false, .bool true], blk g49 75 [.string (bstr Ma.wSolid), .bool true, .bool false, .bool false], blk g18 75 [.string (bstr Ma.wGas), .bool false, .bool false, .bool false], blk g4 75 [.string ⟨#[]⟩, .bool false, .bool false, .bool false]] U142) := Lib.hid hS_
          clear S139
          clear hu_ hS_ hg141
          refine @wpG_p _ _ _ _ _ (some 3) (.bool false) _ _ rfl (by rfl) (fun _ => rfl) ?_
          simp only [n1, n3, n4]
          refine wpG_done (fun V144 hv145 => ?_)
          have S146 : Hid (St w noB [blk g111 75 [.string (bstr Ma.wLiquid), .bool false, .bool true, .bool false], blk g80 75 [.string (bstr Ma.wFalling), .bool true, .bool false, .bool true], blk g49 75 [.string (bstr Ma.wSolid), .bool true, .bool false, .bool false], blk g18 75 [.string (bstr Ma.wGas), .bool false, .bool false, .bool false], blk g4 75 [.string ⟨#[]⟩, .bool false, .bool false, .bool false]] V144) := Lib.hid (S143.out.gr hv145)
          clear S143
          clear hv145
          refine ⟨rfl, hK _ _ ?_⟩
          clear hK
          go_wp2_with fail
          (try simp only [Exit.inBlock, Exit.then])
          refine bodyPost_ret (results_cell_tmp rfl _ _ _ g4 0 [.string ⟨#[]⟩, .bool false, .bool false, .bool false] _ rfl (S146.out.range 4 rfl 0 4 rfl) Tryd.underlying75 rfl (by kernel_rfl)) rfl ?_
          refine ⟨?_, S146.out.bel⟩
          show Ending.returned (.tuple #[.agg #[.string ⟨#[]⟩, .bool false, .bool false, .bool false], .bool false]) = _
          (first | rfl | (have hn := Ma.kn_none (fun e => f40 e.symm) (fun e => f71 e.symm) (fun e => f102 e.symm) (fun e => f133 e.symm); simp only [Ma.kN, Ma.kS, Ma.kL, Ma.kF, hn]; rfl))
set_option maxRecDepth 1000000 in
set_option maxHeartbeats 4000000 in
theorem validName_any (x : List UInt8) (w : World) :
    Calls Tryd.prog 43 #[.string (bstr x)] w fun e w' => e = .returned (.bool (Ma.nameOk x)) ∧ Below w.heap.size w w' := by
  have S1 : Hid (St w noB [] w) := Lib.hid (St.start w)
  go_enter Tryd.func43, Tryd.ntmps43
  go_upto_region 0 with fail
  refine wpG_region_k (fun K hK => ?_)
  refine @wpG_p _ _ _ _ _ (some 2) (.bool false) _ _ rfl (by rfl) (fun _ => rfl) ?_
  simp only [n1, n3, n4]
  refine wpG_done (fun V2 hv3 => ?_)
  have S4 : Hid (St w noB [] V2) := Lib.hid (S1.out.gr hv3)
  clear S1
  clear hv3
  refine ⟨rfl, hK _ _ ?_⟩
  clear hK
  go_upto_region 1 with fail
  refine wpG_region_k (fun K hK => ?_)
  refine @wpG_p _ _ _ _ _ (some 5) (.string (bstr x)) _ _ rfl (by rfl) (fun _ => rfl) ?_
  simp only [n1, n3, n4]
  refine @wpG_p _ _ _ _ _ (some 6) (.int .i64 (x.length : Int)) _ _ rfl (by rfl) (fun W => op_str_len W x rfl rfl Tryd.underlying9) ?_
  simp only [n1, n3, n4]
  refine @wpG_p _ _ _ _ _ (some 7) (.bool (decide ((x.length : Int) < 1))) _ _ rfl (by rfl) (fun W => op_int_lss W (x.length : Int) 1 rfl rfl rfl Tryd.underlying3) ?_
  simp only [n1, n3, n4]
  refine @wpG_p _ _ _ _ _ (some 8) (.bool (decide ((x.length : Int) < 1))) _ _ rfl (by rfl) (fun _ => rfl) ?_
  simp only [n1, n3, n4]
  obtain ⟨c5, hc5⟩ : ∃ q_, q_ = (decide ((x.length : Int) < 1)) := ⟨_, rfl⟩
  rw [← hc5]
  have Hc5 := Lib.hid hc5
  clear hc5
  cases c5 with
  | true =>
    have f6 := of_decide_eq_true Hc5.out.symm
    refine @wpG_no _ _ _ _ _ (some 9) _ _ rfl (by rfl) ?_
    simp only [n1, n3, n4]
    refine @wpG_no _ _ _ _ _ (some 10) _ _ rfl (by rfl) ?_
    simp only [n1, n3, n4]
    refine @wpG_no _ _ _ _ _ (some 11) _ _ rfl (by rfl) ?_
    simp only [n1, n3, n4]
    refine @wpG_p _ _ _ _ _ (some 12) (.bool true) _ _ rfl (by rfl) (fun W => by go_simp) ?_
    simp only [n1, n3, n4]
    refine wpG_done (fun V7 hv8 => ?_)
    have S9 : Hid (St w noB [] V7) := Lib.hid (S4.out.gr hv8)
    clear S4
    clear hv8
    refine ⟨rfl, hK _ _ ?_⟩
    clear hK
    go_upto_region 2 with fail
    refine wpG_region_k (fun K hK => ?_)
    refine @wpG_p _ _ _ _ _ (some 2) (.bool false) _ _ rfl (by rfl) (fun _ => rfl) ?_
    simp only [n1, n3, n4]
    refine wpG_done (fun V10 hv11 => ?_)
    have S12 : Hid (St w noB [] V10) := Lib.hid (S9.out.gr hv11)
    clear S9
    clear hv11
    refine ⟨rfl, hK _ _ ?_⟩
    clear hK
    go_wp2_with fail
    go_ret
    refine ⟨?_, S12.out.bel⟩
    show Ending.returned (.bool false) = _
    (first | rfl | (exact congrArg (fun b => Ending.returned (.bool b)) (Ma.nameOk_short (x := x) (by omega)).symm))
  | false =>
    have f13 := of_decide_eq_false Hc5.out.symm
    refine @wpG_p _ _ _ _ _ (some 9) (.string (bstr x)) _ _ rfl (by rfl) (fun _ => rfl) ?_
    simp only [n1, n3, n4]
    refine @wpG_p _ _ _ _ _ (some 10) (.int .i64 (x.length : Int)) _ _ rfl (by rfl) (fun W => op_str_len W x rfl rfl Tryd.underlying9) ?_
    simp only [n1, n3, n4]
    refine @wpG_p _ _ _ _ _ (some 11) (.bool (decide ((x.length : Int) > 32))) _ _ rfl (by rfl) (fun W => op_int_gtr W (x.length : Int) 32 rfl rfl rfl Tryd.underlying3) ?_
    simp only [n1, n3, n4]
    refine @wpG_p _ _ _ _ _ (some 12) (.bool (decide ((x.length : Int) > 32))) _ _ rfl (by rfl) (fun W => by go_simp) ?_
    simp only [n1, n3, n4]
    refine wpG_done (fun V14 hv15 => ?_)
    have S16 : Hid (St w noB [] V14) := Lib.hid (S4.out.gr hv15)
    clear S4
    clear hv15
    refine ⟨rfl, hK _ _ ?_⟩
    clear hK
    obtain ⟨c17, hc17⟩ : ∃ q_, q_ = (decide ((x.length : Int) > 32)) := ⟨_, rfl⟩
    rw [← hc17]
    have Hc17 := Lib.hid hc17
    clear hc17
    cases c17 with
    | true =>
      have f18 := of_decide_eq_true Hc17.out.symm
      go_upto_region 2 with fail
      refine wpG_region_k (fun K hK => ?_)
      refine @wpG_p _ _ _ _ _ (some 2) (.bool false) _ _ rfl (by rfl) (fun _ => rfl) ?_
      simp only [n1, n3, n4]
      refine wpG_done (fun V19 hv20 => ?_)
      have S21 : Hid (St w noB [] V19) := Lib.hid (S16.out.gr hv20)
      clear S16
      clear hv20
      refine ⟨rfl, hK _ _ ?_⟩
      clear hK
      go_wp2_with fail
      go_ret
      refine ⟨?_, S21.out.bel⟩
      show Ending.returned (.bool false) = _
      (first | rfl | (exact congrArg (fun b => Ending.returned (.bool b)) (Ma.nameOk_short (x := x) (by omega)).symm))
    | false =>
      have f22 := of_decide_eq_false Hc17.out.symm
      go_upto_region 3 with fail
      refine wpG_region_k (fun K hK => ?_)
      refine @wpG_p _ _ _ _ _ (some 13) (.string (bstr x)) _ _ rfl (by rfl) (fun _ => rfl) ?_
      simp only [n1, n3, n4]
      refine @wpG_p _ _ _ _ _ (some 14) (.int .i64 (x.length : Int)) _ _ rfl (by rfl) (fun W => op_str_len W x rfl rfl Tryd.underlying9) ?_
      simp only [n1, n3, n4]
      refine @wpG_p _ _ _ _ _ (some 15) (.int .i64 0) _ _ rfl (by rfl) (fun _ => rfl) ?_
      simp only [n1, n3, n4]
      refine wpG_done (fun V23 hv24 => ?_)
      have S25 : Hid (St w noB [] V23) := Lib.hid (S16.out.gr hv24)
      clear S16
      clear hv24
      refine ⟨rfl, hK _ _ ?_⟩
      clear hK
      go_wp2_with fail
      go_loopw [15] (fun v15 wr => ∃ (k : Nat), v15 = .int .i64 (k : Int) ∧ k ≤ Ma.ff (Ma.okc x) x.length ∧ k ≤ x.length ∧ St w noB [] wr) (fun i _ => x.length - (intOf i).toNat)
      case atStart => exact ⟨0, rfl, Nat.zero_le _, Nat.zero_le _, S25.out⟩
      case round =>
        obtain ⟨k, rfl, hk_, hkl, hS⟩ := hrel
        have HK_ := Lib.hid hk_
        clear hk_
        have SL := Lib.hid hS
        clear S25 hS
        have S26 := SL
        clear SL
        go_upto_region 4 with fail
        refine wpG_region_k (fun K hK => ?_)
        refine @wpG_p _ _ _ _ _ (some 16) (.bool (decide ((k : Int) < (x.length : Int)))) _ _ rfl (by rfl) (fun W => op_int_lss W (k : Int) (x.length : Int) rfl rfl rfl Tryd.underlying3) ?_
        simp only [n1, n3, n4]
        refine wpG_done (fun V27 hv28 => ?_)
        have S29 : Hid (St w noB [] V27) := Lib.hid (S26.out.gr hv28)
        clear S26
        clear hv28
        refine ⟨rfl, hK _ _ ?_⟩
        clear hK
        obtain ⟨c30, hc30⟩ : ∃ q_, q_ = (decide ((k : Int) < (x.length : Int))) := ⟨_, rfl⟩
        rw [← hc30]
        have Hc30 := Lib.hid hc30
        clear hc30
        cases c30 with
        | true =>
          have f31 := of_decide_eq_true Hc30.out.symm
          go_upto_region 5 with fail
          refine wpG_region_k (fun K hK => ?_)
          refine @wpG_p _ _ _ _ _ (some 17) (.int .i64 (k : Int)) _ _ rfl (by rfl) (fun _ => rfl) ?_
          simp only [n1, n3, n4]
          refine @wpG_p _ _ _ _ _ (some 3) (.int .i64 (k : Int)) _ _ rfl (by rfl) (fun _ => rfl) ?_
          simp only [n1, n3, n4]
          refine wpG_done (fun V32 hv33 => ?_)
          have S34 : Hid (St w noB [] V32) := Lib.hid (S29.out.gr hv33)
          clear S29
          clear hv33
          refine ⟨rfl, hK _ _ ?_⟩
          clear hK
          go_upto_region 6 with fail
          refine wpG_region_k (fun K hK => ?_)
          refine @wpG_p _ _ _ _ _ (some 18) (.int .i64 (k : Int)) _ _ rfl (by rfl) (fun _ => rfl) ?_
          simp only [n1, n3, n4]
          refine @wpG_p _ _ _ _ _ (some 19) (.bool (decide ((k : Int) = 0))) _ _ rfl (by rfl) (fun W => op_int_eql W (k : Int) 0 rfl rfl rfl Tryd.underlying3) ?_
          simp only [n1, n3, n4]
          refine @wpG_p _ _ _ _ _ (some 20) (.bool (decide ((k : Int) = 0))) _ _ rfl (by rfl) (fun _ => rfl) ?_
          simp only [n1, n3, n4]
          obtain ⟨c35, hc35⟩ : ∃ q_, q_ = (decide ((k : Int) = 0)) := ⟨_, rfl⟩
          rw [← hc35]
          have Hc35 := Lib.hid hc35
          clear hc35
          cases c35 with
          | true =>
            have f36 := Lib.hid (of_decide_eq_true Hc35.out.symm)
            have f36a := Int.le_of_eq f36.out
            have f36b := Int.le_of_eq f36.out.symm
            refine @wpG_no _ _ _ _ _ (some 21) _ _ rfl (by rfl) ?_
            simp only [n1, n3, n4]
            refine @wpG_no _ _ _ _ _ (some 22) _ _ rfl (by rfl) ?_
            simp only [n1, n3, n4]
            refine @wpG_no _ _ _ _ _ (some 23) _ _ rfl (by rfl) ?_
            simp only [n1, n3, n4]
            refine @wpG_no _ _ _ _ _ (some 24) _ _ rfl (by rfl) ?_
            simp only [n1, n3, n4]
            refine @wpG_no _ _ _ _ _ (some 25) _ _ rfl (by rfl) ?_
            simp only [n1, n3, n4]
            refine @wpG_p _ _ _ _ _ (some 26) (.bool true) _ _ rfl (by rfl) (fun W => by go_simp) ?_
            simp only [n1, n3, n4]
            refine @wpG_p _ _ _ _ _ (some 4) (.bool true) _ _ rfl (by rfl) (fun _ => rfl) ?_
            simp only [n1, n3, n4]
            refine wpG_done (fun V37 hv38 => ?_)
            have S39 : Hid (St w noB [] V37) := Lib.hid (S34.out.gr hv38)
            clear S34
            clear hv38
            refine ⟨rfl, hK _ _ ?_⟩
            clear hK
            go_upto_region 7 with fail
            refine wpG_region_k (fun K hK => ?_)
            refine @wpG_p _ _ _ _ _ (some 27) (.string (bstr x)) _ _ rfl (by rfl) (fun _ => rfl) ?_
            simp only [n1, n3, n4]
            refine @wpG_p _ _ _ _ _ (some 28) (.int .i64 (k : Int)) _ _ rfl (by rfl) (fun _ => rfl) ?_
            simp only [n1, n3, n4]
            refine @wpG_p _ _ _ _ _ (some 29) (.int .u8 ((Ma.byt x k).toNat : Int)) _ _ rfl (by rfl) (fun W => op_str_idx W x k (by omega) rfl rfl rfl Tryd.underlying9) ?_
            simp only [n1, n3, n4]
            refine @wpG_tk _ _ _ _ _ (some 30) (.bool (Ma.letter (Ma.byt x k))) _ _ rfl (.call (f := 58) (args := #[.int .u8 ((Ma.byt x k).toNat : Int)]) (by rfl) (fun W => by go_simp) (fun W hg => letter_any (Ma.byt x k) W)) ?_
            simp only [n1, n3, n4]
            refine @wpG_p _ _ _ _ _ (some 31) (.bool (!(Ma.letter (Ma.byt x k)))) _ _ rfl (by rfl) (fun W => by go_simp) ?_
            simp only [n1, n3, n4]
            refine @wpG_p _ _ _ _ _ (some 32) (.bool (!(Ma.letter (Ma.byt x k)))) _ _ rfl (by rfl) (fun _ => rfl) ?_
            simp only [n1, n3, n4]
            obtain ⟨c40, hc40⟩ : ∃ q_, q_ = (!(Ma.letter (Ma.byt x k))) := ⟨_, rfl⟩
            rw [← hc40]
            have Hc40 := Lib.hid hc40
            clear hc40
            cases c40 with
            | true =>
              have f41 := Lib.hid ((bnt Hc40.out))
              refine @wpG_p _ _ _ _ _ (some 33) (.bool true) _ _ rfl (by rfl) (fun _ => rfl) ?_
              simp only [n1, n3, n4]
              refine @wpG_p _ _ _ _ _ (some 34) (.bool true) _ _ rfl (by rfl) (fun _ => rfl) ?_
              simp only [n1, n3, n4]
              refine @wpG_no _ _ _ _ _ (some 35) _ _ rfl (by rfl) ?_
              simp only [n1, n3, n4]
              refine @wpG_no _ _ _ _ _ (some 36) _ _ rfl (by rfl) ?_
              simp only [n1, n3, n4]
              refine @wpG_no _ _ _ _ _ (some 37) _ _ rfl (by rfl) ?_
              simp only [n1, n3, n4]
              refine @wpG_no _ _ _ _ _ (some 38) _ _ rfl (by rfl) ?_
              simp only [n1, n3, n4]
              refine @wpG_p _ _ _ _ _ (some 39) (.bool true) _ _ rfl (by rfl) (fun W => by go_simp) ?_
              simp only [n1, n3, n4]
              refine @wpG_p _ _ _ _ _ (some 40) (.bool true) _ _ rfl (by rfl) (fun W => by go_simp) ?_
              simp only [n1, n3, n4]
              refine wpG_done (fun V42 hv43 => ?_)
              have S44 : Hid (St w noB [] V42) := Lib.hid (S39.out.gr hv43)
              clear S39
              clear hv43
              refine ⟨rfl, hK _ _ ?_⟩
              clear hK
              go_upto_region 8 with fail
              refine wpG_region_k (fun K hK => ?_)
              refine @wpG_p _ _ _ _ _ (some 2) (.bool false) _ _ rfl (by rfl) (fun _ => rfl) ?_
              simp only [n1, n3, n4]
              refine wpG_done (fun V45 hv46 => ?_)
              have S47 : Hid (St w noB [] V45) := Lib.hid (S44.out.gr hv46)
              clear S44
              clear hv46
              refine ⟨rfl, hK _ _ ?_⟩
              clear hK
              go_wp2_with fail
              go_ret
              refine ⟨?_, S47.out.bel⟩
              show Ending.returned (.bool false) = _
              (first | rfl | (have e_f36 := f36.out; have e_f41 := f41.out; exact congrArg (fun b => Ending.returned (.bool b)) (Ma.nameOk_bad (x := x) HK_.out (by omega) (Ma.okc_no e_f41 (by first | (right; omega) | exact .inl (fun h => by have := Ma.is45.2 h; omega)))).symm))
            | false =>
              have f48 := Lib.hid ((bnf Hc40.out))
              refine @wpG_no _ _ _ _ _ (some 33) _ _ rfl (by rfl) ?_
              simp only [n1, n3, n4]
              refine @wpG_no _ _ _ _ _ (some 34) _ _ rfl (by rfl) ?_
              simp only [n1, n3, n4]
              refine @wpG_no _ _ _ _ _ (some 35) _ _ rfl (by rfl) ?_
              simp only [n1, n3, n4]
              refine @wpG_no _ _ _ _ _ (some 36) _ _ rfl (by rfl) ?_
              simp only [n1, n3, n4]
              refine @wpG_no _ _ _ _ _ (some 37) _ _ rfl (by rfl) ?_
              simp only [n1, n3, n4]
              refine @wpG_no _ _ _ _ _ (some 38) _ _ rfl (by rfl) ?_
              simp only [n1, n3, n4]
              refine @wpG_no _ _ _ _ _ (some 39) _ _ rfl (by rfl) ?_
              simp only [n1, n3, n4]
              refine @wpG_p _ _ _ _ _ (some 40) (.bool false) _ _ rfl (by rfl) (fun W => by go_simp) ?_
              simp only [n1, n3, n4]
              refine wpG_done (fun V49 hv50 => ?_)
              have S51 : Hid (St w noB [] V49) := Lib.hid (S39.out.gr hv50)
              clear S39
              clear hv50
              refine ⟨rfl, hK _ _ ?_⟩
              clear hK
              go_upto_region 9 with fail
              refine wpG_region_k (fun K hK => ?_)
              refine @wpG_p _ _ _ _ _ (some 41) (.int .i64 ((k : Int) + 1)) _ _ rfl (by rfl) (fun W => op_i_add W (k : Int) 1 (by omega) rfl rfl rfl Tryd.underlying3) ?_
              simp only [n1, n3, n4]
              refine @wpG_p _ _ _ _ _ (some 15) (.int .i64 ((k : Int) + 1)) _ _ rfl (by rfl) (fun _ => rfl) ?_
              simp only [n1, n3, n4]
              refine wpG_done (fun V52 hv53 => ?_)
              have S54 : Hid (St w noB [] V52) := Lib.hid (S51.out.gr hv53)
              clear S51
              clear hv53
              refine ⟨rfl, hK _ _ ?_⟩
              clear hK
              go_wp2_with fail
              go_roundw
              case rel => exact ⟨k + 1, (by first | rfl | go_num), (by have e_f36 := f36.out; have e_f48 := f48.out; refine Ma.ff_step HK_.out (by omega) ?_; first | exact Ma.okc_letter e_f48 | exact Ma.okc_inner (Ma.is45.1 (by omega)) (by omega) (by omega)), (by omega), S54.out⟩
              case measure => first | (simp [intOf]; done) | (simp [intOf]; omega) | omega
          | false =>
            have f55 := of_decide_eq_false Hc35.out.symm
            refine @wpG_p _ _ _ _ _ (some 21) (.int .i64 (k : Int)) _ _ rfl (by rfl) (fun _ => rfl) ?_
            simp only [n1, n3, n4]
            refine @wpG_p _ _ _ _ _ (some 22) (.string (bstr x)) _ _ rfl (by rfl) (fun _ => rfl) ?_
            simp only [n1, n3, n4]
            refine @wpG_p _ _ _ _ _ (some 23) (.int .i64 (x.length : Int)) _ _ rfl (by rfl) (fun W => op_str_len W x rfl rfl Tryd.underlying9) ?_
            simp only [n1, n3, n4]
            refine @wpG_p _ _ _ _ _ (some 24) (.int .i64 ((x.length : Int) - 1)) _ _ rfl (by rfl) (fun W => op_i_sub W (x.length : Int) 1 (by omega) rfl rfl rfl Tryd.underlying3) ?_
            simp only [n1, n3, n4]
            refine @wpG_p _ _ _ _ _ (some 25) (.bool (decide ((k : Int) = (x.length : Int) - 1))) _ _ rfl (by rfl) (fun W => op_int_eql W (k : Int) ((x.length : Int) - 1) rfl rfl rfl Tryd.underlying3) ?_
            simp only [n1, n3, n4]
            refine @wpG_p _ _ _ _ _ (some 26) (.bool (decide ((k : Int) = (x.length : Int) - 1))) _ _ rfl (by rfl) (fun W => by go_simp) ?_
            simp only [n1, n3, n4]
            refine @wpG_p _ _ _ _ _ (some 4) (.bool (decide ((k : Int) = (x.length : Int) - 1))) _ _ rfl (by rfl) (fun _ => rfl) ?_
            simp only [n1, n3, n4]
            refine wpG_done (fun V56 hv57 => ?_)
            have S58 : Hid (St w noB [] V56) := Lib.hid (S34.out.gr hv57)
            clear S34
            clear hv57
            refine ⟨rfl, hK _ _ ?_⟩
            clear hK
            go_upto_region 7 with fail
            refine wpG_region_k (fun K hK => ?_)
            refine @wpG_p _ _ _ _ _ (some 27) (.string (bstr x)) _ _ rfl (by rfl) (fun _ => rfl) ?_
            simp only [n1, n3, n4]
            refine @wpG_p _ _ _ _ _ (some 28) (.int .i64 (k : Int)) _ _ rfl (by rfl) (fun _ => rfl) ?_
            simp only [n1, n3, n4]
            refine @wpG_p _ _ _ _ _ (some 29) (.int .u8 ((Ma.byt x k).toNat : Int)) _ _ rfl (by rfl) (fun W => op_str_idx W x k (by omega) rfl rfl rfl Tryd.underlying9) ?_
            simp only [n1, n3, n4]
            refine @wpG_tk _ _ _ _ _ (some 30) (.bool (Ma.letter (Ma.byt x k))) _ _ rfl (.call (f := 58) (args := #[.int .u8 ((Ma.byt x k).toNat : Int)]) (by rfl) (fun W => by go_simp) (fun W hg => letter_any (Ma.byt x k) W)) ?_
            simp only [n1, n3, n4]
            refine @wpG_p _ _ _ _ _ (some 31) (.bool (!(Ma.letter (Ma.byt x k)))) _ _ rfl (by rfl) (fun W => by go_simp) ?_
            simp only [n1, n3, n4]
            refine @wpG_p _ _ _ _ _ (some 32) (.bool (!(Ma.letter (Ma.byt x k)))) _ _ rfl (by rfl) (fun _ => rfl) ?_
            simp only [n1, n3, n4]
            obtain ⟨c59, hc59⟩ : ∃ q_, q_ = (!(Ma.letter (Ma.byt x k))) := ⟨_, rfl⟩
            rw [← hc59]
            have Hc59 := Lib.hid hc59
            clear hc59
            cases c59 with
            | true =>
              have f60 := Lib.hid ((bnt Hc59.out))
              refine @wpG_p _ _ _ _ _ (some 33) (.bool (decide ((k : Int) = (x.length : Int) - 1))) _ _ rfl (by rfl) (fun _ => rfl) ?_
              simp only [n1, n3, n4]
              refine @wpG_p _ _ _ _ _ (some 34) (.bool (decide ((k : Int) = (x.length : Int) - 1))) _ _ rfl (by rfl) (fun _ => rfl) ?_
              simp only [n1, n3, n4]
              obtain ⟨c61, hc61⟩ : ∃ q_, q_ = (decide ((k : Int) = (x.length : Int) - 1)) := ⟨_, rfl⟩
              rw [← hc61]
              have Hc61 := Lib.hid hc61
              clear hc61
              cases c61 with
              | true =>
                have f62 := Lib.hid (of_decide_eq_true Hc61.out.symm)
                have f62a := Int.le_of_eq f62.out
                have f62b := Int.le_of_eq f62.out.symm
                refine @wpG_no _ _ _ _ _ (some 35) _ _ rfl (by rfl) ?_
                simp only [n1, n3, n4]
                refine @wpG_no _ _ _ _ _ (some 36) _ _ rfl (by rfl) ?_
                simp only [n1, n3, n4]
                refine @wpG_no _ _ _ _ _ (some 37) _ _ rfl (by rfl) ?_
                simp only [n1, n3, n4]
                refine @wpG_no _ _ _ _ _ (some 38) _ _ rfl (by rfl) ?_
                simp only [n1, n3, n4]
                refine @wpG_p _ _ _ _ _ (some 39) (.bool true) _ _ rfl (by rfl) (fun W => by go_simp) ?_
                simp only [n1, n3, n4]
                refine @wpG_p _ _ _ _ _ (some 40) (.bool true) _ _ rfl (by rfl) (fun W => by go_simp) ?_
                simp only [n1, n3, n4]
                refine wpG_done (fun V63 hv64 => ?_)
                have S65 : Hid (St w noB [] V63) := Lib.hid (S58.out.gr hv64)
                clear S58
                clear hv64
                refine ⟨rfl, hK _ _ ?_⟩
                clear hK
                go_upto_region 8 with fail
                refine wpG_region_k (fun K hK => ?_)
                refine @wpG_p _ _ _ _ _ (some 2) (.bool false) _ _ rfl (by rfl) (fun _ => rfl) ?_
                simp only [n1, n3, n4]
                refine wpG_done (fun V66 hv67 => ?_)
                have S68 : Hid (St w noB [] V66) := Lib.hid (S65.out.gr hv67)
                clear S65
                clear hv67
                refine ⟨rfl, hK _ _ ?_⟩
                clear hK
                go_wp2_with fail
                go_ret
                refine ⟨?_, S68.out.bel⟩
                show Ending.returned (.bool false) = _
                (first | rfl | (have e_f60 := f60.out; have e_f62 := f62.out; exact congrArg (fun b => Ending.returned (.bool b)) (Ma.nameOk_bad (x := x) HK_.out (by omega) (Ma.okc_no e_f60 (by first | (right; omega) | exact .inl (fun h => by have := Ma.is45.2 h; omega)))).symm))
              | false =>
                have f69 := of_decide_eq_false Hc61.out.symm
                refine @wpG_p _ _ _ _ _ (some 35) (.string (bstr x)) _ _ rfl (by rfl) (fun _ => rfl) ?_
                simp only [n1, n3, n4]
                refine @wpG_p _ _ _ _ _ (some 36) (.int .i64 (k : Int)) _ _ rfl (by rfl) (fun _ => rfl) ?_
                simp only [n1, n3, n4]
                refine @wpG_p _ _ _ _ _ (some 37) (.int .u8 ((Ma.byt x k).toNat : Int)) _ _ rfl (by rfl) (fun W => op_str_idx W x k (by omega) rfl rfl rfl Tryd.underlying9) ?_
                simp only [n1, n3, n4]
                refine @wpG_p _ _ _ _ _ (some 38) (.bool (decide (((Ma.byt x k).toNat : Int) ≠ 45))) _ _ rfl (by rfl) (fun W => op_int_neq W ((Ma.byt x k).toNat : Int) 45 rfl rfl rfl Tryd.underlying5) ?_
                simp only [n1, n3, n4]
                refine @wpG_p _ _ _ _ _ (some 39) (.bool (decide (((Ma.byt x k).toNat : Int) ≠ 45))) _ _ rfl (by rfl) (fun W => by go_simp) ?_
                simp only [n1, n3, n4]
                refine @wpG_p _ _ _ _ _ (some 40) (.bool (decide (((Ma.byt x k).toNat : Int) ≠ 45))) _ _ rfl (by rfl) (fun W => by go_simp) ?_
                simp only [n1, n3, n4]
                refine wpG_done (fun V70 hv71 => ?_)
                have S72 : Hid (St w noB [] V70) := Lib.hid (S58.out.gr hv71)
                clear S58
                clear hv71
                refine ⟨rfl, hK _ _ ?_⟩
                clear hK
                obtain ⟨c73, hc73⟩ : ∃ q_, q_ = (decide (((Ma.byt x k).toNat : Int) ≠ 45)) := ⟨_, rfl⟩
                rw [← hc73]
                have Hc73 := Lib.hid hc73
                clear hc73
                cases c73 with
                | true =>
                  have f74 := of_decide_eq_true Hc73.out.symm
                  go_upto_region 8 with fail
                  refine wpG_region_k (fun K hK => ?_)
                  refine @wpG_p _ _ _ _ _ (some 2) (.bool false) _ _ rfl (by rfl) (fun _ => rfl) ?_
                  simp only [n1, n3, n4]
                  refine wpG_done (fun V75 hv76 => ?_)
                  have S77 : Hid (St w noB [] V75) := Lib.hid (S72.out.gr hv76)
                  clear S72
                  clear hv76
                  refine ⟨rfl, hK _ _ ?_⟩
                  clear hK
                  go_wp2_with fail
                  go_ret
                  refine ⟨?_, S77.out.bel⟩
                  show Ending.returned (.bool false) = _
                  (first | rfl | (have e_f60 := f60.out; exact congrArg (fun b => Ending.returned (.bool b)) (Ma.nameOk_bad (x := x) HK_.out (by omega) (Ma.okc_no e_f60 (by first | (right; omega) | exact .inl (fun h => by have := Ma.is45.2 h; omega)))).symm))
                | false =>
                  have f78 := Lib.hid (Decidable.not_not.1 (of_decide_eq_false Hc73.out.symm))
                  have f78a := Int.le_of_eq f78.out
                  have f78b := Int.le_of_eq f78.out.symm
                  go_upto_region 9 with fail
                  refine wpG_region_k (fun K hK => ?_)
                  refine @wpG_p _ _ _ _ _ (some 41) (.int .i64 ((k : Int) + 1)) _ _ rfl (by rfl) (fun W => op_i_add W (k : Int) 1 (by omega) rfl rfl rfl Tryd.underlying3) ?_
                  simp only [n1, n3, n4]
                  refine @wpG_p _ _ _ _ _ (some 15) (.int .i64 ((k : Int) + 1)) _ _ rfl (by rfl) (fun _ => rfl) ?_
                  simp only [n1, n3, n4]
                  refine wpG_done (fun V79 hv80 => ?_)
                  have S81 : Hid (St w noB [] V79) := Lib.hid (S72.out.gr hv80)
                  clear S72
                  clear hv80
                  refine ⟨rfl, hK _ _ ?_⟩
                  clear hK
                  go_wp2_with fail
                  go_roundw
                  case rel => exact ⟨k + 1, (by first | rfl | go_num), (by have e_f60 := f60.out; have e_f78 := f78.out; refine Ma.ff_step HK_.out (by omega) ?_; first | exact Ma.okc_letter e_f60 | exact Ma.okc_inner (Ma.is45.1 (by omega)) (by omega) (by omega)), (by omega), S81.out⟩
                  case measure => first | (simp [intOf]; done) | (simp [intOf]; omega) | omega
            | false =>
              have f82 := Lib.hid ((bnf Hc59.out))
              refine @wpG_no _ _ _ _ _ (some 33) _ _ rfl (by rfl) ?_
              simp only [n1, n3, n4]
              refine @wpG_no _ _ _ _ _ (some 34) _ _ rfl (by rfl) ?_
              simp only [n1, n3, n4]
              refine @wpG_no _ _ _ _ _ (some 35) _ _ rfl (by rfl) ?_
              simp only [n1, n3, n4]
              refine @wpG_no _ _ _ _ _ (some 36) _ _ rfl (by rfl) ?_
              simp only [n1, n3, n4]
              refine @wpG_no _ _ _ _ _ (some 37) _ _ rfl (by rfl) ?_
              simp only [n1, n3, n4]
              refine @wpG_no _ _ _ _ _ (some 38) _ _ rfl (by rfl) ?_
              simp only [n1, n3, n4]
              refine @wpG_no _ _ _ _ _ (some 39) _ _ rfl (by rfl) ?_
              simp only [n1, n3, n4]
              refine @wpG_p _ _ _ _ _ (some 40) (.bool false) _ _ rfl (by rfl) (fun W => by go_simp) ?_
              simp only [n1, n3, n4]
              refine wpG_done (fun V83 hv84 => ?_)
              have S85 : Hid (St w noB [] V83) := Lib.hid (S58.out.gr hv84)
              clear S58
              clear hv84
              refine ⟨rfl, hK _ _ ?_⟩
              clear hK
              go_upto_region 9 with fail
              refine wpG_region_k (fun K hK => ?_)
              refine @wpG_p _ _ _ _ _ (some 41) (.int .i64 ((k : Int) + 1)) _ _ rfl (by rfl) (fun W => op_i_add W (k : Int) 1 (by omega) rfl rfl rfl Tryd.underlying3) ?_
              simp only [n1, n3, n4]
              refine @wpG_p _ _ _ _ _ (some 15) (.int .i64 ((k : Int) + 1)) _ _ rfl (by rfl) (fun _ => rfl) ?_
              simp only [n1, n3, n4]
              refine wpG_done (fun V86 hv87 => ?_)
              have S88 : Hid (St w noB [] V86) := Lib.hid (S85.out.gr hv87)
              clear S85
              clear hv87
              refine ⟨rfl, hK _ _ ?_⟩
              clear hK
              go_wp2_with fail
              go_roundw
              case rel => exact ⟨k + 1, (by first | rfl | go_num), (by have e_f82 := f82.out; refine Ma.ff_step HK_.out (by omega) ?_; first | exact Ma.okc_letter e_f82 | exact Ma.okc_inner (Ma.is45.1 (by omega)) (by omega) (by omega)), (by omega), S88.out⟩
              case measure => first | (simp [intOf]; done) | (simp [intOf]; omega) | omega
        | false =>
          have f89 := of_decide_eq_false Hc30.out.symm
          go_upto_region 10 with fail
          refine wpG_region_k (fun K hK => ?_)
          refine @wpG_p _ _ _ _ _ (some 2) (.bool true) _ _ rfl (by rfl) (fun _ => rfl) ?_
          simp only [n1, n3, n4]
          refine wpG_done (fun V90 hv91 => ?_)
          have S92 : Hid (St w noB [] V90) := Lib.hid (S29.out.gr hv91)
          clear S29
          clear hv91
          refine ⟨rfl, hK _ _ ?_⟩
          clear hK
          go_wp2_with fail
          go_ret
          refine ⟨?_, S92.out.bel⟩
          show Ending.returned (.bool true) = _
          (first | rfl | (exact congrArg (fun b => Ending.returned (.bool b)) (Ma.nameOk_good (x := x) (by omega) (by omega) (by have h := HK_.out; have e : k = x.length := (by omega); rw [e] at h; exact h)).symm))

end Go.Proofs.YtpjjddjoegnipaaDoor
