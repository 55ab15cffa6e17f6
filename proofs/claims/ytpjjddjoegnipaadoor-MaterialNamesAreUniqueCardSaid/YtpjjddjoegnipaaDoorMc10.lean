/-
  Contract: a line of the program.
-/
import Derived.Test.YtpjjddjoegnipaaDoorMc9
import Derived.Test.YtpjjddjoegnipaaDoorMa4
import Derived.Handy
namespace Go.Proofs.YtpjjddjoegnipaaDoor
open Go Go.RowKit
set_option linter.unusedVariables false
set_option linter.unusedSimpArgs false
set_option maxRecDepth 1000000 in
set_option maxHeartbeats 4000000 in
theorem pline_any (x : List UInt8) (w : World) (hx : x.length ≤ 281474976710656) (hE : Ev w) :
    Calls Tryd.prog 40 #[.string (bstr x)] w fun e w' => e = .returned (.tuple #[.agg #[.string (bstr ((Ma.matz x).n)), .bool ((Ma.matz x).s), .bool ((Ma.matz x).l), .bool ((Ma.matz x).f), .int .i64 ((Ma.matz x).fd), .int .i64 ((Ma.matz x).a), .int .i64 ((Ma.matz x).b), .int .i64 ((Ma.matz x).c)], .bool ((Ma.mat x).isSome)]) ∧ Below w.heap.size w w' := by
  have HE := Lib.hid hE
  have HK := Lib.hid hE.k
  clear hE
  have S1 : Hid (St w noB [] w) := Lib.hid (St.start w)
  go_enter Tryd.func40, Tryd.ntmps40
  go_upto_region 0 with fail
  refine wpG_region_k (fun K hK => ?_)
  refine wpG_val (some 2) rfl (by rfl) (fun W2 hg3 => ⟨.pointer (some ⟨W2.heap.size, 0, none⟩), W2.alloc (.cells #[.string ⟨#[]⟩, .bool false, .bool false, .bool false, .int .i64 0, .int .i64 0, .int .i64 0, .int .i64 0] 35), by (first | (go_simp; done) | (go_simp <;> rfl)), ?_⟩)
  simp only [n1, n3, n4]
  obtain ⟨g4, U5, hg_, hu_, hS_⟩ := (S1.out.gr hg3).made [.string ⟨#[]⟩, .bool false, .bool false, .bool false, .int .i64 0, .int .i64 0, .int .i64 0, .int .i64 0] 35
  rw [← hu_, ← hg_]
  have S6 : Hid (St w noB [blk g4 35 [.string ⟨#[]⟩, .bool false, .bool false, .bool false, .int .i64 0, .int .i64 0, .int .i64 0, .int .i64 0]] U5) := Lib.hid hS_
  clear S1
  clear hg_ hu_ hS_ hg3
  refine @wpG_p _ _ _ _ _ (some 3) (.bool false) _ _ rfl (by rfl) (fun _ => rfl) ?_
  simp only [n1, n3, n4]
  refine wpG_done (fun V7 hv8 => ?_)
  have S9 : Hid (St w noB [blk g4 35 [.string ⟨#[]⟩, .bool false, .bool false, .bool false, .int .i64 0, .int .i64 0, .int .i64 0, .int .i64 0]] V7) := Lib.hid (S6.out.gr hv8)
  clear S6
  clear hv8
  refine ⟨rfl, hK _ _ ?_⟩
  clear hK
  go_upto_region 1 with fail
  refine wpG_region_k (fun K hK => ?_)
  refine @wpG_p _ _ _ _ _ (some 14) (.string (bstr x)) _ _ rfl (by rfl) (fun _ => rfl) ?_
  simp only [n1, n3, n4]
  refine @wpG_p _ _ _ _ _ (some 15) (.agg #[.string (bstr x), .bool false]) _ _ rfl (by rfl) (fun W => by go_simp) ?_
  simp only [n1, n3, n4]
  refine wpG_val (some 4) rfl (by rfl) (fun W10 hg11 => ⟨.pointer (some ⟨W10.heap.size, 0, none⟩), W10.alloc (.cells #[.string ⟨#[]⟩, .bool false] 73), by (first | (go_simp; done) | (go_simp <;> rfl)), ?_⟩)
  simp only [n1, n3, n4]
  obtain ⟨g12, U13, hg_, hu_, hS_⟩ := (S9.out.gr hg11).made [.string ⟨#[]⟩, .bool false] 73
  rw [← hu_, ← hg_]
  have S14 : Hid (St w noB [blk g12 73 [.string ⟨#[]⟩, .bool false], blk g4 35 [.string ⟨#[]⟩, .bool false, .bool false, .bool false, .int .i64 0, .int .i64 0, .int .i64 0, .int .i64 0]] U13) := Lib.hid hS_
  clear S9
  clear hg_ hu_ hS_ hg11
  refine wpG_store (none) rfl (by rfl) (fun W15 hg16 => ⟨_, run_store_mid 73 (.tmp 4) (.tmp 15) rfl g12 0 #[.string (bstr x), .bool false] rfl rfl ((S14.out.gr hg16).room 0 rfl 0 2 (by simp)) (by kernel_rfl) (by kernel_rfl), ?_⟩)
  simp only [n2]
  obtain ⟨U17, hu_, hS_⟩ := ((S14.out.gr hg16).put 0 rfl 0 (#[.string (bstr x), .bool false] : Array Value).toList (ds := [.string (bstr x), .bool false]) rfl).named
  rw [← hu_]
  have S18 : Hid (St w noB [blk g12 73 [.string (bstr x), .bool false], blk g4 35 [.string ⟨#[]⟩, .bool false, .bool false, .bool false, .int .i64 0, .int .i64 0, .int .i64 0, .int .i64 0]] U17) := Lib.hid hS_
  clear S14
  clear hu_ hS_ hg16
  refine wpG_done (fun V19 hv20 => ?_)
  have S21 : Hid (St w noB [blk g12 73 [.string (bstr x), .bool false], blk g4 35 [.string ⟨#[]⟩, .bool false, .bool false, .bool false, .int .i64 0, .int .i64 0, .int .i64 0, .int .i64 0]] V19) := Lib.hid (S18.out.gr hv20)
  clear S18
  clear hv20
  refine ⟨rfl, hK _ _ ?_⟩
  clear hK
  go_upto_region 2 with fail
  refine wpG_region_k (fun K hK => ?_)
  refine @wpG_p _ _ _ _ _ (some 16) (.func (.func 51) #[.pointer (some ⟨g12, 0, none⟩)] #[]) _ _ rfl (by rfl) (fun W => by go_simp) ?_
  simp only [n1, n3, n4]
  refine @wpG_p _ _ _ _ _ (some 5) (.func (.func 51) #[.pointer (some ⟨g12, 0, none⟩)] #[]) _ _ rfl (by rfl) (fun _ => rfl) ?_
  simp only [n1, n3, n4]
  refine wpG_done (fun V22 hv23 => ?_)
  have S24 : Hid (St w noB [blk g12 73 [.string (bstr x), .bool false], blk g4 35 [.string ⟨#[]⟩, .bool false, .bool false, .bool false, .int .i64 0, .int .i64 0, .int .i64 0, .int .i64 0]] V22) := Lib.hid (S21.out.gr hv23)
  clear S21
  clear hv23
  refine ⟨rfl, hK _ _ ?_⟩
  clear hK
  go_upto_region 3 with fail
  refine wpG_region_k (fun K hK => ?_)
  refine @wpG_p _ _ _ _ _ (some 17) (.func (.func 51) #[.pointer (some ⟨g12, 0, none⟩)] #[]) _ _ rfl (by rfl) (fun _ => rfl) ?_
  simp only [n1, n3, n4]
  refine wpG_call (some 18) 51 #[.pointer (some ⟨g12, 0, none⟩)] rfl (by rfl) (fun W => by go_simp) (fun W25 hg26 => ?_)
  obtain ⟨fp_, hA_, hfp_, back_⟩ := St.lend (L := [blk g12 73 [.string (bstr x), .bool false]]) (M := [blk g4 35 [.string ⟨#[]⟩, .bool false, .bool false, .bool false, .int .i64 0, .int .i64 0, .int .i64 0, .int .i64 0]]) ((S24.out.gr hg26).front 0 rfl)
  refine (word_any x false g12 fp_ W25 (by omega) hA_).mono ?_
  rintro e w27 ⟨rfl, hS_⟩
  refine ⟨_, rfl, ?_⟩
  have hT_ := back_ hS_
  obtain ⟨x28, hq_⟩ : ∃ q_, q_ = Ma.wd x := ⟨_, rfl⟩
  (try rw [← hq_] at hT_); (try rw [← hq_])
  have hlx28 : x28.length ≤ x.length := by rw [hq_]; exact Ma.wd_le _
  have Hx28 := Lib.hid hq_
  clear hq_
  obtain ⟨x29, hq_⟩ : ∃ q_, q_ = Ma.nx x := ⟨_, rfl⟩
  (try rw [← hq_] at hT_); (try rw [← hq_])
  have hlx29 : x29.length ≤ x.length := by rw [hq_]; exact Ma.nx_le _
  have Hx29 := Lib.hid hq_
  clear hq_
  obtain ⟨m30, hq_⟩ : ∃ q_, q_ = Ma.mo x := ⟨_, rfl⟩
  (try rw [← hq_] at hT_); (try rw [← hq_])
  have Hm30 := Lib.hid hq_
  clear hq_
  simp only [n1, n3, n4]
  have S31 : Hid (St w noB [blk g12 73 [.string (bstr x29), .bool m30], blk g4 35 [.string ⟨#[]⟩, .bool false, .bool false, .bool false, .int .i64 0, .int .i64 0, .int .i64 0, .int .i64 0]] w27) := Lib.hid hT_
  clear S24
  clear hT_ hS_ hg26 hA_ hfp_ back_
  refine @wpG_p _ _ _ _ _ (some 6) (.string (bstr x28)) _ _ rfl (by rfl) (fun _ => rfl) ?_
  simp only [n1, n3, n4]
  refine wpG_done (fun V32 hv33 => ?_)
  have S34 : Hid (St w noB [blk g12 73 [.string (bstr x29), .bool m30], blk g4 35 [.string ⟨#[]⟩, .bool false, .bool false, .bool false, .int .i64 0, .int .i64 0, .int .i64 0, .int .i64 0]] V32) := Lib.hid (S31.out.gr hv33)
  clear S31
  clear hv33
  refine ⟨rfl, hK _ _ ?_⟩
  clear hK
  go_upto_region 4 with fail
  refine wpG_region_k (fun K hK => ?_)
  refine @wpG_p _ _ _ _ _ (some 20) (.func (.func 51) #[.pointer (some ⟨g12, 0, none⟩)] #[]) _ _ rfl (by rfl) (fun _ => rfl) ?_
  simp only [n1, n3, n4]
  refine wpG_call (some 21) 51 #[.pointer (some ⟨g12, 0, none⟩)] rfl (by rfl) (fun W => by go_simp) (fun W35 hg36 => ?_)
  obtain ⟨fp_, hA_, hfp_, back_⟩ := St.lend (L := [blk g12 73 [.string (bstr x29), .bool m30]]) (M := [blk g4 35 [.string ⟨#[]⟩, .bool false, .bool false, .bool false, .int .i64 0, .int .i64 0, .int .i64 0, .int .i64 0]]) ((S34.out.gr hg36).front 0 rfl)
  refine (word_any x29 m30 g12 fp_ W35 (by omega) hA_).mono ?_
  rintro e w37 ⟨rfl, hS_⟩
  refine ⟨_, rfl, ?_⟩
  have hT_ := back_ hS_
  obtain ⟨x38, hq_⟩ : ∃ q_, q_ = Ma.wd x29 := ⟨_, rfl⟩
  (try rw [← hq_] at hT_); (try rw [← hq_])
  have hlx38 : x38.length ≤ x29.length := by rw [hq_]; exact Ma.wd_le _
  have Hx38 := Lib.hid hq_
  clear hq_
  obtain ⟨x39, hq_⟩ : ∃ q_, q_ = Ma.nx x29 := ⟨_, rfl⟩
  (try rw [← hq_] at hT_); (try rw [← hq_])
  have hlx39 : x39.length ≤ x29.length := by rw [hq_]; exact Ma.nx_le _
  have Hx39 := Lib.hid hq_
  clear hq_
  obtain ⟨m40, hq_⟩ : ∃ q_, q_ = Ma.mo x29 := ⟨_, rfl⟩
  (try rw [← hq_] at hT_); (try rw [← hq_])
  have Hm40 := Lib.hid hq_
  clear hq_
  simp only [n1, n3, n4]
  have S41 : Hid (St w noB [blk g12 73 [.string (bstr x39), .bool m40], blk g4 35 [.string ⟨#[]⟩, .bool false, .bool false, .bool false, .int .i64 0, .int .i64 0, .int .i64 0, .int .i64 0]] w37) := Lib.hid hT_
  clear S34
  clear hT_ hS_ hg36 hA_ hfp_ back_
  refine @wpG_tk _ _ _ _ _ (some 22) (.tuple #[.agg #[.string (bstr (Ma.kN x38)), .bool (Ma.kS x38), .bool (Ma.kL x38), .bool (Ma.kF x38)], .bool ((Ma.kn x38).isSome)]) _ _ rfl (.call (f := 52) (args := #[.string (bstr x38)]) (by rfl) (fun W => by go_simp) (fun W hg => kindNamed_any x38 W (HK.out.gr (S41.out.gr hg).bel))) ?_
  simp only [n1, n3, n4]
  refine @wpG_p _ _ _ _ _ (some 19) (.tuple #[.agg #[.string (bstr (Ma.kN x38)), .bool (Ma.kS x38), .bool (Ma.kL x38), .bool (Ma.kF x38)], .bool ((Ma.kn x38).isSome)]) _ _ rfl (by rfl) (fun _ => rfl) ?_
  simp only [n1, n3, n4]
  refine @wpG_p _ _ _ _ _ (some 23) (.agg #[.string (bstr (Ma.kN x38)), .bool (Ma.kS x38), .bool (Ma.kL x38), .bool (Ma.kF x38)]) _ _ rfl (by rfl) (fun W => by go_simp) ?_
  simp only [n1, n3, n4]
  refine @wpG_p _ _ _ _ _ (some 24) (.bool ((Ma.kn x38).isSome)) _ _ rfl (by rfl) (fun W => by go_simp) ?_
  simp only [n1, n3, n4]
  refine wpG_val (some 7) rfl (by rfl) (fun W42 hg43 => ⟨.pointer (some ⟨W42.heap.size, 0, none⟩), W42.alloc (.cells #[.string ⟨#[]⟩, .bool false, .bool false, .bool false] 75), by (first | (go_simp; done) | (go_simp <;> rfl)), ?_⟩)
  simp only [n1, n3, n4]
  obtain ⟨g44, U45, hg_, hu_, hS_⟩ := (S41.out.gr hg43).made [.string ⟨#[]⟩, .bool false, .bool false, .bool false] 75
  rw [← hu_, ← hg_]
  have S46 : Hid (St w noB [blk g44 75 [.string ⟨#[]⟩, .bool false, .bool false, .bool false], blk g12 73 [.string (bstr x39), .bool m40], blk g4 35 [.string ⟨#[]⟩, .bool false, .bool false, .bool false, .int .i64 0, .int .i64 0, .int .i64 0, .int .i64 0]] U45) := Lib.hid hS_
  clear S41
  clear hg_ hu_ hS_ hg43
  refine wpG_store (none) rfl (by rfl) (fun W47 hg48 => ⟨_, run_store_mid 75 (.tmp 7) (.tmp 23) rfl g44 0 #[.string (bstr (Ma.kN x38)), .bool (Ma.kS x38), .bool (Ma.kL x38), .bool (Ma.kF x38)] rfl rfl ((S46.out.gr hg48).room 0 rfl 0 4 (by simp)) (by kernel_rfl) (by kernel_rfl), ?_⟩)
  simp only [n2]
  obtain ⟨U49, hu_, hS_⟩ := ((S46.out.gr hg48).put 0 rfl 0 (#[.string (bstr (Ma.kN x38)), .bool (Ma.kS x38), .bool (Ma.kL x38), .bool (Ma.kF x38)] : Array Value).toList (ds := [.string (bstr (Ma.kN x38)), .bool (Ma.kS x38), .bool (Ma.kL x38), .bool (Ma.kF x38)]) rfl).named
  rw [← hu_]
  have S50 : Hid (St w noB [blk g44 75 [.string (bstr (Ma.kN x38)), .bool (Ma.kS x38), .bool (Ma.kL x38), .bool (Ma.kF x38)], blk g12 73 [.string (bstr x39), .bool m40], blk g4 35 [.string ⟨#[]⟩, .bool false, .bool false, .bool false, .int .i64 0, .int .i64 0, .int .i64 0, .int .i64 0]] U49) := Lib.hid hS_
  clear S46
  clear hu_ hS_ hg48
  refine @wpG_p _ _ _ _ _ (some 8) (.bool ((Ma.kn x38).isSome)) _ _ rfl (by rfl) (fun _ => rfl) ?_
  simp only [n1, n3, n4]
  refine wpG_done (fun V51 hv52 => ?_)
  have S53 : Hid (St w noB [blk g44 75 [.string (bstr (Ma.kN x38)), .bool (Ma.kS x38), .bool (Ma.kL x38), .bool (Ma.kF x38)], blk g12 73 [.string (bstr x39), .bool m40], blk g4 35 [.string ⟨#[]⟩, .bool false, .bool false, .bool false, .int .i64 0, .int .i64 0, .int .i64 0, .int .i64 0]] V51) := Lib.hid (S50.out.gr hv52)
  clear S50
  clear hv52
  refine ⟨rfl, hK _ _ ?_⟩
  clear hK
  go_upto_region 5 with fail
  refine wpG_region_k (fun K hK => ?_)
  refine @wpG_p _ _ _ _ _ (some 26) (.func (.func 51) #[.pointer (some ⟨g12, 0, none⟩)] #[]) _ _ rfl (by rfl) (fun _ => rfl) ?_
  simp only [n1, n3, n4]
  refine wpG_call (some 27) 53 #[.func (.func 51) #[.pointer (some ⟨g12, 0, none⟩)] #[]] rfl (by rfl) (fun W => by go_simp) (fun W54 hg55 => ?_)
  obtain ⟨fp_, hA_, hfp_, back_⟩ := St.lend (L := [blk g12 73 [.string (bstr x39), .bool m40]]) (M := [blk g44 75 [.string (bstr (Ma.kN x38)), .bool (Ma.kS x38), .bool (Ma.kL x38), .bool (Ma.kF x38)], blk g4 35 [.string ⟨#[]⟩, .bool false, .bool false, .bool false, .int .i64 0, .int .i64 0, .int .i64 0, .int .i64 0]]) ((S53.out.gr hg55).front 1 rfl)
  refine (fade_any x39 m40 g12 fp_ W54 (by omega) (HE.out.st (S53.out.gr hg55) noGlob) (HE.out.fp hfp_ noGlob) hA_).mono ?_
  rintro e w56 ⟨rfl, hS_⟩
  refine ⟨_, rfl, ?_⟩
  have hT_ := back_ hS_
  obtain ⟨v57, hq_⟩ : ∃ q_, q_ = (Ma.fadeR x39).1 := ⟨_, rfl⟩
  (try rw [← hq_] at hT_); (try rw [← hq_])
  have Hv57 := Lib.hid hq_
  clear hq_
  obtain ⟨m58, hq_⟩ : ∃ q_, q_ = (Ma.fadeR x39).2.1 := ⟨_, rfl⟩
  (try rw [← hq_] at hT_); (try rw [← hq_])
  have Hm58 := Lib.hid hq_
  clear hq_
  obtain ⟨x59, hq_⟩ : ∃ q_, q_ = (Ma.fadeR x39).2.2.1 := ⟨_, rfl⟩
  (try rw [← hq_] at hT_); (try rw [← hq_])
  have hlx59 : x59.length ≤ x39.length := by rw [hq_]; exact Ma.fade_le _
  have Hx59 := Lib.hid hq_
  clear hq_
  obtain ⟨m60, hq_⟩ : ∃ q_, q_ = (Ma.fadeR x39).2.2.2 := ⟨_, rfl⟩
  (try rw [← hq_] at hT_); (try rw [← hq_])
  have Hm60 := Lib.hid hq_
  clear hq_
  simp only [n1, n3, n4]
  have S61 : Hid (St w noB [blk g12 73 [.string (bstr x59), .bool m60], blk g44 75 [.string (bstr (Ma.kN x38)), .bool (Ma.kS x38), .bool (Ma.kL x38), .bool (Ma.kF x38)], blk g4 35 [.string ⟨#[]⟩, .bool false, .bool false, .bool false, .int .i64 0, .int .i64 0, .int .i64 0, .int .i64 0]] w56) := Lib.hid hT_
  clear S53
  clear hT_ hS_ hg55 hA_ hfp_ back_
  refine @wpG_p _ _ _ _ _ (some 25) (.tuple #[.int .i64 v57, .bool m58]) _ _ rfl (by rfl) (fun _ => rfl) ?_
  simp only [n1, n3, n4]
  refine @wpG_p _ _ _ _ _ (some 28) (.int .i64 v57) _ _ rfl (by rfl) (fun W => by go_simp) ?_
  simp only [n1, n3, n4]
  refine @wpG_p _ _ _ _ _ (some 29) (.bool m58) _ _ rfl (by rfl) (fun W => by go_simp) ?_
  simp only [n1, n3, n4]
  refine @wpG_p _ _ _ _ _ (some 9) (.int .i64 v57) _ _ rfl (by rfl) (fun _ => rfl) ?_
  simp only [n1, n3, n4]
  refine @wpG_p _ _ _ _ _ (some 10) (.bool m58) _ _ rfl (by rfl) (fun _ => rfl) ?_
  simp only [n1, n3, n4]
  refine wpG_done (fun V62 hv63 => ?_)
  have S64 : Hid (St w noB [blk g12 73 [.string (bstr x59), .bool m60], blk g44 75 [.string (bstr (Ma.kN x38)), .bool (Ma.kS x38), .bool (Ma.kL x38), .bool (Ma.kF x38)], blk g4 35 [.string ⟨#[]⟩, .bool false, .bool false, .bool false, .int .i64 0, .int .i64 0, .int .i64 0, .int .i64 0]] V62) := Lib.hid (S61.out.gr hv63)
  clear S61
  clear hv63
  refine ⟨rfl, hK _ _ ?_⟩
  clear hK
  go_upto_region 6 with fail
  refine wpG_region_k (fun K hK => ?_)
  refine @wpG_p _ _ _ _ _ (some 30) (.string (bstr x28)) _ _ rfl (by rfl) (fun _ => rfl) ?_
  simp only [n1, n3, n4]
  refine @wpG_p _ _ _ _ _ (some 31) (.bool (decide (x28 = []))) _ _ rfl (by rfl) (fun W => op_str_eql W x28 [] rfl rfl rfl Tryd.underlying9) ?_
  simp only [n1, n3, n4]
  refine @wpG_p _ _ _ _ _ (some 32) (.bool (decide (x28 = []))) _ _ rfl (by rfl) (fun _ => rfl) ?_
  simp only [n1, n3, n4]
  obtain ⟨c65, hc65⟩ : ∃ q_, q_ = (decide (x28 = [])) := ⟨_, rfl⟩
  rw [← hc65]
  have Hc65 := Lib.hid hc65
  clear hc65
  cases c65 with
  | true =>
    have f66 := Lib.hid (of_decide_eq_true Hc65.out.symm)
    refine @wpG_no _ _ _ _ _ (some 33) _ _ rfl (by rfl) ?_
    simp only [n1, n3, n4]
    refine @wpG_no _ _ _ _ _ (some 34) _ _ rfl (by rfl) ?_
    simp only [n1, n3, n4]
    refine @wpG_p _ _ _ _ _ (some 35) (.bool true) _ _ rfl (by rfl) (fun W => by go_simp) ?_
    simp only [n1, n3, n4]
    refine @wpG_p _ _ _ _ _ (some 36) (.bool true) _ _ rfl (by rfl) (fun _ => rfl) ?_
    simp only [n1, n3, n4]
    refine @wpG_no _ _ _ _ _ (some 37) _ _ rfl (by rfl) ?_
    simp only [n1, n3, n4]
    refine @wpG_no _ _ _ _ _ (some 38) _ _ rfl (by rfl) ?_
    simp only [n1, n3, n4]
    refine @wpG_p _ _ _ _ _ (some 39) (.bool true) _ _ rfl (by rfl) (fun W => by go_simp) ?_
    simp only [n1, n3, n4]
    refine wpG_done (fun V67 hv68 => ?_)
    have S69 : Hid (St w noB [blk g12 73 [.string (bstr x59), .bool m60], blk g44 75 [.string (bstr (Ma.kN x38)), .bool (Ma.kS x38), .bool (Ma.kL x38), .bool (Ma.kF x38)], blk g4 35 [.string ⟨#[]⟩, .bool false, .bool false, .bool false, .int .i64 0, .int .i64 0, .int .i64 0, .int .i64 0]] V67) := Lib.hid (S64.out.gr hv68)
    clear S64
    clear hv68
    refine ⟨rfl, hK _ _ ?_⟩
    clear hK
    go_upto_region 7 with fail
    refine wpG_region_k (fun K hK => ?_)
    refine @wpG_p _ _ _ _ _ (some 40) (.agg #[.string ⟨#[]⟩, .bool false, .bool false, .bool false, .int .i64 0, .int .i64 0, .int .i64 0, .int .i64 0]) _ _ rfl (by rfl) (fun W => by go_simp) ?_
    simp only [n1, n3, n4]
    refine wpG_store (none) rfl (by rfl) (fun W70 hg71 => ⟨_, run_store_mid 35 (.tmp 2) (.tmp 40) rfl g4 0 #[.string ⟨#[]⟩, .bool false, .bool false, .bool false, .int .i64 0, .int .i64 0, .int .i64 0, .int .i64 0] rfl rfl ((S69.out.gr hg71).room 2 rfl 0 8 (by simp)) (by kernel_rfl) (by kernel_rfl), ?_⟩)
    simp only [n2]
    obtain ⟨U72, hu_, hS_⟩ := ((S69.out.gr hg71).put 2 rfl 0 (#[.string ⟨#[]⟩, .bool false, .bool false, .bool false, .int .i64 0, .int .i64 0, .int .i64 0, .int .i64 0] : Array Value).toList (ds := [.string ⟨#[]⟩, .bool false, .bool false, .bool false, .int .i64 0, .int .i64 0, .int .i64 0, .int .i64 0]) rfl).named
    rw [← hu_]
    have S73 : Hid (St w noB [blk g12 73 [.string (bstr x59), .bool m60], blk g44 75 [.string (bstr (Ma.kN x38)), .bool (Ma.kS x38), .bool (Ma.kL x38), .bool (Ma.kF x38)], blk g4 35 [.string ⟨#[]⟩, .bool false, .bool false, .bool false, .int .i64 0, .int .i64 0, .int .i64 0, .int .i64 0]] U72) := Lib.hid hS_
    clear S69
    clear hu_ hS_ hg71
    refine @wpG_p _ _ _ _ _ (some 3) (.bool false) _ _ rfl (by rfl) (fun _ => rfl) ?_
    simp only [n1, n3, n4]
    refine wpG_done (fun V74 hv75 => ?_)
    have S76 : Hid (St w noB [blk g12 73 [.string (bstr x59), .bool m60], blk g44 75 [.string (bstr (Ma.kN x38)), .bool (Ma.kS x38), .bool (Ma.kL x38), .bool (Ma.kF x38)], blk g4 35 [.string ⟨#[]⟩, .bool false, .bool false, .bool false, .int .i64 0, .int .i64 0, .int .i64 0, .int .i64 0]] V74) := Lib.hid (S73.out.gr hv75)
    clear S73
    clear hv75
    refine ⟨rfl, hK _ _ ?_⟩
    clear hK
    go_wp2_with fail
    (try simp only [Exit.inBlock, Exit.then])
    refine bodyPost_ret (results_cell_tmp rfl _ _ _ g4 0 [.string ⟨#[]⟩, .bool false, .bool false, .bool false, .int .i64 0, .int .i64 0, .int .i64 0, .int .i64 0] _ rfl (S76.out.range 2 rfl 0 8 rfl) Tryd.underlying35 rfl (by kernel_rfl)) rfl ?_
    refine ⟨?_, S76.out.bel⟩
    show Ending.returned (.tuple #[.agg #[.string ⟨#[]⟩, .bool false, .bool false, .bool false, .int .i64 0, .int .i64 0, .int .i64 0, .int .i64 0], .bool false]) = _
    (first | rfl | (obtain rfl := Hx28.out; obtain rfl := Hx29.out; obtain rfl := Hx38.out; obtain rfl := Hx39.out; obtain rfl := Hv57.out; obtain rfl := Hx59.out; obtain rfl := Hm30.out; obtain rfl := Hm40.out; obtain rfl := Hm58.out; obtain rfl := Hm60.out; have e_f66 := f66.out; have h := Ma.pl_0 e_f66; rw [Ma.matz_none h, h]; rfl))
  | false =>
    have f77 := of_decide_eq_false Hc65.out.symm
    refine @wpG_p _ _ _ _ _ (some 33) (.bool ((Ma.kn x38).isSome)) _ _ rfl (by rfl) (fun _ => rfl) ?_
    simp only [n1, n3, n4]
    refine @wpG_p _ _ _ _ _ (some 34) (.bool (!((Ma.kn x38).isSome))) _ _ rfl (by rfl) (fun W => by go_simp) ?_
    simp only [n1, n3, n4]
    refine @wpG_p _ _ _ _ _ (some 35) (.bool (!((Ma.kn x38).isSome))) _ _ rfl (by rfl) (fun W => by go_simp) ?_
    simp only [n1, n3, n4]
    refine @wpG_p _ _ _ _ _ (some 36) (.bool (!((Ma.kn x38).isSome))) _ _ rfl (by rfl) (fun _ => rfl) ?_
    simp only [n1, n3, n4]
    obtain ⟨c78, hc78⟩ : ∃ q_, q_ = (!((Ma.kn x38).isSome)) := ⟨_, rfl⟩
    rw [← hc78]
    have Hc78 := Lib.hid hc78
    clear hc78
    cases c78 with
    | true =>
      have f79 := Lib.hid ((bnt Hc78.out))
      refine @wpG_no _ _ _ _ _ (some 37) _ _ rfl (by rfl) ?_
      simp only [n1, n3, n4]
      refine @wpG_no _ _ _ _ _ (some 38) _ _ rfl (by rfl) ?_
      simp only [n1, n3, n4]
      refine @wpG_p _ _ _ _ _ (some 39) (.bool true) _ _ rfl (by rfl) (fun W => by go_simp) ?_
      simp only [n1, n3, n4]
      refine wpG_done (fun V80 hv81 => ?_)
      have S82 : Hid (St w noB [blk g12 73 [.string (bstr x59), .bool m60], blk g44 75 [.string (bstr (Ma.kN x38)), .bool (Ma.kS x38), .bool (Ma.kL x38), .bool (Ma.kF x38)], blk g4 35 [.string ⟨#[]⟩, .bool false, .bool false, .bool false, .int .i64 0, .int .i64 0, .int .i64 0, .int .i64 0]] V80) := Lib.hid (S64.out.gr hv81)
      clear S64
      clear hv81
      refine ⟨rfl, hK _ _ ?_⟩
      clear hK
      go_upto_region 7 with fail
      refine wpG_region_k (fun K hK => ?_)
      refine @wpG_p _ _ _ _ _ (some 40) (.agg #[.string ⟨#[]⟩, .bool false, .bool false, .bool false, .int .i64 0, .int .i64 0, .int .i64 0, .int .i64 0]) _ _ rfl (by rfl) (fun W => by go_simp) ?_
      simp only [n1, n3, n4]
      refine wpG_store (none) rfl (by rfl) (fun W83 hg84 => ⟨_, run_store_mid 35 (.tmp 2) (.tmp 40) rfl g4 0 #[.string ⟨#[]⟩, .bool false, .bool false, .bool false, .int .i64 0, .int .i64 0, .int .i64 0, .int .i64 0] rfl rfl ((S82.out.gr hg84).room 2 rfl 0 8 (by simp)) (by kernel_rfl) (by kernel_rfl), ?_⟩)
      simp only [n2]
      obtain ⟨U85, hu_, hS_⟩ := ((S82.out.gr hg84).put 2 rfl 0 (#[.string ⟨#[]⟩, .bool false, .bool false, .bool false, .int .i64 0, .int .i64 0, .int .i64 0, .int .i64 0] : Array Value).toList (ds := [.string ⟨#[]⟩, .bool false, .bool false, .bool false, .int .i64 0, .int .i64 0, .int .i64 0, .int .i64 0]) rfl).named
      rw [← hu_]
      have S86 : Hid (St w noB [blk g12 73 [.string (bstr x59), .bool m60], blk g44 75 [.string (bstr (Ma.kN x38)), .bool (Ma.kS x38), .bool (Ma.kL x38), .bool (Ma.kF x38)], blk g4 35 [.string ⟨#[]⟩, .bool false, .bool false, .bool false, .int .i64 0, .int .i64 0, .int .i64 0, .int .i64 0]] U85) := Lib.hid hS_
      clear S82
      clear hu_ hS_ hg84
      refine @wpG_p _ _ _ _ _ (some 3) (.bool false) _ _ rfl (by rfl) (fun _ => rfl) ?_
      simp only [n1, n3, n4]
      refine wpG_done (fun V87 hv88 => ?_)
      have S89 : Hid (St w noB [blk g12 73 [.string (bstr x59), .bool m60], blk g44 75 [.string (bstr (Ma.kN x38)), .bool (Ma.kS x38), .bool (Ma.kL x38), .bool (Ma.kF x38)], blk g4 35 [.string ⟨#[]⟩, .bool false, .bool false, .bool false, .int .i64 0, .int .i64 0, .int .i64 0, .int .i64 0]] V87) := Lib.hid (S86.out.gr hv88)
      clear S86
      clear hv88
      refine ⟨rfl, hK _ _ ?_⟩
      clear hK
      go_wp2_with fail
      (try simp only [Exit.inBlock, Exit.then])
      refine bodyPost_ret (results_cell_tmp rfl _ _ _ g4 0 [.string ⟨#[]⟩, .bool false, .bool false, .bool false, .int .i64 0, .int .i64 0, .int .i64 0, .int .i64 0] _ rfl (S89.out.range 2 rfl 0 8 rfl) Tryd.underlying35 rfl (by kernel_rfl)) rfl ?_
      refine ⟨?_, S89.out.bel⟩
      show Ending.returned (.tuple #[.agg #[.string ⟨#[]⟩, .bool false, .bool false, .bool false, .int .i64 0, .int .i64 0, .int .i64 0, .int .i64 0], .bool false]) = _
      (first | rfl | (obtain rfl := Hx28.out; obtain rfl := Hx29.out; obtain rfl := Hx38.out; obtain rfl := Hx39.out; obtain rfl := Hv57.out; obtain rfl := Hx59.out; obtain rfl := Hm30.out; obtain rfl := Hm40.out; obtain rfl := Hm58.out; obtain rfl := Hm60.out; have e_f79 := f79.out; have h := Ma.pl_1 (Ma.none_of e_f79); rw [Ma.matz_none h, h]; rfl))
    | false =>
      have f90 := Lib.hid ((bnf Hc78.out))
      refine @wpG_p _ _ _ _ _ (some 37) (.bool m58) _ _ rfl (by rfl) (fun _ => rfl) ?_
      simp only [n1, n3, n4]
      refine @wpG_p _ _ _ _ _ (some 38) (.bool (!m58)) _ _ rfl (by rfl) (fun W => by first | (go_simp; done) | (cases m58 <;> rfl)) ?_
      simp only [n1, n3, n4]
      refine @wpG_p _ _ _ _ _ (some 39) (.bool (!m58)) _ _ rfl (by rfl) (fun W => by go_simp) ?_
      simp only [n1, n3, n4]
      refine wpG_done (fun V91 hv92 => ?_)
      have S93 : Hid (St w noB [blk g12 73 [.string (bstr x59), .bool m60], blk g44 75 [.string (bstr (Ma.kN x38)), .bool (Ma.kS x38), .bool (Ma.kL x38), .bool (Ma.kF x38)], blk g4 35 [.string ⟨#[]⟩, .bool false, .bool false, .bool false, .int .i64 0, .int .i64 0, .int .i64 0, .int .i64 0]] V91) := Lib.hid (S64.out.gr hv92)
      clear S64
      clear hv92
      refine ⟨rfl, hK _ _ ?_⟩
      clear hK
      cases m58 with
      | true =>
        have f94 := Lib.hid (Hm58.out.symm)
        go_upto_region 8 with fail
        refine wpK_region_k (by kernel_rfl) (fun K hK => ?_)
        refine wpK_ta (i := 0) (some 41) (v := .string (bstr x28)) rfl rfl (by kernel_rfl) (fun _ _ _ h => onN_panic h) (Or.inl ⟨rfl, fun _ => rfl⟩) ?_
        simp only [n1, n3, n4]
        refine wpK_tk (i := 1) (some 42) (v := .string (bstr x28)) rfl rfl (by kernel_rfl) (fun _ _ _ h => onN_panic h) (.call (f := 54) (args := #[.string (bstr x28)]) (by rfl) (fun W => by go_simp) (fun W hg => sclone_any x28 W (by omega))) ?_
        simp only [n1, n3, n4]
        refine wpK_ta (i := 2) (some 43) (v := .pointer (some ⟨g44, 1, none⟩)) rfl rfl (by kernel_rfl) (fun _ _ _ h => onN_panic h) (Or.inl ⟨by rfl, fun W => by go_simp⟩) ?_
        simp only [n1, n3, n4]
        refine wpK_tk (i := 3) (some 44) (v := .bool (Ma.kS x38)) rfl rfl (by kernel_rfl) (fun _ _ _ h => onN_panic h) (.val (by rfl) (fun W hg => by have c := (S93.out.gr (Gr.un hg)).cell 1 rfl 1 rfl; go_simp)) ?_
        simp only [n1, n3, n4]
        refine wpK_ta (i := 4) (some 45) (v := .pointer (some ⟨g44, 2, none⟩)) rfl rfl (by kernel_rfl) (fun _ _ _ h => onN_panic h) (Or.inl ⟨by rfl, fun W => by go_simp⟩) ?_
        simp only [n1, n3, n4]
        refine wpK_tk (i := 5) (some 46) (v := .bool (Ma.kL x38)) rfl rfl (by kernel_rfl) (fun _ _ _ h => onN_panic h) (.val (by rfl) (fun W hg => by have c := (S93.out.gr (Gr.un hg)).cell 1 rfl 2 rfl; go_simp)) ?_
        simp only [n1, n3, n4]
        refine wpK_ta (i := 6) (some 47) (v := .pointer (some ⟨g44, 3, none⟩)) rfl rfl (by kernel_rfl) (fun _ _ _ h => onN_panic h) (Or.inl ⟨by rfl, fun W => by go_simp⟩) ?_
        simp only [n1, n3, n4]
        refine wpK_tk (i := 7) (some 48) (v := .bool (Ma.kF x38)) rfl rfl (by kernel_rfl) (fun _ _ _ h => onN_panic h) (.val (by rfl) (fun W hg => by have c := (S93.out.gr (Gr.un hg)).cell 1 rfl 3 rfl; go_simp)) ?_
        simp only [n1, n3, n4]
        refine wpK_ta (i := 8) (some 49) (v := .int .i64 v57) rfl rfl (by kernel_rfl) (fun _ _ _ h => onN_panic h) (Or.inl ⟨rfl, fun _ => rfl⟩) ?_
        simp only [n1, n3, n4]
        refine wpK_ta (i := 9) (some 50) (v := .agg #[.string (bstr x28), .bool (Ma.kS x38), .bool (Ma.kL x38), .bool (Ma.kF x38), .int .i64 v57, .int .i64 0, .int .i64 0, .int .i64 0]) rfl rfl (by kernel_rfl) (fun _ _ _ h => onN_panic h) (Or.inl ⟨by rfl, fun W => by go_simp⟩) ?_
        simp only [n1, n3, n4]
        refine wpK_val (i := 10) (some 11) rfl rfl (by kernel_rfl) (by rfl) (fun W95 hg96 => ⟨.pointer (some ⟨W95.heap.size, 0, none⟩), W95.alloc (.cells #[.string ⟨#[]⟩, .bool false, .bool false, .bool false, .int .i64 0, .int .i64 0, .int .i64 0, .int .i64 0] 35), by (first | (go_simp; done) | (go_simp <;> rfl)), Gr.al _ _, ?_⟩)
        simp only [n1, n3, n4]
        obtain ⟨g97, U98, hg_, hu_, hS_⟩ := (S93.out.gr (Gr.un hg96)).made [.string ⟨#[]⟩, .bool false, .bool false, .bool false, .int .i64 0, .int .i64 0, .int .i64 0, .int .i64 0] 35
        rw [← hu_, ← hg_]
        have S99 : Hid (St w noB [blk g97 35 [.string ⟨#[]⟩, .bool false, .bool false, .bool false, .int .i64 0, .int .i64 0, .int .i64 0, .int .i64 0], blk g12 73 [.string (bstr x59), .bool m60], blk g44 75 [.string (bstr (Ma.kN x38)), .bool (Ma.kS x38), .bool (Ma.kL x38), .bool (Ma.kF x38)], blk g4 35 [.string ⟨#[]⟩, .bool false, .bool false, .bool false, .int .i64 0, .int .i64 0, .int .i64 0, .int .i64 0]] U98) := Lib.hid hS_
        clear S93
        clear hg_ hu_ hS_ hg96
        refine wpK_store (i := 11) (none) rfl rfl (by kernel_rfl) (by rfl) (by rfl) (fun W100 hg101 => ⟨_, run_store_mid 35 (.tmp 11) (.tmp 50) rfl g97 0 #[.string (bstr x28), .bool (Ma.kS x38), .bool (Ma.kL x38), .bool (Ma.kF x38), .int .i64 v57, .int .i64 0, .int .i64 0, .int .i64 0] rfl rfl ((S99.out.gr hg101).room 0 rfl 0 8 (by simp)) (by kernel_rfl) (by kernel_rfl), ?_⟩)
        simp only [n2]
        obtain ⟨U102, hu_, hS_⟩ := ((S99.out.gr hg101).put 0 rfl 0 (#[.string (bstr x28), .bool (Ma.kS x38), .bool (Ma.kL x38), .bool (Ma.kF x38), .int .i64 v57, .int .i64 0, .int .i64 0, .int .i64 0] : Array Value).toList (ds := [.string (bstr x28), .bool (Ma.kS x38), .bool (Ma.kL x38), .bool (Ma.kF x38), .int .i64 v57, .int .i64 0, .int .i64 0, .int .i64 0]) rfl).named
        rw [← hu_]
        have S103 : Hid (St w noB [blk g97 35 [.string (bstr x28), .bool (Ma.kS x38), .bool (Ma.kL x38), .bool (Ma.kF x38), .int .i64 v57, .int .i64 0, .int .i64 0, .int .i64 0], blk g12 73 [.string (bstr x59), .bool m60], blk g44 75 [.string (bstr (Ma.kN x38)), .bool (Ma.kS x38), .bool (Ma.kL x38), .bool (Ma.kF x38)], blk g4 35 [.string ⟨#[]⟩, .bool false, .bool false, .bool false, .int .i64 0, .int .i64 0, .int .i64 0, .int .i64 0]] U102) := Lib.hid hS_
        clear S99
        clear hu_ hS_ hg101
        refine wpK_done (by kernel_rfl) (fun V104 hv105 => ?_) _
        have S106 : Hid (St w noB [blk g97 35 [.string (bstr x28), .bool (Ma.kS x38), .bool (Ma.kL x38), .bool (Ma.kF x38), .int .i64 v57, .int .i64 0, .int .i64 0, .int .i64 0], blk g12 73 [.string (bstr x59), .bool m60], blk g44 75 [.string (bstr (Ma.kN x38)), .bool (Ma.kS x38), .bool (Ma.kL x38), .bool (Ma.kF x38)], blk g4 35 [.string ⟨#[]⟩, .bool false, .bool false, .bool false, .int .i64 0, .int .i64 0, .int .i64 0, .int .i64 0]] V104) := Lib.hid (S103.out.gr hv105)
        clear S103
        clear hv105
        refine ⟨rfl, hK _ _ ?_⟩
        clear hK
        go_upto_region 9 with fail
        refine wpG_region_k (fun K hK => ?_)
        refine @wpG_p _ _ _ _ _ (some 51) (.pointer (some ⟨g12, 1, none⟩)) _ _ rfl (by rfl) (fun W => by go_simp) ?_
        simp only [n1, n3, n4]
        refine @wpG_r _ _ _ _ _ (some 52) (.bool m60) _ _ rfl (by rfl) (fun W hg => by have c := (S106.out.gr hg).cell 1 rfl 1 rfl; go_simp) ?_
        simp only [n1, n3, n4]
        refine @wpG_p _ _ _ _ _ (some 53) (.bool (!m60)) _ _ rfl (by rfl) (fun W => by first | (go_simp; done) | (cases m60 <;> rfl)) ?_
        simp only [n1, n3, n4]
        refine wpG_done (fun V107 hv108 => ?_)
        have S109 : Hid (St w noB [blk g97 35 [.string (bstr x28), .bool (Ma.kS x38), .bool (Ma.kL x38), .bool (Ma.kF x38), .int .i64 v57, .int .i64 0, .int .i64 0, .int .i64 0], blk g12 73 [.string (bstr x59), .bool m60], blk g44 75 [.string (bstr (Ma.kN x38)), .bool (Ma.kS x38), .bool (Ma.kL x38), .bool (Ma.kF x38)], blk g4 35 [.string ⟨#[]⟩, .bool false, .bool false, .bool false, .int .i64 0, .int .i64 0, .int .i64 0, .int .i64 0]] V107) := Lib.hid (S106.out.gr hv108)
        clear S106
        clear hv108
        refine ⟨rfl, hK _ _ ?_⟩
        clear hK
        cases m60 with
        | true =>
          have f110 := Lib.hid (Hm60.out.symm)
          go_upto_region 11 with fail
          refine wpG_region_k (fun K hK => ?_)
          refine @wpG_p _ _ _ _ _ (some 56) (.func (.func 51) #[.pointer (some ⟨g12, 0, none⟩)] #[]) _ _ rfl (by rfl) (fun _ => rfl) ?_
          simp only [n1, n3, n4]
          refine wpG_call (some 57) 55 #[.func (.func 51) #[.pointer (some ⟨g12, 0, none⟩)] #[]] rfl (by rfl) (fun W => by go_simp) (fun W111 hg112 => ?_)
          obtain ⟨fp_, hA_, hfp_, back_⟩ := St.lend (L := [blk g12 73 [.string (bstr x59), .bool true]]) (M := [blk g97 35 [.string (bstr x28), .bool (Ma.kS x38), .bool (Ma.kL x38), .bool (Ma.kF x38), .int .i64 v57, .int .i64 0, .int .i64 0, .int .i64 0], blk g44 75 [.string (bstr (Ma.kN x38)), .bool (Ma.kS x38), .bool (Ma.kL x38), .bool (Ma.kF x38)], blk g4 35 [.string ⟨#[]⟩, .bool false, .bool false, .bool false, .int .i64 0, .int .i64 0, .int .i64 0, .int .i64 0]]) ((S109.out.gr hg112).front 1 rfl)
          refine (emit_any x59 true g12 fp_ W111 (by omega) (HE.out.st (S109.out.gr hg112) noGlob) (HE.out.fp hfp_ noGlob) hA_).mono ?_
          rintro e w113 ⟨rfl, hS_⟩
          refine ⟨_, rfl, ?_⟩
          have hT_ := back_ hS_
          obtain ⟨v114, hq_⟩ : ∃ q_, q_ = (Ma.emitR x59).1 := ⟨_, rfl⟩
          (try rw [← hq_] at hT_); (try rw [← hq_])
          have Hv114 := Lib.hid hq_
          clear hq_
          obtain ⟨v115, hq_⟩ : ∃ q_, q_ = (Ma.emitR x59).2.1 := ⟨_, rfl⟩
          (try rw [← hq_] at hT_); (try rw [← hq_])
          have Hv115 := Lib.hid hq_
          clear hq_
          obtain ⟨v116, hq_⟩ : ∃ q_, q_ = (Ma.emitR x59).2.2.1 := ⟨_, rfl⟩
          (try rw [← hq_] at hT_); (try rw [← hq_])
          have Hv116 := Lib.hid hq_
          clear hq_
          obtain ⟨m117, hq_⟩ : ∃ q_, q_ = (Ma.emitR x59).2.2.2.1 := ⟨_, rfl⟩
          (try rw [← hq_] at hT_); (try rw [← hq_])
          have Hm117 := Lib.hid hq_
          clear hq_
          obtain ⟨x118, hq_⟩ : ∃ q_, q_ = (Ma.emitR x59).2.2.2.2.1 := ⟨_, rfl⟩
          (try rw [← hq_] at hT_); (try rw [← hq_])
          have Hx118 := Lib.hid hq_
          clear hq_
          obtain ⟨m119, hq_⟩ : ∃ q_, q_ = (Ma.emitR x59).2.2.2.2.2 := ⟨_, rfl⟩
          (try rw [← hq_] at hT_); (try rw [← hq_])
          have Hm119 := Lib.hid hq_
          clear hq_
          simp only [n1, n3, n4]
          have S120 : Hid (St w noB [blk g12 73 [.string (bstr x118), .bool m119], blk g97 35 [.string (bstr x28), .bool (Ma.kS x38), .bool (Ma.kL x38), .bool (Ma.kF x38), .int .i64 v57, .int .i64 0, .int .i64 0, .int .i64 0], blk g44 75 [.string (bstr (Ma.kN x38)), .bool (Ma.kS x38), .bool (Ma.kL x38), .bool (Ma.kF x38)], blk g4 35 [.string ⟨#[]⟩, .bool false, .bool false, .bool false, .int .i64 0, .int .i64 0, .int .i64 0, .int .i64 0]] w113) := Lib.hid hT_
          clear S109
          clear hT_ hS_ hg112 hA_ hfp_ back_
          refine @wpG_p _ _ _ _ _ (some 55) (.tuple #[.agg #[.int .i64 v114, .int .i64 v115, .int .i64 v116], .bool m117]) _ _ rfl (by rfl) (fun _ => rfl) ?_
          simp only [n1, n3, n4]
          refine @wpG_p _ _ _ _ _ (some 58) (.agg #[.int .i64 v114, .int .i64 v115, .int .i64 v116]) _ _ rfl (by rfl) (fun W => by go_simp) ?_
          simp only [n1, n3, n4]
          refine @wpG_p _ _ _ _ _ (some 59) (.bool m117) _ _ rfl (by rfl) (fun W => by go_simp) ?_
          simp only [n1, n3, n4]
          refine wpG_val (some 12) rfl (by rfl) (fun W121 hg122 => ⟨.pointer (some ⟨W121.heap.size, 0, none⟩), W121.alloc (.cells #[.int .i64 0, .int .i64 0, .int .i64 0] 33), by (first | (go_simp; done) | (go_simp <;> rfl)), ?_⟩)
          simp only [n1, n3, n4]
          obtain ⟨g123, U124, hg_, hu_, hS_⟩ := (S120.out.gr hg122).made [.int .i64 0, .int .i64 0, .int .i64 0] 33
          rw [← hu_, ← hg_]
          have S125 : Hid (St w noB [blk g123 33 [.int .i64 0, .int .i64 0, .int .i64 0], blk g12 73 [.string (bstr x118), .bool m119], blk g97 35 [.string (bstr x28), .bool (Ma.kS x38), .bool (Ma.kL x38), .bool (Ma.kF x38), .int .i64 v57, .int .i64 0, .int .i64 0, .int .i64 0], blk g44 75 [.string (bstr (Ma.kN x38)), .bool (Ma.kS x38), .bool (Ma.kL x38), .bool (Ma.kF x38)], blk g4 35 [.string ⟨#[]⟩, .bool false, .bool false, .bool false, .int .i64 0, .int .i64 0, .int .i64 0, .int .i64 0]] U124) := Lib.hid hS_
          clear S120
          clear hg_ hu_ hS_ hg122
          refine wpG_store (none) rfl (by rfl) (fun W126 hg127 => ⟨_, run_store_mid 33 (.tmp 12) (.tmp 58) rfl g123 0 #[.int .i64 v114, .int .i64 v115, .int .i64 v116] rfl rfl ((S125.out.gr hg127).room 0 rfl 0 3 (by simp)) (by kernel_rfl) (by kernel_rfl), ?_⟩)
          simp only [n2]
          obtain ⟨U128, hu_, hS_⟩ := ((S125.out.gr hg127).put 0 rfl 0 (#[.int .i64 v114, .int .i64 v115, .int .i64 v116] : Array Value).toList (ds := [.int .i64 v114, .int .i64 v115, .int .i64 v116]) rfl).named
          rw [← hu_]
          have S129 : Hid (St w noB [blk g123 33 [.int .i64 v114, .int .i64 v115, .int .i64 v116], blk g12 73 [.string (bstr x118), .bool m119], blk g97 35 [.string (bstr x28), .bool (Ma.kS x38), .bool (Ma.kL x38), .bool (Ma.kF x38), .int .i64 v57, .int .i64 0, .int .i64 0, .int .i64 0], blk g44 75 [.string (bstr (Ma.kN x38)), .bool (Ma.kS x38), .bool (Ma.kL x38), .bool (Ma.kF x38)], blk g4 35 [.string ⟨#[]⟩, .bool false, .bool false, .bool false, .int .i64 0, .int .i64 0, .int .i64 0, .int .i64 0]] U128) := Lib.hid hS_
          clear S125
          clear hu_ hS_ hg127
          refine @wpG_p _ _ _ _ _ (some 13) (.bool m117) _ _ rfl (by rfl) (fun _ => rfl) ?_
          simp only [n1, n3, n4]
          refine wpG_done (fun V130 hv131 => ?_)
          have S132 : Hid (St w noB [blk g123 33 [.int .i64 v114, .int .i64 v115, .int .i64 v116], blk g12 73 [.string (bstr x118), .bool m119], blk g97 35 [.string (bstr x28), .bool (Ma.kS x38), .bool (Ma.kL x38), .bool (Ma.kF x38), .int .i64 v57, .int .i64 0, .int .i64 0, .int .i64 0], blk g44 75 [.string (bstr (Ma.kN x38)), .bool (Ma.kS x38), .bool (Ma.kL x38), .bool (Ma.kF x38)], blk g4 35 [.string ⟨#[]⟩, .bool false, .bool false, .bool false, .int .i64 0, .int .i64 0, .int .i64 0, .int .i64 0]] V130) := Lib.hid (S129.out.gr hv131)
          clear S129
          clear hv131
          refine ⟨rfl, hK _ _ ?_⟩
          clear hK
          go_upto_region 12 with fail
          refine wpG_region_k (fun K hK => ?_)
          refine @wpG_p _ _ _ _ _ (some 60) (.bool m117) _ _ rfl (by rfl) (fun _ => rfl) ?_
          simp only [n1, n3, n4]
          refine @wpG_p _ _ _ _ _ (some 61) (.bool (!m117)) _ _ rfl (by rfl) (fun W => by first | (go_simp; done) | (cases m117 <;> rfl)) ?_
          simp only [n1, n3, n4]
          refine @wpG_p _ _ _ _ _ (some 62) (.bool (!m117)) _ _ rfl (by rfl) (fun _ => rfl) ?_
          simp only [n1, n3, n4]
          cases m117 with
          | true =>
            have f133 := Lib.hid (Hm117.out.symm)
            refine @wpG_p _ _ _ _ _ (some 63) (.pointer (some ⟨g12, 1, none⟩)) _ _ rfl (by rfl) (fun W => by go_simp) ?_
            simp only [n1, n3, n4]
            refine @wpG_r _ _ _ _ _ (some 64) (.bool m119) _ _ rfl (by rfl) (fun W hg => by have c := (S132.out.gr hg).cell 1 rfl 1 rfl; go_simp) ?_
            simp only [n1, n3, n4]
            refine @wpG_p _ _ _ _ _ (some 65) (.bool m119) _ _ rfl (by rfl) (fun W => by go_simp) ?_
            simp only [n1, n3, n4]
            refine wpG_done (fun V134 hv135 => ?_)
            have S136 : Hid (St w noB [blk g123 33 [.int .i64 v114, .int .i64 v115, .int .i64 v116], blk g12 73 [.string (bstr x118), .bool m119], blk g97 35 [.string (bstr x28), .bool (Ma.kS x38), .bool (Ma.kL x38), .bool (Ma.kF x38), .int .i64 v57, .int .i64 0, .int .i64 0, .int .i64 0], blk g44 75 [.string (bstr (Ma.kN x38)), .bool (Ma.kS x38), .bool (Ma.kL x38), .bool (Ma.kF x38)], blk g4 35 [.string ⟨#[]⟩, .bool false, .bool false, .bool false, .int .i64 0, .int .i64 0, .int .i64 0, .int .i64 0]] V134) := Lib.hid (S132.out.gr hv135)
            clear S132
            clear hv135
            refine ⟨rfl, hK _ _ ?_⟩
            clear hK
            cases m119 with
            | true =>
              have f137 := Lib.hid (Hm119.out.symm)
              go_upto_region 13 with fail
              refine wpG_region_k (fun K hK => ?_)
              refine @wpG_p _ _ _ _ _ (some 66) (.agg #[.string ⟨#[]⟩, .bool false, .bool false, .bool false, .int .i64 0, .int .i64 0, .int .i64 0, .int .i64 0]) _ _ rfl (by rfl) (fun W => by go_simp) ?_
              simp only [n1, n3, n4]
              refine wpG_store (none) rfl (by rfl) (fun W138 hg139 => ⟨_, run_store_mid 35 (.tmp 2) (.tmp 66) rfl g4 0 #[.string ⟨#[]⟩, .bool false, .bool false, .bool false, .int .i64 0, .int .i64 0, .int .i64 0, .int .i64 0] rfl rfl ((S136.out.gr hg139).room 4 rfl 0 8 (by simp)) (by kernel_rfl) (by kernel_rfl), ?_⟩)
              simp only [n2]
              obtain ⟨U140, hu_, hS_⟩ := ((S136.out.gr hg139).put 4 rfl 0 (#[.string ⟨#[]⟩, .bool false, .bool false, .bool false, .int .i64 0, .int .i64 0, .int .i64 0, .int .i64 0] : Array Value).toList (ds := [.string ⟨#[]⟩, .bool false, .bool false, .bool false, .int .i64 0, .int .i64 0, .int .i64 0, .int .i64 0]) rfl).named
              rw [← hu_]
              have S141 : Hid (St w noB [blk g123 33 [.int .i64 v114, .int .i64 v115, .int .i64 v116], blk g12 73 [.string (bstr x118), .bool true], blk g97 35 [.string (bstr x28), .bool (Ma.kS x38), .bool (Ma.kL x38), .bool (Ma.kF x38), .int .i64 v57, .int .i64 0, .int .i64 0, .int .i64 0], blk g44 75 [.string (bstr (Ma.kN x38)), .bool (Ma.kS x38), .bool (Ma.kL x38), .bool (Ma.kF x38)], blk g4 35 [.string ⟨#[]⟩, .bool false, .bool false, .bool false, .int .i64 0, .int .i64 0, .int .i64 0, .int .i64 0]] U140) := Lib.hid hS_
              clear S136
              clear hu_ hS_ hg139
              refine @wpG_p _ _ _ _ _ (some 3) (.bool false) _ _ rfl (by rfl) (fun _ => rfl) ?_
              simp only [n1, n3, n4]
              refine wpG_done (fun V142 hv143 => ?_)
              have S144 : Hid (St w noB [blk g123 33 [.int .i64 v114, .int .i64 v115, .int .i64 v116], blk g12 73 [.string (bstr x118), .bool true], blk g97 35 [.string (bstr x28), .bool (Ma.kS x38), .bool (Ma.kL x38), .bool (Ma.kF x38), .int .i64 v57, .int .i64 0, .int .i64 0, .int .i64 0], blk g44 75 [.string (bstr (Ma.kN x38)), .bool (Ma.kS x38), .bool (Ma.kL x38), .bool (Ma.kF x38)], blk g4 35 [.string ⟨#[]⟩, .bool false, .bool false, .bool false, .int .i64 0, .int .i64 0, .int .i64 0, .int .i64 0]] V142) := Lib.hid (S141.out.gr hv143)
              clear S141
              clear hv143
              refine ⟨rfl, hK _ _ ?_⟩
              clear hK
              go_wp2_with fail
              (try simp only [Exit.inBlock, Exit.then])
              refine bodyPost_ret (results_cell_tmp rfl _ _ _ g4 0 [.string ⟨#[]⟩, .bool false, .bool false, .bool false, .int .i64 0, .int .i64 0, .int .i64 0, .int .i64 0] _ rfl (S144.out.range 4 rfl 0 8 rfl) Tryd.underlying35 rfl (by kernel_rfl)) rfl ?_
              refine ⟨?_, S144.out.bel⟩
              show Ending.returned (.tuple #[.agg #[.string ⟨#[]⟩, .bool false, .bool false, .bool false, .int .i64 0, .int .i64 0, .int .i64 0, .int .i64 0], .bool false]) = _
              (first | rfl | (obtain rfl := Hx28.out; obtain rfl := Hx29.out; obtain rfl := Hx38.out; obtain rfl := Hx39.out; obtain rfl := Hv57.out; obtain rfl := Hx59.out; obtain rfl := Hv114.out; obtain rfl := Hv115.out; obtain rfl := Hv116.out; obtain rfl := Hx118.out; obtain rfl := Hm30.out; obtain rfl := Hm40.out; have e_f90 := f90.out; have e_f94 := f94.out; have e_f110 := f110.out; have e_f133 := f133.out; have e_f137 := f137.out; have h := Ma.pl_emit_more e_f94 e_f110 e_f133 e_f137; rw [Ma.matz_none h, h]; rfl))
            | false =>
              have f145 := Lib.hid (Hm119.out.symm)
              go_upto_region 14 with fail
              refine wpG_region_k (fun K hK => ?_)
              refine @wpG_tk _ _ _ _ _ (some 67) (.agg #[.int .i64 v114, .int .i64 v115, .int .i64 v116]) _ _ rfl (.load_mid (by rfl) 33 (.tmp 12) rfl g123 0 rfl [.int .i64 v114, .int .i64 v115, .int .i64 v116] _ (fun W hg => (S136.out.gr hg).range 0 rfl 0 3 rfl) Tryd.underlying33 rfl (by kernel_rfl)) ?_
              simp only [n1, n3, n4]
              refine @wpG_p _ _ _ _ _ (some 68) (.pointer (some ⟨g97, 5, none⟩)) _ _ rfl (by rfl) (fun W => by go_simp) ?_
              simp only [n1, n3, n4]
              refine wpG_store (none) rfl (by rfl) (fun W146 hg147 => ⟨_, run_store_mid 33 (.tmp 68) (.tmp 67) rfl g97 5 #[.int .i64 v114, .int .i64 v115, .int .i64 v116] rfl rfl ((S136.out.gr hg147).room 2 rfl 5 3 (by simp)) (by kernel_rfl) (by kernel_rfl), ?_⟩)
              simp only [n2]
              obtain ⟨U148, hu_, hS_⟩ := ((S136.out.gr hg147).put 2 rfl 5 (#[.int .i64 v114, .int .i64 v115, .int .i64 v116] : Array Value).toList (ds := [.string (bstr x28), .bool (Ma.kS x38), .bool (Ma.kL x38), .bool (Ma.kF x38), .int .i64 v57, .int .i64 v114, .int .i64 v115, .int .i64 v116]) rfl).named
              rw [← hu_]
              have S149 : Hid (St w noB [blk g123 33 [.int .i64 v114, .int .i64 v115, .int .i64 v116], blk g12 73 [.string (bstr x118), .bool false], blk g97 35 [.string (bstr x28), .bool (Ma.kS x38), .bool (Ma.kL x38), .bool (Ma.kF x38), .int .i64 v57, .int .i64 v114, .int .i64 v115, .int .i64 v116], blk g44 75 [.string (bstr (Ma.kN x38)), .bool (Ma.kS x38), .bool (Ma.kL x38), .bool (Ma.kF x38)], blk g4 35 [.string ⟨#[]⟩, .bool false, .bool false, .bool false, .int .i64 0, .int .i64 0, .int .i64 0, .int .i64 0]] U148) := Lib.hid hS_
              clear S136
              clear hu_ hS_ hg147
              refine wpG_done (fun V150 hv151 => ?_)
              have S152 : Hid (St w noB [blk g123 33 [.int .i64 v114, .int .i64 v115, .int .i64 v116], blk g12 73 [.string (bstr x118), .bool false], blk g97 35 [.string (bstr x28), .bool (Ma.kS x38), .bool (Ma.kL x38), .bool (Ma.kF x38), .int .i64 v57, .int .i64 v114, .int .i64 v115, .int .i64 v116], blk g44 75 [.string (bstr (Ma.kN x38)), .bool (Ma.kS x38), .bool (Ma.kL x38), .bool (Ma.kF x38)], blk g4 35 [.string ⟨#[]⟩, .bool false, .bool false, .bool false, .int .i64 0, .int .i64 0, .int .i64 0, .int .i64 0]] V150) := Lib.hid (S149.out.gr hv151)
              clear S149
              clear hv151
              refine ⟨rfl, hK _ _ ?_⟩
              clear hK
              go_upto_region 15 with fail
              refine wpG_region_k (fun K hK => ?_)
              refine @wpG_tk _ _ _ _ _ (some 69) (.agg #[.string (bstr x28), .bool (Ma.kS x38), .bool (Ma.kL x38), .bool (Ma.kF x38), .int .i64 v57, .int .i64 v114, .int .i64 v115, .int .i64 v116]) _ _ rfl (.load_mid (by rfl) 35 (.tmp 11) rfl g97 0 rfl [.string (bstr x28), .bool (Ma.kS x38), .bool (Ma.kL x38), .bool (Ma.kF x38), .int .i64 v57, .int .i64 v114, .int .i64 v115, .int .i64 v116] _ (fun W hg => (S152.out.gr hg).range 2 rfl 0 8 rfl) Tryd.underlying35 rfl (by kernel_rfl)) ?_
              simp only [n1, n3, n4]
              refine wpG_store (none) rfl (by rfl) (fun W153 hg154 => ⟨_, run_store_mid 35 (.tmp 2) (.tmp 69) rfl g4 0 #[.string (bstr x28), .bool (Ma.kS x38), .bool (Ma.kL x38), .bool (Ma.kF x38), .int .i64 v57, .int .i64 v114, .int .i64 v115, .int .i64 v116] rfl rfl ((S152.out.gr hg154).room 4 rfl 0 8 (by simp)) (by kernel_rfl) (by kernel_rfl), ?_⟩)
              simp only [n2]
              obtain ⟨U155, hu_, hS_⟩ := ((S152.out.gr hg154).put 4 rfl 0 (#[.string (bstr x28), .bool (Ma.kS x38), .bool (Ma.kL x38), .bool (Ma.kF x38), .int .i64 v57, .int .i64 v114, .int .i64 v115, .int .i64 v116] : Array Value).toList (ds := [.string (bstr x28), .bool (Ma.kS x38), .bool (Ma.kL x38), .bool (Ma.kF x38), .int .i64 v57, .int .i64 v114, .int .i64 v115, .int .i64 v116]) rfl).named
              rw [← hu_]
              have S156 : Hid (St w noB [blk g123 33 [.int .i64 v114, .int .i64 v115, .int .i64 v116], blk g12 73 [.string (bstr x118), .bool false], blk g97 35 [.string (bstr x28), .bool (Ma.kS x38), .bool (Ma.kL x38), .bool (Ma.kF x38), .int .i64 v57, .int .i64 v114, .int .i64 v115, .int .i64 v116], blk g44 75 [.string (bstr (Ma.kN x38)), .bool (Ma.kS x38), .bool (Ma.kL x38), .bool (Ma.kF x38)], blk g4 35 [.string (bstr x28), .bool (Ma.kS x38), .bool (Ma.kL x38), .bool (Ma.kF x38), .int .i64 v57, .int .i64 v114, .int .i64 v115, .int .i64 v116]] U155) := Lib.hid hS_
              clear S152
              clear hu_ hS_ hg154
              refine @wpG_p _ _ _ _ _ (some 3) (.bool true) _ _ rfl (by rfl) (fun _ => rfl) ?_
              simp only [n1, n3, n4]
              refine wpG_done (fun V157 hv158 => ?_)
              have S159 : Hid (St w noB [blk g123 33 [.int .i64 v114, .int .i64 v115, .int .i64 v116], blk g12 73 [.string (bstr x118), .bool false], blk g97 35 [.string (bstr x28), .bool (Ma.kS x38), .bool (Ma.kL x38), .bool (Ma.kF x38), .int .i64 v57, .int .i64 v114, .int .i64 v115, .int .i64 v116], blk g44 75 [.string (bstr (Ma.kN x38)), .bool (Ma.kS x38), .bool (Ma.kL x38), .bool (Ma.kF x38)], blk g4 35 [.string (bstr x28), .bool (Ma.kS x38), .bool (Ma.kL x38), .bool (Ma.kF x38), .int .i64 v57, .int .i64 v114, .int .i64 v115, .int .i64 v116]] V157) := Lib.hid (S156.out.gr hv158)
              clear S156
              clear hv158
              refine ⟨rfl, hK _ _ ?_⟩
              clear hK
              go_wp2_with fail
              (try simp only [Exit.inBlock, Exit.then])
              refine bodyPost_ret (results_cell_tmp rfl _ _ _ g4 0 [.string (bstr x28), .bool (Ma.kS x38), .bool (Ma.kL x38), .bool (Ma.kF x38), .int .i64 v57, .int .i64 v114, .int .i64 v115, .int .i64 v116] _ rfl (S159.out.range 4 rfl 0 8 rfl) Tryd.underlying35 rfl (by kernel_rfl)) rfl ?_
              refine ⟨?_, S159.out.bel⟩
              show Ending.returned (.tuple #[.agg #[.string (bstr x28), .bool (Ma.kS x38), .bool (Ma.kL x38), .bool (Ma.kF x38), .int .i64 v57, .int .i64 v114, .int .i64 v115, .int .i64 v116], .bool true]) = _
              (first | rfl | (obtain rfl := Hx28.out; obtain rfl := Hx29.out; obtain rfl := Hx38.out; obtain rfl := Hx39.out; obtain rfl := Hv57.out; obtain rfl := Hx59.out; obtain rfl := Hv114.out; obtain rfl := Hv115.out; obtain rfl := Hv116.out; obtain rfl := Hx118.out; obtain rfl := Hm30.out; obtain rfl := Hm40.out; have e_f90 := f90.out; have e_f94 := f94.out; have e_f110 := f110.out; have e_f133 := f133.out; have e_f145 := f145.out; obtain ⟨⟨s_, l_, f_⟩, hk_⟩ := Ma.some_of e_f90; have h := Ma.pl_eight f77 hk_ e_f94 e_f110 e_f133 e_f145; rw [Ma.matz_some h, h]; simp only [Ma.kS, Ma.kL, Ma.kF, hk_]; rfl))
          | false =>
            have f160 := Lib.hid (Hm117.out.symm)
            refine @wpG_no _ _ _ _ _ (some 63) _ _ rfl (by rfl) ?_
            simp only [n1, n3, n4]
            refine @wpG_no _ _ _ _ _ (some 64) _ _ rfl (by rfl) ?_
            simp only [n1, n3, n4]
            refine @wpG_p _ _ _ _ _ (some 65) (.bool true) _ _ rfl (by rfl) (fun W => by go_simp) ?_
            simp only [n1, n3, n4]
            refine wpG_done (fun V161 hv162 => ?_)
            have S163 : Hid (St w noB [blk g123 33 [.int .i64 v114, .int .i64 v115, .int .i64 v116], blk g12 73 [.string (bstr x118), .bool m119], blk g97 35 [.string (bstr x28), .bool (Ma.kS x38), .bool (Ma.kL x38), .bool (Ma.kF x38), .int .i64 v57, .int .i64 0, .int .i64 0, .int .i64 0], blk g44 75 [.string (bstr (Ma.kN x38)), .bool (Ma.kS x38), .bool (Ma.kL x38), .bool (Ma.kF x38)], blk g4 35 [.string ⟨#[]⟩, .bool false, .bool false, .bool false, .int .i64 0, .int .i64 0, .int .i64 0, .int .i64 0]] V161) := Lib.hid (S132.out.gr hv162)
            clear S132
            clear hv162
            refine ⟨rfl, hK _ _ ?_⟩
            clear hK
            go_upto_region 13 with fail
            refine wpG_region_k (fun K hK => ?_)
            refine @wpG_p _ _ _ _ _ (some 66) (.agg #[.string ⟨#[]⟩, .bool false, .bool false, .bool false, .int .i64 0, .int .i64 0, .int .i64 0, .int .i64 0]) _ _ rfl (by rfl) (fun W => by go_simp) ?_
            simp only [n1, n3, n4]
            refine wpG_store (none) rfl (by rfl) (fun W164 hg165 => ⟨_, run_store_mid 35 (.tmp 2) (.tmp 66) rfl g4 0 #[.string ⟨#[]⟩, .bool false, .bool false, .bool false, .int .i64 0, .int .i64 0, .int .i64 0, .int .i64 0] rfl rfl ((S163.out.gr hg165).room 4 rfl 0 8 (by simp)) (by kernel_rfl) (by kernel_rfl), ?_⟩)
            simp only [n2]
            obtain ⟨U166, hu_, hS_⟩ := ((S163.out.gr hg165).put 4 rfl 0 (#[.string ⟨#[]⟩, .bool false, .bool false, .bool false, .int .i64 0, .int .i64 0, .int .i64 0, .int .i64 0] : Array Value).toList (ds := [.string ⟨#[]⟩, .bool false, .bool false, .bool false, .int .i64 0, .int .i64 0, .int .i64 0, .int .i64 0]) rfl).named
            rw [← hu_]
            have S167 : Hid (St w noB [blk g123 33 [.int .i64 v114, .int .i64 v115, .int .i64 v116], blk g12 73 [.string (bstr x118), .bool m119], blk g97 35 [.string (bstr x28), .bool (Ma.kS x38), .bool (Ma.kL x38), .bool (Ma.kF x38), .int .i64 v57, .int .i64 0, .int .i64 0, .int .i64 0], blk g44 75 [.string (bstr (Ma.kN x38)), .bool (Ma.kS x38), .bool (Ma.kL x38), .bool (Ma.kF x38)], blk g4 35 [.string ⟨#[]⟩, .bool false, .bool false, .bool false, .int .i64 0, .int .i64 0, .int .i64 0, .int .i64 0]] U166) := Lib.hid hS_
            clear S163
            clear hu_ hS_ hg165
            refine @wpG_p _ _ _ _ _ (some 3) (.bool false) _ _ rfl (by rfl) (fun _ => rfl) ?_
            simp only [n1, n3, n4]
            refine wpG_done (fun V168 hv169 => ?_)
            have S170 : Hid (St w noB [blk g123 33 [.int .i64 v114, .int .i64 v115, .int .i64 v116], blk g12 73 [.string (bstr x118), .bool m119], blk g97 35 [.string (bstr x28), .bool (Ma.kS x38), .bool (Ma.kL x38), .bool (Ma.kF x38), .int .i64 v57, .int .i64 0, .int .i64 0, .int .i64 0], blk g44 75 [.string (bstr (Ma.kN x38)), .bool (Ma.kS x38), .bool (Ma.kL x38), .bool (Ma.kF x38)], blk g4 35 [.string ⟨#[]⟩, .bool false, .bool false, .bool false, .int .i64 0, .int .i64 0, .int .i64 0, .int .i64 0]] V168) := Lib.hid (S167.out.gr hv169)
            clear S167
            clear hv169
            refine ⟨rfl, hK _ _ ?_⟩
            clear hK
            go_wp2_with fail
            (try simp only [Exit.inBlock, Exit.then])
            refine bodyPost_ret (results_cell_tmp rfl _ _ _ g4 0 [.string ⟨#[]⟩, .bool false, .bool false, .bool false, .int .i64 0, .int .i64 0, .int .i64 0, .int .i64 0] _ rfl (S170.out.range 4 rfl 0 8 rfl) Tryd.underlying35 rfl (by kernel_rfl)) rfl ?_
            refine ⟨?_, S170.out.bel⟩
            show Ending.returned (.tuple #[.agg #[.string ⟨#[]⟩, .bool false, .bool false, .bool false, .int .i64 0, .int .i64 0, .int .i64 0, .int .i64 0], .bool false]) = _
            (first | rfl | (obtain rfl := Hx28.out; obtain rfl := Hx29.out; obtain rfl := Hx38.out; obtain rfl := Hx39.out; obtain rfl := Hv57.out; obtain rfl := Hx59.out; obtain rfl := Hv114.out; obtain rfl := Hv115.out; obtain rfl := Hv116.out; obtain rfl := Hx118.out; obtain rfl := Hm30.out; obtain rfl := Hm40.out; obtain rfl := Hm119.out; have e_f90 := f90.out; have e_f94 := f94.out; have e_f110 := f110.out; have e_f160 := f160.out; have h := Ma.pl_emit_no e_f94 e_f110 e_f160; rw [Ma.matz_none h, h]; rfl))
        | false =>
          have f171 := Lib.hid (Hm60.out.symm)
          go_upto_region 10 with fail
          refine wpG_region_k (fun K hK => ?_)
          refine @wpG_tk _ _ _ _ _ (some 54) (.agg #[.string (bstr x28), .bool (Ma.kS x38), .bool (Ma.kL x38), .bool (Ma.kF x38), .int .i64 v57, .int .i64 0, .int .i64 0, .int .i64 0]) _ _ rfl (.load_mid (by rfl) 35 (.tmp 11) rfl g97 0 rfl [.string (bstr x28), .bool (Ma.kS x38), .bool (Ma.kL x38), .bool (Ma.kF x38), .int .i64 v57, .int .i64 0, .int .i64 0, .int .i64 0] _ (fun W hg => (S109.out.gr hg).range 0 rfl 0 8 rfl) Tryd.underlying35 rfl (by kernel_rfl)) ?_
          simp only [n1, n3, n4]
          refine wpG_store (none) rfl (by rfl) (fun W172 hg173 => ⟨_, run_store_mid 35 (.tmp 2) (.tmp 54) rfl g4 0 #[.string (bstr x28), .bool (Ma.kS x38), .bool (Ma.kL x38), .bool (Ma.kF x38), .int .i64 v57, .int .i64 0, .int .i64 0, .int .i64 0] rfl rfl ((S109.out.gr hg173).room 3 rfl 0 8 (by simp)) (by kernel_rfl) (by kernel_rfl), ?_⟩)
          simp only [n2]
          obtain ⟨U174, hu_, hS_⟩ := ((S109.out.gr hg173).put 3 rfl 0 (#[.string (bstr x28), .bool (Ma.kS x38), .bool (Ma.kL x38), .bool (Ma.kF x38), .int .i64 v57, .int .i64 0, .int .i64 0, .int .i64 0] : Array Value).toList (ds := [.string (bstr x28), .bool (Ma.kS x38), .bool (Ma.kL x38), .bool (Ma.kF x38), .int .i64 v57, .int .i64 0, .int .i64 0, .int .i64 0]) rfl).named
          rw [← hu_]
          have S175 : Hid (St w noB [blk g97 35 [.string (bstr x28), .bool (Ma.kS x38), .bool (Ma.kL x38), .bool (Ma.kF x38), .int .i64 v57, .int .i64 0, .int .i64 0, .int .i64 0], blk g12 73 [.string (bstr x59), .bool false], blk g44 75 [.string (bstr (Ma.kN x38)), .bool (Ma.kS x38), .bool (Ma.kL x38), .bool (Ma.kF x38)], blk g4 35 [.string (bstr x28), .bool (Ma.kS x38), .bool (Ma.kL x38), .bool (Ma.kF x38), .int .i64 v57, .int .i64 0, .int .i64 0, .int .i64 0]] U174) := Lib.hid hS_
          clear S109
          clear hu_ hS_ hg173
          refine @wpG_p _ _ _ _ _ (some 3) (.bool true) _ _ rfl (by rfl) (fun _ => rfl) ?_
          simp only [n1, n3, n4]
          refine wpG_done (fun V176 hv177 => ?_)
          have S178 : Hid (St w noB [blk g97 35 [.string (bstr x28), .bool (Ma.kS x38), .bool (Ma.kL x38), .bool (Ma.kF x38), .int .i64 v57, .int .i64 0, .int .i64 0, .int .i64 0], blk g12 73 [.string (bstr x59), .bool false], blk g44 75 [.string (bstr (Ma.kN x38)), .bool (Ma.kS x38), .bool (Ma.kL x38), .bool (Ma.kF x38)], blk g4 35 [.string (bstr x28), .bool (Ma.kS x38), .bool (Ma.kL x38), .bool (Ma.kF x38), .int .i64 v57, .int .i64 0, .int .i64 0, .int .i64 0]] V176) := Lib.hid (S175.out.gr hv177)
          clear S175
          clear hv177
          refine ⟨rfl, hK _ _ ?_⟩
          clear hK
          go_wp2_with fail
          (try simp only [Exit.inBlock, Exit.then])
          refine bodyPost_ret (results_cell_tmp rfl _ _ _ g4 0 [.string (bstr x28), .bool (Ma.kS x38), .bool (Ma.kL x38), .bool (Ma.kF x38), .int .i64 v57, .int .i64 0, .int .i64 0, .int .i64 0] _ rfl (S178.out.range 3 rfl 0 8 rfl) Tryd.underlying35 rfl (by kernel_rfl)) rfl ?_
          refine ⟨?_, S178.out.bel⟩
          show Ending.returned (.tuple #[.agg #[.string (bstr x28), .bool (Ma.kS x38), .bool (Ma.kL x38), .bool (Ma.kF x38), .int .i64 v57, .int .i64 0, .int .i64 0, .int .i64 0], .bool true]) = _
          (first | rfl | (obtain rfl := Hx28.out; obtain rfl := Hx29.out; obtain rfl := Hx38.out; obtain rfl := Hx39.out; obtain rfl := Hv57.out; obtain rfl := Hx59.out; obtain rfl := Hm30.out; obtain rfl := Hm40.out; have e_f90 := f90.out; have e_f94 := f94.out; have e_f171 := f171.out; obtain ⟨⟨s_, l_, f_⟩, hk_⟩ := Ma.some_of e_f90; have h := Ma.pl_four f77 hk_ e_f94 e_f171; rw [Ma.matz_some h, h]; simp only [Ma.kS, Ma.kL, Ma.kF, hk_]; rfl))
      | false =>
        have f179 := Lib.hid (Hm58.out.symm)
        go_upto_region 7 with fail
        refine wpG_region_k (fun K hK => ?_)
        refine @wpG_p _ _ _ _ _ (some 40) (.agg #[.string ⟨#[]⟩, .bool false, .bool false, .bool false, .int .i64 0, .int .i64 0, .int .i64 0, .int .i64 0]) _ _ rfl (by rfl) (fun W => by go_simp) ?_
        simp only [n1, n3, n4]
        refine wpG_store (none) rfl (by rfl) (fun W180 hg181 => ⟨_, run_store_mid 35 (.tmp 2) (.tmp 40) rfl g4 0 #[.string ⟨#[]⟩, .bool false, .bool false, .bool false, .int .i64 0, .int .i64 0, .int .i64 0, .int .i64 0] rfl rfl ((S93.out.gr hg181).room 2 rfl 0 8 (by simp)) (by kernel_rfl) (by kernel_rfl), ?_⟩)
        simp only [n2]
        obtain ⟨U182, hu_, hS_⟩ := ((S93.out.gr hg181).put 2 rfl 0 (#[.string ⟨#[]⟩, .bool false, .bool false, .bool false, .int .i64 0, .int .i64 0, .int .i64 0, .int .i64 0] : Array Value).toList (ds := [.string ⟨#[]⟩, .bool false, .bool false, .bool false, .int .i64 0, .int .i64 0, .int .i64 0, .int .i64 0]) rfl).named
        rw [← hu_]
        have S183 : Hid (St w noB [blk g12 73 [.string (bstr x59), .bool m60], blk g44 75 [.string (bstr (Ma.kN x38)), .bool (Ma.kS x38), .bool (Ma.kL x38), .bool (Ma.kF x38)], blk g4 35 [.string ⟨#[]⟩, .bool false, .bool false, .bool false, .int .i64 0, .int .i64 0, .int .i64 0, .int .i64 0]] U182) := Lib.hid hS_
        clear S93
        clear hu_ hS_ hg181
        refine @wpG_p _ _ _ _ _ (some 3) (.bool false) _ _ rfl (by rfl) (fun _ => rfl) ?_
        simp only [n1, n3, n4]
        refine wpG_done (fun V184 hv185 => ?_)
        have S186 : Hid (St w noB [blk g12 73 [.string (bstr x59), .bool m60], blk g44 75 [.string (bstr (Ma.kN x38)), .bool (Ma.kS x38), .bool (Ma.kL x38), .bool (Ma.kF x38)], blk g4 35 [.string ⟨#[]⟩, .bool false, .bool false, .bool false, .int .i64 0, .int .i64 0, .int .i64 0, .int .i64 0]] V184) := Lib.hid (S183.out.gr hv185)
        clear S183
        clear hv185
        refine ⟨rfl, hK _ _ ?_⟩
        clear hK
        go_wp2_with fail
        (try simp only [Exit.inBlock, Exit.then])
        refine bodyPost_ret (results_cell_tmp rfl _ _ _ g4 0 [.string ⟨#[]⟩, .bool false, .bool false, .bool false, .int .i64 0, .int .i64 0, .int .i64 0, .int .i64 0] _ rfl (S186.out.range 2 rfl 0 8 rfl) Tryd.underlying35 rfl (by kernel_rfl)) rfl ?_
        refine ⟨?_, S186.out.bel⟩
        show Ending.returned (.tuple #[.agg #[.string ⟨#[]⟩, .bool false, .bool false, .bool false, .int .i64 0, .int .i64 0, .int .i64 0, .int .i64 0], .bool false]) = _
        (first | rfl | (obtain rfl := Hx28.out; obtain rfl := Hx29.out; obtain rfl := Hx38.out; obtain rfl := Hx39.out; obtain rfl := Hv57.out; obtain rfl := Hx59.out; obtain rfl := Hm30.out; obtain rfl := Hm40.out; obtain rfl := Hm60.out; have e_f90 := f90.out; have e_f179 := f179.out; have h := Ma.pl_2 e_f179; rw [Ma.matz_none h, h]; rfl))

end Go.Proofs.YtpjjddjoegnipaaDoor
