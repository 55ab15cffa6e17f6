/-
  MaterialParsesAsSpecified: the walk.
-/
import Derived.Test.YtpjjddjoegnipaaDoorMai
import Derived.Handy
namespace Go.Proofs.YtpjjddjoegnipaaDoor
open Go Go.RowKit
set_option linter.unusedVariables false
set_option linter.unusedSimpArgs false
set_option maxRecDepth 1000000 in
set_option maxHeartbeats 4000000 in
theorem law3 (x : List UInt8) (w : World) (hE : Ev w) :
    Calls Tryd.prog 5 #[.string (bstr x)] w fun e w' => e = .returned (.bool true) ∧ Below w.heap.size w w' := by
  have HE := Lib.hid hE
  have HK := Lib.hid hE.k
  clear hE
  have S1 : Hid (St w noB [] w) := Lib.hid (St.start w)
  go_enter Tryd.func5, Tryd.ntmps5
  go_upto_region 0 with fail
  refine wpG_region_k (fun K hK => ?_)
  refine @wpG_p _ _ _ _ _ (some 2) (.bool false) _ _ rfl (by rfl) (fun _ => rfl) ?_
  simp only [n1, n3, n4]
  refine wpG_done (fun V2 hv3 => ?_)
  have S4 : Hid (St w noB [] V2) := Lib.hid (S1.out.gr hv3)
  clear S1
  clear hv3
  refine ⟨rfl, hK _ _ ?_⟩
  clear hK
  go_upto_region 1 with fail
  refine wpG_region_k (fun K hK => ?_)
  refine @wpG_tk _ _ _ _ _ (some 9) (.bool true) _ _ rfl (.call (f := 9) (args := #[]) (by rfl) (fun W => by go_simp) (fun W hg => sanity_any W (HE.out.st (S4.out.gr hg) noGlob))) ?_
  simp only [n1, n3, n4]
  refine @wpG_p _ _ _ _ _ (some 3) (.bool true) _ _ rfl (by rfl) (fun _ => rfl) ?_
  simp only [n1, n3, n4]
  refine wpG_done (fun V5 hv6 => ?_)
  have S7 : Hid (St w noB [] V5) := Lib.hid (S4.out.gr hv6)
  clear S4
  clear hv6
  refine ⟨rfl, hK _ _ ?_⟩
  clear hK
  go_upto_region 2 with fail
  refine wpG_region_k (fun K hK => ?_)
  refine @wpG_p _ _ _ _ _ (some 10) (.string (bstr x)) _ _ rfl (by rfl) (fun _ => rfl) ?_
  simp only [n1, n3, n4]
  refine @wpG_p _ _ _ _ _ (some 11) (.int .i64 (x.length : Int)) _ _ rfl (by rfl) (fun W => op_str_len W x rfl rfl Tryd.underlying9) ?_
  simp only [n1, n3, n4]
  refine @wpG_p _ _ _ _ _ (some 12) (.bool (decide ((x.length : Int) > 2000))) _ _ rfl (by rfl) (fun W => op_int_gtr W (x.length : Int) 2000 rfl rfl rfl Tryd.underlying3) ?_
  simp only [n1, n3, n4]
  refine wpG_done (fun V8 hv9 => ?_)
  have S10 : Hid (St w noB [] V8) := Lib.hid (S7.out.gr hv9)
  clear S7
  clear hv9
  refine ⟨rfl, hK _ _ ?_⟩
  clear hK
  obtain ⟨c11, hc11⟩ : ∃ q_, q_ = (decide ((x.length : Int) > 2000)) := ⟨_, rfl⟩
  rw [← hc11]
  have Hc11 := Lib.hid hc11
  clear hc11
  cases c11 with
  | true =>
    have f12 := of_decide_eq_true Hc11.out.symm
    go_upto_region 3 with fail
    refine wpG_region_k (fun K hK => ?_)
    refine @wpG_p _ _ _ _ _ (some 13) (.bool true) _ _ rfl (by rfl) (fun _ => rfl) ?_
    simp only [n1, n3, n4]
    refine @wpG_p _ _ _ _ _ (some 2) (.bool true) _ _ rfl (by rfl) (fun _ => rfl) ?_
    simp only [n1, n3, n4]
    refine wpG_done (fun V13 hv14 => ?_)
    have S15 : Hid (St w noB [] V13) := Lib.hid (S10.out.gr hv14)
    clear S10
    clear hv14
    refine ⟨rfl, hK _ _ ?_⟩
    clear hK
    go_wp2_with fail
    go_ret
    refine ⟨?_, S15.out.bel⟩
    show Ending.returned (.bool true) = _
    (first | rfl | (rfl))
  | false =>
    have f16 := of_decide_eq_false Hc11.out.symm
    go_upto_region 4 with fail
    refine wpG_region_k (fun K hK => ?_)
    refine @wpG_p _ _ _ _ _ (some 15) (.string (bstr x)) _ _ rfl (by rfl) (fun _ => rfl) ?_
    simp only [n1, n3, n4]
    refine wpG_call (some 16) 27 #[.string (bstr x)] rfl (by rfl) (fun W => by go_simp) (fun W20 hg21 => ?_)
    refine (parse_any x W20 (by omega) (HE.out.st (S10.out.gr hg21) noGlob)).mono ?_
    rintro e w22 ⟨pA17, pn18, pc19, rfl, hS_⟩
    refine ⟨_, rfl, ?_⟩
    have hT_ := (S10.out.gr hg21).got hS_
    simp only [n1, n3, n4]
    have S23 : Hid (St w noB [own (.slice pA17 pn18 pc19) 35 8 pn18 (mcs (Ma.parse x).1)] w22) := Lib.hid hT_
    clear S10
    clear hT_ hS_ hg21
    refine @wpG_p _ _ _ _ _ (some 14) (.tuple #[.slice pA17 pn18 pc19, .int .i64 ((Ma.parse x).2.1), .int .i64 ((Ma.parse x).2.2)]) _ _ rfl (by rfl) (fun _ => rfl) ?_
    simp only [n1, n3, n4]
    refine @wpG_p _ _ _ _ _ (some 17) (.slice pA17 pn18 pc19) _ _ rfl (by rfl) (fun W => by go_simp) ?_
    simp only [n1, n3, n4]
    refine @wpG_p _ _ _ _ _ (some 18) (.int .i64 ((Ma.parse x).2.1)) _ _ rfl (by rfl) (fun W => by go_simp) ?_
    simp only [n1, n3, n4]
    refine @wpG_p _ _ _ _ _ (some 19) (.int .i64 ((Ma.parse x).2.2)) _ _ rfl (by rfl) (fun W => by go_simp) ?_
    simp only [n1, n3, n4]
    refine @wpG_p _ _ _ _ _ (some 4) (.slice pA17 pn18 pc19) _ _ rfl (by rfl) (fun _ => rfl) ?_
    simp only [n1, n3, n4]
    refine @wpG_p _ _ _ _ _ (some 5) (.int .i64 ((Ma.parse x).2.1)) _ _ rfl (by rfl) (fun _ => rfl) ?_
    simp only [n1, n3, n4]
    refine @wpG_p _ _ _ _ _ (some 6) (.int .i64 ((Ma.parse x).2.2)) _ _ rfl (by rfl) (fun _ => rfl) ?_
    simp only [n1, n3, n4]
    refine wpG_done (fun V24 hv25 => ?_)
    have S26 : Hid (St w noB [own (.slice pA17 pn18 pc19) 35 8 pn18 (mcs (Ma.parse x).1)] V24) := Lib.hid (S23.out.gr hv25)
    clear S23
    clear hv25
    refine ⟨rfl, hK _ _ ?_⟩
    clear hK
    go_upto_region 5 with fail
    refine wpG_region_k (fun K hK => ?_)
    refine @wpG_p _ _ _ _ _ (some 20) (.string (bstr x)) _ _ rfl (by rfl) (fun _ => rfl) ?_
    simp only [n1, n3, n4]
    refine wpG_call (some 21) 28 #[.string (bstr x)] rfl (by rfl) (fun W => by go_simp) (fun W30 hg31 => ?_)
    refine (rparse_any x W30 (by omega)).mono ?_
    rintro e w32 ⟨pA27, pn28, pc29, rfl, hS_⟩
    refine ⟨_, rfl, ?_⟩
    have hT_ := (S26.out.gr hg31).got hS_
    simp only [n1, n3, n4]
    have S33 : Hid (St w noB [own (.slice pA27 pn28 pc29) 35 8 pn28 (mcs (Ma.parse x).1), own (.slice pA17 pn18 pc19) 35 8 pn18 (mcs (Ma.parse x).1)] w32) := Lib.hid hT_
    clear S26
    clear hT_ hS_ hg31
    refine wpG_val (some 7) rfl (by rfl) (fun W34 hg35 => ⟨.pointer (some ⟨W34.heap.size, 0, none⟩), W34.alloc (.cells #[.slice none 0 0, .int .i64 0, .int .i64 0] 45), by (first | (go_simp; done) | (go_simp <;> rfl)), ?_⟩)
    simp only [n1, n3, n4]
    obtain ⟨g36, U37, hg_, hu_, hS_⟩ := (S33.out.gr hg35).made [.slice none 0 0, .int .i64 0, .int .i64 0] 45
    rw [← hu_, ← hg_]
    have S38 : Hid (St w noB [blk g36 45 [.slice none 0 0, .int .i64 0, .int .i64 0], own (.slice pA27 pn28 pc29) 35 8 pn28 (mcs (Ma.parse x).1), own (.slice pA17 pn18 pc19) 35 8 pn18 (mcs (Ma.parse x).1)] U37) := Lib.hid hS_
    clear S33
    clear hg_ hu_ hS_ hg35
    refine wpG_store (none) rfl (by rfl) (fun W39 hg40 => ⟨_, run_store_mid 45 (.tmp 7) (.tmp 21) rfl g36 0 #[.slice pA27 pn28 pc29, .int .i64 ((Ma.parse x).2.1), .int .i64 ((Ma.parse x).2.2)] rfl rfl ((S38.out.gr hg40).room 0 rfl 0 3 (by simp)) (by kernel_rfl) (by kernel_rfl), ?_⟩)
    simp only [n2]
    obtain ⟨U41, hu_, hS_⟩ := ((S38.out.gr hg40).put 0 rfl 0 (#[.slice pA27 pn28 pc29, .int .i64 ((Ma.parse x).2.1), .int .i64 ((Ma.parse x).2.2)] : Array Value).toList (ds := [.slice pA27 pn28 pc29, .int .i64 ((Ma.parse x).2.1), .int .i64 ((Ma.parse x).2.2)]) rfl).named
    rw [← hu_]
    have S42 : Hid (St w noB [blk g36 45 [.slice pA27 pn28 pc29, .int .i64 ((Ma.parse x).2.1), .int .i64 ((Ma.parse x).2.2)], own (.slice pA27 pn28 pc29) 35 8 pn28 (mcs (Ma.parse x).1), own (.slice pA17 pn18 pc19) 35 8 pn18 (mcs (Ma.parse x).1)] U41) := Lib.hid hS_
    clear S38
    clear hu_ hS_ hg40
    refine wpG_done (fun V43 hv44 => ?_)
    have S45 : Hid (St w noB [blk g36 45 [.slice pA27 pn28 pc29, .int .i64 ((Ma.parse x).2.1), .int .i64 ((Ma.parse x).2.2)], own (.slice pA27 pn28 pc29) 35 8 pn28 (mcs (Ma.parse x).1), own (.slice pA17 pn18 pc19) 35 8 pn18 (mcs (Ma.parse x).1)] V43) := Lib.hid (S42.out.gr hv44)
    clear S42
    clear hv44
    refine ⟨rfl, hK _ _ ?_⟩
    clear hK
    go_upto_region 6 with fail
    refine wpG_region_k (fun K hK => ?_)
    refine @wpG_p _ _ _ _ _ (some 22) (.slice pA17 pn18 pc19) _ _ rfl (by rfl) (fun _ => rfl) ?_
    simp only [n1, n3, n4]
    refine @wpG_p _ _ _ _ _ (some 23) (.pointer (some ⟨g36, 0, none⟩)) _ _ rfl (by rfl) (fun W => by go_simp) ?_
    simp only [n1, n3, n4]
    refine @wpG_r _ _ _ _ _ (some 24) (.slice pA27 pn28 pc29) _ _ rfl (by rfl) (fun W hg => by have c := (S45.out.gr hg).cell 0 rfl 0 rfl; go_simp) ?_
    simp only [n1, n3, n4]
    refine @wpG_tk _ _ _ _ _ (some 25) (.bool true) _ _ rfl (.call (f := 16) (args := #[.slice pA17 pn18 pc19, .slice pA27 pn28 pc29]) (by rfl) (fun W => by go_simp) (fun W hg => ((rsame_any _ _ _ ((Ma.parse x).1) _ _ _ ((Ma.parse x).1) W (Tbl.ofOwn ((S45.out.gr hg).ownr 2 rfl)) (Tbl.ofOwn ((S45.out.gr hg).ownr 1 rfl))).mono (fun e w' h => ⟨h.1.trans (by rw [Ma.same_self]), h.2⟩)))) ?_
    simp only [n1, n3, n4]
    refine @wpG_p _ _ _ _ _ (some 8) (.bool true) _ _ rfl (by rfl) (fun _ => rfl) ?_
    simp only [n1, n3, n4]
    refine wpG_done (fun V46 hv47 => ?_)
    have S48 : Hid (St w noB [blk g36 45 [.slice pA27 pn28 pc29, .int .i64 ((Ma.parse x).2.1), .int .i64 ((Ma.parse x).2.2)], own (.slice pA27 pn28 pc29) 35 8 pn28 (mcs (Ma.parse x).1), own (.slice pA17 pn18 pc19) 35 8 pn18 (mcs (Ma.parse x).1)] V46) := Lib.hid (S45.out.gr hv47)
    clear S45
    clear hv47
    refine ⟨rfl, hK _ _ ?_⟩
    clear hK
    go_upto_region 7 with fail
    refine wpG_region_k (fun K hK => ?_)
    refine @wpG_p _ _ _ _ _ (some 26) (.bool true) _ _ rfl (by rfl) (fun _ => rfl) ?_
    simp only [n1, n3, n4]
    refine @wpG_p _ _ _ _ _ (some 27) (.bool true) _ _ rfl (by rfl) (fun _ => rfl) ?_
    simp only [n1, n3, n4]
    refine @wpG_p _ _ _ _ _ (some 28) (.bool true) _ _ rfl (by rfl) (fun _ => rfl) ?_
    simp only [n1, n3, n4]
    refine @wpG_p _ _ _ _ _ (some 29) (.bool true) _ _ rfl (by rfl) (fun W => by go_simp) ?_
    simp only [n1, n3, n4]
    refine @wpG_p _ _ _ _ _ (some 30) (.bool true) _ _ rfl (by rfl) (fun _ => rfl) ?_
    simp only [n1, n3, n4]
    refine @wpG_p _ _ _ _ _ (some 31) (.int .i64 ((Ma.parse x).2.1)) _ _ rfl (by rfl) (fun _ => rfl) ?_
    simp only [n1, n3, n4]
    refine @wpG_p _ _ _ _ _ (some 32) (.pointer (some ⟨g36, 1, none⟩)) _ _ rfl (by rfl) (fun W => by go_simp) ?_
    simp only [n1, n3, n4]
    refine @wpG_r _ _ _ _ _ (some 33) (.int .i64 ((Ma.parse x).2.1)) _ _ rfl (by rfl) (fun W hg => by have c := (S48.out.gr hg).cell 0 rfl 1 rfl; go_simp) ?_
    simp only [n1, n3, n4]
    refine @wpG_p _ _ _ _ _ (some 34) (.bool true) _ _ rfl (by rfl) (fun W => by go_simp) ?_
    simp only [n1, n3, n4]
    refine @wpG_p _ _ _ _ _ (some 35) (.bool true) _ _ rfl (by rfl) (fun W => by go_simp) ?_
    simp only [n1, n3, n4]
    refine @wpG_p _ _ _ _ _ (some 36) (.bool true) _ _ rfl (by rfl) (fun _ => rfl) ?_
    simp only [n1, n3, n4]
    refine @wpG_p _ _ _ _ _ (some 37) (.int .i64 ((Ma.parse x).2.2)) _ _ rfl (by rfl) (fun _ => rfl) ?_
    simp only [n1, n3, n4]
    refine @wpG_p _ _ _ _ _ (some 38) (.pointer (some ⟨g36, 2, none⟩)) _ _ rfl (by rfl) (fun W => by go_simp) ?_
    simp only [n1, n3, n4]
    refine @wpG_r _ _ _ _ _ (some 39) (.int .i64 ((Ma.parse x).2.2)) _ _ rfl (by rfl) (fun W hg => by have c := (S48.out.gr hg).cell 0 rfl 2 rfl; go_simp) ?_
    simp only [n1, n3, n4]
    refine @wpG_p _ _ _ _ _ (some 40) (.bool true) _ _ rfl (by rfl) (fun W => by go_simp) ?_
    simp only [n1, n3, n4]
    refine @wpG_p _ _ _ _ _ (some 41) (.bool true) _ _ rfl (by rfl) (fun W => by go_simp) ?_
    simp only [n1, n3, n4]
    refine @wpG_p _ _ _ _ _ (some 2) (.bool true) _ _ rfl (by rfl) (fun _ => rfl) ?_
    simp only [n1, n3, n4]
    refine wpG_done (fun V49 hv50 => ?_)
    have S51 : Hid (St w noB [blk g36 45 [.slice pA27 pn28 pc29, .int .i64 ((Ma.parse x).2.1), .int .i64 ((Ma.parse x).2.2)], own (.slice pA27 pn28 pc29) 35 8 pn28 (mcs (Ma.parse x).1), own (.slice pA17 pn18 pc19) 35 8 pn18 (mcs (Ma.parse x).1)] V49) := Lib.hid (S48.out.gr hv50)
    clear S48
    clear hv50
    refine ⟨rfl, hK _ _ ?_⟩
    clear hK
    go_wp2_with fail
    go_ret
    refine ⟨?_, S51.out.bel⟩
    show Ending.returned (.bool true) = _
    (first | rfl | (rfl))

end Go.Proofs.YtpjjddjoegnipaaDoor
