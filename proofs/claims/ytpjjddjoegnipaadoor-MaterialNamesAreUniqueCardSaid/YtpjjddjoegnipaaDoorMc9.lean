/-
  Contracts: fade, emit.
-/
import Derived.Test.YtpjjddjoegnipaaDoorMc8
import Derived.Handy
namespace Go.Proofs.YtpjjddjoegnipaaDoor
open Go Go.RowKit
set_option linter.unusedVariables false
set_option linter.unusedSimpArgs false
set_option maxRecDepth 1000000 in
set_option maxHeartbeats 4000000 in
theorem fade_any (x : List UInt8) (m : Bool) (g : Nat) (F : Nat → Prop) (w : World) (hx : x.length ≤ 4611686018427387904) (hE : Ev w) (hF : ∀ k, F k → ¬ Glob k) (hB : Sts [blk g 73 [.string (bstr x), .bool m]] w F) :
    Calls Tryd.prog 53 #[.func (.func 51) #[.pointer (some ⟨g, 0, none⟩)] #[]] w fun e w' => e = .returned (.tuple #[.int .i64 ((Ma.fadeR x).1), .bool ((Ma.fadeR x).2.1)]) ∧ St w F [blk g 73 [.string (bstr ((Ma.fadeR x).2.2.1)), .bool ((Ma.fadeR x).2.2.2)]] w' := by
  have HE := Lib.hid hE
  have HK := Lib.hid hE.k
  clear hE
  have HF := Lib.hid hF
  clear hF
  have S1 : Hid (St w F [blk g 73 [.string (bstr x), .bool m]] w) := Lib.hid (St.borrow hB)
  go_enter Tryd.func53, Tryd.ntmps53
  go_upto_region 0 with fail
  refine wpG_region_k (fun K hK => ?_)
  refine @wpG_p _ _ _ _ _ (some 2) (.int .i64 0) _ _ rfl (by rfl) (fun _ => rfl) ?_
  simp only [n1, n3, n4]
  refine @wpG_p _ _ _ _ _ (some 3) (.bool false) _ _ rfl (by rfl) (fun _ => rfl) ?_
  simp only [n1, n3, n4]
  refine wpG_done (fun V2 hv3 => ?_)
  have S4 : Hid (St w F [blk g 73 [.string (bstr x), .bool m]] V2) := Lib.hid (S1.out.gr hv3)
  clear S1
  clear hv3
  refine ⟨rfl, hK _ _ ?_⟩
  clear hK
  go_upto_region 1 with fail
  refine wpG_region_k (fun K hK => ?_)
  refine @wpG_p _ _ _ _ _ (some 4) (.func (.func 51) #[.pointer (some ⟨g, 0, none⟩)] #[]) _ _ rfl (by rfl) (fun _ => rfl) ?_
  simp only [n1, n3, n4]
  refine wpG_call (some 5) 51 #[.pointer (some ⟨g, 0, none⟩)] rfl (by rfl) (fun W => by go_simp) (fun W5 hg6 => ?_)
  obtain ⟨fp_, hA_, hfp_, back_⟩ := St.lend (L := [blk g 73 [.string (bstr x), .bool m]]) (M := []) ((S4.out.gr hg6).front 0 rfl)
  refine (word_any x m g fp_ W5 (by omega) hA_).mono ?_
  rintro e w7 ⟨rfl, hS_⟩
  refine ⟨_, rfl, ?_⟩
  have hT_ := back_ hS_
  obtain ⟨x8, hq_⟩ : ∃ q_, q_ = Ma.wd x := ⟨_, rfl⟩
  (try rw [← hq_] at hT_); (try rw [← hq_])
  have hlx8 : x8.length ≤ x.length := by rw [hq_]; exact Ma.wd_le _
  have Hx8 := Lib.hid hq_
  clear hq_
  obtain ⟨x9, hq_⟩ : ∃ q_, q_ = Ma.nx x := ⟨_, rfl⟩
  (try rw [← hq_] at hT_); (try rw [← hq_])
  have hlx9 : x9.length ≤ x.length := by rw [hq_]; exact Ma.nx_le _
  have Hx9 := Lib.hid hq_
  clear hq_
  obtain ⟨m10, hq_⟩ : ∃ q_, q_ = Ma.mo x := ⟨_, rfl⟩
  (try rw [← hq_] at hT_); (try rw [← hq_])
  have Hm10 := Lib.hid hq_
  clear hq_
  simp only [n1, n3, n4]
  have S11 : Hid (St w F [blk g 73 [.string (bstr x9), .bool m10]] w7) := Lib.hid hT_
  clear S4
  clear hT_ hS_ hg6 hA_ hfp_ back_
  refine @wpG_p _ _ _ _ _ (some 6) (.bool (decide (x8 ≠ [102, 97, 100, 101]))) _ _ rfl (by rfl) (fun W => op_str_neq W x8 [102, 97, 100, 101] rfl rfl rfl Tryd.underlying9) ?_
  simp only [n1, n3, n4]
  refine wpG_done (fun V12 hv13 => ?_)
  have S14 : Hid (St w F [blk g 73 [.string (bstr x9), .bool m10]] V12) := Lib.hid (S11.out.gr hv13)
  clear S11
  clear hv13
  refine ⟨rfl, hK _ _ ?_⟩
  clear hK
  obtain ⟨c15, hc15⟩ : ∃ q_, q_ = (decide (x8 ≠ [102, 97, 100, 101])) := ⟨_, rfl⟩
  rw [← hc15]
  have Hc15 := Lib.hid hc15
  clear hc15
  cases c15 with
  | true =>
    have f16 := of_decide_eq_true Hc15.out.symm
    go_upto_region 2 with fail
    refine wpG_region_k (fun K hK => ?_)
    refine @wpG_p _ _ _ _ _ (some 2) (.int .i64 0) _ _ rfl (by rfl) (fun _ => rfl) ?_
    simp only [n1, n3, n4]
    refine @wpG_p _ _ _ _ _ (some 3) (.bool false) _ _ rfl (by rfl) (fun _ => rfl) ?_
    simp only [n1, n3, n4]
    refine wpG_done (fun V17 hv18 => ?_)
    have S19 : Hid (St w F [blk g 73 [.string (bstr x9), .bool m10]] V17) := Lib.hid (S14.out.gr hv18)
    clear S14
    clear hv18
    refine ⟨rfl, hK _ _ ?_⟩
    clear hK
    go_wp2_with fail
    go_ret2
    have hS_ := S19.out
    clear S19
    (obtain rfl := Hx8.out; obtain rfl := Hx9.out; obtain rfl := Hm10.out; rw [Ma.fadeR_1 f16]; exact ⟨rfl, hS_⟩)
  | false =>
    have f20 := Lib.hid (Decidable.not_not.1 (of_decide_eq_false Hc15.out.symm))
    go_upto_region 3 with fail
    refine wpG_region_k (fun K hK => ?_)
    refine @wpG_p _ _ _ _ _ (some 7) (.func (.func 51) #[.pointer (some ⟨g, 0, none⟩)] #[]) _ _ rfl (by rfl) (fun _ => rfl) ?_
    simp only [n1, n3, n4]
    refine wpG_call (some 8) 51 #[.pointer (some ⟨g, 0, none⟩)] rfl (by rfl) (fun W => by go_simp) (fun W21 hg22 => ?_)
    obtain ⟨fp_, hA_, hfp_, back_⟩ := St.lend (L := [blk g 73 [.string (bstr x9), .bool m10]]) (M := []) ((S14.out.gr hg22).front 0 rfl)
    refine (word_any x9 m10 g fp_ W21 (by omega) hA_).mono ?_
    rintro e w23 ⟨rfl, hS_⟩
    refine ⟨_, rfl, ?_⟩
    have hT_ := back_ hS_
    obtain ⟨x24, hq_⟩ : ∃ q_, q_ = Ma.wd x9 := ⟨_, rfl⟩
    (try rw [← hq_] at hT_); (try rw [← hq_])
    have hlx24 : x24.length ≤ x9.length := by rw [hq_]; exact Ma.wd_le _
    have Hx24 := Lib.hid hq_
    clear hq_
    obtain ⟨x25, hq_⟩ : ∃ q_, q_ = Ma.nx x9 := ⟨_, rfl⟩
    (try rw [← hq_] at hT_); (try rw [← hq_])
    have hlx25 : x25.length ≤ x9.length := by rw [hq_]; exact Ma.nx_le _
    have Hx25 := Lib.hid hq_
    clear hq_
    obtain ⟨m26, hq_⟩ : ∃ q_, q_ = Ma.mo x9 := ⟨_, rfl⟩
    (try rw [← hq_] at hT_); (try rw [← hq_])
    have Hm26 := Lib.hid hq_
    clear hq_
    simp only [n1, n3, n4]
    have S27 : Hid (St w F [blk g 73 [.string (bstr x25), .bool m26]] w23) := Lib.hid hT_
    clear S14
    clear hT_ hS_ hg22 hA_ hfp_ back_
    refine @wpG_tk _ _ _ _ _ (some 9) (.tuple #[.int .i64 (Ma.nv x24), .bool ((Ma.num x24).isSome)]) _ _ rfl (.call (f := 63) (args := #[.string (bstr x24)]) (by rfl) (fun W => by go_simp) (fun W hg => pnum_any x24 W (HE.out.st (S27.out.gr hg) HF.out))) ?_
    simp only [n1, n3, n4]
    refine @wpG_p _ _ _ _ _ (some 10) (.int .i64 (Ma.nv x24)) _ _ rfl (by rfl) (fun W => by go_simp) ?_
    simp only [n1, n3, n4]
    refine @wpG_p _ _ _ _ _ (some 11) (.bool ((Ma.num x24).isSome)) _ _ rfl (by rfl) (fun W => by go_simp) ?_
    simp only [n1, n3, n4]
    refine @wpG_p _ _ _ _ _ (some 2) (.int .i64 (Ma.nv x24)) _ _ rfl (by rfl) (fun _ => rfl) ?_
    simp only [n1, n3, n4]
    refine @wpG_p _ _ _ _ _ (some 3) (.bool ((Ma.num x24).isSome)) _ _ rfl (by rfl) (fun _ => rfl) ?_
    simp only [n1, n3, n4]
    refine wpG_done (fun V28 hv29 => ?_)
    have S30 : Hid (St w F [blk g 73 [.string (bstr x25), .bool m26]] V28) := Lib.hid (S27.out.gr hv29)
    clear S27
    clear hv29
    refine ⟨rfl, hK _ _ ?_⟩
    clear hK
    go_wp2_with fail
    go_ret2
    have hS_ := S30.out
    clear S30
    (obtain rfl := Hx8.out; obtain rfl := Hx9.out; obtain rfl := Hx24.out; obtain rfl := Hx25.out; obtain rfl := Hm10.out; obtain rfl := Hm26.out; have e_f20 := f20.out; rw [Ma.fadeR_2 e_f20]; exact ⟨rfl, hS_⟩)
set_option maxRecDepth 1000000 in
set_option maxHeartbeats 4000000 in
theorem emit_any (x : List UInt8) (m : Bool) (g : Nat) (F : Nat → Prop) (w : World) (hx : x.length ≤ 4611686018427387904) (hE : Ev w) (hF : ∀ k, F k → ¬ Glob k) (hB : Sts [blk g 73 [.string (bstr x), .bool m]] w F) :
    Calls Tryd.prog 55 #[.func (.func 51) #[.pointer (some ⟨g, 0, none⟩)] #[]] w fun e w' => e = .returned (.tuple #[.agg #[.int .i64 ((Ma.emitR x).1), .int .i64 ((Ma.emitR x).2.1), .int .i64 ((Ma.emitR x).2.2.1)], .bool ((Ma.emitR x).2.2.2.1)]) ∧ St w F [blk g 73 [.string (bstr ((Ma.emitR x).2.2.2.2.1)), .bool ((Ma.emitR x).2.2.2.2.2)]] w' := by
  have HE := Lib.hid hE
  have HK := Lib.hid hE.k
  clear hE
  have HF := Lib.hid hF
  clear hF
  have S1 : Hid (St w F [blk g 73 [.string (bstr x), .bool m]] w) := Lib.hid (St.borrow hB)
  go_enter Tryd.func55, Tryd.ntmps55
  go_upto_region 0 with fail
  refine wpG_region_k (fun K hK => ?_)
  refine wpG_val (some 2) rfl (by rfl) (fun W2 hg3 => ⟨.pointer (some ⟨W2.heap.size, 0, none⟩), W2.alloc (.cells #[.int .i64 0, .int .i64 0, .int .i64 0] 33), by (first | (go_simp; done) | (go_simp <;> rfl)), ?_⟩)
  simp only [n1, n3, n4]
  obtain ⟨g4, U5, hg_, hu_, hS_⟩ := (S1.out.gr hg3).made [.int .i64 0, .int .i64 0, .int .i64 0] 33
  rw [← hu_, ← hg_]
  have S6 : Hid (St w F [blk g4 33 [.int .i64 0, .int .i64 0, .int .i64 0], blk g 73 [.string (bstr x), .bool m]] U5) := Lib.hid hS_
  clear S1
  clear hg_ hu_ hS_ hg3
  refine @wpG_p _ _ _ _ _ (some 3) (.bool false) _ _ rfl (by rfl) (fun _ => rfl) ?_
  simp only [n1, n3, n4]
  refine wpG_done (fun V7 hv8 => ?_)
  have S9 : Hid (St w F [blk g4 33 [.int .i64 0, .int .i64 0, .int .i64 0], blk g 73 [.string (bstr x), .bool m]] V7) := Lib.hid (S6.out.gr hv8)
  clear S6
  clear hv8
  refine ⟨rfl, hK _ _ ?_⟩
  clear hK
  go_upto_region 1 with fail
  refine wpG_region_k (fun K hK => ?_)
  refine @wpG_p _ _ _ _ _ (some 8) (.func (.func 51) #[.pointer (some ⟨g, 0, none⟩)] #[]) _ _ rfl (by rfl) (fun _ => rfl) ?_
  simp only [n1, n3, n4]
  refine wpG_call (some 9) 51 #[.pointer (some ⟨g, 0, none⟩)] rfl (by rfl) (fun W => by go_simp) (fun W10 hg11 => ?_)
  obtain ⟨fp_, hA_, hfp_, back_⟩ := St.lend (L := [blk g 73 [.string (bstr x), .bool m]]) (M := [blk g4 33 [.int .i64 0, .int .i64 0, .int .i64 0]]) ((S9.out.gr hg11).front 1 rfl)
  refine (word_any x m g fp_ W10 (by omega) hA_).mono ?_
  rintro e w12 ⟨rfl, hS_⟩
  refine ⟨_, rfl, ?_⟩
  have hT_ := back_ hS_
  obtain ⟨x13, hq_⟩ : ∃ q_, q_ = Ma.wd x := ⟨_, rfl⟩
  (try rw [← hq_] at hT_); (try rw [← hq_])
  have hlx13 : x13.length ≤ x.length := by rw [hq_]; exact Ma.wd_le _
  have Hx13 := Lib.hid hq_
  clear hq_
  obtain ⟨x14, hq_⟩ : ∃ q_, q_ = Ma.nx x := ⟨_, rfl⟩
  (try rw [← hq_] at hT_); (try rw [← hq_])
  have hlx14 : x14.length ≤ x.length := by rw [hq_]; exact Ma.nx_le _
  have Hx14 := Lib.hid hq_
  clear hq_
  obtain ⟨m15, hq_⟩ : ∃ q_, q_ = Ma.mo x := ⟨_, rfl⟩
  (try rw [← hq_] at hT_); (try rw [← hq_])
  have Hm15 := Lib.hid hq_
  clear hq_
  simp only [n1, n3, n4]
  have S16 : Hid (St w F [blk g 73 [.string (bstr x14), .bool m15], blk g4 33 [.int .i64 0, .int .i64 0, .int .i64 0]] w12) := Lib.hid hT_
  clear S9
  clear hT_ hS_ hg11 hA_ hfp_ back_
  refine @wpG_p _ _ _ _ _ (some 10) (.bool (decide (x13 ≠ [101, 109, 105, 116]))) _ _ rfl (by rfl) (fun W => op_str_neq W x13 [101, 109, 105, 116] rfl rfl rfl Tryd.underlying9) ?_
  simp only [n1, n3, n4]
  refine wpG_done (fun V17 hv18 => ?_)
  have S19 : Hid (St w F [blk g 73 [.string (bstr x14), .bool m15], blk g4 33 [.int .i64 0, .int .i64 0, .int .i64 0]] V17) := Lib.hid (S16.out.gr hv18)
  clear S16
  clear hv18
  refine ⟨rfl, hK _ _ ?_⟩
  clear hK
  obtain ⟨c20, hc20⟩ : ∃ q_, q_ = (decide (x13 ≠ [101, 109, 105, 116])) := ⟨_, rfl⟩
  rw [← hc20]
  have Hc20 := Lib.hid hc20
  clear hc20
  cases c20 with
  | true =>
    have f21 := of_decide_eq_true Hc20.out.symm
    go_upto_region 2 with fail
    refine wpG_region_k (fun K hK => ?_)
    refine @wpG_p _ _ _ _ _ (some 11) (.agg #[.int .i64 0, .int .i64 0, .int .i64 0]) _ _ rfl (by rfl) (fun W => by go_simp) ?_
    simp only [n1, n3, n4]
    refine wpG_store (none) rfl (by rfl) (fun W22 hg23 => ⟨_, run_store_mid 33 (.tmp 2) (.tmp 11) rfl g4 0 #[.int .i64 0, .int .i64 0, .int .i64 0] rfl rfl ((S19.out.gr hg23).room 1 rfl 0 3 (by simp)) (by kernel_rfl) (by kernel_rfl), ?_⟩)
    simp only [n2]
    obtain ⟨U24, hu_, hS_⟩ := ((S19.out.gr hg23).put 1 rfl 0 (#[.int .i64 0, .int .i64 0, .int .i64 0] : Array Value).toList (ds := [.int .i64 0, .int .i64 0, .int .i64 0]) rfl).named
    rw [← hu_]
    have S25 : Hid (St w F [blk g 73 [.string (bstr x14), .bool m15], blk g4 33 [.int .i64 0, .int .i64 0, .int .i64 0]] U24) := Lib.hid hS_
    clear S19
    clear hu_ hS_ hg23
    refine @wpG_p _ _ _ _ _ (some 3) (.bool false) _ _ rfl (by rfl) (fun _ => rfl) ?_
    simp only [n1, n3, n4]
    refine wpG_done (fun V26 hv27 => ?_)
    have S28 : Hid (St w F [blk g 73 [.string (bstr x14), .bool m15], blk g4 33 [.int .i64 0, .int .i64 0, .int .i64 0]] V26) := Lib.hid (S25.out.gr hv27)
    clear S25
    clear hv27
    refine ⟨rfl, hK _ _ ?_⟩
    clear hK
    go_wp2_with fail
    (try simp only [Exit.inBlock, Exit.then])
    refine bodyPost_ret (results_cell_tmp rfl _ _ _ g4 0 [.int .i64 0, .int .i64 0, .int .i64 0] _ rfl (S28.out.range 1 rfl 0 3 rfl) Tryd.underlying33 rfl (by kernel_rfl)) rfl ?_
    have hS_ := S28.out.sub (.cons_cons _ (.cons _ .slnil))
    clear S28
    (obtain rfl := Hx13.out; obtain rfl := Hx14.out; obtain rfl := Hm15.out; rw [Ma.emitR_1 f21]; exact ⟨rfl, hS_⟩)
  | false =>
    have f29 := Lib.hid (Decidable.not_not.1 (of_decide_eq_false Hc20.out.symm))
    go_upto_region 3 with fail
    refine wpG_region_k (fun K hK => ?_)
    refine wpG_val (some 4) rfl (by rfl) (fun W30 hg31 => ⟨.pointer (some ⟨W30.heap.size, 0, none⟩), W30.alloc (.cells #[.int .i64 0, .int .i64 0, .int .i64 0] 33), by (first | (go_simp; done) | (go_simp <;> rfl)), ?_⟩)
    simp only [n1, n3, n4]
    obtain ⟨g32, U33, hg_, hu_, hS_⟩ := (S19.out.gr hg31).made [.int .i64 0, .int .i64 0, .int .i64 0] 33
    rw [← hu_, ← hg_]
    have S34 : Hid (St w F [blk g32 33 [.int .i64 0, .int .i64 0, .int .i64 0], blk g 73 [.string (bstr x14), .bool m15], blk g4 33 [.int .i64 0, .int .i64 0, .int .i64 0]] U33) := Lib.hid hS_
    clear S19
    clear hg_ hu_ hS_ hg31
    refine wpG_done (fun V35 hv36 => ?_)
    have S37 : Hid (St w F [blk g32 33 [.int .i64 0, .int .i64 0, .int .i64 0], blk g 73 [.string (bstr x14), .bool m15], blk g4 33 [.int .i64 0, .int .i64 0, .int .i64 0]] V35) := Lib.hid (S34.out.gr hv36)
    clear S34
    clear hv36
    refine ⟨rfl, hK _ _ ?_⟩
    clear hK
    go_upto_region 4 with fail
    refine wpG_region_k (fun K hK => ?_)
    refine @wpG_p _ _ _ _ _ (some 12) (.int .i64 0) _ _ rfl (by rfl) (fun _ => rfl) ?_
    simp only [n1, n3, n4]
    refine wpG_done (fun V38 hv39 => ?_)
    have S40 : Hid (St w F [blk g32 33 [.int .i64 0, .int .i64 0, .int .i64 0], blk g 73 [.string (bstr x14), .bool m15], blk g4 33 [.int .i64 0, .int .i64 0, .int .i64 0]] V38) := Lib.hid (S37.out.gr hv39)
    clear S37
    clear hv39
    refine ⟨rfl, hK _ _ ?_⟩
    clear hK
    go_wp2_with fail
    refine wp_loop_rounds 4 ?_
    rw [rounds_succ]
    go_upto_region 5 with fail
    refine wpG_region_k (fun K hK => ?_)
    refine @wpG_p _ _ _ _ _ (some 13) (.bool true) _ _ rfl (by rfl) (fun W => by go_simp) ?_
    simp only [n1, n3, n4]
    refine wpG_done (fun V41 hv42 => ?_)
    have S43 : Hid (St w F [blk g32 33 [.int .i64 0, .int .i64 0, .int .i64 0], blk g 73 [.string (bstr x14), .bool m15], blk g4 33 [.int .i64 0, .int .i64 0, .int .i64 0]] V41) := Lib.hid (S40.out.gr hv42)
    clear S40
    clear hv42
    refine ⟨rfl, hK _ _ ?_⟩
    clear hK
    go_upto_region 6 with fail
    refine wpG_region_k (fun K hK => ?_)
    refine @wpG_p _ _ _ _ _ (some 14) (.int .i64 0) _ _ rfl (by rfl) (fun _ => rfl) ?_
    simp only [n1, n3, n4]
    refine @wpG_p _ _ _ _ _ (some 5) (.int .i64 0) _ _ rfl (by rfl) (fun _ => rfl) ?_
    simp only [n1, n3, n4]
    refine wpG_done (fun V44 hv45 => ?_)
    have S46 : Hid (St w F [blk g32 33 [.int .i64 0, .int .i64 0, .int .i64 0], blk g 73 [.string (bstr x14), .bool m15], blk g4 33 [.int .i64 0, .int .i64 0, .int .i64 0]] V44) := Lib.hid (S43.out.gr hv45)
    clear S43
    clear hv45
    refine ⟨rfl, hK _ _ ?_⟩
    clear hK
    go_upto_region 7 with fail
    refine wpG_region_k (fun K hK => ?_)
    refine @wpG_p _ _ _ _ _ (some 16) (.func (.func 51) #[.pointer (some ⟨g, 0, none⟩)] #[]) _ _ rfl (by rfl) (fun _ => rfl) ?_
    simp only [n1, n3, n4]
    refine wpG_call (some 17) 51 #[.pointer (some ⟨g, 0, none⟩)] rfl (by rfl) (fun W => by go_simp) (fun W47 hg48 => ?_)
    obtain ⟨fp_, hA_, hfp_, back_⟩ := St.lend (L := [blk g 73 [.string (bstr x14), .bool m15]]) (M := [blk g32 33 [.int .i64 0, .int .i64 0, .int .i64 0], blk g4 33 [.int .i64 0, .int .i64 0, .int .i64 0]]) ((S46.out.gr hg48).front 1 rfl)
    refine (word_any x14 m15 g fp_ W47 (by omega) hA_).mono ?_
    rintro e w49 ⟨rfl, hS_⟩
    refine ⟨_, rfl, ?_⟩
    have hT_ := back_ hS_
    obtain ⟨x50, hq_⟩ : ∃ q_, q_ = Ma.wd x14 := ⟨_, rfl⟩
    (try rw [← hq_] at hT_); (try rw [← hq_])
    have hlx50 : x50.length ≤ x14.length := by rw [hq_]; exact Ma.wd_le _
    have Hx50 := Lib.hid hq_
    clear hq_
    obtain ⟨x51, hq_⟩ : ∃ q_, q_ = Ma.nx x14 := ⟨_, rfl⟩
    (try rw [← hq_] at hT_); (try rw [← hq_])
    have hlx51 : x51.length ≤ x14.length := by rw [hq_]; exact Ma.nx_le _
    have Hx51 := Lib.hid hq_
    clear hq_
    obtain ⟨m52, hq_⟩ : ∃ q_, q_ = Ma.mo x14 := ⟨_, rfl⟩
    (try rw [← hq_] at hT_); (try rw [← hq_])
    have Hm52 := Lib.hid hq_
    clear hq_
    simp only [n1, n3, n4]
    have S53 : Hid (St w F [blk g 73 [.string (bstr x51), .bool m52], blk g32 33 [.int .i64 0, .int .i64 0, .int .i64 0], blk g4 33 [.int .i64 0, .int .i64 0, .int .i64 0]] w49) := Lib.hid hT_
    clear S46
    clear hT_ hS_ hg48 hA_ hfp_ back_
    refine @wpG_tk _ _ _ _ _ (some 18) (.tuple #[.int .i64 (Ma.nv x50), .bool ((Ma.num x50).isSome)]) _ _ rfl (.call (f := 63) (args := #[.string (bstr x50)]) (by rfl) (fun W => by go_simp) (fun W hg => pnum_any x50 W (HE.out.st (S53.out.gr hg) HF.out))) ?_
    simp only [n1, n3, n4]
    refine @wpG_p _ _ _ _ _ (some 15) (.tuple #[.int .i64 (Ma.nv x50), .bool ((Ma.num x50).isSome)]) _ _ rfl (by rfl) (fun _ => rfl) ?_
    simp only [n1, n3, n4]
    refine @wpG_p _ _ _ _ _ (some 19) (.int .i64 (Ma.nv x50)) _ _ rfl (by rfl) (fun W => by go_simp) ?_
    simp only [n1, n3, n4]
    refine @wpG_p _ _ _ _ _ (some 20) (.bool ((Ma.num x50).isSome)) _ _ rfl (by rfl) (fun W => by go_simp) ?_
    simp only [n1, n3, n4]
    refine @wpG_p _ _ _ _ _ (some 6) (.int .i64 (Ma.nv x50)) _ _ rfl (by rfl) (fun _ => rfl) ?_
    simp only [n1, n3, n4]
    refine @wpG_p _ _ _ _ _ (some 7) (.bool ((Ma.num x50).isSome)) _ _ rfl (by rfl) (fun _ => rfl) ?_
    simp only [n1, n3, n4]
    refine wpG_done (fun V54 hv55 => ?_)
    have S56 : Hid (St w F [blk g 73 [.string (bstr x51), .bool m52], blk g32 33 [.int .i64 0, .int .i64 0, .int .i64 0], blk g4 33 [.int .i64 0, .int .i64 0, .int .i64 0]] V54) := Lib.hid (S53.out.gr hv55)
    clear S53
    clear hv55
    refine ⟨rfl, hK _ _ ?_⟩
    clear hK
    go_upto_region 8 with fail
    refine wpG_region_k (fun K hK => ?_)
    refine @wpG_p _ _ _ _ _ (some 21) (.bool ((Ma.num x50).isSome)) _ _ rfl (by rfl) (fun _ => rfl) ?_
    simp only [n1, n3, n4]
    refine @wpG_p _ _ _ _ _ (some 22) (.bool (!((Ma.num x50).isSome))) _ _ rfl (by rfl) (fun W => by go_simp) ?_
    simp only [n1, n3, n4]
    refine wpG_done (fun V57 hv58 => ?_)
    have S59 : Hid (St w F [blk g 73 [.string (bstr x51), .bool m52], blk g32 33 [.int .i64 0, .int .i64 0, .int .i64 0], blk g4 33 [.int .i64 0, .int .i64 0, .int .i64 0]] V57) := Lib.hid (S56.out.gr hv58)
    clear S56
    clear hv58
    refine ⟨rfl, hK _ _ ?_⟩
    clear hK
    obtain ⟨c60, hc60⟩ : ∃ q_, q_ = (!((Ma.num x50).isSome)) := ⟨_, rfl⟩
    rw [← hc60]
    have Hc60 := Lib.hid hc60
    clear hc60
    cases c60 with
    | true =>
      have f61 := Lib.hid ((bnt Hc60.out))
      go_upto_region 9 with fail
      refine wpG_region_k (fun K hK => ?_)
      refine @wpG_p _ _ _ _ _ (some 23) (.agg #[.int .i64 0, .int .i64 0, .int .i64 0]) _ _ rfl (by rfl) (fun W => by go_simp) ?_
      simp only [n1, n3, n4]
      refine wpG_store (none) rfl (by rfl) (fun W62 hg63 => ⟨_, run_store_mid 33 (.tmp 2) (.tmp 23) rfl g4 0 #[.int .i64 0, .int .i64 0, .int .i64 0] rfl rfl ((S59.out.gr hg63).room 2 rfl 0 3 (by simp)) (by kernel_rfl) (by kernel_rfl), ?_⟩)
      simp only [n2]
      obtain ⟨U64, hu_, hS_⟩ := ((S59.out.gr hg63).put 2 rfl 0 (#[.int .i64 0, .int .i64 0, .int .i64 0] : Array Value).toList (ds := [.int .i64 0, .int .i64 0, .int .i64 0]) rfl).named
      rw [← hu_]
      have S65 : Hid (St w F [blk g 73 [.string (bstr x51), .bool m52], blk g32 33 [.int .i64 0, .int .i64 0, .int .i64 0], blk g4 33 [.int .i64 0, .int .i64 0, .int .i64 0]] U64) := Lib.hid hS_
      clear S59
      clear hu_ hS_ hg63
      refine @wpG_p _ _ _ _ _ (some 3) (.bool false) _ _ rfl (by rfl) (fun _ => rfl) ?_
      simp only [n1, n3, n4]
      refine wpG_done (fun V66 hv67 => ?_)
      have S68 : Hid (St w F [blk g 73 [.string (bstr x51), .bool m52], blk g32 33 [.int .i64 0, .int .i64 0, .int .i64 0], blk g4 33 [.int .i64 0, .int .i64 0, .int .i64 0]] V66) := Lib.hid (S65.out.gr hv67)
      clear S65
      clear hv67
      refine ⟨rfl, hK _ _ ?_⟩
      clear hK
      go_wp2_with fail
      (try simp only [Exit.inBlock, Exit.then])
      refine bodyPost_ret (results_cell_tmp rfl _ _ _ g4 0 [.int .i64 0, .int .i64 0, .int .i64 0] _ rfl (S68.out.range 2 rfl 0 3 rfl) Tryd.underlying33 rfl (by kernel_rfl)) rfl ?_
      have hS_ := S68.out.sub (.cons_cons _ (.cons _ (.cons _ .slnil)))
      clear S68
      (obtain rfl := Hx13.out; obtain rfl := Hx14.out; obtain rfl := Hx50.out; obtain rfl := Hx51.out; obtain rfl := Hm15.out; obtain rfl := Hm52.out; have e_f29 := f29.out; have e_f61 := f61.out; rw [Ma.emitR_2 e_f29 e_f61]; exact ⟨rfl, hS_⟩)
    | false =>
      have f69 := Lib.hid ((bnf Hc60.out))
      go_upto_region 10 with fail
      refine wpG_region_k (fun K hK => ?_)
      refine @wpG_p _ _ _ _ _ (some 24) (.int .i64 0) _ _ rfl (by rfl) (fun _ => rfl) ?_
      simp only [n1, n3, n4]
      refine @wpG_p _ _ _ _ _ (some 25) (.int .i64 (Ma.nv x50)) _ _ rfl (by rfl) (fun _ => rfl) ?_
      simp only [n1, n3, n4]
      refine @wpG_p _ _ _ _ _ (some 26) (.pointer (some ⟨g32, 0, none⟩)) _ _ rfl (by rfl) (fun W => by (go_simp <;> first | rfl | omega)) ?_
      simp only [n1, n3, n4]
      refine wpG_store (none) rfl (by rfl) (fun W70 hg71 => ⟨W70.setCell ⟨g32, 0, none⟩ (.int .i64 (Ma.nv x50)), by have c := (S59.out.gr hg71).cell 1 rfl 0 rfl; have c2 := (S59.out.gr hg71).soft 1 rfl 0 rfl; go_simp, ?_⟩)
      simp only [n2]
      obtain ⟨U72, hu_, hS_⟩ := ((S59.out.gr hg71).put1 1 rfl 0 (.int .i64 (Ma.nv x50))).named
      rw [← hu_]
      have S73 : Hid (St w F [blk g 73 [.string (bstr x51), .bool m52], blk g32 33 [.int .i64 (Ma.nv x50), .int .i64 0, .int .i64 0], blk g4 33 [.int .i64 0, .int .i64 0, .int .i64 0]] U72) := Lib.hid hS_
      clear S59
      clear hu_ hS_ hg71
      refine wpG_done (fun V74 hv75 => ?_)
      have S76 : Hid (St w F [blk g 73 [.string (bstr x51), .bool m52], blk g32 33 [.int .i64 (Ma.nv x50), .int .i64 0, .int .i64 0], blk g4 33 [.int .i64 0, .int .i64 0, .int .i64 0]] V74) := Lib.hid (S73.out.gr hv75)
      clear S73
      clear hv75
      refine ⟨rfl, hK _ _ ?_⟩
      clear hK
      go_upto_region 11 with fail
      refine wpG_region_k (fun K hK => ?_)
      refine @wpG_p _ _ _ _ _ (some 27) (.int .i64 1) _ _ rfl (by rfl) (fun W => by go_simp <;> rfl) ?_
      simp only [n1, n3, n4]
      refine @wpG_p _ _ _ _ _ (some 12) (.int .i64 1) _ _ rfl (by rfl) (fun _ => rfl) ?_
      simp only [n1, n3, n4]
      refine wpG_done (fun V77 hv78 => ?_)
      have S79 : Hid (St w F [blk g 73 [.string (bstr x51), .bool m52], blk g32 33 [.int .i64 (Ma.nv x50), .int .i64 0, .int .i64 0], blk g4 33 [.int .i64 0, .int .i64 0, .int .i64 0]] V77) := Lib.hid (S76.out.gr hv78)
      clear S76
      clear hv78
      refine ⟨rfl, hK _ _ ?_⟩
      clear hK
      go_wp2_with fail
      rw [rounds_succ]
      go_upto_region 5 with fail
      refine wpG_region_k (fun K hK => ?_)
      refine @wpG_p _ _ _ _ _ (some 13) (.bool true) _ _ rfl (by rfl) (fun W => by go_simp) ?_
      simp only [n1, n3, n4]
      refine wpG_done (fun V80 hv81 => ?_)
      have S82 : Hid (St w F [blk g 73 [.string (bstr x51), .bool m52], blk g32 33 [.int .i64 (Ma.nv x50), .int .i64 0, .int .i64 0], blk g4 33 [.int .i64 0, .int .i64 0, .int .i64 0]] V80) := Lib.hid (S79.out.gr hv81)
      clear S79
      clear hv81
      refine ⟨rfl, hK _ _ ?_⟩
      clear hK
      go_upto_region 6 with fail
      refine wpG_region_k (fun K hK => ?_)
      refine @wpG_p _ _ _ _ _ (some 14) (.int .i64 1) _ _ rfl (by rfl) (fun _ => rfl) ?_
      simp only [n1, n3, n4]
      refine @wpG_p _ _ _ _ _ (some 5) (.int .i64 1) _ _ rfl (by rfl) (fun _ => rfl) ?_
      simp only [n1, n3, n4]
      refine wpG_done (fun V83 hv84 => ?_)
      have S85 : Hid (St w F [blk g 73 [.string (bstr x51), .bool m52], blk g32 33 [.int .i64 (Ma.nv x50), .int .i64 0, .int .i64 0], blk g4 33 [.int .i64 0, .int .i64 0, .int .i64 0]] V83) := Lib.hid (S82.out.gr hv84)
      clear S82
      clear hv84
      refine ⟨rfl, hK _ _ ?_⟩
      clear hK
      go_upto_region 7 with fail
      refine wpG_region_k (fun K hK => ?_)
      refine @wpG_p _ _ _ _ _ (some 16) (.func (.func 51) #[.pointer (some ⟨g, 0, none⟩)] #[]) _ _ rfl (by rfl) (fun _ => rfl) ?_
      simp only [n1, n3, n4]
      refine wpG_call (some 17) 51 #[.pointer (some ⟨g, 0, none⟩)] rfl (by rfl) (fun W => by go_simp) (fun W86 hg87 => ?_)
      obtain ⟨fp_, hA_, hfp_, back_⟩ := St.lend (L := [blk g 73 [.string (bstr x51), .bool m52]]) (M := [blk g32 33 [.int .i64 (Ma.nv x50), .int .i64 0, .int .i64 0], blk g4 33 [.int .i64 0, .int .i64 0, .int .i64 0]]) ((S85.out.gr hg87).front 0 rfl)
      refine (word_any x51 m52 g fp_ W86 (by omega) hA_).mono ?_
      rintro e w88 ⟨rfl, hS_⟩
      refine ⟨_, rfl, ?_⟩
      have hT_ := back_ hS_
      obtain ⟨x89, hq_⟩ : ∃ q_, q_ = Ma.wd x51 := ⟨_, rfl⟩
      (try rw [← hq_] at hT_); (try rw [← hq_])
      have hlx89 : x89.length ≤ x51.length := by rw [hq_]; exact Ma.wd_le _
      have Hx89 := Lib.hid hq_
      clear hq_
      obtain ⟨x90, hq_⟩ : ∃ q_, q_ = Ma.nx x51 := ⟨_, rfl⟩
      (try rw [← hq_] at hT_); (try rw [← hq_])
      have hlx90 : x90.length ≤ x51.length := by rw [hq_]; exact Ma.nx_le _
      have Hx90 := Lib.hid hq_
      clear hq_
      obtain ⟨m91, hq_⟩ : ∃ q_, q_ = Ma.mo x51 := ⟨_, rfl⟩
      (try rw [← hq_] at hT_); (try rw [← hq_])
      have Hm91 := Lib.hid hq_
      clear hq_
      simp only [n1, n3, n4]
      have S92 : Hid (St w F [blk g 73 [.string (bstr x90), .bool m91], blk g32 33 [.int .i64 (Ma.nv x50), .int .i64 0, .int .i64 0], blk g4 33 [.int .i64 0, .int .i64 0, .int .i64 0]] w88) := Lib.hid hT_
      clear S85
      clear hT_ hS_ hg87 hA_ hfp_ back_
      refine @wpG_tk _ _ _ _ _ (some 18) (.tuple #[.int .i64 (Ma.nv x89), .bool ((Ma.num x89).isSome)]) _ _ rfl (.call (f := 63) (args := #[.string (bstr x89)]) (by rfl) (fun W => by go_simp) (fun W hg => pnum_any x89 W (HE.out.st (S92.out.gr hg) HF.out))) ?_
      simp only [n1, n3, n4]
      refine @wpG_p _ _ _ _ _ (some 15) (.tuple #[.int .i64 (Ma.nv x89), .bool ((Ma.num x89).isSome)]) _ _ rfl (by rfl) (fun _ => rfl) ?_
      simp only [n1, n3, n4]
      refine @wpG_p _ _ _ _ _ (some 19) (.int .i64 (Ma.nv x89)) _ _ rfl (by rfl) (fun W => by go_simp) ?_
      simp only [n1, n3, n4]
      refine @wpG_p _ _ _ _ _ (some 20) (.bool ((Ma.num x89).isSome)) _ _ rfl (by rfl) (fun W => by go_simp) ?_
      simp only [n1, n3, n4]
      refine @wpG_p _ _ _ _ _ (some 6) (.int .i64 (Ma.nv x89)) _ _ rfl (by rfl) (fun _ => rfl) ?_
      simp only [n1, n3, n4]
      refine @wpG_p _ _ _ _ _ (some 7) (.bool ((Ma.num x89).isSome)) _ _ rfl (by rfl) (fun _ => rfl) ?_
      simp only [n1, n3, n4]
      refine wpG_done (fun V93 hv94 => ?_)
      have S95 : Hid (St w F [blk g 73 [.string (bstr x90), .bool m91], blk g32 33 [.int .i64 (Ma.nv x50), .int .i64 0, .int .i64 0], blk g4 33 [.int .i64 0, .int .i64 0, .int .i64 0]] V93) := Lib.hid (S92.out.gr hv94)
      clear S92
      clear hv94
      refine ⟨rfl, hK _ _ ?_⟩
      clear hK
      go_upto_region 8 with fail
      refine wpG_region_k (fun K hK => ?_)
      refine @wpG_p _ _ _ _ _ (some 21) (.bool ((Ma.num x89).isSome)) _ _ rfl (by rfl) (fun _ => rfl) ?_
      simp only [n1, n3, n4]
      refine @wpG_p _ _ _ _ _ (some 22) (.bool (!((Ma.num x89).isSome))) _ _ rfl (by rfl) (fun W => by go_simp) ?_
      simp only [n1, n3, n4]
      refine wpG_done (fun V96 hv97 => ?_)
      have S98 : Hid (St w F [blk g 73 [.string (bstr x90), .bool m91], blk g32 33 [.int .i64 (Ma.nv x50), .int .i64 0, .int .i64 0], blk g4 33 [.int .i64 0, .int .i64 0, .int .i64 0]] V96) := Lib.hid (S95.out.gr hv97)
      clear S95
      clear hv97
      refine ⟨rfl, hK _ _ ?_⟩
      clear hK
      obtain ⟨c99, hc99⟩ : ∃ q_, q_ = (!((Ma.num x89).isSome)) := ⟨_, rfl⟩
      rw [← hc99]
      have Hc99 := Lib.hid hc99
      clear hc99
      cases c99 with
      | true =>
        have f100 := Lib.hid ((bnt Hc99.out))
        go_upto_region 9 with fail
        refine wpG_region_k (fun K hK => ?_)
        refine @wpG_p _ _ _ _ _ (some 23) (.agg #[.int .i64 0, .int .i64 0, .int .i64 0]) _ _ rfl (by rfl) (fun W => by go_simp) ?_
        simp only [n1, n3, n4]
        refine wpG_store (none) rfl (by rfl) (fun W101 hg102 => ⟨_, run_store_mid 33 (.tmp 2) (.tmp 23) rfl g4 0 #[.int .i64 0, .int .i64 0, .int .i64 0] rfl rfl ((S98.out.gr hg102).room 2 rfl 0 3 (by simp)) (by kernel_rfl) (by kernel_rfl), ?_⟩)
        simp only [n2]
        obtain ⟨U103, hu_, hS_⟩ := ((S98.out.gr hg102).put 2 rfl 0 (#[.int .i64 0, .int .i64 0, .int .i64 0] : Array Value).toList (ds := [.int .i64 0, .int .i64 0, .int .i64 0]) rfl).named
        rw [← hu_]
        have S104 : Hid (St w F [blk g 73 [.string (bstr x90), .bool m91], blk g32 33 [.int .i64 (Ma.nv x50), .int .i64 0, .int .i64 0], blk g4 33 [.int .i64 0, .int .i64 0, .int .i64 0]] U103) := Lib.hid hS_
        clear S98
        clear hu_ hS_ hg102
        refine @wpG_p _ _ _ _ _ (some 3) (.bool false) _ _ rfl (by rfl) (fun _ => rfl) ?_
        simp only [n1, n3, n4]
        refine wpG_done (fun V105 hv106 => ?_)
        have S107 : Hid (St w F [blk g 73 [.string (bstr x90), .bool m91], blk g32 33 [.int .i64 (Ma.nv x50), .int .i64 0, .int .i64 0], blk g4 33 [.int .i64 0, .int .i64 0, .int .i64 0]] V105) := Lib.hid (S104.out.gr hv106)
        clear S104
        clear hv106
        refine ⟨rfl, hK _ _ ?_⟩
        clear hK
        go_wp2_with fail
        (try simp only [Exit.inBlock, Exit.then])
        refine bodyPost_ret (results_cell_tmp rfl _ _ _ g4 0 [.int .i64 0, .int .i64 0, .int .i64 0] _ rfl (S107.out.range 2 rfl 0 3 rfl) Tryd.underlying33 rfl (by kernel_rfl)) rfl ?_
        have hS_ := S107.out.sub (.cons_cons _ (.cons _ (.cons _ .slnil)))
        clear S107
        (obtain rfl := Hx13.out; obtain rfl := Hx14.out; obtain rfl := Hx50.out; obtain rfl := Hx51.out; obtain rfl := Hx89.out; obtain rfl := Hx90.out; obtain rfl := Hm15.out; obtain rfl := Hm52.out; obtain rfl := Hm91.out; have e_f29 := f29.out; have e_f69 := f69.out; have e_f100 := f100.out; rw [Ma.emitR_3 e_f29 e_f69 e_f100]; exact ⟨rfl, hS_⟩)
      | false =>
        have f108 := Lib.hid ((bnf Hc99.out))
        go_upto_region 10 with fail
        refine wpG_region_k (fun K hK => ?_)
        refine @wpG_p _ _ _ _ _ (some 24) (.int .i64 1) _ _ rfl (by rfl) (fun _ => rfl) ?_
        simp only [n1, n3, n4]
        refine @wpG_p _ _ _ _ _ (some 25) (.int .i64 (Ma.nv x89)) _ _ rfl (by rfl) (fun _ => rfl) ?_
        simp only [n1, n3, n4]
        refine @wpG_p _ _ _ _ _ (some 26) (.pointer (some ⟨g32, 1, none⟩)) _ _ rfl (by rfl) (fun W => by (go_simp <;> first | rfl | omega)) ?_
        simp only [n1, n3, n4]
        refine wpG_store (none) rfl (by rfl) (fun W109 hg110 => ⟨W109.setCell ⟨g32, 1, none⟩ (.int .i64 (Ma.nv x89)), by have c := (S98.out.gr hg110).cell 1 rfl 1 rfl; have c2 := (S98.out.gr hg110).soft 1 rfl 1 rfl; go_simp, ?_⟩)
        simp only [n2]
        obtain ⟨U111, hu_, hS_⟩ := ((S98.out.gr hg110).put1 1 rfl 1 (.int .i64 (Ma.nv x89))).named
        rw [← hu_]
        have S112 : Hid (St w F [blk g 73 [.string (bstr x90), .bool m91], blk g32 33 [.int .i64 (Ma.nv x50), .int .i64 (Ma.nv x89), .int .i64 0], blk g4 33 [.int .i64 0, .int .i64 0, .int .i64 0]] U111) := Lib.hid hS_
        clear S98
        clear hu_ hS_ hg110
        refine wpG_done (fun V113 hv114 => ?_)
        have S115 : Hid (St w F [blk g 73 [.string (bstr x90), .bool m91], blk g32 33 [.int .i64 (Ma.nv x50), .int .i64 (Ma.nv x89), .int .i64 0], blk g4 33 [.int .i64 0, .int .i64 0, .int .i64 0]] V113) := Lib.hid (S112.out.gr hv114)
        clear S112
        clear hv114
        refine ⟨rfl, hK _ _ ?_⟩
        clear hK
        go_upto_region 11 with fail
        refine wpG_region_k (fun K hK => ?_)
        refine @wpG_p _ _ _ _ _ (some 27) (.int .i64 2) _ _ rfl (by rfl) (fun W => by go_simp <;> rfl) ?_
        simp only [n1, n3, n4]
        refine @wpG_p _ _ _ _ _ (some 12) (.int .i64 2) _ _ rfl (by rfl) (fun _ => rfl) ?_
        simp only [n1, n3, n4]
        refine wpG_done (fun V116 hv117 => ?_)
        have S118 : Hid (St w F [blk g 73 [.string (bstr x90), .bool m91], blk g32 33 [.int .i64 (Ma.nv x50), .int .i64 (Ma.nv x89), .int .i64 0], blk g4 33 [.int .i64 0, .int .i64 0, .int .i64 0]] V116) := Lib.hid (S115.out.gr hv117)
        clear S115
        clear hv117
        refine ⟨rfl, hK _ _ ?_⟩
        clear hK
        go_wp2_with fail
        rw [rounds_succ]
        go_upto_region 5 with fail
        refine wpG_region_k (fun K hK => ?_)
        refine @wpG_p _ _ _ _ _ (some 13) (.bool true) _ _ rfl (by rfl) (fun W => by go_simp) ?_
        simp only [n1, n3, n4]
        refine wpG_done (fun V119 hv120 => ?_)
        have S121 : Hid (St w F [blk g 73 [.string (bstr x90), .bool m91], blk g32 33 [.int .i64 (Ma.nv x50), .int .i64 (Ma.nv x89), .int .i64 0], blk g4 33 [.int .i64 0, .int .i64 0, .int .i64 0]] V119) := Lib.hid (S118.out.gr hv120)
        clear S118
        clear hv120
        refine ⟨rfl, hK _ _ ?_⟩
        clear hK
        go_upto_region 6 with fail
        refine wpG_region_k (fun K hK => ?_)
        refine @wpG_p _ _ _ _ _ (some 14) (.int .i64 2) _ _ rfl (by rfl) (fun _ => rfl) ?_
        simp only [n1, n3, n4]
        refine @wpG_p _ _ _ _ _ (some 5) (.int .i64 2) _ _ rfl (by rfl) (fun _ => rfl) ?_
        simp only [n1, n3, n4]
        refine wpG_done (fun V122 hv123 => ?_)
        have S124 : Hid (St w F [blk g 73 [.string (bstr x90), .bool m91], blk g32 33 [.int .i64 (Ma.nv x50), .int .i64 (Ma.nv x89), .int .i64 0], blk g4 33 [.int .i64 0, .int .i64 0, .int .i64 0]] V122) := Lib.hid (S121.out.gr hv123)
        clear S121
        clear hv123
        refine ⟨rfl, hK _ _ ?_⟩
        clear hK
        go_upto_region 7 with fail
        refine wpG_region_k (fun K hK => ?_)
        refine @wpG_p _ _ _ _ _ (some 16) (.func (.func 51) #[.pointer (some ⟨g, 0, none⟩)] #[]) _ _ rfl (by rfl) (fun _ => rfl) ?_
        simp only [n1, n3, n4]
        refine wpG_call (some 17) 51 #[.pointer (some ⟨g, 0, none⟩)] rfl (by rfl) (fun W => by go_simp) (fun W125 hg126 => ?_)
        obtain ⟨fp_, hA_, hfp_, back_⟩ := St.lend (L := [blk g 73 [.string (bstr x90), .bool m91]]) (M := [blk g32 33 [.int .i64 (Ma.nv x50), .int .i64 (Ma.nv x89), .int .i64 0], blk g4 33 [.int .i64 0, .int .i64 0, .int .i64 0]]) ((S124.out.gr hg126).front 0 rfl)
        refine (word_any x90 m91 g fp_ W125 (by omega) hA_).mono ?_
        rintro e w127 ⟨rfl, hS_⟩
        refine ⟨_, rfl, ?_⟩
        have hT_ := back_ hS_
        obtain ⟨x128, hq_⟩ : ∃ q_, q_ = Ma.wd x90 := ⟨_, rfl⟩
        (try rw [← hq_] at hT_); (try rw [← hq_])
        have hlx128 : x128.length ≤ x90.length := by rw [hq_]; exact Ma.wd_le _
        have Hx128 := Lib.hid hq_
        clear hq_
        obtain ⟨x129, hq_⟩ : ∃ q_, q_ = Ma.nx x90 := ⟨_, rfl⟩
        (try rw [← hq_] at hT_); (try rw [← hq_])
        have hlx129 : x129.length ≤ x90.length := by rw [hq_]; exact Ma.nx_le _
        have Hx129 := Lib.hid hq_
        clear hq_
        obtain ⟨m130, hq_⟩ : ∃ q_, q_ = Ma.mo x90 := ⟨_, rfl⟩
        (try rw [← hq_] at hT_); (try rw [← hq_])
        have Hm130 := Lib.hid hq_
        clear hq_
        simp only [n1, n3, n4]
        have S131 : Hid (St w F [blk g 73 [.string (bstr x129), .bool m130], blk g32 33 [.int .i64 (Ma.nv x50), .int .i64 (Ma.nv x89), .int .i64 0], blk g4 33 [.int .i64 0, .int .i64 0, .int .i64 0]] w127) := Lib.hid hT_
        clear S124
        clear hT_ hS_ hg126 hA_ hfp_ back_
        refine @wpG_tk _ _ _ _ _ (some 18) (.tuple #[.int .i64 (Ma.nv x128), .bool ((Ma.num x128).isSome)]) _ _ rfl (.call (f := 63) (args := #[.string (bstr x128)]) (by rfl) (fun W => by go_simp) (fun W hg => pnum_any x128 W (HE.out.st (S131.out.gr hg) HF.out))) ?_
        simp only [n1, n3, n4]
        refine @wpG_p _ _ _ _ _ (some 15) (.tuple #[.int .i64 (Ma.nv x128), .bool ((Ma.num x128).isSome)]) _ _ rfl (by rfl) (fun _ => rfl) ?_
        simp only [n1, n3, n4]
        refine @wpG_p _ _ _ _ _ (some 19) (.int .i64 (Ma.nv x128)) _ _ rfl (by rfl) (fun W => by go_simp) ?_
        simp only [n1, n3, n4]
        refine @wpG_p _ _ _ _ _ (some 20) (.bool ((Ma.num x128).isSome)) _ _ rfl (by rfl) (fun W => by go_simp) ?_
        simp only [n1, n3, n4]
        refine @wpG_p _ _ _ _ _ (some 6) (.int .i64 (Ma.nv x128)) _ _ rfl (by rfl) (fun _ => rfl) ?_
        simp only [n1, n3, n4]
        refine @wpG_p _ _ _ _ _ (some 7) (.bool ((Ma.num x128).isSome)) _ _ rfl (by rfl) (fun _ => rfl) ?_
        simp only [n1, n3, n4]
        refine wpG_done (fun V132 hv133 => ?_)
        have S134 : Hid (St w F [blk g 73 [.string (bstr x129), .bool m130], blk g32 33 [.int .i64 (Ma.nv x50), .int .i64 (Ma.nv x89), .int .i64 0], blk g4 33 [.int .i64 0, .int .i64 0, .int .i64 0]] V132) := Lib.hid (S131.out.gr hv133)
        clear S131
        clear hv133
        refine ⟨rfl, hK _ _ ?_⟩
        clear hK
        go_upto_region 8 with fail
        refine wpG_region_k (fun K hK => ?_)
        refine @wpG_p _ _ _ _ _ (some 21) (.bool ((Ma.num x128).isSome)) _ _ rfl (by rfl) (fun _ => rfl) ?_
        simp only [n1, n3, n4]
        refine @wpG_p _ _ _ _ _ (some 22) (.bool (!((Ma.num x128).isSome))) _ _ rfl (by rfl) (fun W => by go_simp) ?_
        simp only [n1, n3, n4]
        refine wpG_done (fun V135 hv136 => ?_)
        have S137 : Hid (St w F [blk g 73 [.string (bstr x129), .bool m130], blk g32 33 [.int .i64 (Ma.nv x50), .int .i64 (Ma.nv x89), .int .i64 0], blk g4 33 [.int .i64 0, .int .i64 0, .int .i64 0]] V135) := Lib.hid (S134.out.gr hv136)
        clear S134
        clear hv136
        refine ⟨rfl, hK _ _ ?_⟩
        clear hK
        obtain ⟨c138, hc138⟩ : ∃ q_, q_ = (!((Ma.num x128).isSome)) := ⟨_, rfl⟩
        rw [← hc138]
        have Hc138 := Lib.hid hc138
        clear hc138
        cases c138 with
        | true =>
          have f139 := Lib.hid ((bnt Hc138.out))
          go_upto_region 9 with fail
          refine wpG_region_k (fun K hK => ?_)
          refine @wpG_p _ _ _ _ _ (some 23) (.agg #[.int .i64 0, .int .i64 0, .int .i64 0]) _ _ rfl (by rfl) (fun W => by go_simp) ?_
          simp only [n1, n3, n4]
          refine wpG_store (none) rfl (by rfl) (fun W140 hg141 => ⟨_, run_store_mid 33 (.tmp 2) (.tmp 23) rfl g4 0 #[.int .i64 0, .int .i64 0, .int .i64 0] rfl rfl ((S137.out.gr hg141).room 2 rfl 0 3 (by simp)) (by kernel_rfl) (by kernel_rfl), ?_⟩)
          simp only [n2]
          obtain ⟨U142, hu_, hS_⟩ := ((S137.out.gr hg141).put 2 rfl 0 (#[.int .i64 0, .int .i64 0, .int .i64 0] : Array Value).toList (ds := [.int .i64 0, .int .i64 0, .int .i64 0]) rfl).named
          rw [← hu_]
          have S143 : Hid (St w F [blk g 73 [.string (bstr x129), .bool m130], blk g32 33 [.int .i64 (Ma.nv x50), .int .i64 (Ma.nv x89), .int .i64 0], blk g4 33 [.int .i64 0, .int .i64 0, .int .i64 0]] U142) := Lib.hid hS_
          clear S137
          clear hu_ hS_ hg141
          refine @wpG_p _ _ _ _ _ (some 3) (.bool false) _ _ rfl (by rfl) (fun _ => rfl) ?_
          simp only [n1, n3, n4]
          refine wpG_done (fun V144 hv145 => ?_)
          have S146 : Hid (St w F [blk g 73 [.string (bstr x129), .bool m130], blk g32 33 [.int .i64 (Ma.nv x50), .int .i64 (Ma.nv x89), .int .i64 0], blk g4 33 [.int .i64 0, .int .i64 0, .int .i64 0]] V144) := Lib.hid (S143.out.gr hv145)
          clear S143
          clear hv145
          refine ⟨rfl, hK _ _ ?_⟩
          clear hK
          go_wp2_with fail
          (try simp only [Exit.inBlock, Exit.then])
          refine bodyPost_ret (results_cell_tmp rfl _ _ _ g4 0 [.int .i64 0, .int .i64 0, .int .i64 0] _ rfl (S146.out.range 2 rfl 0 3 rfl) Tryd.underlying33 rfl (by kernel_rfl)) rfl ?_
          have hS_ := S146.out.sub (.cons_cons _ (.cons _ (.cons _ .slnil)))
          clear S146
          (obtain rfl := Hx13.out; obtain rfl := Hx14.out; obtain rfl := Hx50.out; obtain rfl := Hx51.out; obtain rfl := Hx89.out; obtain rfl := Hx90.out; obtain rfl := Hx128.out; obtain rfl := Hx129.out; obtain rfl := Hm15.out; obtain rfl := Hm52.out; obtain rfl := Hm91.out; obtain rfl := Hm130.out; have e_f29 := f29.out; have e_f69 := f69.out; have e_f108 := f108.out; have e_f139 := f139.out; rw [Ma.emitR_4 e_f29 e_f69 e_f108 e_f139]; exact ⟨rfl, hS_⟩)
        | false =>
          have f147 := Lib.hid ((bnf Hc138.out))
          go_upto_region 10 with fail
          refine wpG_region_k (fun K hK => ?_)
          refine @wpG_p _ _ _ _ _ (some 24) (.int .i64 2) _ _ rfl (by rfl) (fun _ => rfl) ?_
          simp only [n1, n3, n4]
          refine @wpG_p _ _ _ _ _ (some 25) (.int .i64 (Ma.nv x128)) _ _ rfl (by rfl) (fun _ => rfl) ?_
          simp only [n1, n3, n4]
          refine @wpG_p _ _ _ _ _ (some 26) (.pointer (some ⟨g32, 2, none⟩)) _ _ rfl (by rfl) (fun W => by (go_simp <;> first | rfl | omega)) ?_
          simp only [n1, n3, n4]
          refine wpG_store (none) rfl (by rfl) (fun W148 hg149 => ⟨W148.setCell ⟨g32, 2, none⟩ (.int .i64 (Ma.nv x128)), by have c := (S137.out.gr hg149).cell 1 rfl 2 rfl; have c2 := (S137.out.gr hg149).soft 1 rfl 2 rfl; go_simp, ?_⟩)
          simp only [n2]
          obtain ⟨U150, hu_, hS_⟩ := ((S137.out.gr hg149).put1 1 rfl 2 (.int .i64 (Ma.nv x128))).named
          rw [← hu_]
          have S151 : Hid (St w F [blk g 73 [.string (bstr x129), .bool m130], blk g32 33 [.int .i64 (Ma.nv x50), .int .i64 (Ma.nv x89), .int .i64 (Ma.nv x128)], blk g4 33 [.int .i64 0, .int .i64 0, .int .i64 0]] U150) := Lib.hid hS_
          clear S137
          clear hu_ hS_ hg149
          refine wpG_done (fun V152 hv153 => ?_)
          have S154 : Hid (St w F [blk g 73 [.string (bstr x129), .bool m130], blk g32 33 [.int .i64 (Ma.nv x50), .int .i64 (Ma.nv x89), .int .i64 (Ma.nv x128)], blk g4 33 [.int .i64 0, .int .i64 0, .int .i64 0]] V152) := Lib.hid (S151.out.gr hv153)
          clear S151
          clear hv153
          refine ⟨rfl, hK _ _ ?_⟩
          clear hK
          go_upto_region 11 with fail
          refine wpG_region_k (fun K hK => ?_)
          refine @wpG_p _ _ _ _ _ (some 27) (.int .i64 3) _ _ rfl (by rfl) (fun W => by go_simp <;> rfl) ?_
          simp only [n1, n3, n4]
          refine @wpG_p _ _ _ _ _ (some 12) (.int .i64 3) _ _ rfl (by rfl) (fun _ => rfl) ?_
          simp only [n1, n3, n4]
          refine wpG_done (fun V155 hv156 => ?_)
          have S157 : Hid (St w F [blk g 73 [.string (bstr x129), .bool m130], blk g32 33 [.int .i64 (Ma.nv x50), .int .i64 (Ma.nv x89), .int .i64 (Ma.nv x128)], blk g4 33 [.int .i64 0, .int .i64 0, .int .i64 0]] V155) := Lib.hid (S154.out.gr hv156)
          clear S154
          clear hv156
          refine ⟨rfl, hK _ _ ?_⟩
          clear hK
          go_wp2_with fail
          rw [rounds_succ]
          go_upto_region 5 with fail
          refine wpG_region_k (fun K hK => ?_)
          refine @wpG_p _ _ _ _ _ (some 13) (.bool false) _ _ rfl (by rfl) (fun W => by go_simp) ?_
          simp only [n1, n3, n4]
          refine wpG_done (fun V158 hv159 => ?_)
          have S160 : Hid (St w F [blk g 73 [.string (bstr x129), .bool m130], blk g32 33 [.int .i64 (Ma.nv x50), .int .i64 (Ma.nv x89), .int .i64 (Ma.nv x128)], blk g4 33 [.int .i64 0, .int .i64 0, .int .i64 0]] V158) := Lib.hid (S157.out.gr hv159)
          clear S157
          clear hv159
          refine ⟨rfl, hK _ _ ?_⟩
          clear hK
          go_upto_region 12 with fail
          refine wpK_region_k (by kernel_rfl) (fun K hK => ?_)
          refine wpK_tk (i := 0) (some 28) (v := .agg #[.int .i64 (Ma.nv x50), .int .i64 (Ma.nv x89), .int .i64 (Ma.nv x128)]) rfl rfl (by kernel_rfl) (fun _ _ _ h => onN_panic h) (.load_mid (by rfl) 33 (.tmp 4) rfl g32 0 rfl [.int .i64 (Ma.nv x50), .int .i64 (Ma.nv x89), .int .i64 (Ma.nv x128)] _ (fun W hg => (S160.out.gr (Gr.un hg)).range 1 rfl 0 3 rfl) Tryd.underlying33 rfl (by kernel_rfl)) ?_
          simp only [n1, n3, n4]
          refine wpK_tk (i := 1) (some 29) (v := .agg #[.int .i64 (Ma.nv x50), .int .i64 (Ma.nv x89), .int .i64 (Ma.nv x128)]) rfl rfl (by kernel_rfl) (fun _ _ _ h => onN_panic h) (.load_mid (by rfl) 33 (.tmp 4) rfl g32 0 rfl [.int .i64 (Ma.nv x50), .int .i64 (Ma.nv x89), .int .i64 (Ma.nv x128)] _ (fun W hg => (S160.out.gr (Gr.un hg)).range 1 rfl 0 3 rfl) Tryd.underlying33 rfl (by kernel_rfl)) ?_
          simp only [n1, n3, n4]
          refine wpK_tk (i := 2) (some 30) (v := .bool (!decide ((Ma.nv x50) = 0 ∧ (Ma.nv x89) = 0 ∧ (Ma.nv x128) = 0))) rfl rfl (by kernel_rfl) (fun _ _ _ h => onN_panic h) (.call (f := 47) (args := #[.agg #[.int .i64 (Ma.nv x50), .int .i64 (Ma.nv x89), .int .i64 (Ma.nv x128)]]) (by rfl) (fun W => by go_simp) (fun W hg => emits_any (Ma.nv x50) (Ma.nv x89) (Ma.nv x128) W)) ?_
          simp only [n1, n3, n4]
          refine wpK_store (i := 3) (none) rfl rfl (by kernel_rfl) (by rfl) (by rfl) (fun W161 hg162 => ⟨_, run_store_mid 33 (.tmp 2) (.tmp 28) rfl g4 0 #[.int .i64 (Ma.nv x50), .int .i64 (Ma.nv x89), .int .i64 (Ma.nv x128)] rfl rfl ((S160.out.gr (Gr.un hg162)).room 2 rfl 0 3 (by simp)) (by kernel_rfl) (by kernel_rfl), ?_⟩)
          simp only [n2]
          obtain ⟨U163, hu_, hS_⟩ := ((S160.out.gr (Gr.un hg162)).put 2 rfl 0 (#[.int .i64 (Ma.nv x50), .int .i64 (Ma.nv x89), .int .i64 (Ma.nv x128)] : Array Value).toList (ds := [.int .i64 (Ma.nv x50), .int .i64 (Ma.nv x89), .int .i64 (Ma.nv x128)]) rfl).named
          rw [← hu_]
          have S164 : Hid (St w F [blk g 73 [.string (bstr x129), .bool m130], blk g32 33 [.int .i64 (Ma.nv x50), .int .i64 (Ma.nv x89), .int .i64 (Ma.nv x128)], blk g4 33 [.int .i64 (Ma.nv x50), .int .i64 (Ma.nv x89), .int .i64 (Ma.nv x128)]] U163) := Lib.hid hS_
          clear S160
          clear hu_ hS_ hg162
          refine wpK_ta (i := 4) (some 3) (v := .bool (!decide ((Ma.nv x50) = 0 ∧ (Ma.nv x89) = 0 ∧ (Ma.nv x128) = 0))) rfl rfl (by kernel_rfl) (fun _ _ _ h => onN_panic h) (Or.inl ⟨rfl, fun _ => rfl⟩) ?_
          simp only [n1, n3, n4]
          refine wpK_done (by kernel_rfl) (fun V165 hv166 => ?_) _
          have S167 : Hid (St w F [blk g 73 [.string (bstr x129), .bool m130], blk g32 33 [.int .i64 (Ma.nv x50), .int .i64 (Ma.nv x89), .int .i64 (Ma.nv x128)], blk g4 33 [.int .i64 (Ma.nv x50), .int .i64 (Ma.nv x89), .int .i64 (Ma.nv x128)]] V165) := Lib.hid (S164.out.gr hv166)
          clear S164
          clear hv166
          refine ⟨rfl, hK _ _ ?_⟩
          clear hK
          go_wp2_with fail
          (try simp only [Exit.inBlock, Exit.then])
          refine bodyPost_ret (results_cell_tmp rfl _ _ _ g4 0 [.int .i64 (Ma.nv x50), .int .i64 (Ma.nv x89), .int .i64 (Ma.nv x128)] _ rfl (S167.out.range 2 rfl 0 3 rfl) Tryd.underlying33 rfl (by kernel_rfl)) rfl ?_
          have hS_ := S167.out.sub (.cons_cons _ (.cons _ (.cons _ .slnil)))
          clear S167
          (obtain rfl := Hx13.out; obtain rfl := Hx14.out; obtain rfl := Hx50.out; obtain rfl := Hx51.out; obtain rfl := Hx89.out; obtain rfl := Hx90.out; obtain rfl := Hx128.out; obtain rfl := Hx129.out; obtain rfl := Hm15.out; obtain rfl := Hm52.out; obtain rfl := Hm91.out; obtain rfl := Hm130.out; have e_f29 := f29.out; have e_f69 := f69.out; have e_f108 := f108.out; have e_f147 := f147.out; rw [Ma.emitR_5 e_f29 e_f69 e_f108 e_f147]; exact ⟨rfl, hS_⟩)

end Go.Proofs.YtpjjddjoegnipaaDoor
