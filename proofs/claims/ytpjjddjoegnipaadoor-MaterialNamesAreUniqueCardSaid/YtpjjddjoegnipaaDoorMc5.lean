/-
  Contracts: what a cell is.
-/
import Derived.Test.YtpjjddjoegnipaaDoorMc3
import Derived.Handy
namespace Go.Proofs.YtpjjddjoegnipaaDoor
open Go Go.RowKit
set_option linter.unusedVariables false
set_option linter.unusedSimpArgs false
set_option maxRecDepth 1000000 in
set_option maxHeartbeats 4000000 in
theorem of_any (A : Option Addr) (n c : Nat) (ms : List Ma.Mt) (k : Int) (w : World) (hT : Tbl w A n c ms) :
    Calls Tryd.prog 38 #[.slice A n c, .int .i64 k] w fun e w' => e = .returned (.agg #[.string (bstr ((Ma.mat_of ms k).n)), .bool ((Ma.mat_of ms k).s), .bool ((Ma.mat_of ms k).l), .bool ((Ma.mat_of ms k).f), .int .i64 ((Ma.mat_of ms k).fd), .int .i64 ((Ma.mat_of ms k).a), .int .i64 ((Ma.mat_of ms k).b), .int .i64 ((Ma.mat_of ms k).c)]) ∧ Below w.heap.size w w' := by
  have HTA := Lib.hid hT
  have HLEN := Lib.hid hT.len
  have hnb : n ≤ 9223372036854775807 := Nat.le_trans hT.cap hT.bnd
  clear hT
  have S1 : Hid (St w noB [] w) := Lib.hid (St.start w)
  go_enter Tryd.func38, Tryd.ntmps38
  go_upto_region 0 with fail
  refine wpG_region_k (fun K hK => ?_)
  refine wpG_val (some 4) rfl (by rfl) (fun W2 hg3 => ⟨.pointer (some ⟨W2.heap.size, 0, none⟩), W2.alloc (.cells #[.string ⟨#[]⟩, .bool false, .bool false, .bool false, .int .i64 0, .int .i64 0, .int .i64 0, .int .i64 0] 35), by (first | (go_simp; done) | (go_simp <;> rfl)), ?_⟩)
  simp only [n1, n3, n4]
  obtain ⟨g4, U5, hg_, hu_, hS_⟩ := (S1.out.gr hg3).made [.string ⟨#[]⟩, .bool false, .bool false, .bool false, .int .i64 0, .int .i64 0, .int .i64 0, .int .i64 0] 35
  rw [← hu_, ← hg_]
  have S6 : Hid (St w noB [blk g4 35 [.string ⟨#[]⟩, .bool false, .bool false, .bool false, .int .i64 0, .int .i64 0, .int .i64 0, .int .i64 0]] U5) := Lib.hid hS_
  clear S1
  clear hg_ hu_ hS_ hg3
  refine wpG_done (fun V7 hv8 => ?_)
  have S9 : Hid (St w noB [blk g4 35 [.string ⟨#[]⟩, .bool false, .bool false, .bool false, .int .i64 0, .int .i64 0, .int .i64 0, .int .i64 0]] V7) := Lib.hid (S6.out.gr hv8)
  clear S6
  clear hv8
  refine ⟨rfl, hK _ _ ?_⟩
  clear hK
  go_upto_region 1 with fail
  refine wpG_region_k (fun K hK => ?_)
  refine @wpG_p _ _ _ _ _ (some 5) (.int .i64 k) _ _ rfl (by rfl) (fun _ => rfl) ?_
  simp only [n1, n3, n4]
  refine @wpG_p _ _ _ _ _ (some 6) (.bool (decide (k < 0))) _ _ rfl (by rfl) (fun W => op_int_lss W k 0 rfl rfl rfl Tryd.underlying3) ?_
  simp only [n1, n3, n4]
  refine @wpG_p _ _ _ _ _ (some 7) (.bool (decide (k < 0))) _ _ rfl (by rfl) (fun _ => rfl) ?_
  simp only [n1, n3, n4]
  obtain ⟨c10, hc10⟩ : ∃ q_, q_ = (decide (k < 0)) := ⟨_, rfl⟩
  rw [← hc10]
  have Hc10 := Lib.hid hc10
  clear hc10
  cases c10 with
  | true =>
    have f11 := of_decide_eq_true Hc10.out.symm
    refine @wpG_no _ _ _ _ _ (some 8) _ _ rfl (by rfl) ?_
    simp only [n1, n3, n4]
    refine @wpG_no _ _ _ _ _ (some 9) _ _ rfl (by rfl) ?_
    simp only [n1, n3, n4]
    refine @wpG_no _ _ _ _ _ (some 10) _ _ rfl (by rfl) ?_
    simp only [n1, n3, n4]
    refine @wpG_no _ _ _ _ _ (some 11) _ _ rfl (by rfl) ?_
    simp only [n1, n3, n4]
    refine @wpG_p _ _ _ _ _ (some 12) (.bool true) _ _ rfl (by rfl) (fun W => by go_simp) ?_
    simp only [n1, n3, n4]
    refine wpG_done (fun V12 hv13 => ?_)
    have S14 : Hid (St w noB [blk g4 35 [.string ⟨#[]⟩, .bool false, .bool false, .bool false, .int .i64 0, .int .i64 0, .int .i64 0, .int .i64 0]] V12) := Lib.hid (S9.out.gr hv13)
    clear S9
    clear hv13
    refine ⟨rfl, hK _ _ ?_⟩
    clear hK
    go_upto_region 2 with fail
    refine wpG_region_k (fun K hK => ?_)
    refine @wpG_p _ _ _ _ _ (some 13) (.agg #[.string ⟨#[]⟩, .bool false, .bool false, .bool false, .int .i64 16, .int .i64 0, .int .i64 0, .int .i64 0]) _ _ rfl (by rfl) (fun W => by go_simp) ?_
    simp only [n1, n3, n4]
    refine wpG_store (none) rfl (by rfl) (fun W15 hg16 => ⟨_, run_store_mid 35 (.tmp 4) (.tmp 13) rfl g4 0 #[.string ⟨#[]⟩, .bool false, .bool false, .bool false, .int .i64 16, .int .i64 0, .int .i64 0, .int .i64 0] rfl rfl ((S14.out.gr hg16).room 0 rfl 0 8 (by simp)) (by kernel_rfl) (by kernel_rfl), ?_⟩)
    simp only [n2]
    obtain ⟨U17, hu_, hS_⟩ := ((S14.out.gr hg16).put 0 rfl 0 (#[.string ⟨#[]⟩, .bool false, .bool false, .bool false, .int .i64 16, .int .i64 0, .int .i64 0, .int .i64 0] : Array Value).toList (ds := [.string ⟨#[]⟩, .bool false, .bool false, .bool false, .int .i64 16, .int .i64 0, .int .i64 0, .int .i64 0]) rfl).named
    rw [← hu_]
    have S18 : Hid (St w noB [blk g4 35 [.string ⟨#[]⟩, .bool false, .bool false, .bool false, .int .i64 16, .int .i64 0, .int .i64 0, .int .i64 0]] U17) := Lib.hid hS_
    clear S14
    clear hu_ hS_ hg16
    refine wpG_done (fun V19 hv20 => ?_)
    have S21 : Hid (St w noB [blk g4 35 [.string ⟨#[]⟩, .bool false, .bool false, .bool false, .int .i64 16, .int .i64 0, .int .i64 0, .int .i64 0]] V19) := Lib.hid (S18.out.gr hv20)
    clear S18
    clear hv20
    refine ⟨rfl, hK _ _ ?_⟩
    clear hK
    go_wp2_with fail
    (try simp only [Exit.inBlock, Exit.then])
    refine bodyPost_ret (results_cell_mid rfl _ _ _ g4 0 [.string ⟨#[]⟩, .bool false, .bool false, .bool false, .int .i64 16, .int .i64 0, .int .i64 0, .int .i64 0] _ rfl (S21.out.range 0 rfl 0 8 rfl) Tryd.underlying35 rfl (by kernel_rfl)) rfl ?_
    refine ⟨?_, S21.out.bel⟩
    show Ending.returned (.agg #[.string ⟨#[]⟩, .bool false, .bool false, .bool false, .int .i64 16, .int .i64 0, .int .i64 0, .int .i64 0]) = _
    (first | rfl | (first | (rw [Ma.mat_out (by have := HLEN.out; omega)]; rfl) | (rw [Ma.mat_in (by omega) (by have := HLEN.out; omega)]; rfl)))
  | false =>
    have f22 := of_decide_eq_false Hc10.out.symm
    refine @wpG_p _ _ _ _ _ (some 8) (.int .i64 k) _ _ rfl (by rfl) (fun _ => rfl) ?_
    simp only [n1, n3, n4]
    refine @wpG_p _ _ _ _ _ (some 9) (.slice A n c) _ _ rfl (by rfl) (fun _ => rfl) ?_
    simp only [n1, n3, n4]
    refine @wpG_p _ _ _ _ _ (some 10) (.int .i64 (n : Int)) _ _ rfl (by rfl) (fun W => by go_simp) ?_
    simp only [n1, n3, n4]
    refine @wpG_p _ _ _ _ _ (some 11) (.bool (decide (k ≥ (n : Int)))) _ _ rfl (by rfl) (fun W => op_int_geq W k (n : Int) rfl rfl rfl Tryd.underlying3) ?_
    simp only [n1, n3, n4]
    refine @wpG_p _ _ _ _ _ (some 12) (.bool (decide (k ≥ (n : Int)))) _ _ rfl (by rfl) (fun W => by go_simp) ?_
    simp only [n1, n3, n4]
    refine wpG_done (fun V23 hv24 => ?_)
    have S25 : Hid (St w noB [blk g4 35 [.string ⟨#[]⟩, .bool false, .bool false, .bool false, .int .i64 0, .int .i64 0, .int .i64 0, .int .i64 0]] V23) := Lib.hid (S9.out.gr hv24)
    clear S9
    clear hv24
    refine ⟨rfl, hK _ _ ?_⟩
    clear hK
    obtain ⟨c26, hc26⟩ : ∃ q_, q_ = (decide (k ≥ (n : Int))) := ⟨_, rfl⟩
    rw [← hc26]
    have Hc26 := Lib.hid hc26
    clear hc26
    cases c26 with
    | true =>
      have f27 := of_decide_eq_true Hc26.out.symm
      go_upto_region 2 with fail
      refine wpG_region_k (fun K hK => ?_)
      refine @wpG_p _ _ _ _ _ (some 13) (.agg #[.string ⟨#[]⟩, .bool false, .bool false, .bool false, .int .i64 16, .int .i64 0, .int .i64 0, .int .i64 0]) _ _ rfl (by rfl) (fun W => by go_simp) ?_
      simp only [n1, n3, n4]
      refine wpG_store (none) rfl (by rfl) (fun W28 hg29 => ⟨_, run_store_mid 35 (.tmp 4) (.tmp 13) rfl g4 0 #[.string ⟨#[]⟩, .bool false, .bool false, .bool false, .int .i64 16, .int .i64 0, .int .i64 0, .int .i64 0] rfl rfl ((S25.out.gr hg29).room 0 rfl 0 8 (by simp)) (by kernel_rfl) (by kernel_rfl), ?_⟩)
      simp only [n2]
      obtain ⟨U30, hu_, hS_⟩ := ((S25.out.gr hg29).put 0 rfl 0 (#[.string ⟨#[]⟩, .bool false, .bool false, .bool false, .int .i64 16, .int .i64 0, .int .i64 0, .int .i64 0] : Array Value).toList (ds := [.string ⟨#[]⟩, .bool false, .bool false, .bool false, .int .i64 16, .int .i64 0, .int .i64 0, .int .i64 0]) rfl).named
      rw [← hu_]
      have S31 : Hid (St w noB [blk g4 35 [.string ⟨#[]⟩, .bool false, .bool false, .bool false, .int .i64 16, .int .i64 0, .int .i64 0, .int .i64 0]] U30) := Lib.hid hS_
      clear S25
      clear hu_ hS_ hg29
      refine wpG_done (fun V32 hv33 => ?_)
      have S34 : Hid (St w noB [blk g4 35 [.string ⟨#[]⟩, .bool false, .bool false, .bool false, .int .i64 16, .int .i64 0, .int .i64 0, .int .i64 0]] V32) := Lib.hid (S31.out.gr hv33)
      clear S31
      clear hv33
      refine ⟨rfl, hK _ _ ?_⟩
      clear hK
      go_wp2_with fail
      (try simp only [Exit.inBlock, Exit.then])
      refine bodyPost_ret (results_cell_mid rfl _ _ _ g4 0 [.string ⟨#[]⟩, .bool false, .bool false, .bool false, .int .i64 16, .int .i64 0, .int .i64 0, .int .i64 0] _ rfl (S34.out.range 0 rfl 0 8 rfl) Tryd.underlying35 rfl (by kernel_rfl)) rfl ?_
      refine ⟨?_, S34.out.bel⟩
      show Ending.returned (.agg #[.string ⟨#[]⟩, .bool false, .bool false, .bool false, .int .i64 16, .int .i64 0, .int .i64 0, .int .i64 0]) = _
      (first | rfl | (first | (rw [Ma.mat_out (by have := HLEN.out; omega)]; rfl) | (rw [Ma.mat_in (by omega) (by have := HLEN.out; omega)]; rfl)))
    | false =>
      have f35 := of_decide_eq_false Hc26.out.symm
      go_upto_region 3 with fail
      refine wpG_region_k (fun K hK => ?_)
      refine @wpG_p _ _ _ _ _ (some 14) (.slice A n c) _ _ rfl (by rfl) (fun _ => rfl) ?_
      simp only [n1, n3, n4]
      refine @wpG_p _ _ _ _ _ (some 15) (.int .i64 k) _ _ rfl (by rfl) (fun _ => rfl) ?_
      simp only [n1, n3, n4]
      obtain ⟨q36, rfl⟩ : ∃ q_ : Nat, k = (q_ : Int) := ⟨k.toNat, by omega⟩
      obtain ⟨b37, o37, rfl⟩ := HTA.out.addr (by omega)
      refine @wpG_p _ _ _ _ _ (some 16) (.pointer (some ⟨b37, o37 + q36 * 8, none⟩)) _ _ rfl (by rfl) (fun W => by (go_simp <;> first | rfl | omega | (simp; omega))) ?_
      simp only [n1, n3, n4]
      refine @wpG_tk _ _ _ _ _ (some 17) (.agg #[.string (bstr ((Ma.tat ms q36).n)), .bool ((Ma.tat ms q36).s), .bool ((Ma.tat ms q36).l), .bool ((Ma.tat ms q36).f), .int .i64 ((Ma.tat ms q36).fd), .int .i64 ((Ma.tat ms q36).a), .int .i64 ((Ma.tat ms q36).b), .int .i64 ((Ma.tat ms q36).c)]) _ _ rfl (.load_mid (by rfl) 35 (.tmp 16) rfl b37 (o37 + q36 * 8) rfl [.string (bstr ((Ma.tat ms q36).n)), .bool ((Ma.tat ms q36).s), .bool ((Ma.tat ms q36).l), .bool ((Ma.tat ms q36).f), .int .i64 ((Ma.tat ms q36).fd), .int .i64 ((Ma.tat ms q36).a), .int .i64 ((Ma.tat ms q36).b), .int .i64 ((Ma.tat ms q36).c)] _ (fun W hg => ((HTA.out.gr ((S25.out.gr hg)).bel).elem (HTA.out.get (k := q36) (by omega)))) Tryd.underlying35 rfl (by kernel_rfl)) ?_
      simp only [n1, n3, n4]
      refine wpG_store (none) rfl (by rfl) (fun W38 hg39 => ⟨_, run_store_mid 35 (.tmp 4) (.tmp 17) rfl g4 0 #[.string (bstr ((Ma.tat ms q36).n)), .bool ((Ma.tat ms q36).s), .bool ((Ma.tat ms q36).l), .bool ((Ma.tat ms q36).f), .int .i64 ((Ma.tat ms q36).fd), .int .i64 ((Ma.tat ms q36).a), .int .i64 ((Ma.tat ms q36).b), .int .i64 ((Ma.tat ms q36).c)] rfl rfl ((S25.out.gr hg39).room 0 rfl 0 8 (by simp)) (by kernel_rfl) (by kernel_rfl), ?_⟩)
      simp only [n2]
      obtain ⟨U40, hu_, hS_⟩ := ((S25.out.gr hg39).put 0 rfl 0 (#[.string (bstr ((Ma.tat ms q36).n)), .bool ((Ma.tat ms q36).s), .bool ((Ma.tat ms q36).l), .bool ((Ma.tat ms q36).f), .int .i64 ((Ma.tat ms q36).fd), .int .i64 ((Ma.tat ms q36).a), .int .i64 ((Ma.tat ms q36).b), .int .i64 ((Ma.tat ms q36).c)] : Array Value).toList (ds := [.string (bstr ((Ma.tat ms q36).n)), .bool ((Ma.tat ms q36).s), .bool ((Ma.tat ms q36).l), .bool ((Ma.tat ms q36).f), .int .i64 ((Ma.tat ms q36).fd), .int .i64 ((Ma.tat ms q36).a), .int .i64 ((Ma.tat ms q36).b), .int .i64 ((Ma.tat ms q36).c)]) rfl).named
      rw [← hu_]
      have S41 : Hid (St w noB [blk g4 35 [.string (bstr ((Ma.tat ms q36).n)), .bool ((Ma.tat ms q36).s), .bool ((Ma.tat ms q36).l), .bool ((Ma.tat ms q36).f), .int .i64 ((Ma.tat ms q36).fd), .int .i64 ((Ma.tat ms q36).a), .int .i64 ((Ma.tat ms q36).b), .int .i64 ((Ma.tat ms q36).c)]] U40) := Lib.hid hS_
      clear S25
      clear hu_ hS_ hg39
      refine wpG_done (fun V42 hv43 => ?_)
      have S44 : Hid (St w noB [blk g4 35 [.string (bstr ((Ma.tat ms q36).n)), .bool ((Ma.tat ms q36).s), .bool ((Ma.tat ms q36).l), .bool ((Ma.tat ms q36).f), .int .i64 ((Ma.tat ms q36).fd), .int .i64 ((Ma.tat ms q36).a), .int .i64 ((Ma.tat ms q36).b), .int .i64 ((Ma.tat ms q36).c)]] V42) := Lib.hid (S41.out.gr hv43)
      clear S41
      clear hv43
      refine ⟨rfl, hK _ _ ?_⟩
      clear hK
      go_wp2_with fail
      (try simp only [Exit.inBlock, Exit.then])
      refine bodyPost_ret (results_cell_mid rfl _ _ _ g4 0 [.string (bstr ((Ma.tat ms q36).n)), .bool ((Ma.tat ms q36).s), .bool ((Ma.tat ms q36).l), .bool ((Ma.tat ms q36).f), .int .i64 ((Ma.tat ms q36).fd), .int .i64 ((Ma.tat ms q36).a), .int .i64 ((Ma.tat ms q36).b), .int .i64 ((Ma.tat ms q36).c)] _ rfl (S44.out.range 0 rfl 0 8 rfl) Tryd.underlying35 rfl (by kernel_rfl)) rfl ?_
      refine ⟨?_, S44.out.bel⟩
      show Ending.returned (.agg #[.string (bstr ((Ma.tat ms q36).n)), .bool ((Ma.tat ms q36).s), .bool ((Ma.tat ms q36).l), .bool ((Ma.tat ms q36).f), .int .i64 ((Ma.tat ms q36).fd), .int .i64 ((Ma.tat ms q36).a), .int .i64 ((Ma.tat ms q36).b), .int .i64 ((Ma.tat ms q36).c)]) = _
      (first | rfl | (first | (rw [Ma.mat_out (by have := HLEN.out; omega)]; rfl) | (rw [Ma.mat_in (by omega) (by have := HLEN.out; omega)]; rfl)))
set_option maxRecDepth 1000000 in
set_option maxHeartbeats 4000000 in
theorem at_any (A : Option Addr) (n c : Nat) (ms : List Ma.Mt) (k : Int) (w : World) (hT : Tbl w A n c ms) :
    Calls Tryd.prog 19 #[.slice A n c, .int .i64 k] w fun e w' => e = .returned (.agg #[.string (bstr ((Ma.mat_of ms k).n)), .bool ((Ma.mat_of ms k).s), .bool ((Ma.mat_of ms k).l), .bool ((Ma.mat_of ms k).f), .int .i64 ((Ma.mat_of ms k).fd), .int .i64 ((Ma.mat_of ms k).a), .int .i64 ((Ma.mat_of ms k).b), .int .i64 ((Ma.mat_of ms k).c)]) ∧ Below w.heap.size w w' := by
  have HTA := Lib.hid hT
  have HLEN := Lib.hid hT.len
  have hnb : n ≤ 9223372036854775807 := Nat.le_trans hT.cap hT.bnd
  clear hT
  have S1 : Hid (St w noB [] w) := Lib.hid (St.start w)
  go_enter Tryd.func19, Tryd.ntmps19
  go_upto_region 0 with fail
  refine wpG_region_k (fun K hK => ?_)
  refine wpG_val (some 4) rfl (by rfl) (fun W2 hg3 => ⟨.pointer (some ⟨W2.heap.size, 0, none⟩), W2.alloc (.cells #[.string ⟨#[]⟩, .bool false, .bool false, .bool false, .int .i64 0, .int .i64 0, .int .i64 0, .int .i64 0] 35), by (first | (go_simp; done) | (go_simp <;> rfl)), ?_⟩)
  simp only [n1, n3, n4]
  obtain ⟨g4, U5, hg_, hu_, hS_⟩ := (S1.out.gr hg3).made [.string ⟨#[]⟩, .bool false, .bool false, .bool false, .int .i64 0, .int .i64 0, .int .i64 0, .int .i64 0] 35
  rw [← hu_, ← hg_]
  have S6 : Hid (St w noB [blk g4 35 [.string ⟨#[]⟩, .bool false, .bool false, .bool false, .int .i64 0, .int .i64 0, .int .i64 0, .int .i64 0]] U5) := Lib.hid hS_
  clear S1
  clear hg_ hu_ hS_ hg3
  refine wpG_done (fun V7 hv8 => ?_)
  have S9 : Hid (St w noB [blk g4 35 [.string ⟨#[]⟩, .bool false, .bool false, .bool false, .int .i64 0, .int .i64 0, .int .i64 0, .int .i64 0]] V7) := Lib.hid (S6.out.gr hv8)
  clear S6
  clear hv8
  refine ⟨rfl, hK _ _ ?_⟩
  clear hK
  go_upto_region 1 with fail
  refine wpG_region_k (fun K hK => ?_)
  refine @wpG_p _ _ _ _ _ (some 5) (.int .i64 k) _ _ rfl (by rfl) (fun _ => rfl) ?_
  simp only [n1, n3, n4]
  refine @wpG_p _ _ _ _ _ (some 6) (.bool (decide (k < 0))) _ _ rfl (by rfl) (fun W => op_int_lss W k 0 rfl rfl rfl Tryd.underlying3) ?_
  simp only [n1, n3, n4]
  refine @wpG_p _ _ _ _ _ (some 7) (.bool (decide (k < 0))) _ _ rfl (by rfl) (fun _ => rfl) ?_
  simp only [n1, n3, n4]
  obtain ⟨c10, hc10⟩ : ∃ q_, q_ = (decide (k < 0)) := ⟨_, rfl⟩
  rw [← hc10]
  have Hc10 := Lib.hid hc10
  clear hc10
  cases c10 with
  | true =>
    have f11 := of_decide_eq_true Hc10.out.symm
    refine @wpG_no _ _ _ _ _ (some 8) _ _ rfl (by rfl) ?_
    simp only [n1, n3, n4]
    refine @wpG_no _ _ _ _ _ (some 9) _ _ rfl (by rfl) ?_
    simp only [n1, n3, n4]
    refine @wpG_no _ _ _ _ _ (some 10) _ _ rfl (by rfl) ?_
    simp only [n1, n3, n4]
    refine @wpG_no _ _ _ _ _ (some 11) _ _ rfl (by rfl) ?_
    simp only [n1, n3, n4]
    refine @wpG_p _ _ _ _ _ (some 12) (.bool true) _ _ rfl (by rfl) (fun W => by go_simp) ?_
    simp only [n1, n3, n4]
    refine wpG_done (fun V12 hv13 => ?_)
    have S14 : Hid (St w noB [blk g4 35 [.string ⟨#[]⟩, .bool false, .bool false, .bool false, .int .i64 0, .int .i64 0, .int .i64 0, .int .i64 0]] V12) := Lib.hid (S9.out.gr hv13)
    clear S9
    clear hv13
    refine ⟨rfl, hK _ _ ?_⟩
    clear hK
    go_upto_region 2 with fail
    refine wpG_region_k (fun K hK => ?_)
    refine @wpG_p _ _ _ _ _ (some 13) (.agg #[.string ⟨#[]⟩, .bool false, .bool false, .bool false, .int .i64 16, .int .i64 0, .int .i64 0, .int .i64 0]) _ _ rfl (by rfl) (fun W => by go_simp) ?_
    simp only [n1, n3, n4]
    refine wpG_store (none) rfl (by rfl) (fun W15 hg16 => ⟨_, run_store_mid 35 (.tmp 4) (.tmp 13) rfl g4 0 #[.string ⟨#[]⟩, .bool false, .bool false, .bool false, .int .i64 16, .int .i64 0, .int .i64 0, .int .i64 0] rfl rfl ((S14.out.gr hg16).room 0 rfl 0 8 (by simp)) (by kernel_rfl) (by kernel_rfl), ?_⟩)
    simp only [n2]
    obtain ⟨U17, hu_, hS_⟩ := ((S14.out.gr hg16).put 0 rfl 0 (#[.string ⟨#[]⟩, .bool false, .bool false, .bool false, .int .i64 16, .int .i64 0, .int .i64 0, .int .i64 0] : Array Value).toList (ds := [.string ⟨#[]⟩, .bool false, .bool false, .bool false, .int .i64 16, .int .i64 0, .int .i64 0, .int .i64 0]) rfl).named
    rw [← hu_]
    have S18 : Hid (St w noB [blk g4 35 [.string ⟨#[]⟩, .bool false, .bool false, .bool false, .int .i64 16, .int .i64 0, .int .i64 0, .int .i64 0]] U17) := Lib.hid hS_
    clear S14
    clear hu_ hS_ hg16
    refine wpG_done (fun V19 hv20 => ?_)
    have S21 : Hid (St w noB [blk g4 35 [.string ⟨#[]⟩, .bool false, .bool false, .bool false, .int .i64 16, .int .i64 0, .int .i64 0, .int .i64 0]] V19) := Lib.hid (S18.out.gr hv20)
    clear S18
    clear hv20
    refine ⟨rfl, hK _ _ ?_⟩
    clear hK
    go_wp2_with fail
    (try simp only [Exit.inBlock, Exit.then])
    refine bodyPost_ret (results_cell_mid rfl _ _ _ g4 0 [.string ⟨#[]⟩, .bool false, .bool false, .bool false, .int .i64 16, .int .i64 0, .int .i64 0, .int .i64 0] _ rfl (S21.out.range 0 rfl 0 8 rfl) Tryd.underlying35 rfl (by kernel_rfl)) rfl ?_
    refine ⟨?_, S21.out.bel⟩
    show Ending.returned (.agg #[.string ⟨#[]⟩, .bool false, .bool false, .bool false, .int .i64 16, .int .i64 0, .int .i64 0, .int .i64 0]) = _
    (first | rfl | (first | (rw [Ma.mat_out (by have := HLEN.out; omega)]; rfl) | (rw [Ma.mat_in (by omega) (by have := HLEN.out; omega)]; rfl)))
  | false =>
    have f22 := of_decide_eq_false Hc10.out.symm
    refine @wpG_p _ _ _ _ _ (some 8) (.int .i64 k) _ _ rfl (by rfl) (fun _ => rfl) ?_
    simp only [n1, n3, n4]
    refine @wpG_p _ _ _ _ _ (some 9) (.slice A n c) _ _ rfl (by rfl) (fun _ => rfl) ?_
    simp only [n1, n3, n4]
    refine @wpG_p _ _ _ _ _ (some 10) (.int .i64 (n : Int)) _ _ rfl (by rfl) (fun W => by go_simp) ?_
    simp only [n1, n3, n4]
    refine @wpG_p _ _ _ _ _ (some 11) (.bool (decide (k ≥ (n : Int)))) _ _ rfl (by rfl) (fun W => op_int_geq W k (n : Int) rfl rfl rfl Tryd.underlying3) ?_
    simp only [n1, n3, n4]
    refine @wpG_p _ _ _ _ _ (some 12) (.bool (decide (k ≥ (n : Int)))) _ _ rfl (by rfl) (fun W => by go_simp) ?_
    simp only [n1, n3, n4]
    refine wpG_done (fun V23 hv24 => ?_)
    have S25 : Hid (St w noB [blk g4 35 [.string ⟨#[]⟩, .bool false, .bool false, .bool false, .int .i64 0, .int .i64 0, .int .i64 0, .int .i64 0]] V23) := Lib.hid (S9.out.gr hv24)
    clear S9
    clear hv24
    refine ⟨rfl, hK _ _ ?_⟩
    clear hK
    obtain ⟨c26, hc26⟩ : ∃ q_, q_ = (decide (k ≥ (n : Int))) := ⟨_, rfl⟩
    rw [← hc26]
    have Hc26 := Lib.hid hc26
    clear hc26
    cases c26 with
    | true =>
      have f27 := of_decide_eq_true Hc26.out.symm
      go_upto_region 2 with fail
      refine wpG_region_k (fun K hK => ?_)
      refine @wpG_p _ _ _ _ _ (some 13) (.agg #[.string ⟨#[]⟩, .bool false, .bool false, .bool false, .int .i64 16, .int .i64 0, .int .i64 0, .int .i64 0]) _ _ rfl (by rfl) (fun W => by go_simp) ?_
      simp only [n1, n3, n4]
      refine wpG_store (none) rfl (by rfl) (fun W28 hg29 => ⟨_, run_store_mid 35 (.tmp 4) (.tmp 13) rfl g4 0 #[.string ⟨#[]⟩, .bool false, .bool false, .bool false, .int .i64 16, .int .i64 0, .int .i64 0, .int .i64 0] rfl rfl ((S25.out.gr hg29).room 0 rfl 0 8 (by simp)) (by kernel_rfl) (by kernel_rfl), ?_⟩)
      simp only [n2]
      obtain ⟨U30, hu_, hS_⟩ := ((S25.out.gr hg29).put 0 rfl 0 (#[.string ⟨#[]⟩, .bool false, .bool false, .bool false, .int .i64 16, .int .i64 0, .int .i64 0, .int .i64 0] : Array Value).toList (ds := [.string ⟨#[]⟩, .bool false, .bool false, .bool false, .int .i64 16, .int .i64 0, .int .i64 0, .int .i64 0]) rfl).named
      rw [← hu_]
      have S31 : Hid (St w noB [blk g4 35 [.string ⟨#[]⟩, .bool false, .bool false, .bool false, .int .i64 16, .int .i64 0, .int .i64 0, .int .i64 0]] U30) := Lib.hid hS_
      clear S25
      clear hu_ hS_ hg29
      refine wpG_done (fun V32 hv33 => ?_)
      have S34 : Hid (St w noB [blk g4 35 [.string ⟨#[]⟩, .bool false, .bool false, .bool false, .int .i64 16, .int .i64 0, .int .i64 0, .int .i64 0]] V32) := Lib.hid (S31.out.gr hv33)
      clear S31
      clear hv33
      refine ⟨rfl, hK _ _ ?_⟩
      clear hK
      go_wp2_with fail
      (try simp only [Exit.inBlock, Exit.then])
      refine bodyPost_ret (results_cell_mid rfl _ _ _ g4 0 [.string ⟨#[]⟩, .bool false, .bool false, .bool false, .int .i64 16, .int .i64 0, .int .i64 0, .int .i64 0] _ rfl (S34.out.range 0 rfl 0 8 rfl) Tryd.underlying35 rfl (by kernel_rfl)) rfl ?_
      refine ⟨?_, S34.out.bel⟩
      show Ending.returned (.agg #[.string ⟨#[]⟩, .bool false, .bool false, .bool false, .int .i64 16, .int .i64 0, .int .i64 0, .int .i64 0]) = _
      (first | rfl | (first | (rw [Ma.mat_out (by have := HLEN.out; omega)]; rfl) | (rw [Ma.mat_in (by omega) (by have := HLEN.out; omega)]; rfl)))
    | false =>
      have f35 := of_decide_eq_false Hc26.out.symm
      go_upto_region 3 with fail
      refine wpG_region_k (fun K hK => ?_)
      refine @wpG_p _ _ _ _ _ (some 14) (.slice A n c) _ _ rfl (by rfl) (fun _ => rfl) ?_
      simp only [n1, n3, n4]
      refine @wpG_p _ _ _ _ _ (some 15) (.int .i64 k) _ _ rfl (by rfl) (fun _ => rfl) ?_
      simp only [n1, n3, n4]
      obtain ⟨q36, rfl⟩ : ∃ q_ : Nat, k = (q_ : Int) := ⟨k.toNat, by omega⟩
      obtain ⟨b37, o37, rfl⟩ := HTA.out.addr (by omega)
      refine @wpG_p _ _ _ _ _ (some 16) (.pointer (some ⟨b37, o37 + q36 * 8, none⟩)) _ _ rfl (by rfl) (fun W => by (go_simp <;> first | rfl | omega | (simp; omega))) ?_
      simp only [n1, n3, n4]
      refine @wpG_tk _ _ _ _ _ (some 17) (.agg #[.string (bstr ((Ma.tat ms q36).n)), .bool ((Ma.tat ms q36).s), .bool ((Ma.tat ms q36).l), .bool ((Ma.tat ms q36).f), .int .i64 ((Ma.tat ms q36).fd), .int .i64 ((Ma.tat ms q36).a), .int .i64 ((Ma.tat ms q36).b), .int .i64 ((Ma.tat ms q36).c)]) _ _ rfl (.load_mid (by rfl) 35 (.tmp 16) rfl b37 (o37 + q36 * 8) rfl [.string (bstr ((Ma.tat ms q36).n)), .bool ((Ma.tat ms q36).s), .bool ((Ma.tat ms q36).l), .bool ((Ma.tat ms q36).f), .int .i64 ((Ma.tat ms q36).fd), .int .i64 ((Ma.tat ms q36).a), .int .i64 ((Ma.tat ms q36).b), .int .i64 ((Ma.tat ms q36).c)] _ (fun W hg => ((HTA.out.gr ((S25.out.gr hg)).bel).elem (HTA.out.get (k := q36) (by omega)))) Tryd.underlying35 rfl (by kernel_rfl)) ?_
      simp only [n1, n3, n4]
      refine wpG_store (none) rfl (by rfl) (fun W38 hg39 => ⟨_, run_store_mid 35 (.tmp 4) (.tmp 17) rfl g4 0 #[.string (bstr ((Ma.tat ms q36).n)), .bool ((Ma.tat ms q36).s), .bool ((Ma.tat ms q36).l), .bool ((Ma.tat ms q36).f), .int .i64 ((Ma.tat ms q36).fd), .int .i64 ((Ma.tat ms q36).a), .int .i64 ((Ma.tat ms q36).b), .int .i64 ((Ma.tat ms q36).c)] rfl rfl ((S25.out.gr hg39).room 0 rfl 0 8 (by simp)) (by kernel_rfl) (by kernel_rfl), ?_⟩)
      simp only [n2]
      obtain ⟨U40, hu_, hS_⟩ := ((S25.out.gr hg39).put 0 rfl 0 (#[.string (bstr ((Ma.tat ms q36).n)), .bool ((Ma.tat ms q36).s), .bool ((Ma.tat ms q36).l), .bool ((Ma.tat ms q36).f), .int .i64 ((Ma.tat ms q36).fd), .int .i64 ((Ma.tat ms q36).a), .int .i64 ((Ma.tat ms q36).b), .int .i64 ((Ma.tat ms q36).c)] : Array Value).toList (ds := [.string (bstr ((Ma.tat ms q36).n)), .bool ((Ma.tat ms q36).s), .bool ((Ma.tat ms q36).l), .bool ((Ma.tat ms q36).f), .int .i64 ((Ma.tat ms q36).fd), .int .i64 ((Ma.tat ms q36).a), .int .i64 ((Ma.tat ms q36).b), .int .i64 ((Ma.tat ms q36).c)]) rfl).named
      rw [← hu_]
      have S41 : Hid (St w noB [blk g4 35 [.string (bstr ((Ma.tat ms q36).n)), .bool ((Ma.tat ms q36).s), .bool ((Ma.tat ms q36).l), .bool ((Ma.tat ms q36).f), .int .i64 ((Ma.tat ms q36).fd), .int .i64 ((Ma.tat ms q36).a), .int .i64 ((Ma.tat ms q36).b), .int .i64 ((Ma.tat ms q36).c)]] U40) := Lib.hid hS_
      clear S25
      clear hu_ hS_ hg39
      refine wpG_done (fun V42 hv43 => ?_)
      have S44 : Hid (St w noB [blk g4 35 [.string (bstr ((Ma.tat ms q36).n)), .bool ((Ma.tat ms q36).s), .bool ((Ma.tat ms q36).l), .bool ((Ma.tat ms q36).f), .int .i64 ((Ma.tat ms q36).fd), .int .i64 ((Ma.tat ms q36).a), .int .i64 ((Ma.tat ms q36).b), .int .i64 ((Ma.tat ms q36).c)]] V42) := Lib.hid (S41.out.gr hv43)
      clear S41
      clear hv43
      refine ⟨rfl, hK _ _ ?_⟩
      clear hK
      go_wp2_with fail
      (try simp only [Exit.inBlock, Exit.then])
      refine bodyPost_ret (results_cell_mid rfl _ _ _ g4 0 [.string (bstr ((Ma.tat ms q36).n)), .bool ((Ma.tat ms q36).s), .bool ((Ma.tat ms q36).l), .bool ((Ma.tat ms q36).f), .int .i64 ((Ma.tat ms q36).fd), .int .i64 ((Ma.tat ms q36).a), .int .i64 ((Ma.tat ms q36).b), .int .i64 ((Ma.tat ms q36).c)] _ rfl (S44.out.range 0 rfl 0 8 rfl) Tryd.underlying35 rfl (by kernel_rfl)) rfl ?_
      refine ⟨?_, S44.out.bel⟩
      show Ending.returned (.agg #[.string (bstr ((Ma.tat ms q36).n)), .bool ((Ma.tat ms q36).s), .bool ((Ma.tat ms q36).l), .bool ((Ma.tat ms q36).f), .int .i64 ((Ma.tat ms q36).fd), .int .i64 ((Ma.tat ms q36).a), .int .i64 ((Ma.tat ms q36).b), .int .i64 ((Ma.tat ms q36).c)]) = _
      (first | rfl | (first | (rw [Ma.mat_out (by have := HLEN.out; omega)]; rfl) | (rw [Ma.mat_in (by omega) (by have := HLEN.out; omega)]; rfl)))
set_option maxRecDepth 1000000 in
set_option maxHeartbeats 4000000 in
theorem qsolid_any (A : Option Addr) (n c : Nat) (ms : List Ma.Mt) (k : Int) (w : World) (hT : Tbl w A n c ms) :
    Calls Tryd.prog 22 #[.slice A n c, .int .i64 k] w fun e w' => e = .returned (.bool ((Ma.mat_of ms k).s)) ∧ Below w.heap.size w w' := by
  have HTA := Lib.hid hT
  have HLEN := Lib.hid hT.len
  have hnb : n ≤ 9223372036854775807 := Nat.le_trans hT.cap hT.bnd
  clear hT
  have S1 : Hid (St w noB [] w) := Lib.hid (St.start w)
  go_enter Tryd.func22, Tryd.ntmps22
  go_upto_region 0 with fail
  refine wpG_region_k (fun K hK => ?_)
  refine @wpG_p _ _ _ _ _ (some 4) (.bool false) _ _ rfl (by rfl) (fun _ => rfl) ?_
  simp only [n1, n3, n4]
  refine wpG_done (fun V2 hv3 => ?_)
  have S4 : Hid (St w noB [] V2) := Lib.hid (S1.out.gr hv3)
  clear S1
  clear hv3
  refine ⟨rfl, hK _ _ ?_⟩
  clear hK
  go_upto_region 1 with fail
  refine wpG_region_k (fun K hK => ?_)
  refine @wpG_p _ _ _ _ _ (some 5) (.slice A n c) _ _ rfl (by rfl) (fun _ => rfl) ?_
  simp only [n1, n3, n4]
  refine @wpG_p _ _ _ _ _ (some 6) (.int .i64 k) _ _ rfl (by rfl) (fun _ => rfl) ?_
  simp only [n1, n3, n4]
  refine @wpG_tk _ _ _ _ _ (some 7) (.agg #[.string (bstr ((Ma.mat_of ms k).n)), .bool ((Ma.mat_of ms k).s), .bool ((Ma.mat_of ms k).l), .bool ((Ma.mat_of ms k).f), .int .i64 ((Ma.mat_of ms k).fd), .int .i64 ((Ma.mat_of ms k).a), .int .i64 ((Ma.mat_of ms k).b), .int .i64 ((Ma.mat_of ms k).c)]) _ _ rfl (.call (f := 38) (args := #[.slice A n c, .int .i64 k]) (by rfl) (fun W => by go_simp) (fun W hg => of_any _ _ _ ms k W (HTA.out.gr (S4.out.gr hg).bel))) ?_
  simp only [n1, n3, n4]
  refine @wpG_p _ _ _ _ _ (some 8) (.bool ((Ma.mat_of ms k).s)) _ _ rfl (by rfl) (fun W => by first | (go_simp; done) | rfl | kernel_rfl) ?_
  simp only [n1, n3, n4]
  refine @wpG_p _ _ _ _ _ (some 4) (.bool ((Ma.mat_of ms k).s)) _ _ rfl (by rfl) (fun _ => rfl) ?_
  simp only [n1, n3, n4]
  refine wpG_done (fun V5 hv6 => ?_)
  have S7 : Hid (St w noB [] V5) := Lib.hid (S4.out.gr hv6)
  clear S4
  clear hv6
  refine ⟨rfl, hK _ _ ?_⟩
  clear hK
  go_wp2_with fail
  go_ret
  refine ⟨?_, S7.out.bel⟩
  show Ending.returned (.bool ((Ma.mat_of ms k).s)) = _
  (first | rfl | (rfl))
set_option maxRecDepth 1000000 in
set_option maxHeartbeats 4000000 in
theorem qliquid_any (A : Option Addr) (n c : Nat) (ms : List Ma.Mt) (k : Int) (w : World) (hT : Tbl w A n c ms) :
    Calls Tryd.prog 23 #[.slice A n c, .int .i64 k] w fun e w' => e = .returned (.bool ((Ma.mat_of ms k).l)) ∧ Below w.heap.size w w' := by
  have HTA := Lib.hid hT
  have HLEN := Lib.hid hT.len
  have hnb : n ≤ 9223372036854775807 := Nat.le_trans hT.cap hT.bnd
  clear hT
  have S1 : Hid (St w noB [] w) := Lib.hid (St.start w)
  go_enter Tryd.func23, Tryd.ntmps23
  go_upto_region 0 with fail
  refine wpG_region_k (fun K hK => ?_)
  refine @wpG_p _ _ _ _ _ (some 4) (.bool false) _ _ rfl (by rfl) (fun _ => rfl) ?_
  simp only [n1, n3, n4]
  refine wpG_done (fun V2 hv3 => ?_)
  have S4 : Hid (St w noB [] V2) := Lib.hid (S1.out.gr hv3)
  clear S1
  clear hv3
  refine ⟨rfl, hK _ _ ?_⟩
  clear hK
  go_upto_region 1 with fail
  refine wpG_region_k (fun K hK => ?_)
  refine @wpG_p _ _ _ _ _ (some 5) (.slice A n c) _ _ rfl (by rfl) (fun _ => rfl) ?_
  simp only [n1, n3, n4]
  refine @wpG_p _ _ _ _ _ (some 6) (.int .i64 k) _ _ rfl (by rfl) (fun _ => rfl) ?_
  simp only [n1, n3, n4]
  refine @wpG_tk _ _ _ _ _ (some 7) (.agg #[.string (bstr ((Ma.mat_of ms k).n)), .bool ((Ma.mat_of ms k).s), .bool ((Ma.mat_of ms k).l), .bool ((Ma.mat_of ms k).f), .int .i64 ((Ma.mat_of ms k).fd), .int .i64 ((Ma.mat_of ms k).a), .int .i64 ((Ma.mat_of ms k).b), .int .i64 ((Ma.mat_of ms k).c)]) _ _ rfl (.call (f := 38) (args := #[.slice A n c, .int .i64 k]) (by rfl) (fun W => by go_simp) (fun W hg => of_any _ _ _ ms k W (HTA.out.gr (S4.out.gr hg).bel))) ?_
  simp only [n1, n3, n4]
  refine @wpG_p _ _ _ _ _ (some 8) (.bool ((Ma.mat_of ms k).l)) _ _ rfl (by rfl) (fun W => by first | (go_simp; done) | rfl | kernel_rfl) ?_
  simp only [n1, n3, n4]
  refine @wpG_p _ _ _ _ _ (some 4) (.bool ((Ma.mat_of ms k).l)) _ _ rfl (by rfl) (fun _ => rfl) ?_
  simp only [n1, n3, n4]
  refine wpG_done (fun V5 hv6 => ?_)
  have S7 : Hid (St w noB [] V5) := Lib.hid (S4.out.gr hv6)
  clear S4
  clear hv6
  refine ⟨rfl, hK _ _ ?_⟩
  clear hK
  go_wp2_with fail
  go_ret
  refine ⟨?_, S7.out.bel⟩
  show Ending.returned (.bool ((Ma.mat_of ms k).l)) = _
  (first | rfl | (rfl))
set_option maxRecDepth 1000000 in
set_option maxHeartbeats 4000000 in
theorem qfalling_any (A : Option Addr) (n c : Nat) (ms : List Ma.Mt) (k : Int) (w : World) (hT : Tbl w A n c ms) :
    Calls Tryd.prog 24 #[.slice A n c, .int .i64 k] w fun e w' => e = .returned (.bool ((Ma.mat_of ms k).f)) ∧ Below w.heap.size w w' := by
  have HTA := Lib.hid hT
  have HLEN := Lib.hid hT.len
  have hnb : n ≤ 9223372036854775807 := Nat.le_trans hT.cap hT.bnd
  clear hT
  have S1 : Hid (St w noB [] w) := Lib.hid (St.start w)
  go_enter Tryd.func24, Tryd.ntmps24
  go_upto_region 0 with fail
  refine wpG_region_k (fun K hK => ?_)
  refine @wpG_p _ _ _ _ _ (some 4) (.bool false) _ _ rfl (by rfl) (fun _ => rfl) ?_
  simp only [n1, n3, n4]
  refine wpG_done (fun V2 hv3 => ?_)
  have S4 : Hid (St w noB [] V2) := Lib.hid (S1.out.gr hv3)
  clear S1
  clear hv3
  refine ⟨rfl, hK _ _ ?_⟩
  clear hK
  go_upto_region 1 with fail
  refine wpG_region_k (fun K hK => ?_)
  refine @wpG_p _ _ _ _ _ (some 5) (.slice A n c) _ _ rfl (by rfl) (fun _ => rfl) ?_
  simp only [n1, n3, n4]
  refine @wpG_p _ _ _ _ _ (some 6) (.int .i64 k) _ _ rfl (by rfl) (fun _ => rfl) ?_
  simp only [n1, n3, n4]
  refine @wpG_tk _ _ _ _ _ (some 7) (.agg #[.string (bstr ((Ma.mat_of ms k).n)), .bool ((Ma.mat_of ms k).s), .bool ((Ma.mat_of ms k).l), .bool ((Ma.mat_of ms k).f), .int .i64 ((Ma.mat_of ms k).fd), .int .i64 ((Ma.mat_of ms k).a), .int .i64 ((Ma.mat_of ms k).b), .int .i64 ((Ma.mat_of ms k).c)]) _ _ rfl (.call (f := 38) (args := #[.slice A n c, .int .i64 k]) (by rfl) (fun W => by go_simp) (fun W hg => of_any _ _ _ ms k W (HTA.out.gr (S4.out.gr hg).bel))) ?_
  simp only [n1, n3, n4]
  refine @wpG_p _ _ _ _ _ (some 8) (.bool ((Ma.mat_of ms k).f)) _ _ rfl (by rfl) (fun W => by first | (go_simp; done) | rfl | kernel_rfl) ?_
  simp only [n1, n3, n4]
  refine @wpG_p _ _ _ _ _ (some 4) (.bool ((Ma.mat_of ms k).f)) _ _ rfl (by rfl) (fun _ => rfl) ?_
  simp only [n1, n3, n4]
  refine wpG_done (fun V5 hv6 => ?_)
  have S7 : Hid (St w noB [] V5) := Lib.hid (S4.out.gr hv6)
  clear S4
  clear hv6
  refine ⟨rfl, hK _ _ ?_⟩
  clear hK
  go_wp2_with fail
  go_ret
  refine ⟨?_, S7.out.bel⟩
  show Ending.returned (.bool ((Ma.mat_of ms k).f)) = _
  (first | rfl | (rfl))
set_option maxRecDepth 1000000 in
set_option maxHeartbeats 4000000 in
theorem qfade_any (A : Option Addr) (n c : Nat) (ms : List Ma.Mt) (k : Int) (w : World) (hT : Tbl w A n c ms) :
    Calls Tryd.prog 25 #[.slice A n c, .int .i64 k] w fun e w' => e = .returned (.int .i64 ((Ma.mat_of ms k).fd)) ∧ Below w.heap.size w w' := by
  have HTA := Lib.hid hT
  have HLEN := Lib.hid hT.len
  have hnb : n ≤ 9223372036854775807 := Nat.le_trans hT.cap hT.bnd
  clear hT
  have S1 : Hid (St w noB [] w) := Lib.hid (St.start w)
  go_enter Tryd.func25, Tryd.ntmps25
  go_upto_region 0 with fail
  refine wpG_region_k (fun K hK => ?_)
  refine @wpG_p _ _ _ _ _ (some 4) (.int .i64 0) _ _ rfl (by rfl) (fun _ => rfl) ?_
  simp only [n1, n3, n4]
  refine wpG_done (fun V2 hv3 => ?_)
  have S4 : Hid (St w noB [] V2) := Lib.hid (S1.out.gr hv3)
  clear S1
  clear hv3
  refine ⟨rfl, hK _ _ ?_⟩
  clear hK
  go_upto_region 1 with fail
  refine wpG_region_k (fun K hK => ?_)
  refine @wpG_p _ _ _ _ _ (some 5) (.slice A n c) _ _ rfl (by rfl) (fun _ => rfl) ?_
  simp only [n1, n3, n4]
  refine @wpG_p _ _ _ _ _ (some 6) (.int .i64 k) _ _ rfl (by rfl) (fun _ => rfl) ?_
  simp only [n1, n3, n4]
  refine @wpG_tk _ _ _ _ _ (some 7) (.agg #[.string (bstr ((Ma.mat_of ms k).n)), .bool ((Ma.mat_of ms k).s), .bool ((Ma.mat_of ms k).l), .bool ((Ma.mat_of ms k).f), .int .i64 ((Ma.mat_of ms k).fd), .int .i64 ((Ma.mat_of ms k).a), .int .i64 ((Ma.mat_of ms k).b), .int .i64 ((Ma.mat_of ms k).c)]) _ _ rfl (.call (f := 38) (args := #[.slice A n c, .int .i64 k]) (by rfl) (fun W => by go_simp) (fun W hg => of_any _ _ _ ms k W (HTA.out.gr (S4.out.gr hg).bel))) ?_
  simp only [n1, n3, n4]
  refine @wpG_p _ _ _ _ _ (some 8) (.int .i64 ((Ma.mat_of ms k).fd)) _ _ rfl (by rfl) (fun W => by first | (go_simp; done) | rfl | kernel_rfl) ?_
  simp only [n1, n3, n4]
  refine @wpG_p _ _ _ _ _ (some 4) (.int .i64 ((Ma.mat_of ms k).fd)) _ _ rfl (by rfl) (fun _ => rfl) ?_
  simp only [n1, n3, n4]
  refine wpG_done (fun V5 hv6 => ?_)
  have S7 : Hid (St w noB [] V5) := Lib.hid (S4.out.gr hv6)
  clear S4
  clear hv6
  refine ⟨rfl, hK _ _ ?_⟩
  clear hK
  go_wp2_with fail
  go_ret
  refine ⟨?_, S7.out.bel⟩
  show Ending.returned (.int .i64 ((Ma.mat_of ms k).fd)) = _
  (first | rfl | (rfl))
set_option maxRecDepth 1000000 in
set_option maxHeartbeats 4000000 in
theorem qemit_any (A : Option Addr) (n c : Nat) (ms : List Ma.Mt) (k : Int) (w : World) (hT : Tbl w A n c ms) :
    Calls Tryd.prog 26 #[.slice A n c, .int .i64 k] w fun e w' => e = .returned (.agg #[.int .i64 ((Ma.mat_of ms k).a), .int .i64 ((Ma.mat_of ms k).b), .int .i64 ((Ma.mat_of ms k).c)]) ∧ Below w.heap.size w w' := by
  have HTA := Lib.hid hT
  have HLEN := Lib.hid hT.len
  have hnb : n ≤ 9223372036854775807 := Nat.le_trans hT.cap hT.bnd
  clear hT
  have S1 : Hid (St w noB [] w) := Lib.hid (St.start w)
  go_enter Tryd.func26, Tryd.ntmps26
  go_upto_region 0 with fail
  refine wpG_region_k (fun K hK => ?_)
  refine wpG_val (some 4) rfl (by rfl) (fun W2 hg3 => ⟨.pointer (some ⟨W2.heap.size, 0, none⟩), W2.alloc (.cells #[.int .i64 0, .int .i64 0, .int .i64 0] 33), by (first | (go_simp; done) | (go_simp <;> rfl)), ?_⟩)
  simp only [n1, n3, n4]
  obtain ⟨g4, U5, hg_, hu_, hS_⟩ := (S1.out.gr hg3).made [.int .i64 0, .int .i64 0, .int .i64 0] 33
  rw [← hu_, ← hg_]
  have S6 : Hid (St w noB [blk g4 33 [.int .i64 0, .int .i64 0, .int .i64 0]] U5) := Lib.hid hS_
  clear S1
  clear hg_ hu_ hS_ hg3
  refine wpG_done (fun V7 hv8 => ?_)
  have S9 : Hid (St w noB [blk g4 33 [.int .i64 0, .int .i64 0, .int .i64 0]] V7) := Lib.hid (S6.out.gr hv8)
  clear S6
  clear hv8
  refine ⟨rfl, hK _ _ ?_⟩
  clear hK
  go_upto_region 1 with fail
  refine wpG_region_k (fun K hK => ?_)
  refine @wpG_p _ _ _ _ _ (some 5) (.slice A n c) _ _ rfl (by rfl) (fun _ => rfl) ?_
  simp only [n1, n3, n4]
  refine @wpG_p _ _ _ _ _ (some 6) (.int .i64 k) _ _ rfl (by rfl) (fun _ => rfl) ?_
  simp only [n1, n3, n4]
  refine @wpG_tk _ _ _ _ _ (some 7) (.agg #[.string (bstr ((Ma.mat_of ms k).n)), .bool ((Ma.mat_of ms k).s), .bool ((Ma.mat_of ms k).l), .bool ((Ma.mat_of ms k).f), .int .i64 ((Ma.mat_of ms k).fd), .int .i64 ((Ma.mat_of ms k).a), .int .i64 ((Ma.mat_of ms k).b), .int .i64 ((Ma.mat_of ms k).c)]) _ _ rfl (.call (f := 38) (args := #[.slice A n c, .int .i64 k]) (by rfl) (fun W => by go_simp) (fun W hg => of_any _ _ _ ms k W (HTA.out.gr (S9.out.gr hg).bel))) ?_
  simp only [n1, n3, n4]
  refine @wpG_p _ _ _ _ _ (some 8) (.agg #[.int .i64 ((Ma.mat_of ms k).a), .int .i64 ((Ma.mat_of ms k).b), .int .i64 ((Ma.mat_of ms k).c)]) _ _ rfl (by rfl) (fun W => by first | (go_simp; done) | rfl | kernel_rfl) ?_
  simp only [n1, n3, n4]
  refine wpG_store (none) rfl (by rfl) (fun W10 hg11 => ⟨_, run_store_mid 33 (.tmp 4) (.tmp 8) rfl g4 0 #[.int .i64 ((Ma.mat_of ms k).a), .int .i64 ((Ma.mat_of ms k).b), .int .i64 ((Ma.mat_of ms k).c)] rfl rfl ((S9.out.gr hg11).room 0 rfl 0 3 (by simp)) (by kernel_rfl) (by kernel_rfl), ?_⟩)
  simp only [n2]
  obtain ⟨U12, hu_, hS_⟩ := ((S9.out.gr hg11).put 0 rfl 0 (#[.int .i64 ((Ma.mat_of ms k).a), .int .i64 ((Ma.mat_of ms k).b), .int .i64 ((Ma.mat_of ms k).c)] : Array Value).toList (ds := [.int .i64 ((Ma.mat_of ms k).a), .int .i64 ((Ma.mat_of ms k).b), .int .i64 ((Ma.mat_of ms k).c)]) rfl).named
  rw [← hu_]
  have S13 : Hid (St w noB [blk g4 33 [.int .i64 ((Ma.mat_of ms k).a), .int .i64 ((Ma.mat_of ms k).b), .int .i64 ((Ma.mat_of ms k).c)]] U12) := Lib.hid hS_
  clear S9
  clear hu_ hS_ hg11
  refine wpG_done (fun V14 hv15 => ?_)
  have S16 : Hid (St w noB [blk g4 33 [.int .i64 ((Ma.mat_of ms k).a), .int .i64 ((Ma.mat_of ms k).b), .int .i64 ((Ma.mat_of ms k).c)]] V14) := Lib.hid (S13.out.gr hv15)
  clear S13
  clear hv15
  refine ⟨rfl, hK _ _ ?_⟩
  clear hK
  go_wp2_with fail
  (try simp only [Exit.inBlock, Exit.then])
  refine bodyPost_ret (results_cell_mid rfl _ _ _ g4 0 [.int .i64 ((Ma.mat_of ms k).a), .int .i64 ((Ma.mat_of ms k).b), .int .i64 ((Ma.mat_of ms k).c)] _ rfl (S16.out.range 0 rfl 0 3 rfl) Tryd.underlying33 rfl (by kernel_rfl)) rfl ?_
  refine ⟨?_, S16.out.bel⟩
  show Ending.returned (.agg #[.int .i64 ((Ma.mat_of ms k).a), .int .i64 ((Ma.mat_of ms k).b), .int .i64 ((Ma.mat_of ms k).c)]) = _
  (first | rfl | (rfl))

end Go.Proofs.YtpjjddjoegnipaaDoor
