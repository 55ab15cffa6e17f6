/-
  Contracts: air, letter, emits, kind, of one material and of one name.
-/
import Derived.Test.YtpjjddjoegnipaaDoorMab
import Derived.Handy
namespace Go.Proofs.YtpjjddjoegnipaaDoor
open Go Go.RowKit
set_option linter.unusedVariables false
set_option linter.unusedSimpArgs false
set_option maxRecDepth 1000000 in
set_option maxHeartbeats 4000000 in
theorem air_any (w : World) :
    Calls Tryd.prog 29 #[] w fun e w' => e = .returned (.agg #[.string (bstr [97, 105, 114]), .bool false, .bool false, .bool false, .int .i64 1, .int .i64 0, .int .i64 0, .int .i64 0]) ∧ Below w.heap.size w w' := by
  have S1 : Hid (St w noB [] w) := Lib.hid (St.start w)
  go_enter Tryd.func29, Tryd.ntmps29
  go_upto_region 0 with fail
  refine wpG_region_k (fun K hK => ?_)
  refine wpG_val (some 0) rfl (by rfl) (fun W2 hg3 => ⟨.pointer (some ⟨W2.heap.size, 0, none⟩), W2.alloc (.cells #[.string ⟨#[]⟩, .bool false, .bool false, .bool false, .int .i64 0, .int .i64 0, .int .i64 0, .int .i64 0] 35), by (first | (go_simp; done) | (go_simp <;> rfl)), ?_⟩)
  simp only [n1, n3]
  obtain ⟨g4, U5, hg_, hu_, hS_⟩ := (S1.out.gr hg3).made [.string ⟨#[]⟩, .bool false, .bool false, .bool false, .int .i64 0, .int .i64 0, .int .i64 0, .int .i64 0] 35
  rw [← hu_, ← hg_]
  have S6 : Hid (St w noB [blk g4 35 [.string ⟨#[]⟩, .bool false, .bool false, .bool false, .int .i64 0, .int .i64 0, .int .i64 0, .int .i64 0]] U5) := Lib.hid hS_
  clear S1
  clear hg_ hu_ hS_ hg3
  refine wpG_done (fun V7 hv8 => ?_)
  have S9 : Hid (St w noB [blk g4 35 [.string ⟨#[]⟩, .bool false, .bool false, .bool false, .int .i64 0, .int .i64 0, .int .i64 0, .int .i64 0]] V7) := Lib.hid (S6.out.gr hv8)
  clear S6
  clear hv8
  refine ⟨rfl, hK _ _ ?_⟩
  clear hK
  go_upto_region 1 with fail
  refine wpG_region_k (fun K hK => ?_)
  refine @wpG_p _ _ _ _ _ (some 1) (.agg #[.string ⟨#[97, 105, 114]⟩, .bool false, .bool false, .bool false, .int .i64 1, .int .i64 0, .int .i64 0, .int .i64 0]) _ _ rfl (by rfl) (fun W => by go_simp) ?_
  simp only [n1, n3, n4]
  refine wpG_store (none) rfl (by rfl) (fun W10 hg11 => ⟨_, run_store_mid 35 (.tmp 0) (.tmp 1) rfl g4 0 #[.string ⟨#[97, 105, 114]⟩, .bool false, .bool false, .bool false, .int .i64 1, .int .i64 0, .int .i64 0, .int .i64 0] rfl rfl ((S9.out.gr hg11).room 0 rfl 0 8 (by simp)) (by kernel_rfl) (by kernel_rfl), ?_⟩)
  simp only [n2]
  obtain ⟨U12, hu_, hS_⟩ := ((S9.out.gr hg11).put 0 rfl 0 (#[.string ⟨#[97, 105, 114]⟩, .bool false, .bool false, .bool false, .int .i64 1, .int .i64 0, .int .i64 0, .int .i64 0] : Array Value).toList (ds := [.string ⟨#[97, 105, 114]⟩, .bool false, .bool false, .bool false, .int .i64 1, .int .i64 0, .int .i64 0, .int .i64 0]) rfl).named
  rw [← hu_]
  have S13 : Hid (St w noB [blk g4 35 [.string ⟨#[97, 105, 114]⟩, .bool false, .bool false, .bool false, .int .i64 1, .int .i64 0, .int .i64 0, .int .i64 0]] U12) := Lib.hid hS_
  clear S9
  clear hu_ hS_ hg11
  refine wpG_done (fun V14 hv15 => ?_)
  have S16 : Hid (St w noB [blk g4 35 [.string ⟨#[97, 105, 114]⟩, .bool false, .bool false, .bool false, .int .i64 1, .int .i64 0, .int .i64 0, .int .i64 0]] V14) := Lib.hid (S13.out.gr hv15)
  clear S13
  clear hv15
  refine ⟨rfl, hK _ _ ?_⟩
  clear hK
  go_wp2_with fail
  (try simp only [Exit.inBlock, Exit.then])
  refine bodyPost_ret (results_cell_mid rfl _ _ _ g4 0 [.string ⟨#[97, 105, 114]⟩, .bool false, .bool false, .bool false, .int .i64 1, .int .i64 0, .int .i64 0, .int .i64 0] _ rfl (S16.out.range 0 rfl 0 8 rfl) Tryd.underlying35 rfl (by kernel_rfl)) rfl ?_
  refine ⟨?_, S16.out.bel⟩
  show Ending.returned (.agg #[.string ⟨#[97, 105, 114]⟩, .bool false, .bool false, .bool false, .int .i64 1, .int .i64 0, .int .i64 0, .int .i64 0]) = _
  (first | rfl | (rfl))
set_option maxRecDepth 1000000 in
set_option maxHeartbeats 4000000 in
theorem rair_any (w : World) :
    Calls Tryd.prog 31 #[] w fun e w' => e = .returned (.agg #[.string (bstr [97, 105, 114]), .bool false, .bool false, .bool false, .int .i64 1, .int .i64 0, .int .i64 0, .int .i64 0]) ∧ Below w.heap.size w w' := by
  have S1 : Hid (St w noB [] w) := Lib.hid (St.start w)
  go_enter Tryd.func31, Tryd.ntmps31
  go_upto_region 0 with fail
  refine wpG_region_k (fun K hK => ?_)
  refine wpG_val (some 0) rfl (by rfl) (fun W2 hg3 => ⟨.pointer (some ⟨W2.heap.size, 0, none⟩), W2.alloc (.cells #[.string ⟨#[]⟩, .bool false, .bool false, .bool false, .int .i64 0, .int .i64 0, .int .i64 0, .int .i64 0] 35), by (first | (go_simp; done) | (go_simp <;> rfl)), ?_⟩)
  simp only [n1, n3]
  obtain ⟨g4, U5, hg_, hu_, hS_⟩ := (S1.out.gr hg3).made [.string ⟨#[]⟩, .bool false, .bool false, .bool false, .int .i64 0, .int .i64 0, .int .i64 0, .int .i64 0] 35
  rw [← hu_, ← hg_]
  have S6 : Hid (St w noB [blk g4 35 [.string ⟨#[]⟩, .bool false, .bool false, .bool false, .int .i64 0, .int .i64 0, .int .i64 0, .int .i64 0]] U5) := Lib.hid hS_
  clear S1
  clear hg_ hu_ hS_ hg3
  refine wpG_done (fun V7 hv8 => ?_)
  have S9 : Hid (St w noB [blk g4 35 [.string ⟨#[]⟩, .bool false, .bool false, .bool false, .int .i64 0, .int .i64 0, .int .i64 0, .int .i64 0]] V7) := Lib.hid (S6.out.gr hv8)
  clear S6
  clear hv8
  refine ⟨rfl, hK _ _ ?_⟩
  clear hK
  go_upto_region 1 with fail
  refine wpG_region_k (fun K hK => ?_)
  refine @wpG_p _ _ _ _ _ (some 1) (.agg #[.string ⟨#[97, 105, 114]⟩, .bool false, .bool false, .bool false, .int .i64 1, .int .i64 0, .int .i64 0, .int .i64 0]) _ _ rfl (by rfl) (fun W => by go_simp) ?_
  simp only [n1, n3, n4]
  refine wpG_store (none) rfl (by rfl) (fun W10 hg11 => ⟨_, run_store_mid 35 (.tmp 0) (.tmp 1) rfl g4 0 #[.string ⟨#[97, 105, 114]⟩, .bool false, .bool false, .bool false, .int .i64 1, .int .i64 0, .int .i64 0, .int .i64 0] rfl rfl ((S9.out.gr hg11).room 0 rfl 0 8 (by simp)) (by kernel_rfl) (by kernel_rfl), ?_⟩)
  simp only [n2]
  obtain ⟨U12, hu_, hS_⟩ := ((S9.out.gr hg11).put 0 rfl 0 (#[.string ⟨#[97, 105, 114]⟩, .bool false, .bool false, .bool false, .int .i64 1, .int .i64 0, .int .i64 0, .int .i64 0] : Array Value).toList (ds := [.string ⟨#[97, 105, 114]⟩, .bool false, .bool false, .bool false, .int .i64 1, .int .i64 0, .int .i64 0, .int .i64 0]) rfl).named
  rw [← hu_]
  have S13 : Hid (St w noB [blk g4 35 [.string ⟨#[97, 105, 114]⟩, .bool false, .bool false, .bool false, .int .i64 1, .int .i64 0, .int .i64 0, .int .i64 0]] U12) := Lib.hid hS_
  clear S9
  clear hu_ hS_ hg11
  refine wpG_done (fun V14 hv15 => ?_)
  have S16 : Hid (St w noB [blk g4 35 [.string ⟨#[97, 105, 114]⟩, .bool false, .bool false, .bool false, .int .i64 1, .int .i64 0, .int .i64 0, .int .i64 0]] V14) := Lib.hid (S13.out.gr hv15)
  clear S13
  clear hv15
  refine ⟨rfl, hK _ _ ?_⟩
  clear hK
  go_wp2_with fail
  (try simp only [Exit.inBlock, Exit.then])
  refine bodyPost_ret (results_cell_mid rfl _ _ _ g4 0 [.string ⟨#[97, 105, 114]⟩, .bool false, .bool false, .bool false, .int .i64 1, .int .i64 0, .int .i64 0, .int .i64 0] _ rfl (S16.out.range 0 rfl 0 8 rfl) Tryd.underlying35 rfl (by kernel_rfl)) rfl ?_
  refine ⟨?_, S16.out.bel⟩
  show Ending.returned (.agg #[.string ⟨#[97, 105, 114]⟩, .bool false, .bool false, .bool false, .int .i64 1, .int .i64 0, .int .i64 0, .int .i64 0]) = _
  (first | rfl | (rfl))
set_option maxRecDepth 1000000 in
set_option maxHeartbeats 4000000 in
theorem letter_any (b : UInt8) (w : World) :
    Calls Tryd.prog 58 #[.int .u8 (b.toNat : Int)] w fun e w' => e = .returned (.bool (Ma.letter b)) ∧ Below w.heap.size w w' := by
  have S1 : Hid (St w noB [] w) := Lib.hid (St.start w)
  go_enter Tryd.func58, Tryd.ntmps58
  go_upto_region 0 with fail
  refine wpG_region_k (fun K hK => ?_)
  refine @wpG_p _ _ _ _ _ (some 2) (.bool false) _ _ rfl (by rfl) (fun _ => rfl) ?_
  simp only [n1, n3, n4]
  refine wpG_done (fun V2 hv3 => ?_)
  have S4 : Hid (St w noB [] V2) := Lib.hid (S1.out.gr hv3)
  clear S1
  clear hv3
  refine ⟨rfl, hK _ _ ?_⟩
  clear hK
  go_upto_region 1 with fail
  refine wpG_region_k (fun K hK => ?_)
  refine @wpG_p _ _ _ _ _ (some 3) (.int .u8 (b.toNat : Int)) _ _ rfl (by rfl) (fun _ => rfl) ?_
  simp only [n1, n3, n4]
  refine @wpG_p _ _ _ _ _ (some 4) (.bool (decide ((97 : Int) ≤ (b.toNat : Int)))) _ _ rfl (by rfl) (fun W => op_int_leq W 97 (b.toNat : Int) rfl rfl rfl Tryd.underlying5) ?_
  simp only [n1, n3, n4]
  refine @wpG_p _ _ _ _ _ (some 5) (.bool (decide ((97 : Int) ≤ (b.toNat : Int)))) _ _ rfl (by rfl) (fun _ => rfl) ?_
  simp only [n1, n3, n4]
  obtain ⟨c5, hc5⟩ : ∃ q_, q_ = (decide ((97 : Int) ≤ (b.toNat : Int))) := ⟨_, rfl⟩
  rw [← hc5]
  have Hc5 := Lib.hid hc5
  clear hc5
  cases c5 with
  | true =>
    have f6 := of_decide_eq_true Hc5.out.symm
    refine @wpG_p _ _ _ _ _ (some 6) (.int .u8 (b.toNat : Int)) _ _ rfl (by rfl) (fun _ => rfl) ?_
    simp only [n1, n3, n4]
    refine @wpG_p _ _ _ _ _ (some 7) (.bool (decide ((b.toNat : Int) ≤ 122))) _ _ rfl (by rfl) (fun W => op_int_leq W (b.toNat : Int) 122 rfl rfl rfl Tryd.underlying5) ?_
    simp only [n1, n3, n4]
    refine @wpG_p _ _ _ _ _ (some 8) (.bool (decide ((b.toNat : Int) ≤ 122))) _ _ rfl (by rfl) (fun W => by go_simp) ?_
    simp only [n1, n3, n4]
    refine @wpG_p _ _ _ _ _ (some 2) (.bool (decide ((b.toNat : Int) ≤ 122))) _ _ rfl (by rfl) (fun _ => rfl) ?_
    simp only [n1, n3, n4]
    refine wpG_done (fun V7 hv8 => ?_)
    have S9 : Hid (St w noB [] V7) := Lib.hid (S4.out.gr hv8)
    clear S4
    clear hv8
    refine ⟨rfl, hK _ _ ?_⟩
    clear hK
    go_wp2_with fail
    go_ret
    refine ⟨?_, S9.out.bel⟩
    show Ending.returned (.bool (decide ((b.toNat : Int) ≤ 122))) = _
    (first | rfl | ((congr 2; rw [Bool.eq_iff_iff]; (try simp [Ma.letter]); (try omega))))
  | false =>
    have f10 := of_decide_eq_false Hc5.out.symm
    refine @wpG_no _ _ _ _ _ (some 6) _ _ rfl (by rfl) ?_
    simp only [n1, n3, n4]
    refine @wpG_no _ _ _ _ _ (some 7) _ _ rfl (by rfl) ?_
    simp only [n1, n3, n4]
    refine @wpG_p _ _ _ _ _ (some 8) (.bool false) _ _ rfl (by rfl) (fun W => by go_simp) ?_
    simp only [n1, n3, n4]
    refine @wpG_p _ _ _ _ _ (some 2) (.bool false) _ _ rfl (by rfl) (fun _ => rfl) ?_
    simp only [n1, n3, n4]
    refine wpG_done (fun V11 hv12 => ?_)
    have S13 : Hid (St w noB [] V11) := Lib.hid (S4.out.gr hv12)
    clear S4
    clear hv12
    refine ⟨rfl, hK _ _ ?_⟩
    clear hK
    go_wp2_with fail
    go_ret
    refine ⟨?_, S13.out.bel⟩
    show Ending.returned (.bool false) = _
    (first | rfl | ((congr 2; rw [Bool.eq_iff_iff]; (try simp [Ma.letter]); (try omega))))
set_option maxRecDepth 1000000 in
set_option maxHeartbeats 4000000 in
theorem emits_any (a b c : Int) (w : World) :
    Calls Tryd.prog 47 #[.agg #[.int .i64 a, .int .i64 b, .int .i64 c]] w fun e w' => e = .returned (.bool (!decide (a = 0 ∧ b = 0 ∧ c = 0))) ∧ Below w.heap.size w w' := by
  have S1 : Hid (St w noB [] w) := Lib.hid (St.start w)
  go_enter Tryd.func47, Tryd.ntmps47
  go_upto_region 0 with fail
  refine wpG_region_k (fun K hK => ?_)
  refine wpG_val (some 1) rfl (by rfl) (fun W2 hg3 => ⟨.pointer (some ⟨W2.heap.size, 0, none⟩), W2.alloc (.cells #[.int .i64 a, .int .i64 b, .int .i64 c] 33), by (first | (go_simp; done) | (go_simp <;> rfl)), ?_⟩)
  simp only [n1, n3, n4]
  obtain ⟨g4, U5, hg_, hu_, hS_⟩ := (S1.out.gr hg3).made [.int .i64 a, .int .i64 b, .int .i64 c] 33
  rw [← hu_, ← hg_]
  have S6 : Hid (St w noB [blk g4 33 [.int .i64 a, .int .i64 b, .int .i64 c]] U5) := Lib.hid hS_
  clear S1
  clear hg_ hu_ hS_ hg3
  refine @wpG_p _ _ _ _ _ (some 2) (.bool false) _ _ rfl (by rfl) (fun _ => rfl) ?_
  simp only [n1, n3, n4]
  refine wpG_done (fun V7 hv8 => ?_)
  have S9 : Hid (St w noB [blk g4 33 [.int .i64 a, .int .i64 b, .int .i64 c]] V7) := Lib.hid (S6.out.gr hv8)
  clear S6
  clear hv8
  refine ⟨rfl, hK _ _ ?_⟩
  clear hK
  go_upto_region 1 with fail
  refine wpG_region_k (fun K hK => ?_)
  refine @wpG_tk _ _ _ _ _ (some 3) (.agg #[.int .i64 a, .int .i64 b, .int .i64 c]) _ _ rfl (.load_mid (by rfl) 33 (.tmp 1) rfl g4 0 rfl [.int .i64 a, .int .i64 b, .int .i64 c] _ (fun W hg => (S9.out.gr hg).range 0 rfl 0 3 rfl) Tryd.underlying33 rfl (by kernel_rfl)) ?_
  simp only [n1, n3, n4]
  refine @wpG_p _ _ _ _ _ (some 4) (.agg #[.int .i64 0, .int .i64 0, .int .i64 0]) _ _ rfl (by rfl) (fun W => by go_simp) ?_
  simp only [n1, n3, n4]
  refine @wpG_p _ _ _ _ _ (some 5) (.bool (decide (¬ (a = 0 ∧ b = 0 ∧ c = 0)))) _ _ rfl (by rfl) (fun W => op_i3_neq W a b c 0 0 0 rfl rfl rfl) ?_
  simp only [n1, n3, n4]
  refine @wpG_p _ _ _ _ _ (some 2) (.bool (decide (¬ (a = 0 ∧ b = 0 ∧ c = 0)))) _ _ rfl (by rfl) (fun _ => rfl) ?_
  simp only [n1, n3, n4]
  refine wpG_done (fun V10 hv11 => ?_)
  have S12 : Hid (St w noB [blk g4 33 [.int .i64 a, .int .i64 b, .int .i64 c]] V10) := Lib.hid (S9.out.gr hv11)
  clear S9
  clear hv11
  refine ⟨rfl, hK _ _ ?_⟩
  clear hK
  go_wp2_with fail
  go_ret
  refine ⟨?_, S12.out.bel⟩
  show Ending.returned (.bool (decide (¬ (a = 0 ∧ b = 0 ∧ c = 0)))) = _
  (first | rfl | (simp))
set_option maxRecDepth 1000000 in
set_option maxHeartbeats 4000000 in
theorem rkind_any (n : List UInt8) (s l f : Bool) (fd a b c : Int) (w : World) :
    Calls Tryd.prog 49 #[.agg #[.string (bstr n), .bool s, .bool l, .bool f, .int .i64 fd, .int .i64 a, .int .i64 b, .int .i64 c]] w fun e w' => e = .returned (.string (bstr (Ma.kw ⟨n, s, l, f, fd, a, b, c⟩))) ∧ Below w.heap.size w w' := by
  have S1 : Hid (St w noB [] w) := Lib.hid (St.start w)
  go_enter Tryd.func49, Tryd.ntmps49
  go_upto_region 0 with fail
  refine wpG_region_k (fun K hK => ?_)
  refine wpG_val (some 1) rfl (by rfl) (fun W2 hg3 => ⟨.pointer (some ⟨W2.heap.size, 0, none⟩), W2.alloc (.cells #[.string (bstr n), .bool s, .bool l, .bool f, .int .i64 fd, .int .i64 a, .int .i64 b, .int .i64 c] 35), by (first | (go_simp; done) | (go_simp <;> rfl)), ?_⟩)
  simp only [n1, n3, n4]
  obtain ⟨g4, U5, hg_, hu_, hS_⟩ := (S1.out.gr hg3).made [.string (bstr n), .bool s, .bool l, .bool f, .int .i64 fd, .int .i64 a, .int .i64 b, .int .i64 c] 35
  rw [← hu_, ← hg_]
  have S6 : Hid (St w noB [blk g4 35 [.string (bstr n), .bool s, .bool l, .bool f, .int .i64 fd, .int .i64 a, .int .i64 b, .int .i64 c]] U5) := Lib.hid hS_
  clear S1
  clear hg_ hu_ hS_ hg3
  refine @wpG_p _ _ _ _ _ (some 2) (.string ⟨#[]⟩) _ _ rfl (by rfl) (fun _ => rfl) ?_
  simp only [n1, n3, n4]
  refine wpG_done (fun V7 hv8 => ?_)
  have S9 : Hid (St w noB [blk g4 35 [.string (bstr n), .bool s, .bool l, .bool f, .int .i64 fd, .int .i64 a, .int .i64 b, .int .i64 c]] V7) := Lib.hid (S6.out.gr hv8)
  clear S6
  clear hv8
  refine ⟨rfl, hK _ _ ?_⟩
  clear hK
  go_upto_region 1 with fail
  refine wpG_region_k (fun K hK => ?_)
  refine @wpG_p _ _ _ _ _ (some 3) (.pointer (some ⟨g4, 3, none⟩)) _ _ rfl (by rfl) (fun W => by go_simp) ?_
  simp only [n1, n3, n4]
  refine @wpG_r _ _ _ _ _ (some 4) (.bool f) _ _ rfl (by rfl) (fun W hg => by have c := (S9.out.gr hg).cell 0 rfl 3 rfl; go_simp) ?_
  simp only [n1, n3, n4]
  refine wpG_done (fun V10 hv11 => ?_)
  have S12 : Hid (St w noB [blk g4 35 [.string (bstr n), .bool s, .bool l, .bool f, .int .i64 fd, .int .i64 a, .int .i64 b, .int .i64 c]] V10) := Lib.hid (S9.out.gr hv11)
  clear S9
  clear hv11
  refine ⟨rfl, hK _ _ ?_⟩
  clear hK
  cases f with
  | true =>
    go_upto_region 2 with fail
    refine wpG_region_k (fun K hK => ?_)
    refine @wpG_p _ _ _ _ _ (some 2) (.string ⟨#[102, 97, 108, 108, 105, 110, 103]⟩) _ _ rfl (by rfl) (fun _ => rfl) ?_
    simp only [n1, n3, n4]
    refine wpG_done (fun V13 hv14 => ?_)
    have S15 : Hid (St w noB [blk g4 35 [.string (bstr n), .bool s, .bool l, .bool true, .int .i64 fd, .int .i64 a, .int .i64 b, .int .i64 c]] V13) := Lib.hid (S12.out.gr hv14)
    clear S12
    clear hv14
    refine ⟨rfl, hK _ _ ?_⟩
    clear hK
    go_wp2_with fail
    go_ret
    refine ⟨?_, S15.out.bel⟩
    show Ending.returned (.string ⟨#[102, 97, 108, 108, 105, 110, 103]⟩) = _
    (first | rfl | (rfl))
  | false =>
    go_upto_region 3 with fail
    refine wpG_region_k (fun K hK => ?_)
    refine @wpG_p _ _ _ _ _ (some 5) (.pointer (some ⟨g4, 1, none⟩)) _ _ rfl (by rfl) (fun W => by go_simp) ?_
    simp only [n1, n3, n4]
    refine @wpG_r _ _ _ _ _ (some 6) (.bool s) _ _ rfl (by rfl) (fun W hg => by have c := (S12.out.gr hg).cell 0 rfl 1 rfl; go_simp) ?_
    simp only [n1, n3, n4]
    refine wpG_done (fun V16 hv17 => ?_)
    have S18 : Hid (St w noB [blk g4 35 [.string (bstr n), .bool s, .bool l, .bool false, .int .i64 fd, .int .i64 a, .int .i64 b, .int .i64 c]] V16) := Lib.hid (S12.out.gr hv17)
    clear S12
    clear hv17
    refine ⟨rfl, hK _ _ ?_⟩
    clear hK
    cases s with
    | true =>
      go_upto_region 4 with fail
      refine wpG_region_k (fun K hK => ?_)
      refine @wpG_p _ _ _ _ _ (some 2) (.string ⟨#[115, 111, 108, 105, 100]⟩) _ _ rfl (by rfl) (fun _ => rfl) ?_
      simp only [n1, n3, n4]
      refine wpG_done (fun V19 hv20 => ?_)
      have S21 : Hid (St w noB [blk g4 35 [.string (bstr n), .bool true, .bool l, .bool false, .int .i64 fd, .int .i64 a, .int .i64 b, .int .i64 c]] V19) := Lib.hid (S18.out.gr hv20)
      clear S18
      clear hv20
      refine ⟨rfl, hK _ _ ?_⟩
      clear hK
      go_wp2_with fail
      go_ret
      refine ⟨?_, S21.out.bel⟩
      show Ending.returned (.string ⟨#[115, 111, 108, 105, 100]⟩) = _
      (first | rfl | (rfl))
    | false =>
      go_upto_region 5 with fail
      refine wpG_region_k (fun K hK => ?_)
      refine @wpG_p _ _ _ _ _ (some 7) (.pointer (some ⟨g4, 2, none⟩)) _ _ rfl (by rfl) (fun W => by go_simp) ?_
      simp only [n1, n3, n4]
      refine @wpG_r _ _ _ _ _ (some 8) (.bool l) _ _ rfl (by rfl) (fun W hg => by have c := (S18.out.gr hg).cell 0 rfl 2 rfl; go_simp) ?_
      simp only [n1, n3, n4]
      refine wpG_done (fun V22 hv23 => ?_)
      have S24 : Hid (St w noB [blk g4 35 [.string (bstr n), .bool false, .bool l, .bool false, .int .i64 fd, .int .i64 a, .int .i64 b, .int .i64 c]] V22) := Lib.hid (S18.out.gr hv23)
      clear S18
      clear hv23
      refine ⟨rfl, hK _ _ ?_⟩
      clear hK
      cases l with
      | true =>
        go_upto_region 6 with fail
        refine wpG_region_k (fun K hK => ?_)
        refine @wpG_p _ _ _ _ _ (some 2) (.string ⟨#[108, 105, 113, 117, 105, 100]⟩) _ _ rfl (by rfl) (fun _ => rfl) ?_
        simp only [n1, n3, n4]
        refine wpG_done (fun V25 hv26 => ?_)
        have S27 : Hid (St w noB [blk g4 35 [.string (bstr n), .bool false, .bool true, .bool false, .int .i64 fd, .int .i64 a, .int .i64 b, .int .i64 c]] V25) := Lib.hid (S24.out.gr hv26)
        clear S24
        clear hv26
        refine ⟨rfl, hK _ _ ?_⟩
        clear hK
        go_wp2_with fail
        go_ret
        refine ⟨?_, S27.out.bel⟩
        show Ending.returned (.string ⟨#[108, 105, 113, 117, 105, 100]⟩) = _
        (first | rfl | (rfl))
      | false =>
        go_upto_region 7 with fail
        refine wpG_region_k (fun K hK => ?_)
        refine @wpG_p _ _ _ _ _ (some 2) (.string ⟨#[103, 97, 115]⟩) _ _ rfl (by rfl) (fun _ => rfl) ?_
        simp only [n1, n3, n4]
        refine wpG_done (fun V28 hv29 => ?_)
        have S30 : Hid (St w noB [blk g4 35 [.string (bstr n), .bool false, .bool false, .bool false, .int .i64 fd, .int .i64 a, .int .i64 b, .int .i64 c]] V28) := Lib.hid (S24.out.gr hv29)
        clear S24
        clear hv29
        refine ⟨rfl, hK _ _ ?_⟩
        clear hK
        go_wp2_with fail
        go_ret
        refine ⟨?_, S30.out.bel⟩
        show Ending.returned (.string ⟨#[103, 97, 115]⟩) = _
        (first | rfl | (rfl))

end Go.Proofs.YtpjjddjoegnipaaDoor
