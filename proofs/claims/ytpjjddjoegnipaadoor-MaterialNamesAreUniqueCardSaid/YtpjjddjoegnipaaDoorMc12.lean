/-
  Contract: a line of the specification.
-/
import Derived.Test.YtpjjddjoegnipaaDoorMc11
import Derived.Test.YtpjjddjoegnipaaDoorSxb
import Derived.Handy
namespace Go.Proofs.YtpjjddjoegnipaaDoor
open Go Go.RowKit
set_option linter.unusedVariables false
set_option linter.unusedSimpArgs false
set_option maxRecDepth 1000000 in
set_option maxHeartbeats 4000000 in
theorem rmat_4 (x : List UInt8) (n0 k0 f0 d0 : List UInt8) (w : World) (hx : x.length ≤ 1000000) (hw : Ma.words x = [n0, k0, f0, d0]) :
    Calls Tryd.prog 41 #[.string (bstr x)] w fun e w' => ∃ m : Ma.Mt, e = .returned (.tuple #[.agg #[.string (bstr m.n), .bool m.s, .bool m.l, .bool m.f, .int .i64 m.fd, .int .i64 m.a, .int .i64 m.b, .int .i64 m.c], .bool ((Ma.mat x).isSome)]) ∧ (∀ m', Ma.mat x = some m' → m' = m) ∧ Below w.heap.size w w' := by
  have S1 : Hid (St w noB [] w) := Lib.hid (St.start w)
  go_enter Tryd.func41, Tryd.ntmps41
  go_upto_region 0 with fail
  refine wpG_region_k (fun K hK => ?_)
  refine wpG_val (some 2) rfl (by rfl) (fun W2 hg3 => ⟨.pointer (some ⟨W2.heap.size, 0, none⟩), W2.alloc (.cells #[.string ⟨#[]⟩, .bool false, .bool false, .bool false, .int .i64 0, .int .i64 0, .int .i64 0, .int .i64 0] 35), by (first | (go_simp; done) | (go_simp <;> rfl)), ?_⟩)
  simp only [n1, n3, n4]
  obtain ⟨g4, U5, hg_, hu_, hS_⟩ := (S1.out.gr hg3).made [.string ⟨#[]⟩, .bool false, .bool false, .bool false, .int .i64 0, .int .i64 0, .int .i64 0, .int .i64 0] 35
  rw [← hu_, ← hg_]
  have S6 : Hid (St w noB [blk g4 35 [.string ⟨#[]⟩, .bool false, .bool false, .bool false, .int .i64 0, .int .i64 0, .int .i64 0, .int .i64 0]] U5) := Lib.hid hS_
  clear S1
  clear hg_ hu_ hS_ hg3
  refine @wpG_p _ _ _ _ _ (some 3) (.bool false) _ _ rfl (by rfl) (fun _ => rfl) ?_
  simp only [n1, n3, n4]
  refine wpG_done (fun V7 hv8 => ?_)
  have S9 : Hid (St w noB [blk g4 35 [.string ⟨#[]⟩, .bool false, .bool false, .bool false, .int .i64 0, .int .i64 0, .int .i64 0, .int .i64 0]] V7) := Lib.hid (S6.out.gr hv8)
  clear S6
  clear hv8
  refine ⟨rfl, hK _ _ ?_⟩
  clear hK
  go_upto_region 1 with fail
  refine wpG_region_k (fun K hK => ?_)
  refine @wpG_p _ _ _ _ _ (some 7) (.string (bstr x)) _ _ rfl (by rfl) (fun _ => rfl) ?_
  simp only [n1, n3, n4]
  refine wpG_call (some 8) 56 #[.string (bstr x)] rfl (by rfl) (fun W => by go_simp) (fun W10 hg11 => ?_)
  refine (words_any x W10 (by omega)).mono ?_
  rintro e w12 ⟨wA, wn, wc, rfl, hS_⟩
  refine ⟨_, rfl, ?_⟩
  rw [hw] at hS_
  obtain ⟨rfl, wg, rfl⟩ := own_lit (hS_.ownr 0 rfl) (k := 4) rfl (by decide)
  have hT_ := (S9.out.gr hg11).got hS_
  simp only [n1, n3, n4]
  have S13 : Hid (St w noB [own (.slice (some ⟨wg, 0, none⟩) 4 wc) 9 1 4 ([n0, k0, f0, d0].map sv), blk g4 35 [.string ⟨#[]⟩, .bool false, .bool false, .bool false, .int .i64 0, .int .i64 0, .int .i64 0, .int .i64 0]] w12) := Lib.hid hT_
  clear S9
  clear hT_ hS_ hg11
  refine @wpG_p _ _ _ _ _ (some 4) (.slice (some ⟨wg, 0, none⟩) 4 wc) _ _ rfl (by rfl) (fun _ => rfl) ?_
  simp only [n1, n3, n4]
  refine wpG_done (fun V14 hv15 => ?_)
  have S16 : Hid (St w noB [own (.slice (some ⟨wg, 0, none⟩) 4 wc) 9 1 4 ([n0, k0, f0, d0].map sv), blk g4 35 [.string ⟨#[]⟩, .bool false, .bool false, .bool false, .int .i64 0, .int .i64 0, .int .i64 0, .int .i64 0]] V14) := Lib.hid (S13.out.gr hv15)
  clear S13
  clear hv15
  refine ⟨rfl, hK _ _ ?_⟩
  clear hK
  go_upto_region 2 with fail
  refine wpG_region_k (fun K hK => ?_)
  refine @wpG_p _ _ _ _ _ (some 9) (.slice (some ⟨wg, 0, none⟩) 4 wc) _ _ rfl (by rfl) (fun _ => rfl) ?_
  simp only [n1, n3, n4]
  refine @wpG_p _ _ _ _ _ (some 10) (.int .i64 4) _ _ rfl (by rfl) (fun W => by go_simp) ?_
  simp only [n1, n3, n4]
  refine @wpG_p _ _ _ _ _ (some 11) (.bool false) _ _ rfl (by rfl) (fun W => by go_simp) ?_
  simp only [n1, n3, n4]
  refine @wpG_p _ _ _ _ _ (some 12) (.bool false) _ _ rfl (by rfl) (fun _ => rfl) ?_
  simp only [n1, n3, n4]
  refine @wpG_no _ _ _ _ _ (some 13) _ _ rfl (by rfl) ?_
  simp only [n1, n3, n4]
  refine @wpG_no _ _ _ _ _ (some 14) _ _ rfl (by rfl) ?_
  simp only [n1, n3, n4]
  refine @wpG_no _ _ _ _ _ (some 15) _ _ rfl (by rfl) ?_
  simp only [n1, n3, n4]
  refine @wpG_p _ _ _ _ _ (some 16) (.bool false) _ _ rfl (by rfl) (fun W => by go_simp) ?_
  simp only [n1, n3, n4]
  refine @wpG_p _ _ _ _ _ (some 17) (.bool false) _ _ rfl (by rfl) (fun _ => rfl) ?_
  simp only [n1, n3, n4]
  refine @wpG_p _ _ _ _ _ (some 18) (.slice (some ⟨wg, 0, none⟩) 4 wc) _ _ rfl (by rfl) (fun _ => rfl) ?_
  simp only [n1, n3, n4]
  refine @wpG_p _ _ _ _ _ (some 19) (.pointer (some ⟨wg, 0, none⟩)) _ _ rfl (by rfl) (fun W => by (go_simp <;> first | rfl | omega | (simp; omega))) ?_
  simp only [n1, n3, n4]
  refine @wpG_r _ _ _ _ _ (some 20) (.string (bstr n0)) _ _ rfl (by rfl) (fun W hg => by have c := ((lies_at1 ((S16.out.gr hg).liesOwn 0 rfl) 0 (v := .string (bstr n0)) rfl)) 0 _ rfl; (try simp only [Nat.add_zero, Nat.zero_add] at c); go_simp) ?_
  simp only [n1, n3, n4]
  refine @wpG_p _ _ _ _ _ (some 21) (.bool (decide (n0 = []))) _ _ rfl (by rfl) (fun W => op_str_eql W n0 [] rfl rfl rfl Tryd.underlying9) ?_
  simp only [n1, n3, n4]
  refine @wpG_p _ _ _ _ _ (some 22) (.bool (decide (n0 = []))) _ _ rfl (by rfl) (fun W => by go_simp) ?_
  simp only [n1, n3, n4]
  refine @wpG_p _ _ _ _ _ (some 23) (.bool (decide (n0 = []))) _ _ rfl (by rfl) (fun _ => rfl) ?_
  simp only [n1, n3, n4]
  obtain ⟨c17, hc17⟩ : ∃ q_, q_ = (decide (n0 = [])) := ⟨_, rfl⟩
  rw [← hc17]
  have Hc17 := Lib.hid hc17
  clear hc17
  cases c17 with
  | true =>
    have f18 := Lib.hid (of_decide_eq_true Hc17.out.symm)
    refine @wpG_no _ _ _ _ _ (some 24) _ _ rfl (by rfl) ?_
    simp only [n1, n3, n4]
    refine @wpG_no _ _ _ _ _ (some 25) _ _ rfl (by rfl) ?_
    simp only [n1, n3, n4]
    refine @wpG_no _ _ _ _ _ (some 26) _ _ rfl (by rfl) ?_
    simp only [n1, n3, n4]
    refine @wpG_no _ _ _ _ _ (some 27) _ _ rfl (by rfl) ?_
    simp only [n1, n3, n4]
    refine @wpG_p _ _ _ _ _ (some 28) (.bool true) _ _ rfl (by rfl) (fun W => by go_simp) ?_
    simp only [n1, n3, n4]
    refine wpG_done (fun V19 hv20 => ?_)
    have S21 : Hid (St w noB [own (.slice (some ⟨wg, 0, none⟩) 4 wc) 9 1 4 ([n0, k0, f0, d0].map sv), blk g4 35 [.string ⟨#[]⟩, .bool false, .bool false, .bool false, .int .i64 0, .int .i64 0, .int .i64 0, .int .i64 0]] V19) := Lib.hid (S16.out.gr hv20)
    clear S16
    clear hv20
    refine ⟨rfl, hK _ _ ?_⟩
    clear hK
    go_upto_region 3 with fail
    refine wpG_region_k (fun K hK => ?_)
    refine @wpG_p _ _ _ _ _ (some 29) (.agg #[.string ⟨#[]⟩, .bool false, .bool false, .bool false, .int .i64 0, .int .i64 0, .int .i64 0, .int .i64 0]) _ _ rfl (by rfl) (fun W => by go_simp) ?_
    simp only [n1, n3, n4]
    refine wpG_store (none) rfl (by rfl) (fun W22 hg23 => ⟨_, run_store_mid 35 (.tmp 2) (.tmp 29) rfl g4 0 #[.string ⟨#[]⟩, .bool false, .bool false, .bool false, .int .i64 0, .int .i64 0, .int .i64 0, .int .i64 0] rfl rfl ((S21.out.gr hg23).room 1 rfl 0 8 (by simp)) (by kernel_rfl) (by kernel_rfl), ?_⟩)
    simp only [n2]
    obtain ⟨U24, hu_, hS_⟩ := ((S21.out.gr hg23).put 1 rfl 0 (#[.string ⟨#[]⟩, .bool false, .bool false, .bool false, .int .i64 0, .int .i64 0, .int .i64 0, .int .i64 0] : Array Value).toList (ds := [.string ⟨#[]⟩, .bool false, .bool false, .bool false, .int .i64 0, .int .i64 0, .int .i64 0, .int .i64 0]) rfl).named
    rw [← hu_]
    have S25 : Hid (St w noB [own (.slice (some ⟨wg, 0, none⟩) 4 wc) 9 1 4 ([n0, k0, f0, d0].map sv), blk g4 35 [.string ⟨#[]⟩, .bool false, .bool false, .bool false, .int .i64 0, .int .i64 0, .int .i64 0, .int .i64 0]] U24) := Lib.hid hS_
    clear S21
    clear hu_ hS_ hg23
    refine @wpG_p _ _ _ _ _ (some 3) (.bool false) _ _ rfl (by rfl) (fun _ => rfl) ?_
    simp only [n1, n3, n4]
    refine wpG_done (fun V26 hv27 => ?_)
    have S28 : Hid (St w noB [own (.slice (some ⟨wg, 0, none⟩) 4 wc) 9 1 4 ([n0, k0, f0, d0].map sv), blk g4 35 [.string ⟨#[]⟩, .bool false, .bool false, .bool false, .int .i64 0, .int .i64 0, .int .i64 0, .int .i64 0]] V26) := Lib.hid (S25.out.gr hv27)
    clear S25
    clear hv27
    refine ⟨rfl, hK _ _ ?_⟩
    clear hK
    go_wp2_with fail
    (try simp only [Exit.inBlock, Exit.then])
    refine bodyPost_ret (results_cell_tmp rfl _ _ _ g4 0 [.string ⟨#[]⟩, .bool false, .bool false, .bool false, .int .i64 0, .int .i64 0, .int .i64 0, .int .i64 0] _ rfl (S28.out.range 1 rfl 0 8 rfl) Tryd.underlying35 rfl (by kernel_rfl)) rfl ?_
    (have e_f18 := f18.out; have h : Ma.mat x = none := (Ma.mat_w hw).trans (Ma.m4_4 (Ma.m4_name e_f18)); exact ⟨((⟨[], false, false, false, 0, 0, 0, 0⟩ : Ma.Mt) : Ma.Mt), by show Ending.returned (.tuple #[.agg #[.string ⟨#[]⟩, .bool false, .bool false, .bool false, .int .i64 0, .int .i64 0, .int .i64 0, .int .i64 0], .bool false]) = _; rw [h]; rfl, fun m_ hm_ => (by rw [h] at hm_; cases hm_), S28.out.bel⟩)
  | false =>
    have f29 := of_decide_eq_false Hc17.out.symm
    refine @wpG_p _ _ _ _ _ (some 24) (.slice (some ⟨wg, 0, none⟩) 4 wc) _ _ rfl (by rfl) (fun _ => rfl) ?_
    simp only [n1, n3, n4]
    refine @wpG_p _ _ _ _ _ (some 25) (.pointer (some ⟨wg, 2, none⟩)) _ _ rfl (by rfl) (fun W => by (go_simp <;> first | rfl | omega | (simp; omega))) ?_
    simp only [n1, n3, n4]
    refine @wpG_r _ _ _ _ _ (some 26) (.string (bstr f0)) _ _ rfl (by rfl) (fun W hg => by have c := ((lies_at1 ((S16.out.gr hg).liesOwn 0 rfl) 2 (v := .string (bstr f0)) rfl)) 0 _ rfl; (try simp only [Nat.add_zero, Nat.zero_add] at c); go_simp) ?_
    simp only [n1, n3, n4]
    refine @wpG_p _ _ _ _ _ (some 27) (.bool (decide (f0 ≠ [102, 97, 100, 101]))) _ _ rfl (by rfl) (fun W => op_str_neq W f0 [102, 97, 100, 101] rfl rfl rfl Tryd.underlying9) ?_
    simp only [n1, n3, n4]
    refine @wpG_p _ _ _ _ _ (some 28) (.bool (decide (f0 ≠ [102, 97, 100, 101]))) _ _ rfl (by rfl) (fun W => by go_simp) ?_
    simp only [n1, n3, n4]
    refine wpG_done (fun V30 hv31 => ?_)
    have S32 : Hid (St w noB [own (.slice (some ⟨wg, 0, none⟩) 4 wc) 9 1 4 ([n0, k0, f0, d0].map sv), blk g4 35 [.string ⟨#[]⟩, .bool false, .bool false, .bool false, .int .i64 0, .int .i64 0, .int .i64 0, .int .i64 0]] V30) := Lib.hid (S16.out.gr hv31)
    clear S16
    clear hv31
    refine ⟨rfl, hK _ _ ?_⟩
    clear hK
    obtain ⟨c33, hc33⟩ : ∃ q_, q_ = (decide (f0 ≠ [102, 97, 100, 101])) := ⟨_, rfl⟩
    rw [← hc33]
    have Hc33 := Lib.hid hc33
    clear hc33
    cases c33 with
    | true =>
      have f34 := of_decide_eq_true Hc33.out.symm
      go_upto_region 3 with fail
      refine wpG_region_k (fun K hK => ?_)
      refine @wpG_p _ _ _ _ _ (some 29) (.agg #[.string ⟨#[]⟩, .bool false, .bool false, .bool false, .int .i64 0, .int .i64 0, .int .i64 0, .int .i64 0]) _ _ rfl (by rfl) (fun W => by go_simp) ?_
      simp only [n1, n3, n4]
      refine wpG_store (none) rfl (by rfl) (fun W35 hg36 => ⟨_, run_store_mid 35 (.tmp 2) (.tmp 29) rfl g4 0 #[.string ⟨#[]⟩, .bool false, .bool false, .bool false, .int .i64 0, .int .i64 0, .int .i64 0, .int .i64 0] rfl rfl ((S32.out.gr hg36).room 1 rfl 0 8 (by simp)) (by kernel_rfl) (by kernel_rfl), ?_⟩)
      simp only [n2]
      obtain ⟨U37, hu_, hS_⟩ := ((S32.out.gr hg36).put 1 rfl 0 (#[.string ⟨#[]⟩, .bool false, .bool false, .bool false, .int .i64 0, .int .i64 0, .int .i64 0, .int .i64 0] : Array Value).toList (ds := [.string ⟨#[]⟩, .bool false, .bool false, .bool false, .int .i64 0, .int .i64 0, .int .i64 0, .int .i64 0]) rfl).named
      rw [← hu_]
      have S38 : Hid (St w noB [own (.slice (some ⟨wg, 0, none⟩) 4 wc) 9 1 4 ([n0, k0, f0, d0].map sv), blk g4 35 [.string ⟨#[]⟩, .bool false, .bool false, .bool false, .int .i64 0, .int .i64 0, .int .i64 0, .int .i64 0]] U37) := Lib.hid hS_
      clear S32
      clear hu_ hS_ hg36
      refine @wpG_p _ _ _ _ _ (some 3) (.bool false) _ _ rfl (by rfl) (fun _ => rfl) ?_
      simp only [n1, n3, n4]
      refine wpG_done (fun V39 hv40 => ?_)
      have S41 : Hid (St w noB [own (.slice (some ⟨wg, 0, none⟩) 4 wc) 9 1 4 ([n0, k0, f0, d0].map sv), blk g4 35 [.string ⟨#[]⟩, .bool false, .bool false, .bool false, .int .i64 0, .int .i64 0, .int .i64 0, .int .i64 0]] V39) := Lib.hid (S38.out.gr hv40)
      clear S38
      clear hv40
      refine ⟨rfl, hK _ _ ?_⟩
      clear hK
      go_wp2_with fail
      (try simp only [Exit.inBlock, Exit.then])
      refine bodyPost_ret (results_cell_tmp rfl _ _ _ g4 0 [.string ⟨#[]⟩, .bool false, .bool false, .bool false, .int .i64 0, .int .i64 0, .int .i64 0, .int .i64 0] _ rfl (S41.out.range 1 rfl 0 8 rfl) Tryd.underlying35 rfl (by kernel_rfl)) rfl ?_
      (have h : Ma.mat x = none := (Ma.mat_w hw).trans (Ma.m4_4 (Ma.mat4_fade f34)); exact ⟨((⟨[], false, false, false, 0, 0, 0, 0⟩ : Ma.Mt) : Ma.Mt), by show Ending.returned (.tuple #[.agg #[.string ⟨#[]⟩, .bool false, .bool false, .bool false, .int .i64 0, .int .i64 0, .int .i64 0, .int .i64 0], .bool false]) = _; rw [h]; rfl, fun m_ hm_ => (by rw [h] at hm_; cases hm_), S41.out.bel⟩)
    | false =>
      have f42 := Lib.hid (Decidable.not_not.1 (of_decide_eq_false Hc33.out.symm))
      go_upto_region 4 with fail
      refine wpK_region_k (by kernel_rfl) (fun K hK => ?_)
      refine wpK_ta (i := 0) (some 30) (v := .slice (some ⟨wg, 0, none⟩) 4 wc) rfl rfl (by kernel_rfl) (fun _ _ _ h => onN_panic h) (Or.inl ⟨rfl, fun _ => rfl⟩) ?_
      simp only [n1, n3, n4]
      refine wpK_ta (i := 1) (some 31) (v := .pointer (some ⟨wg, 0, none⟩)) rfl rfl (by kernel_rfl) (fun _ _ _ h => onN_panic h) (Or.inl ⟨by rfl, fun W => by (go_simp <;> first | rfl | omega | (simp; omega))⟩) ?_
      simp only [n1, n3, n4]
      refine wpK_ta (i := 3) (some 33) (v := .slice (some ⟨wg, 0, none⟩) 4 wc) rfl rfl (by kernel_rfl) (fun _ _ _ h => onN_panic h) (Or.inl ⟨rfl, fun _ => rfl⟩) ?_
      simp only [n1, n3, n4]
      refine wpK_ta (i := 4) (some 34) (v := .pointer (some ⟨wg, 3, none⟩)) rfl rfl (by kernel_rfl) (fun _ _ _ h => onN_panic h) (Or.inl ⟨by rfl, fun W => by (go_simp <;> first | rfl | omega | (simp; omega))⟩) ?_
      simp only [n1, n3, n4]
      refine wpK_tk (i := 2) (some 32) (v := .string (bstr n0)) rfl rfl (by kernel_rfl) (fun _ _ _ h => onN_panic h) (.val (by rfl) (fun W hg => by have c := ((lies_at1 ((S32.out.gr (Gr.un hg)).liesOwn 0 rfl) 0 (v := .string (bstr n0)) rfl)) 0 _ rfl; (try simp only [Nat.add_zero, Nat.zero_add] at c); go_simp)) ?_
      simp only [n1, n3, n4]
      refine wpK_tk (i := 5) (some 35) (v := .string (bstr d0)) rfl rfl (by kernel_rfl) (fun _ _ _ h => onN_panic h) (.val (by rfl) (fun W hg => by have c := ((lies_at1 ((S32.out.gr (Gr.un hg)).liesOwn 0 rfl) 3 (v := .string (bstr d0)) rfl)) 0 _ rfl; (try simp only [Nat.add_zero, Nat.zero_add] at c); go_simp)) ?_
      simp only [n1, n3, n4]
      refine wpK_tk (i := 6) (some 36) (v := .int .i64 (Ma.nr d0)) rfl rfl (by kernel_rfl) (fun _ _ _ h => onN_panic h) (.call (f := 57) (args := #[.string (bstr d0)]) (by rfl) (fun W => by go_simp) (fun W hg => number_any d0 W)) ?_
      simp only [n1, n3, n4]
      refine wpK_ta (i := 7) (some 37) (v := .agg #[.string (bstr n0), .bool false, .bool false, .bool false, .int .i64 (Ma.nr d0), .int .i64 0, .int .i64 0, .int .i64 0]) rfl rfl (by kernel_rfl) (fun _ _ _ h => onN_panic h) (Or.inl ⟨by rfl, fun W => by go_simp⟩) ?_
      simp only [n1, n3, n4]
      refine wpK_val (i := 8) (some 5) rfl rfl (by kernel_rfl) (by rfl) (fun W43 hg44 => ⟨.pointer (some ⟨W43.heap.size, 0, none⟩), W43.alloc (.cells #[.string ⟨#[]⟩, .bool false, .bool false, .bool false, .int .i64 0, .int .i64 0, .int .i64 0, .int .i64 0] 35), by (first | (go_simp; done) | (go_simp <;> rfl)), Gr.al _ _, ?_⟩)
      simp only [n1, n3, n4]
      obtain ⟨g45, U46, hg_, hu_, hS_⟩ := (S32.out.gr (Gr.un hg44)).made [.string ⟨#[]⟩, .bool false, .bool false, .bool false, .int .i64 0, .int .i64 0, .int .i64 0, .int .i64 0] 35
      rw [← hu_, ← hg_]
      have S47 : Hid (St w noB [blk g45 35 [.string ⟨#[]⟩, .bool false, .bool false, .bool false, .int .i64 0, .int .i64 0, .int .i64 0, .int .i64 0], own (.slice (some ⟨wg, 0, none⟩) 4 wc) 9 1 4 ([n0, k0, f0, d0].map sv), blk g4 35 [.string ⟨#[]⟩, .bool false, .bool false, .bool false, .int .i64 0, .int .i64 0, .int .i64 0, .int .i64 0]] U46) := Lib.hid hS_
      clear S32
      clear hg_ hu_ hS_ hg44
      refine wpK_store (i := 9) (none) rfl rfl (by kernel_rfl) (by rfl) (by rfl) (fun W48 hg49 => ⟨_, run_store_mid 35 (.tmp 5) (.tmp 37) rfl g45 0 #[.string (bstr n0), .bool false, .bool false, .bool false, .int .i64 (Ma.nr d0), .int .i64 0, .int .i64 0, .int .i64 0] rfl rfl ((S47.out.gr hg49).room 0 rfl 0 8 (by simp)) (by kernel_rfl) (by kernel_rfl), ?_⟩)
      simp only [n2]
      obtain ⟨U50, hu_, hS_⟩ := ((S47.out.gr hg49).put 0 rfl 0 (#[.string (bstr n0), .bool false, .bool false, .bool false, .int .i64 (Ma.nr d0), .int .i64 0, .int .i64 0, .int .i64 0] : Array Value).toList (ds := [.string (bstr n0), .bool false, .bool false, .bool false, .int .i64 (Ma.nr d0), .int .i64 0, .int .i64 0, .int .i64 0]) rfl).named
      rw [← hu_]
      have S51 : Hid (St w noB [blk g45 35 [.string (bstr n0), .bool false, .bool false, .bool false, .int .i64 (Ma.nr d0), .int .i64 0, .int .i64 0, .int .i64 0], own (.slice (some ⟨wg, 0, none⟩) 4 wc) 9 1 4 ([n0, k0, f0, d0].map sv), blk g4 35 [.string ⟨#[]⟩, .bool false, .bool false, .bool false, .int .i64 0, .int .i64 0, .int .i64 0, .int .i64 0]] U50) := Lib.hid hS_
      clear S47
      clear hu_ hS_ hg49
      refine wpK_done (by kernel_rfl) (fun V52 hv53 => ?_) _
      have S54 : Hid (St w noB [blk g45 35 [.string (bstr n0), .bool false, .bool false, .bool false, .int .i64 (Ma.nr d0), .int .i64 0, .int .i64 0, .int .i64 0], own (.slice (some ⟨wg, 0, none⟩) 4 wc) 9 1 4 ([n0, k0, f0, d0].map sv), blk g4 35 [.string ⟨#[]⟩, .bool false, .bool false, .bool false, .int .i64 0, .int .i64 0, .int .i64 0, .int .i64 0]] V52) := Lib.hid (S51.out.gr hv53)
      clear S51
      clear hv53
      refine ⟨rfl, hK _ _ ?_⟩
      clear hK
      go_upto_region 5 with fail
      refine wpG_region_k (fun K hK => ?_)
      refine @wpG_p _ _ _ _ _ (some 38) (.slice (some ⟨wg, 0, none⟩) 4 wc) _ _ rfl (by rfl) (fun _ => rfl) ?_
      simp only [n1, n3, n4]
      refine @wpG_p _ _ _ _ _ (some 39) (.pointer (some ⟨wg, 1, none⟩)) _ _ rfl (by rfl) (fun W => by (go_simp <;> first | rfl | omega | (simp; omega))) ?_
      simp only [n1, n3, n4]
      refine @wpG_r _ _ _ _ _ (some 40) (.string (bstr k0)) _ _ rfl (by rfl) (fun W hg => by have c := ((lies_at1 ((S54.out.gr hg).liesOwn 1 rfl) 1 (v := .string (bstr k0)) rfl)) 0 _ rfl; (try simp only [Nat.add_zero, Nat.zero_add] at c); go_simp) ?_
      simp only [n1, n3, n4]
      refine wpG_done (fun V55 hv56 => ?_)
      have S57 : Hid (St w noB [blk g45 35 [.string (bstr n0), .bool false, .bool false, .bool false, .int .i64 (Ma.nr d0), .int .i64 0, .int .i64 0, .int .i64 0], own (.slice (some ⟨wg, 0, none⟩) 4 wc) 9 1 4 ([n0, k0, f0, d0].map sv), blk g4 35 [.string ⟨#[]⟩, .bool false, .bool false, .bool false, .int .i64 0, .int .i64 0, .int .i64 0, .int .i64 0]] V55) := Lib.hid (S54.out.gr hv56)
      clear S54
      clear hv56
      refine ⟨rfl, hK _ _ ?_⟩
      clear hK
      go_upto_region 7 with fail
      refine wpG_region_k (fun K hK => ?_)
      refine @wpG_p _ _ _ _ _ (some 43) (.bool (decide (k0 = [103, 97, 115]))) _ _ rfl (by rfl) (fun W => op_str_eql W k0 [103, 97, 115] rfl rfl rfl Tryd.underlying9) ?_
      simp only [n1, n3, n4]
      refine @wpG_p _ _ _ _ _ (some 42) (.bool (decide (k0 = [103, 97, 115]))) _ _ rfl (by rfl) (fun _ => rfl) ?_
      simp only [n1, n3, n4]
      refine wpG_done (fun V58 hv59 => ?_)
      have S60 : Hid (St w noB [blk g45 35 [.string (bstr n0), .bool false, .bool false, .bool false, .int .i64 (Ma.nr d0), .int .i64 0, .int .i64 0, .int .i64 0], own (.slice (some ⟨wg, 0, none⟩) 4 wc) 9 1 4 ([n0, k0, f0, d0].map sv), blk g4 35 [.string ⟨#[]⟩, .bool false, .bool false, .bool false, .int .i64 0, .int .i64 0, .int .i64 0, .int .i64 0]] V58) := Lib.hid (S57.out.gr hv59)
      clear S57
      clear hv59
      refine ⟨rfl, hK _ _ ?_⟩
      clear hK
      obtain ⟨c61, hc61⟩ : ∃ q_, q_ = (decide (k0 = [103, 97, 115])) := ⟨_, rfl⟩
      rw [← hc61]
      have Hc61 := Lib.hid hc61
      clear hc61
      cases c61 with
      | true =>
        have f62 := Lib.hid (of_decide_eq_true Hc61.out.symm)
        go_upto_region 15 with fail
        refine wpG_region_k (fun K hK => ?_)
        refine @wpG_p _ _ _ _ _ (some 54) (.pointer (some ⟨g45, 4, none⟩)) _ _ rfl (by rfl) (fun W => by go_simp) ?_
        simp only [n1, n3, n4]
        refine @wpG_r _ _ _ _ _ (some 55) (.int .i64 (Ma.nr d0)) _ _ rfl (by rfl) (fun W hg => by have c := (S60.out.gr hg).cell 0 rfl 4 rfl; go_simp) ?_
        simp only [n1, n3, n4]
        refine @wpG_p _ _ _ _ _ (some 56) (.bool (decide (Ma.nr d0 < 0))) _ _ rfl (by rfl) (fun W => op_int_lss W (Ma.nr d0) 0 rfl rfl rfl Tryd.underlying3) ?_
        simp only [n1, n3, n4]
        refine @wpG_p _ _ _ _ _ (some 57) (.bool (decide (Ma.nr d0 < 0))) _ _ rfl (by rfl) (fun _ => rfl) ?_
        simp only [n1, n3, n4]
        obtain ⟨c63, hc63⟩ : ∃ q_, q_ = (decide (Ma.nr d0 < 0)) := ⟨_, rfl⟩
        rw [← hc63]
        have Hc63 := Lib.hid hc63
        clear hc63
        cases c63 with
        | true =>
          have f64 := of_decide_eq_true Hc63.out.symm
          refine @wpG_no _ _ _ _ _ (some 58) _ _ rfl (by rfl) ?_
          simp only [n1, n3, n4]
          refine @wpG_no _ _ _ _ _ (some 59) _ _ rfl (by rfl) ?_
          simp only [n1, n3, n4]
          refine @wpG_no _ _ _ _ _ (some 60) _ _ rfl (by rfl) ?_
          simp only [n1, n3, n4]
          refine @wpG_no _ _ _ _ _ (some 61) _ _ rfl (by rfl) ?_
          simp only [n1, n3, n4]
          refine @wpG_no _ _ _ _ _ (some 62) _ _ rfl (by rfl) ?_
          simp only [n1, n3, n4]
          refine @wpG_no _ _ _ _ _ (some 63) _ _ rfl (by rfl) ?_
          simp only [n1, n3, n4]
          refine @wpG_no _ _ _ _ _ (some 64) _ _ rfl (by rfl) ?_
          simp only [n1, n3, n4]
          refine @wpG_no _ _ _ _ _ (some 65) _ _ rfl (by rfl) ?_
          simp only [n1, n3, n4]
          refine @wpG_no _ _ _ _ _ (some 66) _ _ rfl (by rfl) ?_
          simp only [n1, n3, n4]
          refine @wpG_p _ _ _ _ _ (some 67) (.bool true) _ _ rfl (by rfl) (fun W => by go_simp) ?_
          simp only [n1, n3, n4]
          refine wpG_done (fun V65 hv66 => ?_)
          have S67 : Hid (St w noB [blk g45 35 [.string (bstr n0), .bool false, .bool false, .bool false, .int .i64 (Ma.nr d0), .int .i64 0, .int .i64 0, .int .i64 0], own (.slice (some ⟨wg, 0, none⟩) 4 wc) 9 1 4 ([n0, k0, f0, d0].map sv), blk g4 35 [.string ⟨#[]⟩, .bool false, .bool false, .bool false, .int .i64 0, .int .i64 0, .int .i64 0, .int .i64 0]] V65) := Lib.hid (S60.out.gr hv66)
          clear S60
          clear hv66
          refine ⟨rfl, hK _ _ ?_⟩
          clear hK
          go_upto_region 16 with fail
          refine wpG_region_k (fun K hK => ?_)
          refine @wpG_p _ _ _ _ _ (some 68) (.agg #[.string ⟨#[]⟩, .bool false, .bool false, .bool false, .int .i64 0, .int .i64 0, .int .i64 0, .int .i64 0]) _ _ rfl (by rfl) (fun W => by go_simp) ?_
          simp only [n1, n3, n4]
          refine wpG_store (none) rfl (by rfl) (fun W68 hg69 => ⟨_, run_store_mid 35 (.tmp 2) (.tmp 68) rfl g4 0 #[.string ⟨#[]⟩, .bool false, .bool false, .bool false, .int .i64 0, .int .i64 0, .int .i64 0, .int .i64 0] rfl rfl ((S67.out.gr hg69).room 2 rfl 0 8 (by simp)) (by kernel_rfl) (by kernel_rfl), ?_⟩)
          simp only [n2]
          obtain ⟨U70, hu_, hS_⟩ := ((S67.out.gr hg69).put 2 rfl 0 (#[.string ⟨#[]⟩, .bool false, .bool false, .bool false, .int .i64 0, .int .i64 0, .int .i64 0, .int .i64 0] : Array Value).toList (ds := [.string ⟨#[]⟩, .bool false, .bool false, .bool false, .int .i64 0, .int .i64 0, .int .i64 0, .int .i64 0]) rfl).named
          rw [← hu_]
          have S71 : Hid (St w noB [blk g45 35 [.string (bstr n0), .bool false, .bool false, .bool false, .int .i64 (Ma.nr d0), .int .i64 0, .int .i64 0, .int .i64 0], own (.slice (some ⟨wg, 0, none⟩) 4 wc) 9 1 4 ([n0, k0, f0, d0].map sv), blk g4 35 [.string ⟨#[]⟩, .bool false, .bool false, .bool false, .int .i64 0, .int .i64 0, .int .i64 0, .int .i64 0]] U70) := Lib.hid hS_
          clear S67
          clear hu_ hS_ hg69
          refine @wpG_p _ _ _ _ _ (some 3) (.bool false) _ _ rfl (by rfl) (fun _ => rfl) ?_
          simp only [n1, n3, n4]
          refine wpG_done (fun V72 hv73 => ?_)
          have S74 : Hid (St w noB [blk g45 35 [.string (bstr n0), .bool false, .bool false, .bool false, .int .i64 (Ma.nr d0), .int .i64 0, .int .i64 0, .int .i64 0], own (.slice (some ⟨wg, 0, none⟩) 4 wc) 9 1 4 ([n0, k0, f0, d0].map sv), blk g4 35 [.string ⟨#[]⟩, .bool false, .bool false, .bool false, .int .i64 0, .int .i64 0, .int .i64 0, .int .i64 0]] V72) := Lib.hid (S71.out.gr hv73)
          clear S71
          clear hv73
          refine ⟨rfl, hK _ _ ?_⟩
          clear hK
          go_wp2_with fail
          (try simp only [Exit.inBlock, Exit.then])
          refine bodyPost_ret (results_cell_tmp rfl _ _ _ g4 0 [.string ⟨#[]⟩, .bool false, .bool false, .bool false, .int .i64 0, .int .i64 0, .int .i64 0, .int .i64 0] _ rfl (S74.out.range 2 rfl 0 8 rfl) Tryd.underlying35 rfl (by kernel_rfl)) rfl ?_
          (have e_f42 := f42.out; have e_f62 := f62.out; have h : Ma.mat x = none := (Ma.mat_w hw).trans (Ma.m4_4 (Ma.mat4_num (Ma.nr_neg (by omega)))); exact ⟨((⟨[], false, false, false, 0, 0, 0, 0⟩ : Ma.Mt) : Ma.Mt), by show Ending.returned (.tuple #[.agg #[.string ⟨#[]⟩, .bool false, .bool false, .bool false, .int .i64 0, .int .i64 0, .int .i64 0, .int .i64 0], .bool false]) = _; rw [h]; rfl, fun m_ hm_ => (by rw [h] at hm_; cases hm_), S74.out.bel⟩)
        | false =>
          have f75 := of_decide_eq_false Hc63.out.symm
          refine @wpG_p _ _ _ _ _ (some 58) (.slice (some ⟨wg, 0, none⟩) 4 wc) _ _ rfl (by rfl) (fun _ => rfl) ?_
          simp only [n1, n3, n4]
          refine @wpG_p _ _ _ _ _ (some 59) (.int .i64 4) _ _ rfl (by rfl) (fun W => by go_simp) ?_
          simp only [n1, n3, n4]
          refine @wpG_p _ _ _ _ _ (some 60) (.bool false) _ _ rfl (by rfl) (fun W => by go_simp) ?_
          simp only [n1, n3, n4]
          refine @wpG_p _ _ _ _ _ (some 61) (.bool false) _ _ rfl (by rfl) (fun _ => rfl) ?_
          simp only [n1, n3, n4]
          refine @wpG_no _ _ _ _ _ (some 62) _ _ rfl (by rfl) ?_
          simp only [n1, n3, n4]
          refine @wpG_no _ _ _ _ _ (some 63) _ _ rfl (by rfl) ?_
          simp only [n1, n3, n4]
          refine @wpG_no _ _ _ _ _ (some 64) _ _ rfl (by rfl) ?_
          simp only [n1, n3, n4]
          refine @wpG_no _ _ _ _ _ (some 65) _ _ rfl (by rfl) ?_
          simp only [n1, n3, n4]
          refine @wpG_p _ _ _ _ _ (some 66) (.bool false) _ _ rfl (by rfl) (fun W => by go_simp) ?_
          simp only [n1, n3, n4]
          refine @wpG_p _ _ _ _ _ (some 67) (.bool false) _ _ rfl (by rfl) (fun W => by go_simp) ?_
          simp only [n1, n3, n4]
          refine wpG_done (fun V76 hv77 => ?_)
          have S78 : Hid (St w noB [blk g45 35 [.string (bstr n0), .bool false, .bool false, .bool false, .int .i64 (Ma.nr d0), .int .i64 0, .int .i64 0, .int .i64 0], own (.slice (some ⟨wg, 0, none⟩) 4 wc) 9 1 4 ([n0, k0, f0, d0].map sv), blk g4 35 [.string ⟨#[]⟩, .bool false, .bool false, .bool false, .int .i64 0, .int .i64 0, .int .i64 0, .int .i64 0]] V76) := Lib.hid (S60.out.gr hv77)
          clear S60
          clear hv77
          refine ⟨rfl, hK _ _ ?_⟩
          clear hK
          go_upto_region 17 with fail
          refine wpG_region_k (fun K hK => ?_)
          refine @wpG_p _ _ _ _ _ (some 6) (.int .i64 5) _ _ rfl (by rfl) (fun _ => rfl) ?_
          simp only [n1, n3, n4]
          refine wpG_done (fun V79 hv80 => ?_)
          have S81 : Hid (St w noB [blk g45 35 [.string (bstr n0), .bool false, .bool false, .bool false, .int .i64 (Ma.nr d0), .int .i64 0, .int .i64 0, .int .i64 0], own (.slice (some ⟨wg, 0, none⟩) 4 wc) 9 1 4 ([n0, k0, f0, d0].map sv), blk g4 35 [.string ⟨#[]⟩, .bool false, .bool false, .bool false, .int .i64 0, .int .i64 0, .int .i64 0, .int .i64 0]] V79) := Lib.hid (S78.out.gr hv80)
          clear S78
          clear hv80
          refine ⟨rfl, hK _ _ ?_⟩
          clear hK
          go_wp2_with fail
          refine wp_loop_rounds 4 ?_
          rw [rounds_succ]
          go_upto_region 18 with fail
          refine wpG_region_k (fun K hK => ?_)
          refine @wpG_p _ _ _ _ _ (some 69) (.int .i64 5) _ _ rfl (by rfl) (fun _ => rfl) ?_
          simp only [n1, n3, n4]
          refine @wpG_p _ _ _ _ _ (some 70) (.slice (some ⟨wg, 0, none⟩) 4 wc) _ _ rfl (by rfl) (fun _ => rfl) ?_
          simp only [n1, n3, n4]
          refine @wpG_p _ _ _ _ _ (some 71) (.int .i64 4) _ _ rfl (by rfl) (fun W => by go_simp) ?_
          simp only [n1, n3, n4]
          refine @wpG_p _ _ _ _ _ (some 72) (.bool false) _ _ rfl (by rfl) (fun W => by go_simp) ?_
          simp only [n1, n3, n4]
          refine wpG_done (fun V82 hv83 => ?_)
          have S84 : Hid (St w noB [blk g45 35 [.string (bstr n0), .bool false, .bool false, .bool false, .int .i64 (Ma.nr d0), .int .i64 0, .int .i64 0, .int .i64 0], own (.slice (some ⟨wg, 0, none⟩) 4 wc) 9 1 4 ([n0, k0, f0, d0].map sv), blk g4 35 [.string ⟨#[]⟩, .bool false, .bool false, .bool false, .int .i64 0, .int .i64 0, .int .i64 0, .int .i64 0]] V82) := Lib.hid (S81.out.gr hv83)
          clear S81
          clear hv83
          refine ⟨rfl, hK _ _ ?_⟩
          clear hK
          go_upto_region 23 with fail
          refine wpK_region_k (by kernel_rfl) (fun K hK => ?_)
          refine wpK_ta (i := 1) (some 92) (v := .slice (some ⟨wg, 0, none⟩) 4 wc) rfl rfl (by kernel_rfl) (fun _ _ _ h => onN_panic h) (Or.inl ⟨rfl, fun _ => rfl⟩) ?_
          simp only [n1, n3, n4]
          refine wpK_ta (i := 2) (some 93) (v := .int .i64 4) rfl rfl (by kernel_rfl) (fun _ _ _ h => onN_panic h) (Or.inl ⟨by rfl, fun W => by go_simp⟩) ?_
          simp only [n1, n3, n4]
          refine wpK_ta (i := 3) (some 94) (v := .bool true) rfl rfl (by kernel_rfl) (fun _ _ _ h => onN_panic h) (Or.inl ⟨by rfl, fun W => by go_simp⟩) ?_
          simp only [n1, n3, n4]
          refine wpK_ta (i := 4) (some 95) (v := .bool true) rfl rfl (by kernel_rfl) (fun _ _ _ h => onN_panic h) (Or.inl ⟨rfl, fun _ => rfl⟩) ?_
          simp only [n1, n3, n4]
          refine wpK_ta (i := 5) (some 96) rfl rfl (by kernel_rfl) (fun _ _ _ h => onN_panic h) (Or.inr ⟨by rfl, rfl⟩) ?_
          simp only [n1, n3, n4]
          refine wpK_ta (i := 6) (some 97) rfl rfl (by kernel_rfl) (fun _ _ _ h => onN_panic h) (Or.inr ⟨by rfl, rfl⟩) ?_
          simp only [n1, n3, n4]
          refine wpK_ta (i := 7) (some 98) rfl rfl (by kernel_rfl) (fun _ _ _ h => onN_panic h) (Or.inr ⟨by rfl, rfl⟩) ?_
          simp only [n1, n3, n4]
          refine wpK_ta (i := 8) (some 99) rfl rfl (by kernel_rfl) (fun _ _ _ h => onN_panic h) (Or.inr ⟨by rfl, rfl⟩) ?_
          simp only [n1, n3, n4]
          refine wpK_ta (i := 9) (some 100) (v := .bool true) rfl rfl (by kernel_rfl) (fun _ _ _ h => onN_panic h) (Or.inl ⟨by rfl, fun W => by go_simp⟩) ?_
          simp only [n1, n3, n4]
          refine wpK_tk (i := 0) (some 91) (v := .agg #[.string (bstr n0), .bool false, .bool false, .bool false, .int .i64 (Ma.nr d0), .int .i64 0, .int .i64 0, .int .i64 0]) rfl rfl (by kernel_rfl) (fun _ _ _ h => onN_panic h) (.load_mid (by rfl) 35 (.tmp 5) rfl g45 0 rfl [.string (bstr n0), .bool false, .bool false, .bool false, .int .i64 (Ma.nr d0), .int .i64 0, .int .i64 0, .int .i64 0] _ (fun W hg => (S84.out.gr (Gr.un hg)).range 0 rfl 0 8 rfl) Tryd.underlying35 rfl (by kernel_rfl)) ?_
          simp only [n1, n3, n4]
          refine wpK_store (i := 10) (none) rfl rfl (by kernel_rfl) (by rfl) (by rfl) (fun W85 hg86 => ⟨_, run_store_mid 35 (.tmp 2) (.tmp 91) rfl g4 0 #[.string (bstr n0), .bool false, .bool false, .bool false, .int .i64 (Ma.nr d0), .int .i64 0, .int .i64 0, .int .i64 0] rfl rfl ((S84.out.gr (Gr.un hg86)).room 2 rfl 0 8 (by simp)) (by kernel_rfl) (by kernel_rfl), ?_⟩)
          simp only [n2]
          obtain ⟨U87, hu_, hS_⟩ := ((S84.out.gr (Gr.un hg86)).put 2 rfl 0 (#[.string (bstr n0), .bool false, .bool false, .bool false, .int .i64 (Ma.nr d0), .int .i64 0, .int .i64 0, .int .i64 0] : Array Value).toList (ds := [.string (bstr n0), .bool false, .bool false, .bool false, .int .i64 (Ma.nr d0), .int .i64 0, .int .i64 0, .int .i64 0]) rfl).named
          rw [← hu_]
          have S88 : Hid (St w noB [blk g45 35 [.string (bstr n0), .bool false, .bool false, .bool false, .int .i64 (Ma.nr d0), .int .i64 0, .int .i64 0, .int .i64 0], own (.slice (some ⟨wg, 0, none⟩) 4 wc) 9 1 4 ([n0, k0, f0, d0].map sv), blk g4 35 [.string (bstr n0), .bool false, .bool false, .bool false, .int .i64 (Ma.nr d0), .int .i64 0, .int .i64 0, .int .i64 0]] U87) := Lib.hid hS_
          clear S84
          clear hu_ hS_ hg86
          refine wpK_ta (i := 11) (some 3) (v := .bool true) rfl rfl (by kernel_rfl) (fun _ _ _ h => onN_panic h) (Or.inl ⟨rfl, fun _ => rfl⟩) ?_
          simp only [n1, n3, n4]
          refine wpK_done (by kernel_rfl) (fun V89 hv90 => ?_) _
          have S91 : Hid (St w noB [blk g45 35 [.string (bstr n0), .bool false, .bool false, .bool false, .int .i64 (Ma.nr d0), .int .i64 0, .int .i64 0, .int .i64 0], own (.slice (some ⟨wg, 0, none⟩) 4 wc) 9 1 4 ([n0, k0, f0, d0].map sv), blk g4 35 [.string (bstr n0), .bool false, .bool false, .bool false, .int .i64 (Ma.nr d0), .int .i64 0, .int .i64 0, .int .i64 0]] V89) := Lib.hid (S88.out.gr hv90)
          clear S88
          clear hv90
          refine ⟨rfl, hK _ _ ?_⟩
          clear hK
          go_wp2_with fail
          (try simp only [Exit.inBlock, Exit.then])
          refine bodyPost_ret (results_cell_tmp rfl _ _ _ g4 0 [.string (bstr n0), .bool false, .bool false, .bool false, .int .i64 (Ma.nr d0), .int .i64 0, .int .i64 0, .int .i64 0] _ rfl (S91.out.range 2 rfl 0 8 rfl) Tryd.underlying35 rfl (by kernel_rfl)) rfl ?_
          (have e_f42 := f42.out; have e_f62 := f62.out; have hk_ : Ma.kn k0 = some (false, false, false) := (by rw [e_f62]; rfl); obtain ⟨v_, hv_, hr_⟩ := Ma.nr_pos (w := d0) (by omega); have h4_ := Ma.mat4_yes hk_ hv_ f29 e_f42; have h : Ma.mat x = some _ := (Ma.mat_w hw).trans (h4_); exact ⟨((⟨n0, false, false, false, (Ma.nr d0), 0, 0, 0⟩ : Ma.Mt) : Ma.Mt), by show Ending.returned (.tuple #[.agg #[.string (bstr n0), .bool false, .bool false, .bool false, .int .i64 (Ma.nr d0), .int .i64 0, .int .i64 0, .int .i64 0], .bool true]) = _; rw [h]; rfl, fun m_ hm_ => (by rw [h] at hm_; injection hm_ with hm_; rw [← hm_, hr_]), S91.out.bel⟩)
      | false =>
        have f92 := of_decide_eq_false Hc61.out.symm
        go_upto_region 8 with fail
        refine wpG_region_k (fun K hK => ?_)
        refine @wpG_p _ _ _ _ _ (some 45) (.bool (decide (k0 = [115, 111, 108, 105, 100]))) _ _ rfl (by rfl) (fun W => op_str_eql W k0 [115, 111, 108, 105, 100] rfl rfl rfl Tryd.underlying9) ?_
        simp only [n1, n3, n4]
        refine @wpG_p _ _ _ _ _ (some 44) (.bool (decide (k0 = [115, 111, 108, 105, 100]))) _ _ rfl (by rfl) (fun _ => rfl) ?_
        simp only [n1, n3, n4]
        refine wpG_done (fun V93 hv94 => ?_)
        have S95 : Hid (St w noB [blk g45 35 [.string (bstr n0), .bool false, .bool false, .bool false, .int .i64 (Ma.nr d0), .int .i64 0, .int .i64 0, .int .i64 0], own (.slice (some ⟨wg, 0, none⟩) 4 wc) 9 1 4 ([n0, k0, f0, d0].map sv), blk g4 35 [.string ⟨#[]⟩, .bool false, .bool false, .bool false, .int .i64 0, .int .i64 0, .int .i64 0, .int .i64 0]] V93) := Lib.hid (S60.out.gr hv94)
        clear S60
        clear hv94
        refine ⟨rfl, hK _ _ ?_⟩
        clear hK
        obtain ⟨c96, hc96⟩ : ∃ q_, q_ = (decide (k0 = [115, 111, 108, 105, 100])) := ⟨_, rfl⟩
        rw [← hc96]
        have Hc96 := Lib.hid hc96
        clear hc96
        cases c96 with
        | true =>
          have f97 := Lib.hid (of_decide_eq_true Hc96.out.symm)
          go_upto_region 9 with fail
          refine wpG_region_k (fun K hK => ?_)
          refine @wpG_p _ _ _ _ _ (some 46) (.pointer (some ⟨g45, 1, none⟩)) _ _ rfl (by rfl) (fun W => by go_simp) ?_
          simp only [n1, n3, n4]
          refine wpG_store (none) rfl (by rfl) (fun W98 hg99 => ⟨W98.setCell ⟨g45, 1, none⟩ (.bool true), by have c := (S95.out.gr hg99).cell 0 rfl 1 rfl; have c2 := (S95.out.gr hg99).soft 0 rfl 1 rfl; go_simp, ?_⟩)
          simp only [n2]
          obtain ⟨U100, hu_, hS_⟩ := ((S95.out.gr hg99).put1 0 rfl 1 (.bool true)).named
          rw [← hu_]
          have S101 : Hid (St w noB [blk g45 35 [.string (bstr n0), .bool true, .bool false, .bool false, .int .i64 (Ma.nr d0), .int .i64 0, .int .i64 0, .int .i64 0], own (.slice (some ⟨wg, 0, none⟩) 4 wc) 9 1 4 ([n0, k0, f0, d0].map sv), blk g4 35 [.string ⟨#[]⟩, .bool false, .bool false, .bool false, .int .i64 0, .int .i64 0, .int .i64 0, .int .i64 0]] U100) := Lib.hid hS_
          clear S95
          clear hu_ hS_ hg99
          refine wpG_done (fun V102 hv103 => ?_)
          have S104 : Hid (St w noB [blk g45 35 [.string (bstr n0), .bool true, .bool false, .bool false, .int .i64 (Ma.nr d0), .int .i64 0, .int .i64 0, .int .i64 0], own (.slice (some ⟨wg, 0, none⟩) 4 wc) 9 1 4 ([n0, k0, f0, d0].map sv), blk g4 35 [.string ⟨#[]⟩, .bool false, .bool false, .bool false, .int .i64 0, .int .i64 0, .int .i64 0, .int .i64 0]] V102) := Lib.hid (S101.out.gr hv103)
          clear S101
          clear hv103
          refine ⟨rfl, hK _ _ ?_⟩
          clear hK
          go_upto_region 15 with fail
          refine wpG_region_k (fun K hK => ?_)
          refine @wpG_p _ _ _ _ _ (some 54) (.pointer (some ⟨g45, 4, none⟩)) _ _ rfl (by rfl) (fun W => by go_simp) ?_
          simp only [n1, n3, n4]
          refine @wpG_r _ _ _ _ _ (some 55) (.int .i64 (Ma.nr d0)) _ _ rfl (by rfl) (fun W hg => by have c := (S104.out.gr hg).cell 0 rfl 4 rfl; go_simp) ?_
          simp only [n1, n3, n4]
          refine @wpG_p _ _ _ _ _ (some 56) (.bool (decide (Ma.nr d0 < 0))) _ _ rfl (by rfl) (fun W => op_int_lss W (Ma.nr d0) 0 rfl rfl rfl Tryd.underlying3) ?_
          simp only [n1, n3, n4]
          refine @wpG_p _ _ _ _ _ (some 57) (.bool (decide (Ma.nr d0 < 0))) _ _ rfl (by rfl) (fun _ => rfl) ?_
          simp only [n1, n3, n4]
          obtain ⟨c105, hc105⟩ : ∃ q_, q_ = (decide (Ma.nr d0 < 0)) := ⟨_, rfl⟩
          rw [← hc105]
          have Hc105 := Lib.hid hc105
          clear hc105
          cases c105 with
          | true =>
            have f106 := of_decide_eq_true Hc105.out.symm
            refine @wpG_no _ _ _ _ _ (some 58) _ _ rfl (by rfl) ?_
            simp only [n1, n3, n4]
            refine @wpG_no _ _ _ _ _ (some 59) _ _ rfl (by rfl) ?_
            simp only [n1, n3, n4]
            refine @wpG_no _ _ _ _ _ (some 60) _ _ rfl (by rfl) ?_
            simp only [n1, n3, n4]
            refine @wpG_no _ _ _ _ _ (some 61) _ _ rfl (by rfl) ?_
            simp only [n1, n3, n4]
            refine @wpG_no _ _ _ _ _ (some 62) _ _ rfl (by rfl) ?_
            simp only [n1, n3, n4]
            refine @wpG_no _ _ _ _ _ (some 63) _ _ rfl (by rfl) ?_
            simp only [n1, n3, n4]
            refine @wpG_no _ _ _ _ _ (some 64) _ _ rfl (by rfl) ?_
            simp only [n1, n3, n4]
            refine @wpG_no _ _ _ _ _ (some 65) _ _ rfl (by rfl) ?_
            simp only [n1, n3, n4]
            refine @wpG_no _ _ _ _ _ (some 66) _ _ rfl (by rfl) ?_
            simp only [n1, n3, n4]
            refine @wpG_p _ _ _ _ _ (some 67) (.bool true) _ _ rfl (by rfl) (fun W => by go_simp) ?_
            simp only [n1, n3, n4]
            refine wpG_done (fun V107 hv108 => ?_)
            have S109 : Hid (St w noB [blk g45 35 [.string (bstr n0), .bool true, .bool false, .bool false, .int .i64 (Ma.nr d0), .int .i64 0, .int .i64 0, .int .i64 0], own (.slice (some ⟨wg, 0, none⟩) 4 wc) 9 1 4 ([n0, k0, f0, d0].map sv), blk g4 35 [.string ⟨#[]⟩, .bool false, .bool false, .bool false, .int .i64 0, .int .i64 0, .int .i64 0, .int .i64 0]] V107) := Lib.hid (S104.out.gr hv108)
            clear S104
            clear hv108
            refine ⟨rfl, hK _ _ ?_⟩
            clear hK
            go_upto_region 16 with fail
            refine wpG_region_k (fun K hK => ?_)
            refine @wpG_p _ _ _ _ _ (some 68) (.agg #[.string ⟨#[]⟩, .bool false, .bool false, .bool false, .int .i64 0, .int .i64 0, .int .i64 0, .int .i64 0]) _ _ rfl (by rfl) (fun W => by go_simp) ?_
            simp only [n1, n3, n4]
            refine wpG_store (none) rfl (by rfl) (fun W110 hg111 => ⟨_, run_store_mid 35 (.tmp 2) (.tmp 68) rfl g4 0 #[.string ⟨#[]⟩, .bool false, .bool false, .bool false, .int .i64 0, .int .i64 0, .int .i64 0, .int .i64 0] rfl rfl ((S109.out.gr hg111).room 2 rfl 0 8 (by simp)) (by kernel_rfl) (by kernel_rfl), ?_⟩)
            simp only [n2]
            obtain ⟨U112, hu_, hS_⟩ := ((S109.out.gr hg111).put 2 rfl 0 (#[.string ⟨#[]⟩, .bool false, .bool false, .bool false, .int .i64 0, .int .i64 0, .int .i64 0, .int .i64 0] : Array Value).toList (ds := [.string ⟨#[]⟩, .bool false, .bool false, .bool false, .int .i64 0, .int .i64 0, .int .i64 0, .int .i64 0]) rfl).named
            rw [← hu_]
            have S113 : Hid (St w noB [blk g45 35 [.string (bstr n0), .bool true, .bool false, .bool false, .int .i64 (Ma.nr d0), .int .i64 0, .int .i64 0, .int .i64 0], own (.slice (some ⟨wg, 0, none⟩) 4 wc) 9 1 4 ([n0, k0, f0, d0].map sv), blk g4 35 [.string ⟨#[]⟩, .bool false, .bool false, .bool false, .int .i64 0, .int .i64 0, .int .i64 0, .int .i64 0]] U112) := Lib.hid hS_
            clear S109
            clear hu_ hS_ hg111
            refine @wpG_p _ _ _ _ _ (some 3) (.bool false) _ _ rfl (by rfl) (fun _ => rfl) ?_
            simp only [n1, n3, n4]
            refine wpG_done (fun V114 hv115 => ?_)
            have S116 : Hid (St w noB [blk g45 35 [.string (bstr n0), .bool true, .bool false, .bool false, .int .i64 (Ma.nr d0), .int .i64 0, .int .i64 0, .int .i64 0], own (.slice (some ⟨wg, 0, none⟩) 4 wc) 9 1 4 ([n0, k0, f0, d0].map sv), blk g4 35 [.string ⟨#[]⟩, .bool false, .bool false, .bool false, .int .i64 0, .int .i64 0, .int .i64 0, .int .i64 0]] V114) := Lib.hid (S113.out.gr hv115)
            clear S113
            clear hv115
            refine ⟨rfl, hK _ _ ?_⟩
            clear hK
            go_wp2_with fail
            (try simp only [Exit.inBlock, Exit.then])
            refine bodyPost_ret (results_cell_tmp rfl _ _ _ g4 0 [.string ⟨#[]⟩, .bool false, .bool false, .bool false, .int .i64 0, .int .i64 0, .int .i64 0, .int .i64 0] _ rfl (S116.out.range 2 rfl 0 8 rfl) Tryd.underlying35 rfl (by kernel_rfl)) rfl ?_
            (have e_f42 := f42.out; have e_f97 := f97.out; have h : Ma.mat x = none := (Ma.mat_w hw).trans (Ma.m4_4 (Ma.mat4_num (Ma.nr_neg (by omega)))); exact ⟨((⟨[], false, false, false, 0, 0, 0, 0⟩ : Ma.Mt) : Ma.Mt), by show Ending.returned (.tuple #[.agg #[.string ⟨#[]⟩, .bool false, .bool false, .bool false, .int .i64 0, .int .i64 0, .int .i64 0, .int .i64 0], .bool false]) = _; rw [h]; rfl, fun m_ hm_ => (by rw [h] at hm_; cases hm_), S116.out.bel⟩)
          | false =>
            have f117 := of_decide_eq_false Hc105.out.symm
            refine @wpG_p _ _ _ _ _ (some 58) (.slice (some ⟨wg, 0, none⟩) 4 wc) _ _ rfl (by rfl) (fun _ => rfl) ?_
            simp only [n1, n3, n4]
            refine @wpG_p _ _ _ _ _ (some 59) (.int .i64 4) _ _ rfl (by rfl) (fun W => by go_simp) ?_
            simp only [n1, n3, n4]
            refine @wpG_p _ _ _ _ _ (some 60) (.bool false) _ _ rfl (by rfl) (fun W => by go_simp) ?_
            simp only [n1, n3, n4]
            refine @wpG_p _ _ _ _ _ (some 61) (.bool false) _ _ rfl (by rfl) (fun _ => rfl) ?_
            simp only [n1, n3, n4]
            refine @wpG_no _ _ _ _ _ (some 62) _ _ rfl (by rfl) ?_
            simp only [n1, n3, n4]
            refine @wpG_no _ _ _ _ _ (some 63) _ _ rfl (by rfl) ?_
            simp only [n1, n3, n4]
            refine @wpG_no _ _ _ _ _ (some 64) _ _ rfl (by rfl) ?_
            simp only [n1, n3, n4]
            refine @wpG_no _ _ _ _ _ (some 65) _ _ rfl (by rfl) ?_
            simp only [n1, n3, n4]
            refine @wpG_p _ _ _ _ _ (some 66) (.bool false) _ _ rfl (by rfl) (fun W => by go_simp) ?_
            simp only [n1, n3, n4]
            refine @wpG_p _ _ _ _ _ (some 67) (.bool false) _ _ rfl (by rfl) (fun W => by go_simp) ?_
            simp only [n1, n3, n4]
            refine wpG_done (fun V118 hv119 => ?_)
            have S120 : Hid (St w noB [blk g45 35 [.string (bstr n0), .bool true, .bool false, .bool false, .int .i64 (Ma.nr d0), .int .i64 0, .int .i64 0, .int .i64 0], own (.slice (some ⟨wg, 0, none⟩) 4 wc) 9 1 4 ([n0, k0, f0, d0].map sv), blk g4 35 [.string ⟨#[]⟩, .bool false, .bool false, .bool false, .int .i64 0, .int .i64 0, .int .i64 0, .int .i64 0]] V118) := Lib.hid (S104.out.gr hv119)
            clear S104
            clear hv119
            refine ⟨rfl, hK _ _ ?_⟩
            clear hK
            go_upto_region 17 with fail
            refine wpG_region_k (fun K hK => ?_)
            refine @wpG_p _ _ _ _ _ (some 6) (.int .i64 5) _ _ rfl (by rfl) (fun _ => rfl) ?_
            simp only [n1, n3, n4]
            refine wpG_done (fun V121 hv122 => ?_)
            have S123 : Hid (St w noB [blk g45 35 [.string (bstr n0), .bool true, .bool false, .bool false, .int .i64 (Ma.nr d0), .int .i64 0, .int .i64 0, .int .i64 0], own (.slice (some ⟨wg, 0, none⟩) 4 wc) 9 1 4 ([n0, k0, f0, d0].map sv), blk g4 35 [.string ⟨#[]⟩, .bool false, .bool false, .bool false, .int .i64 0, .int .i64 0, .int .i64 0, .int .i64 0]] V121) := Lib.hid (S120.out.gr hv122)
            clear S120
            clear hv122
            refine ⟨rfl, hK _ _ ?_⟩
            clear hK
            go_wp2_with fail
            refine wp_loop_rounds 4 ?_
            rw [rounds_succ]
            go_upto_region 18 with fail
            refine wpG_region_k (fun K hK => ?_)
            refine @wpG_p _ _ _ _ _ (some 69) (.int .i64 5) _ _ rfl (by rfl) (fun _ => rfl) ?_
            simp only [n1, n3, n4]
            refine @wpG_p _ _ _ _ _ (some 70) (.slice (some ⟨wg, 0, none⟩) 4 wc) _ _ rfl (by rfl) (fun _ => rfl) ?_
            simp only [n1, n3, n4]
            refine @wpG_p _ _ _ _ _ (some 71) (.int .i64 4) _ _ rfl (by rfl) (fun W => by go_simp) ?_
            simp only [n1, n3, n4]
            refine @wpG_p _ _ _ _ _ (some 72) (.bool false) _ _ rfl (by rfl) (fun W => by go_simp) ?_
            simp only [n1, n3, n4]
            refine wpG_done (fun V124 hv125 => ?_)
            have S126 : Hid (St w noB [blk g45 35 [.string (bstr n0), .bool true, .bool false, .bool false, .int .i64 (Ma.nr d0), .int .i64 0, .int .i64 0, .int .i64 0], own (.slice (some ⟨wg, 0, none⟩) 4 wc) 9 1 4 ([n0, k0, f0, d0].map sv), blk g4 35 [.string ⟨#[]⟩, .bool false, .bool false, .bool false, .int .i64 0, .int .i64 0, .int .i64 0, .int .i64 0]] V124) := Lib.hid (S123.out.gr hv125)
            clear S123
            clear hv125
            refine ⟨rfl, hK _ _ ?_⟩
            clear hK
            go_upto_region 23 with fail
            refine wpK_region_k (by kernel_rfl) (fun K hK => ?_)
            refine wpK_ta (i := 1) (some 92) (v := .slice (some ⟨wg, 0, none⟩) 4 wc) rfl rfl (by kernel_rfl) (fun _ _ _ h => onN_panic h) (Or.inl ⟨rfl, fun _ => rfl⟩) ?_
            simp only [n1, n3, n4]
            refine wpK_ta (i := 2) (some 93) (v := .int .i64 4) rfl rfl (by kernel_rfl) (fun _ _ _ h => onN_panic h) (Or.inl ⟨by rfl, fun W => by go_simp⟩) ?_
            simp only [n1, n3, n4]
            refine wpK_ta (i := 3) (some 94) (v := .bool true) rfl rfl (by kernel_rfl) (fun _ _ _ h => onN_panic h) (Or.inl ⟨by rfl, fun W => by go_simp⟩) ?_
            simp only [n1, n3, n4]
            refine wpK_ta (i := 4) (some 95) (v := .bool true) rfl rfl (by kernel_rfl) (fun _ _ _ h => onN_panic h) (Or.inl ⟨rfl, fun _ => rfl⟩) ?_
            simp only [n1, n3, n4]
            refine wpK_ta (i := 5) (some 96) rfl rfl (by kernel_rfl) (fun _ _ _ h => onN_panic h) (Or.inr ⟨by rfl, rfl⟩) ?_
            simp only [n1, n3, n4]
            refine wpK_ta (i := 6) (some 97) rfl rfl (by kernel_rfl) (fun _ _ _ h => onN_panic h) (Or.inr ⟨by rfl, rfl⟩) ?_
            simp only [n1, n3, n4]
            refine wpK_ta (i := 7) (some 98) rfl rfl (by kernel_rfl) (fun _ _ _ h => onN_panic h) (Or.inr ⟨by rfl, rfl⟩) ?_
            simp only [n1, n3, n4]
            refine wpK_ta (i := 8) (some 99) rfl rfl (by kernel_rfl) (fun _ _ _ h => onN_panic h) (Or.inr ⟨by rfl, rfl⟩) ?_
            simp only [n1, n3, n4]
            refine wpK_ta (i := 9) (some 100) (v := .bool true) rfl rfl (by kernel_rfl) (fun _ _ _ h => onN_panic h) (Or.inl ⟨by rfl, fun W => by go_simp⟩) ?_
            simp only [n1, n3, n4]
            refine wpK_tk (i := 0) (some 91) (v := .agg #[.string (bstr n0), .bool true, .bool false, .bool false, .int .i64 (Ma.nr d0), .int .i64 0, .int .i64 0, .int .i64 0]) rfl rfl (by kernel_rfl) (fun _ _ _ h => onN_panic h) (.load_mid (by rfl) 35 (.tmp 5) rfl g45 0 rfl [.string (bstr n0), .bool true, .bool false, .bool false, .int .i64 (Ma.nr d0), .int .i64 0, .int .i64 0, .int .i64 0] _ (fun W hg => (S126.out.gr (Gr.un hg)).range 0 rfl 0 8 rfl) Tryd.underlying35 rfl (by kernel_rfl)) ?_
            simp only [n1, n3, n4]
            refine wpK_store (i := 10) (none) rfl rfl (by kernel_rfl) (by rfl) (by rfl) (fun W127 hg128 => ⟨_, run_store_mid 35 (.tmp 2) (.tmp 91) rfl g4 0 #[.string (bstr n0), .bool true, .bool false, .bool false, .int .i64 (Ma.nr d0), .int .i64 0, .int .i64 0, .int .i64 0] rfl rfl ((S126.out.gr (Gr.un hg128)).room 2 rfl 0 8 (by simp)) (by kernel_rfl) (by kernel_rfl), ?_⟩)
            simp only [n2]
            obtain ⟨U129, hu_, hS_⟩ := ((S126.out.gr (Gr.un hg128)).put 2 rfl 0 (#[.string (bstr n0), .bool true, .bool false, .bool false, .int .i64 (Ma.nr d0), .int .i64 0, .int .i64 0, .int .i64 0] : Array Value).toList (ds := [.string (bstr n0), .bool true, .bool false, .bool false, .int .i64 (Ma.nr d0), .int .i64 0, .int .i64 0, .int .i64 0]) rfl).named
            rw [← hu_]
            have S130 : Hid (St w noB [blk g45 35 [.string (bstr n0), .bool true, .bool false, .bool false, .int .i64 (Ma.nr d0), .int .i64 0, .int .i64 0, .int .i64 0], own (.slice (some ⟨wg, 0, none⟩) 4 wc) 9 1 4 ([n0, k0, f0, d0].map sv), blk g4 35 [.string (bstr n0), .bool true, .bool false, .bool false, .int .i64 (Ma.nr d0), .int .i64 0, .int .i64 0, .int .i64 0]] U129) := Lib.hid hS_
            clear S126
            clear hu_ hS_ hg128
            refine wpK_ta (i := 11) (some 3) (v := .bool true) rfl rfl (by kernel_rfl) (fun _ _ _ h => onN_panic h) (Or.inl ⟨rfl, fun _ => rfl⟩) ?_
            simp only [n1, n3, n4]
            refine wpK_done (by kernel_rfl) (fun V131 hv132 => ?_) _
            have S133 : Hid (St w noB [blk g45 35 [.string (bstr n0), .bool true, .bool false, .bool false, .int .i64 (Ma.nr d0), .int .i64 0, .int .i64 0, .int .i64 0], own (.slice (some ⟨wg, 0, none⟩) 4 wc) 9 1 4 ([n0, k0, f0, d0].map sv), blk g4 35 [.string (bstr n0), .bool true, .bool false, .bool false, .int .i64 (Ma.nr d0), .int .i64 0, .int .i64 0, .int .i64 0]] V131) := Lib.hid (S130.out.gr hv132)
            clear S130
            clear hv132
            refine ⟨rfl, hK _ _ ?_⟩
            clear hK
            go_wp2_with fail
            (try simp only [Exit.inBlock, Exit.then])
            refine bodyPost_ret (results_cell_tmp rfl _ _ _ g4 0 [.string (bstr n0), .bool true, .bool false, .bool false, .int .i64 (Ma.nr d0), .int .i64 0, .int .i64 0, .int .i64 0] _ rfl (S133.out.range 2 rfl 0 8 rfl) Tryd.underlying35 rfl (by kernel_rfl)) rfl ?_
            (have e_f42 := f42.out; have e_f97 := f97.out; have hk_ : Ma.kn k0 = some (true, false, false) := (by rw [e_f97]; rfl); obtain ⟨v_, hv_, hr_⟩ := Ma.nr_pos (w := d0) (by omega); have h4_ := Ma.mat4_yes hk_ hv_ f29 e_f42; have h : Ma.mat x = some _ := (Ma.mat_w hw).trans (h4_); exact ⟨((⟨n0, true, false, false, (Ma.nr d0), 0, 0, 0⟩ : Ma.Mt) : Ma.Mt), by show Ending.returned (.tuple #[.agg #[.string (bstr n0), .bool true, .bool false, .bool false, .int .i64 (Ma.nr d0), .int .i64 0, .int .i64 0, .int .i64 0], .bool true]) = _; rw [h]; rfl, fun m_ hm_ => (by rw [h] at hm_; injection hm_ with hm_; rw [← hm_, hr_]), S133.out.bel⟩)
        | false =>
          have f134 := of_decide_eq_false Hc96.out.symm
          go_upto_region 10 with fail
          refine wpG_region_k (fun K hK => ?_)
          refine @wpG_p _ _ _ _ _ (some 48) (.bool (decide (k0 = [102, 97, 108, 108, 105, 110, 103]))) _ _ rfl (by rfl) (fun W => op_str_eql W k0 [102, 97, 108, 108, 105, 110, 103] rfl rfl rfl Tryd.underlying9) ?_
          simp only [n1, n3, n4]
          refine @wpG_p _ _ _ _ _ (some 47) (.bool (decide (k0 = [102, 97, 108, 108, 105, 110, 103]))) _ _ rfl (by rfl) (fun _ => rfl) ?_
          simp only [n1, n3, n4]
          refine wpG_done (fun V135 hv136 => ?_)
          have S137 : Hid (St w noB [blk g45 35 [.string (bstr n0), .bool false, .bool false, .bool false, .int .i64 (Ma.nr d0), .int .i64 0, .int .i64 0, .int .i64 0], own (.slice (some ⟨wg, 0, none⟩) 4 wc) 9 1 4 ([n0, k0, f0, d0].map sv), blk g4 35 [.string ⟨#[]⟩, .bool false, .bool false, .bool false, .int .i64 0, .int .i64 0, .int .i64 0, .int .i64 0]] V135) := Lib.hid (S95.out.gr hv136)
          clear S95
          clear hv136
          refine ⟨rfl, hK _ _ ?_⟩
          clear hK
          obtain ⟨c138, hc138⟩ : ∃ q_, q_ = (decide (k0 = [102, 97, 108, 108, 105, 110, 103])) := ⟨_, rfl⟩
          rw [← hc138]
          have Hc138 := Lib.hid hc138
          clear hc138
          cases c138 with
          | true =>
            have f139 := Lib.hid (of_decide_eq_true Hc138.out.symm)
            go_upto_region 11 with fail
            refine wpG_region_k (fun K hK => ?_)
            refine @wpG_p _ _ _ _ _ (some 49) (.pointer (some ⟨g45, 1, none⟩)) _ _ rfl (by rfl) (fun W => by go_simp) ?_
            simp only [n1, n3, n4]
            refine wpG_store (none) rfl (by rfl) (fun W140 hg141 => ⟨W140.setCell ⟨g45, 1, none⟩ (.bool true), by have c := (S137.out.gr hg141).cell 0 rfl 1 rfl; have c2 := (S137.out.gr hg141).soft 0 rfl 1 rfl; go_simp, ?_⟩)
            simp only [n2]
            obtain ⟨U142, hu_, hS_⟩ := ((S137.out.gr hg141).put1 0 rfl 1 (.bool true)).named
            rw [← hu_]
            have S143 : Hid (St w noB [blk g45 35 [.string (bstr n0), .bool true, .bool false, .bool false, .int .i64 (Ma.nr d0), .int .i64 0, .int .i64 0, .int .i64 0], own (.slice (some ⟨wg, 0, none⟩) 4 wc) 9 1 4 ([n0, k0, f0, d0].map sv), blk g4 35 [.string ⟨#[]⟩, .bool false, .bool false, .bool false, .int .i64 0, .int .i64 0, .int .i64 0, .int .i64 0]] U142) := Lib.hid hS_
            clear S137
            clear hu_ hS_ hg141
            refine wpG_done (fun V144 hv145 => ?_)
            have S146 : Hid (St w noB [blk g45 35 [.string (bstr n0), .bool true, .bool false, .bool false, .int .i64 (Ma.nr d0), .int .i64 0, .int .i64 0, .int .i64 0], own (.slice (some ⟨wg, 0, none⟩) 4 wc) 9 1 4 ([n0, k0, f0, d0].map sv), blk g4 35 [.string ⟨#[]⟩, .bool false, .bool false, .bool false, .int .i64 0, .int .i64 0, .int .i64 0, .int .i64 0]] V144) := Lib.hid (S143.out.gr hv145)
            clear S143
            clear hv145
            refine ⟨rfl, hK _ _ ?_⟩
            clear hK
            go_upto_region 12 with fail
            refine wpG_region_k (fun K hK => ?_)
            refine @wpG_p _ _ _ _ _ (some 50) (.pointer (some ⟨g45, 3, none⟩)) _ _ rfl (by rfl) (fun W => by go_simp) ?_
            simp only [n1, n3, n4]
            refine wpG_store (none) rfl (by rfl) (fun W147 hg148 => ⟨W147.setCell ⟨g45, 3, none⟩ (.bool true), by have c := (S146.out.gr hg148).cell 0 rfl 3 rfl; have c2 := (S146.out.gr hg148).soft 0 rfl 3 rfl; go_simp, ?_⟩)
            simp only [n2]
            obtain ⟨U149, hu_, hS_⟩ := ((S146.out.gr hg148).put1 0 rfl 3 (.bool true)).named
            rw [← hu_]
            have S150 : Hid (St w noB [blk g45 35 [.string (bstr n0), .bool true, .bool false, .bool true, .int .i64 (Ma.nr d0), .int .i64 0, .int .i64 0, .int .i64 0], own (.slice (some ⟨wg, 0, none⟩) 4 wc) 9 1 4 ([n0, k0, f0, d0].map sv), blk g4 35 [.string ⟨#[]⟩, .bool false, .bool false, .bool false, .int .i64 0, .int .i64 0, .int .i64 0, .int .i64 0]] U149) := Lib.hid hS_
            clear S146
            clear hu_ hS_ hg148
            refine wpG_done (fun V151 hv152 => ?_)
            have S153 : Hid (St w noB [blk g45 35 [.string (bstr n0), .bool true, .bool false, .bool true, .int .i64 (Ma.nr d0), .int .i64 0, .int .i64 0, .int .i64 0], own (.slice (some ⟨wg, 0, none⟩) 4 wc) 9 1 4 ([n0, k0, f0, d0].map sv), blk g4 35 [.string ⟨#[]⟩, .bool false, .bool false, .bool false, .int .i64 0, .int .i64 0, .int .i64 0, .int .i64 0]] V151) := Lib.hid (S150.out.gr hv152)
            clear S150
            clear hv152
            refine ⟨rfl, hK _ _ ?_⟩
            clear hK
            go_upto_region 15 with fail
            refine wpG_region_k (fun K hK => ?_)
            refine @wpG_p _ _ _ _ _ (some 54) (.pointer (some ⟨g45, 4, none⟩)) _ _ rfl (by rfl) (fun W => by go_simp) ?_
            simp only [n1, n3, n4]
            refine @wpG_r _ _ _ _ _ (some 55) (.int .i64 (Ma.nr d0)) _ _ rfl (by rfl) (fun W hg => by have c := (S153.out.gr hg).cell 0 rfl 4 rfl; go_simp) ?_
            simp only [n1, n3, n4]
            refine @wpG_p _ _ _ _ _ (some 56) (.bool (decide (Ma.nr d0 < 0))) _ _ rfl (by rfl) (fun W => op_int_lss W (Ma.nr d0) 0 rfl rfl rfl Tryd.underlying3) ?_
            simp only [n1, n3, n4]
            refine @wpG_p _ _ _ _ _ (some 57) (.bool (decide (Ma.nr d0 < 0))) _ _ rfl (by rfl) (fun _ => rfl) ?_
            simp only [n1, n3, n4]
            obtain ⟨c154, hc154⟩ : ∃ q_, q_ = (decide (Ma.nr d0 < 0)) := ⟨_, rfl⟩
            rw [← hc154]
            have Hc154 := Lib.hid hc154
            clear hc154
            cases c154 with
            | true =>
              have f155 := of_decide_eq_true Hc154.out.symm
              refine @wpG_no _ _ _ _ _ (some 58) _ _ rfl (by rfl) ?_
              simp only [n1, n3, n4]
              refine @wpG_no _ _ _ _ _ (some 59) _ _ rfl (by rfl) ?_
              simp only [n1, n3, n4]
              refine @wpG_no _ _ _ _ _ (some 60) _ _ rfl (by rfl) ?_
              simp only [n1, n3, n4]
              refine @wpG_no _ _ _ _ _ (some 61) _ _ rfl (by rfl) ?_
              simp only [n1, n3, n4]
              refine @wpG_no _ _ _ _ _ (some 62) _ _ rfl (by rfl) ?_
              simp only [n1, n3, n4]
              refine @wpG_no _ _ _ _ _ (some 63) _ _ rfl (by rfl) ?_
              simp only [n1, n3, n4]
              refine @wpG_no _ _ _ _ _ (some 64) _ _ rfl (by rfl) ?_
              simp only [n1, n3, n4]
              refine @wpG_no _ _ _ _ _ (some 65) _ _ rfl (by rfl) ?_
              simp only [n1, n3, n4]
              refine @wpG_no _ _ _ _ _ (some 66) _ _ rfl (by rfl) ?_
              simp only [n1, n3, n4]
              refine @wpG_p _ _ _ _ _ (some 67) (.bool true) _ _ rfl (by rfl) (fun W => by go_simp) ?_
              simp only [n1, n3, n4]
              refine wpG_done (fun V156 hv157 => ?_)
              have S158 : Hid (St w noB [blk g45 35 [.string (bstr n0), .bool true, .bool false, .bool true, .int .i64 (Ma.nr d0), .int .i64 0, .int .i64 0, .int .i64 0], own (.slice (some ⟨wg, 0, none⟩) 4 wc) 9 1 4 ([n0, k0, f0, d0].map sv), blk g4 35 [.string ⟨#[]⟩, .bool false, .bool false, .bool false, .int .i64 0, .int .i64 0, .int .i64 0, .int .i64 0]] V156) := Lib.hid (S153.out.gr hv157)
              clear S153
              clear hv157
              refine ⟨rfl, hK _ _ ?_⟩
              clear hK
              go_upto_region 16 with fail
              refine wpG_region_k (fun K hK => ?_)
              refine @wpG_p _ _ _ _ _ (some 68) (.agg #[.string ⟨#[]⟩, .bool false, .bool false, .bool false, .int .i64 0, .int .i64 0, .int .i64 0, .int .i64 0]) _ _ rfl (by rfl) (fun W => by go_simp) ?_
              simp only [n1, n3, n4]
              refine wpG_store (none) rfl (by rfl) (fun W159 hg160 => ⟨_, run_store_mid 35 (.tmp 2) (.tmp 68) rfl g4 0 #[.string ⟨#[]⟩, .bool false, .bool false, .bool false, .int .i64 0, .int .i64 0, .int .i64 0, .int .i64 0] rfl rfl ((S158.out.gr hg160).room 2 rfl 0 8 (by simp)) (by kernel_rfl) (by kernel_rfl), ?_⟩)
              simp only [n2]
              obtain ⟨U161, hu_, hS_⟩ := ((S158.out.gr hg160).put 2 rfl 0 (#[.string ⟨#[]⟩, .bool false, .bool false, .bool false, .int .i64 0, .int .i64 0, .int .i64 0, .int .i64 0] : Array Value).toList (ds := [.string ⟨#[]⟩, .bool false, .bool false, .bool false, .int .i64 0, .int .i64 0, .int .i64 0, .int .i64 0]) rfl).named
              rw [← hu_]
              have S162 : Hid (St w noB [blk g45 35 [.string (bstr n0), .bool true, .bool false, .bool true, .int .i64 (Ma.nr d0), .int .i64 0, .int .i64 0, .int .i64 0], own (.slice (some ⟨wg, 0, none⟩) 4 wc) 9 1 4 ([n0, k0, f0, d0].map sv), blk g4 35 [.string ⟨#[]⟩, .bool false, .bool false, .bool false, .int .i64 0, .int .i64 0, .int .i64 0, .int .i64 0]] U161) := Lib.hid hS_
              clear S158
              clear hu_ hS_ hg160
              refine @wpG_p _ _ _ _ _ (some 3) (.bool false) _ _ rfl (by rfl) (fun _ => rfl) ?_
              simp only [n1, n3, n4]
              refine wpG_done (fun V163 hv164 => ?_)
              have S165 : Hid (St w noB [blk g45 35 [.string (bstr n0), .bool true, .bool false, .bool true, .int .i64 (Ma.nr d0), .int .i64 0, .int .i64 0, .int .i64 0], own (.slice (some ⟨wg, 0, none⟩) 4 wc) 9 1 4 ([n0, k0, f0, d0].map sv), blk g4 35 [.string ⟨#[]⟩, .bool false, .bool false, .bool false, .int .i64 0, .int .i64 0, .int .i64 0, .int .i64 0]] V163) := Lib.hid (S162.out.gr hv164)
              clear S162
              clear hv164
              refine ⟨rfl, hK _ _ ?_⟩
              clear hK
              go_wp2_with fail
              (try simp only [Exit.inBlock, Exit.then])
              refine bodyPost_ret (results_cell_tmp rfl _ _ _ g4 0 [.string ⟨#[]⟩, .bool false, .bool false, .bool false, .int .i64 0, .int .i64 0, .int .i64 0, .int .i64 0] _ rfl (S165.out.range 2 rfl 0 8 rfl) Tryd.underlying35 rfl (by kernel_rfl)) rfl ?_
              (have e_f42 := f42.out; have e_f139 := f139.out; have h : Ma.mat x = none := (Ma.mat_w hw).trans (Ma.m4_4 (Ma.mat4_num (Ma.nr_neg (by omega)))); exact ⟨((⟨[], false, false, false, 0, 0, 0, 0⟩ : Ma.Mt) : Ma.Mt), by show Ending.returned (.tuple #[.agg #[.string ⟨#[]⟩, .bool false, .bool false, .bool false, .int .i64 0, .int .i64 0, .int .i64 0, .int .i64 0], .bool false]) = _; rw [h]; rfl, fun m_ hm_ => (by rw [h] at hm_; cases hm_), S165.out.bel⟩)
            | false =>
              have f166 := of_decide_eq_false Hc154.out.symm
              refine @wpG_p _ _ _ _ _ (some 58) (.slice (some ⟨wg, 0, none⟩) 4 wc) _ _ rfl (by rfl) (fun _ => rfl) ?_
              simp only [n1, n3, n4]
              refine @wpG_p _ _ _ _ _ (some 59) (.int .i64 4) _ _ rfl (by rfl) (fun W => by go_simp) ?_
              simp only [n1, n3, n4]
              refine @wpG_p _ _ _ _ _ (some 60) (.bool false) _ _ rfl (by rfl) (fun W => by go_simp) ?_
              simp only [n1, n3, n4]
              refine @wpG_p _ _ _ _ _ (some 61) (.bool false) _ _ rfl (by rfl) (fun _ => rfl) ?_
              simp only [n1, n3, n4]
              refine @wpG_no _ _ _ _ _ (some 62) _ _ rfl (by rfl) ?_
              simp only [n1, n3, n4]
              refine @wpG_no _ _ _ _ _ (some 63) _ _ rfl (by rfl) ?_
              simp only [n1, n3, n4]
              refine @wpG_no _ _ _ _ _ (some 64) _ _ rfl (by rfl) ?_
              simp only [n1, n3, n4]
              refine @wpG_no _ _ _ _ _ (some 65) _ _ rfl (by rfl) ?_
              simp only [n1, n3, n4]
              refine @wpG_p _ _ _ _ _ (some 66) (.bool false) _ _ rfl (by rfl) (fun W => by go_simp) ?_
              simp only [n1, n3, n4]
              refine @wpG_p _ _ _ _ _ (some 67) (.bool false) _ _ rfl (by rfl) (fun W => by go_simp) ?_
              simp only [n1, n3, n4]
              refine wpG_done (fun V167 hv168 => ?_)
              have S169 : Hid (St w noB [blk g45 35 [.string (bstr n0), .bool true, .bool false, .bool true, .int .i64 (Ma.nr d0), .int .i64 0, .int .i64 0, .int .i64 0], own (.slice (some ⟨wg, 0, none⟩) 4 wc) 9 1 4 ([n0, k0, f0, d0].map sv), blk g4 35 [.string ⟨#[]⟩, .bool false, .bool false, .bool false, .int .i64 0, .int .i64 0, .int .i64 0, .int .i64 0]] V167) := Lib.hid (S153.out.gr hv168)
              clear S153
              clear hv168
              refine ⟨rfl, hK _ _ ?_⟩
              clear hK
              go_upto_region 17 with fail
              refine wpG_region_k (fun K hK => ?_)
              refine @wpG_p _ _ _ _ _ (some 6) (.int .i64 5) _ _ rfl (by rfl) (fun _ => rfl) ?_
              simp only [n1, n3, n4]
              refine wpG_done (fun V170 hv171 => ?_)
              have S172 : Hid (St w noB [blk g45 35 [.string (bstr n0), .bool true, .bool false, .bool true, .int .i64 (Ma.nr d0), .int .i64 0, .int .i64 0, .int .i64 0], own (.slice (some ⟨wg, 0, none⟩) 4 wc) 9 1 4 ([n0, k0, f0, d0].map sv), blk g4 35 [.string ⟨#[]⟩, .bool false, .bool false, .bool false, .int .i64 0, .int .i64 0, .int .i64 0, .int .i64 0]] V170) := Lib.hid (S169.out.gr hv171)
              clear S169
              clear hv171
              refine ⟨rfl, hK _ _ ?_⟩
              clear hK
              go_wp2_with fail
              refine wp_loop_rounds 4 ?_
              rw [rounds_succ]
              go_upto_region 18 with fail
              refine wpG_region_k (fun K hK => ?_)
              refine @wpG_p _ _ _ _ _ (some 69) (.int .i64 5) _ _ rfl (by rfl) (fun _ => rfl) ?_
              simp only [n1, n3, n4]
              refine @wpG_p _ _ _ _ _ (some 70) (.slice (some ⟨wg, 0, none⟩) 4 wc) _ _ rfl (by rfl) (fun _ => rfl) ?_
              simp only [n1, n3, n4]
              refine @wpG_p _ _ _ _ _ (some 71) (.int .i64 4) _ _ rfl (by rfl) (fun W => by go_simp) ?_
              simp only [n1, n3, n4]
              refine @wpG_p _ _ _ _ _ (some 72) (.bool false) _ _ rfl (by rfl) (fun W => by go_simp) ?_
              simp only [n1, n3, n4]
              refine wpG_done (fun V173 hv174 => ?_)
              have S175 : Hid (St w noB [blk g45 35 [.string (bstr n0), .bool true, .bool false, .bool true, .int .i64 (Ma.nr d0), .int .i64 0, .int .i64 0, .int .i64 0], own (.slice (some ⟨wg, 0, none⟩) 4 wc) 9 1 4 ([n0, k0, f0, d0].map sv), blk g4 35 [.string ⟨#[]⟩, .bool false, .bool false, .bool false, .int .i64 0, .int .i64 0, .int .i64 0, .int .i64 0]] V173) := Lib.hid (S172.out.gr hv174)
              clear S172
              clear hv174
              refine ⟨rfl, hK _ _ ?_⟩
              clear hK
              go_upto_region 23 with fail
              refine wpK_region_k (by kernel_rfl) (fun K hK => ?_)
              refine wpK_ta (i := 1) (some 92) (v := .slice (some ⟨wg, 0, none⟩) 4 wc) rfl rfl (by kernel_rfl) (fun _ _ _ h => onN_panic h) (Or.inl ⟨rfl, fun _ => rfl⟩) ?_
              simp only [n1, n3, n4]
              refine wpK_ta (i := 2) (some 93) (v := .int .i64 4) rfl rfl (by kernel_rfl) (fun _ _ _ h => onN_panic h) (Or.inl ⟨by rfl, fun W => by go_simp⟩) ?_
              simp only [n1, n3, n4]
              refine wpK_ta (i := 3) (some 94) (v := .bool true) rfl rfl (by kernel_rfl) (fun _ _ _ h => onN_panic h) (Or.inl ⟨by rfl, fun W => by go_simp⟩) ?_
              simp only [n1, n3, n4]
              refine wpK_ta (i := 4) (some 95) (v := .bool true) rfl rfl (by kernel_rfl) (fun _ _ _ h => onN_panic h) (Or.inl ⟨rfl, fun _ => rfl⟩) ?_
              simp only [n1, n3, n4]
              refine wpK_ta (i := 5) (some 96) rfl rfl (by kernel_rfl) (fun _ _ _ h => onN_panic h) (Or.inr ⟨by rfl, rfl⟩) ?_
              simp only [n1, n3, n4]
              refine wpK_ta (i := 6) (some 97) rfl rfl (by kernel_rfl) (fun _ _ _ h => onN_panic h) (Or.inr ⟨by rfl, rfl⟩) ?_
              simp only [n1, n3, n4]
              refine wpK_ta (i := 7) (some 98) rfl rfl (by kernel_rfl) (fun _ _ _ h => onN_panic h) (Or.inr ⟨by rfl, rfl⟩) ?_
              simp only [n1, n3, n4]
              refine wpK_ta (i := 8) (some 99) rfl rfl (by kernel_rfl) (fun _ _ _ h => onN_panic h) (Or.inr ⟨by rfl, rfl⟩) ?_
              simp only [n1, n3, n4]
              refine wpK_ta (i := 9) (some 100) (v := .bool true) rfl rfl (by kernel_rfl) (fun _ _ _ h => onN_panic h) (Or.inl ⟨by rfl, fun W => by go_simp⟩) ?_
              simp only [n1, n3, n4]
              refine wpK_tk (i := 0) (some 91) (v := .agg #[.string (bstr n0), .bool true, .bool false, .bool true, .int .i64 (Ma.nr d0), .int .i64 0, .int .i64 0, .int .i64 0]) rfl rfl (by kernel_rfl) (fun _ _ _ h => onN_panic h) (.load_mid (by rfl) 35 (.tmp 5) rfl g45 0 rfl [.string (bstr n0), .bool true, .bool false, .bool true, .int .i64 (Ma.nr d0), .int .i64 0, .int .i64 0, .int .i64 0] _ (fun W hg => (S175.out.gr (Gr.un hg)).range 0 rfl 0 8 rfl) Tryd.underlying35 rfl (by kernel_rfl)) ?_
              simp only [n1, n3, n4]
              refine wpK_store (i := 10) (none) rfl rfl (by kernel_rfl) (by rfl) (by rfl) (fun W176 hg177 => ⟨_, run_store_mid 35 (.tmp 2) (.tmp 91) rfl g4 0 #[.string (bstr n0), .bool true, .bool false, .bool true, .int .i64 (Ma.nr d0), .int .i64 0, .int .i64 0, .int .i64 0] rfl rfl ((S175.out.gr (Gr.un hg177)).room 2 rfl 0 8 (by simp)) (by kernel_rfl) (by kernel_rfl), ?_⟩)
              simp only [n2]
              obtain ⟨U178, hu_, hS_⟩ := ((S175.out.gr (Gr.un hg177)).put 2 rfl 0 (#[.string (bstr n0), .bool true, .bool false, .bool true, .int .i64 (Ma.nr d0), .int .i64 0, .int .i64 0, .int .i64 0] : Array Value).toList (ds := [.string (bstr n0), .bool true, .bool false, .bool true, .int .i64 (Ma.nr d0), .int .i64 0, .int .i64 0, .int .i64 0]) rfl).named
              rw [← hu_]
              have S179 : Hid (St w noB [blk g45 35 [.string (bstr n0), .bool true, .bool false, .bool true, .int .i64 (Ma.nr d0), .int .i64 0, .int .i64 0, .int .i64 0], own (.slice (some ⟨wg, 0, none⟩) 4 wc) 9 1 4 ([n0, k0, f0, d0].map sv), blk g4 35 [.string (bstr n0), .bool true, .bool false, .bool true, .int .i64 (Ma.nr d0), .int .i64 0, .int .i64 0, .int .i64 0]] U178) := Lib.hid hS_
              clear S175
              clear hu_ hS_ hg177
              refine wpK_ta (i := 11) (some 3) (v := .bool true) rfl rfl (by kernel_rfl) (fun _ _ _ h => onN_panic h) (Or.inl ⟨rfl, fun _ => rfl⟩) ?_
              simp only [n1, n3, n4]
              refine wpK_done (by kernel_rfl) (fun V180 hv181 => ?_) _
              have S182 : Hid (St w noB [blk g45 35 [.string (bstr n0), .bool true, .bool false, .bool true, .int .i64 (Ma.nr d0), .int .i64 0, .int .i64 0, .int .i64 0], own (.slice (some ⟨wg, 0, none⟩) 4 wc) 9 1 4 ([n0, k0, f0, d0].map sv), blk g4 35 [.string (bstr n0), .bool true, .bool false, .bool true, .int .i64 (Ma.nr d0), .int .i64 0, .int .i64 0, .int .i64 0]] V180) := Lib.hid (S179.out.gr hv181)
              clear S179
              clear hv181
              refine ⟨rfl, hK _ _ ?_⟩
              clear hK
              go_wp2_with fail
              (try simp only [Exit.inBlock, Exit.then])
              refine bodyPost_ret (results_cell_tmp rfl _ _ _ g4 0 [.string (bstr n0), .bool true, .bool false, .bool true, .int .i64 (Ma.nr d0), .int .i64 0, .int .i64 0, .int .i64 0] _ rfl (S182.out.range 2 rfl 0 8 rfl) Tryd.underlying35 rfl (by kernel_rfl)) rfl ?_
              (have e_f42 := f42.out; have e_f139 := f139.out; have hk_ : Ma.kn k0 = some (true, false, true) := (by rw [e_f139]; rfl); obtain ⟨v_, hv_, hr_⟩ := Ma.nr_pos (w := d0) (by omega); have h4_ := Ma.mat4_yes hk_ hv_ f29 e_f42; have h : Ma.mat x = some _ := (Ma.mat_w hw).trans (h4_); exact ⟨((⟨n0, true, false, true, (Ma.nr d0), 0, 0, 0⟩ : Ma.Mt) : Ma.Mt), by show Ending.returned (.tuple #[.agg #[.string (bstr n0), .bool true, .bool false, .bool true, .int .i64 (Ma.nr d0), .int .i64 0, .int .i64 0, .int .i64 0], .bool true]) = _; rw [h]; rfl, fun m_ hm_ => (by rw [h] at hm_; injection hm_ with hm_; rw [← hm_, hr_]), S182.out.bel⟩)
          | false =>
            have f183 := of_decide_eq_false Hc138.out.symm
            go_upto_region 13 with fail
            refine wpG_region_k (fun K hK => ?_)
            refine @wpG_p _ _ _ _ _ (some 52) (.bool (decide (k0 = [108, 105, 113, 117, 105, 100]))) _ _ rfl (by rfl) (fun W => op_str_eql W k0 [108, 105, 113, 117, 105, 100] rfl rfl rfl Tryd.underlying9) ?_
            simp only [n1, n3, n4]
            refine @wpG_p _ _ _ _ _ (some 51) (.bool (decide (k0 = [108, 105, 113, 117, 105, 100]))) _ _ rfl (by rfl) (fun _ => rfl) ?_
            simp only [n1, n3, n4]
            refine wpG_done (fun V184 hv185 => ?_)
            have S186 : Hid (St w noB [blk g45 35 [.string (bstr n0), .bool false, .bool false, .bool false, .int .i64 (Ma.nr d0), .int .i64 0, .int .i64 0, .int .i64 0], own (.slice (some ⟨wg, 0, none⟩) 4 wc) 9 1 4 ([n0, k0, f0, d0].map sv), blk g4 35 [.string ⟨#[]⟩, .bool false, .bool false, .bool false, .int .i64 0, .int .i64 0, .int .i64 0, .int .i64 0]] V184) := Lib.hid (S137.out.gr hv185)
            clear S137
            clear hv185
            refine ⟨rfl, hK _ _ ?_⟩
            clear hK
            obtain ⟨c187, hc187⟩ : ∃ q_, q_ = (decide (k0 = [108, 105, 113, 117, 105, 100])) := ⟨_, rfl⟩
            rw [← hc187]
            have Hc187 := Lib.hid hc187
            clear hc187
            cases c187 with
            | true =>
              have f188 := Lib.hid (of_decide_eq_true Hc187.out.symm)
              go_upto_region 14 with fail
              refine wpG_region_k (fun K hK => ?_)
              refine @wpG_p _ _ _ _ _ (some 53) (.pointer (some ⟨g45, 2, none⟩)) _ _ rfl (by rfl) (fun W => by go_simp) ?_
              simp only [n1, n3, n4]
              refine wpG_store (none) rfl (by rfl) (fun W189 hg190 => ⟨W189.setCell ⟨g45, 2, none⟩ (.bool true), by have c := (S186.out.gr hg190).cell 0 rfl 2 rfl; have c2 := (S186.out.gr hg190).soft 0 rfl 2 rfl; go_simp, ?_⟩)
              simp only [n2]
              obtain ⟨U191, hu_, hS_⟩ := ((S186.out.gr hg190).put1 0 rfl 2 (.bool true)).named
              rw [← hu_]
              have S192 : Hid (St w noB [blk g45 35 [.string (bstr n0), .bool false, .bool true, .bool false, .int .i64 (Ma.nr d0), .int .i64 0, .int .i64 0, .int .i64 0], own (.slice (some ⟨wg, 0, none⟩) 4 wc) 9 1 4 ([n0, k0, f0, d0].map sv), blk g4 35 [.string ⟨#[]⟩, .bool false, .bool false, .bool false, .int .i64 0, .int .i64 0, .int .i64 0, .int .i64 0]] U191) := Lib.hid hS_
              clear S186
              clear hu_ hS_ hg190
              refine wpG_done (fun V193 hv194 => ?_)
              have S195 : Hid (St w noB [blk g45 35 [.string (bstr n0), .bool false, .bool true, .bool false, .int .i64 (Ma.nr d0), .int .i64 0, .int .i64 0, .int .i64 0], own (.slice (some ⟨wg, 0, none⟩) 4 wc) 9 1 4 ([n0, k0, f0, d0].map sv), blk g4 35 [.string ⟨#[]⟩, .bool false, .bool false, .bool false, .int .i64 0, .int .i64 0, .int .i64 0, .int .i64 0]] V193) := Lib.hid (S192.out.gr hv194)
              clear S192
              clear hv194
              refine ⟨rfl, hK _ _ ?_⟩
              clear hK
              go_upto_region 15 with fail
              refine wpG_region_k (fun K hK => ?_)
              refine @wpG_p _ _ _ _ _ (some 54) (.pointer (some ⟨g45, 4, none⟩)) _ _ rfl (by rfl) (fun W => by go_simp) ?_
              simp only [n1, n3, n4]
              refine @wpG_r _ _ _ _ _ (some 55) (.int .i64 (Ma.nr d0)) _ _ rfl (by rfl) (fun W hg => by have c := (S195.out.gr hg).cell 0 rfl 4 rfl; go_simp) ?_
              simp only [n1, n3, n4]
              refine @wpG_p _ _ _ _ _ (some 56) (.bool (decide (Ma.nr d0 < 0))) _ _ rfl (by rfl) (fun W => op_int_lss W (Ma.nr d0) 0 rfl rfl rfl Tryd.underlying3) ?_
              simp only [n1, n3, n4]
              refine @wpG_p _ _ _ _ _ (some 57) (.bool (decide (Ma.nr d0 < 0))) _ _ rfl (by rfl) (fun _ => rfl) ?_
              simp only [n1, n3, n4]
              obtain ⟨c196, hc196⟩ : ∃ q_, q_ = (decide (Ma.nr d0 < 0)) := ⟨_, rfl⟩
              rw [← hc196]
              have Hc196 := Lib.hid hc196
              clear hc196
              cases c196 with
              | true =>
                have f197 := of_decide_eq_true Hc196.out.symm
                refine @wpG_no _ _ _ _ _ (some 58) _ _ rfl (by rfl) ?_
                simp only [n1, n3, n4]
                refine @wpG_no _ _ _ _ _ (some 59) _ _ rfl (by rfl) ?_
                simp only [n1, n3, n4]
                refine @wpG_no _ _ _ _ _ (some 60) _ _ rfl (by rfl) ?_
                simp only [n1, n3, n4]
                refine @wpG_no _ _ _ _ _ (some 61) _ _ rfl (by rfl) ?_
                simp only [n1, n3, n4]
                refine @wpG_no _ _ _ _ _ (some 62) _ _ rfl (by rfl) ?_
                simp only [n1, n3, n4]
                refine @wpG_no _ _ _ _ _ (some 63) _ _ rfl (by rfl) ?_
                simp only [n1, n3, n4]
                refine @wpG_no _ _ _ _ _ (some 64) _ _ rfl (by rfl) ?_
                simp only [n1, n3, n4]
                refine @wpG_no _ _ _ _ _ (some 65) _ _ rfl (by rfl) ?_
                simp only [n1, n3, n4]
                refine @wpG_no _ _ _ _ _ (some 66) _ _ rfl (by rfl) ?_
                simp only [n1, n3, n4]
                refine @wpG_p _ _ _ _ _ (some 67) (.bool true) _ _ rfl (by rfl) (fun W => by go_simp) ?_
                simp only [n1, n3, n4]
                refine wpG_done (fun V198 hv199 => ?_)
                have S200 : Hid (St w noB [blk g45 35 [.string (bstr n0), .bool false, .bool true, .bool false, .int .i64 (Ma.nr d0), .int .i64 0, .int .i64 0, .int .i64 0], own (.slice (some ⟨wg, 0, none⟩) 4 wc) 9 1 4 ([n0, k0, f0, d0].map sv), blk g4 35 [.string ⟨#[]⟩, .bool false, .bool false, .bool false, .int .i64 0, .int .i64 0, .int .i64 0, .int .i64 0]] V198) := Lib.hid (S195.out.gr hv199)
                clear S195
                clear hv199
                refine ⟨rfl, hK _ _ ?_⟩
                clear hK
                go_upto_region 16 with fail
                refine wpG_region_k (fun K hK => ?_)
                refine @wpG_p _ _ _ _ _ (some 68) (.agg #[.string ⟨#[]⟩, .bool false, .bool false, .bool false, .int .i64 0, .int .i64 0, .int .i64 0, .int .i64 0]) _ _ rfl (by rfl) (fun W => by go_simp) ?_
                simp only [n1, n3, n4]
                refine wpG_store (none) rfl (by rfl) (fun W201 hg202 => ⟨_, run_store_mid 35 (.tmp 2) (.tmp 68) rfl g4 0 #[.string ⟨#[]⟩, .bool false, .bool false, .bool false, .int .i64 0, .int .i64 0, .int .i64 0, .int .i64 0] rfl rfl ((S200.out.gr hg202).room 2 rfl 0 8 (by simp)) (by kernel_rfl) (by kernel_rfl), ?_⟩)
                simp only [n2]
                obtain ⟨U203, hu_, hS_⟩ := ((S200.out.gr hg202).put 2 rfl 0 (#[.string ⟨#[]⟩, .bool false, .bool false, .bool false, .int .i64 0, .int .i64 0, .int .i64 0, .int .i64 0] : Array Value).toList (ds := [.string ⟨#[]⟩, .bool false, .bool false, .bool false, .int .i64 0, .int .i64 0, .int .i64 0, .int .i64 0]) rfl).named
                rw [← hu_]
                have S204 : Hid (St w noB [blk g45 35 [.string (bstr n0), .bool false, .bool true, .bool false, .int .i64 (Ma.nr d0), .int .i64 0, .int .i64 0, .int .i64 0], own (.slice (some ⟨wg, 0, none⟩) 4 wc) 9 1 4 ([n0, k0, f0, d0].map sv), blk g4 35 [.string ⟨#[]⟩, .bool false, .bool false, .bool false, .int .i64 0, .int .i64 0, .int .i64 0, .int .i64 0]] U203) := Lib.hid hS_
                clear S200
                clear hu_ hS_ hg202
                refine @wpG_p _ _ _ _ _ (some 3) (.bool false) _ _ rfl (by rfl) (fun _ => rfl) ?_
                simp only [n1, n3, n4]
                refine wpG_done (fun V205 hv206 => ?_)
                have S207 : Hid (St w noB [blk g45 35 [.string (bstr n0), .bool false, .bool true, .bool false, .int .i64 (Ma.nr d0), .int .i64 0, .int .i64 0, .int .i64 0], own (.slice (some ⟨wg, 0, none⟩) 4 wc) 9 1 4 ([n0, k0, f0, d0].map sv), blk g4 35 [.string ⟨#[]⟩, .bool false, .bool false, .bool false, .int .i64 0, .int .i64 0, .int .i64 0, .int .i64 0]] V205) := Lib.hid (S204.out.gr hv206)
                clear S204
                clear hv206
                refine ⟨rfl, hK _ _ ?_⟩
                clear hK
                go_wp2_with fail
                (try simp only [Exit.inBlock, Exit.then])
                refine bodyPost_ret (results_cell_tmp rfl _ _ _ g4 0 [.string ⟨#[]⟩, .bool false, .bool false, .bool false, .int .i64 0, .int .i64 0, .int .i64 0, .int .i64 0] _ rfl (S207.out.range 2 rfl 0 8 rfl) Tryd.underlying35 rfl (by kernel_rfl)) rfl ?_
                (have e_f42 := f42.out; have e_f188 := f188.out; have h : Ma.mat x = none := (Ma.mat_w hw).trans (Ma.m4_4 (Ma.mat4_num (Ma.nr_neg (by omega)))); exact ⟨((⟨[], false, false, false, 0, 0, 0, 0⟩ : Ma.Mt) : Ma.Mt), by show Ending.returned (.tuple #[.agg #[.string ⟨#[]⟩, .bool false, .bool false, .bool false, .int .i64 0, .int .i64 0, .int .i64 0, .int .i64 0], .bool false]) = _; rw [h]; rfl, fun m_ hm_ => (by rw [h] at hm_; cases hm_), S207.out.bel⟩)
              | false =>
                have f208 := of_decide_eq_false Hc196.out.symm
                refine @wpG_p _ _ _ _ _ (some 58) (.slice (some ⟨wg, 0, none⟩) 4 wc) _ _ rfl (by rfl) (fun _ => rfl) ?_
                simp only [n1, n3, n4]
                refine @wpG_p _ _ _ _ _ (some 59) (.int .i64 4) _ _ rfl (by rfl) (fun W => by go_simp) ?_
                simp only [n1, n3, n4]
                refine @wpG_p _ _ _ _ _ (some 60) (.bool false) _ _ rfl (by rfl) (fun W => by go_simp) ?_
                simp only [n1, n3, n4]
                refine @wpG_p _ _ _ _ _ (some 61) (.bool false) _ _ rfl (by rfl) (fun _ => rfl) ?_
                simp only [n1, n3, n4]
                refine @wpG_no _ _ _ _ _ (some 62) _ _ rfl (by rfl) ?_
                simp only [n1, n3, n4]
                refine @wpG_no _ _ _ _ _ (some 63) _ _ rfl (by rfl) ?_
                simp only [n1, n3, n4]
                refine @wpG_no _ _ _ _ _ (some 64) _ _ rfl (by rfl) ?_
                simp only [n1, n3, n4]
                refine @wpG_no _ _ _ _ _ (some 65) _ _ rfl (by rfl) ?_
                simp only [n1, n3, n4]
                refine @wpG_p _ _ _ _ _ (some 66) (.bool false) _ _ rfl (by rfl) (fun W => by go_simp) ?_
                simp only [n1, n3, n4]
                refine @wpG_p _ _ _ _ _ (some 67) (.bool false) _ _ rfl (by rfl) (fun W => by go_simp) ?_
                simp only [n1, n3, n4]
                refine wpG_done (fun V209 hv210 => ?_)
                have S211 : Hid (St w noB [blk g45 35 [.string (bstr n0), .bool false, .bool true, .bool false, .int .i64 (Ma.nr d0), .int .i64 0, .int .i64 0, .int .i64 0], own (.slice (some ⟨wg, 0, none⟩) 4 wc) 9 1 4 ([n0, k0, f0, d0].map sv), blk g4 35 [.string ⟨#[]⟩, .bool false, .bool false, .bool false, .int .i64 0, .int .i64 0, .int .i64 0, .int .i64 0]] V209) := Lib.hid (S195.out.gr hv210)
                clear S195
                clear hv210
                refine ⟨rfl, hK _ _ ?_⟩
                clear hK
                go_upto_region 17 with fail
                refine wpG_region_k (fun K hK => ?_)
                refine @wpG_p _ _ _ _ _ (some 6) (.int .i64 5) _ _ rfl (by rfl) (fun _ => rfl) ?_
                simp only [n1, n3, n4]
                refine wpG_done (fun V212 hv213 => ?_)
                have S214 : Hid (St w noB [blk g45 35 [.string (bstr n0), .bool false, .bool true, .bool false, .int .i64 (Ma.nr d0), .int .i64 0, .int .i64 0, .int .i64 0], own (.slice (some ⟨wg, 0, none⟩) 4 wc) 9 1 4 ([n0, k0, f0, d0].map sv), blk g4 35 [.string ⟨#[]⟩, .bool false, .bool false, .bool false, .int .i64 0, .int .i64 0, .int .i64 0, .int .i64 0]] V212) := Lib.hid (S211.out.gr hv213)
                clear S211
                clear hv213
                refine ⟨rfl, hK _ _ ?_⟩
                clear hK
                go_wp2_with fail
                refine wp_loop_rounds 4 ?_
                rw [rounds_succ]
                go_upto_region 18 with fail
                refine wpG_region_k (fun K hK => ?_)
                refine @wpG_p _ _ _ _ _ (some 69) (.int .i64 5) _ _ rfl (by rfl) (fun _ => rfl) ?_
                simp only [n1, n3, n4]
                refine @wpG_p _ _ _ _ _ (some 70) (.slice (some ⟨wg, 0, none⟩) 4 wc) _ _ rfl (by rfl) (fun _ => rfl) ?_
                simp only [n1, n3, n4]
                refine @wpG_p _ _ _ _ _ (some 71) (.int .i64 4) _ _ rfl (by rfl) (fun W => by go_simp) ?_
                simp only [n1, n3, n4]
                refine @wpG_p _ _ _ _ _ (some 72) (.bool false) _ _ rfl (by rfl) (fun W => by go_simp) ?_
                simp only [n1, n3, n4]
                refine wpG_done (fun V215 hv216 => ?_)
                have S217 : Hid (St w noB [blk g45 35 [.string (bstr n0), .bool false, .bool true, .bool false, .int .i64 (Ma.nr d0), .int .i64 0, .int .i64 0, .int .i64 0], own (.slice (some ⟨wg, 0, none⟩) 4 wc) 9 1 4 ([n0, k0, f0, d0].map sv), blk g4 35 [.string ⟨#[]⟩, .bool false, .bool false, .bool false, .int .i64 0, .int .i64 0, .int .i64 0, .int .i64 0]] V215) := Lib.hid (S214.out.gr hv216)
                clear S214
                clear hv216
                refine ⟨rfl, hK _ _ ?_⟩
                clear hK
                go_upto_region 23 with fail
                refine wpK_region_k (by kernel_rfl) (fun K hK => ?_)
                refine wpK_ta (i := 1) (some 92) (v := .slice (some ⟨wg, 0, none⟩) 4 wc) rfl rfl (by kernel_rfl) (fun _ _ _ h => onN_panic h) (Or.inl ⟨rfl, fun _ => rfl⟩) ?_
                simp only [n1, n3, n4]
                refine wpK_ta (i := 2) (some 93) (v := .int .i64 4) rfl rfl (by kernel_rfl) (fun _ _ _ h => onN_panic h) (Or.inl ⟨by rfl, fun W => by go_simp⟩) ?_
                simp only [n1, n3, n4]
                refine wpK_ta (i := 3) (some 94) (v := .bool true) rfl rfl (by kernel_rfl) (fun _ _ _ h => onN_panic h) (Or.inl ⟨by rfl, fun W => by go_simp⟩) ?_
                simp only [n1, n3, n4]
                refine wpK_ta (i := 4) (some 95) (v := .bool true) rfl rfl (by kernel_rfl) (fun _ _ _ h => onN_panic h) (Or.inl ⟨rfl, fun _ => rfl⟩) ?_
                simp only [n1, n3, n4]
                refine wpK_ta (i := 5) (some 96) rfl rfl (by kernel_rfl) (fun _ _ _ h => onN_panic h) (Or.inr ⟨by rfl, rfl⟩) ?_
                simp only [n1, n3, n4]
                refine wpK_ta (i := 6) (some 97) rfl rfl (by kernel_rfl) (fun _ _ _ h => onN_panic h) (Or.inr ⟨by rfl, rfl⟩) ?_
                simp only [n1, n3, n4]
                refine wpK_ta (i := 7) (some 98) rfl rfl (by kernel_rfl) (fun _ _ _ h => onN_panic h) (Or.inr ⟨by rfl, rfl⟩) ?_
                simp only [n1, n3, n4]
                refine wpK_ta (i := 8) (some 99) rfl rfl (by kernel_rfl) (fun _ _ _ h => onN_panic h) (Or.inr ⟨by rfl, rfl⟩) ?_
                simp only [n1, n3, n4]
                refine wpK_ta (i := 9) (some 100) (v := .bool true) rfl rfl (by kernel_rfl) (fun _ _ _ h => onN_panic h) (Or.inl ⟨by rfl, fun W => by go_simp⟩) ?_
                simp only [n1, n3, n4]
                refine wpK_tk (i := 0) (some 91) (v := .agg #[.string (bstr n0), .bool false, .bool true, .bool false, .int .i64 (Ma.nr d0), .int .i64 0, .int .i64 0, .int .i64 0]) rfl rfl (by kernel_rfl) (fun _ _ _ h => onN_panic h) (.load_mid (by rfl) 35 (.tmp 5) rfl g45 0 rfl [.string (bstr n0), .bool false, .bool true, .bool false, .int .i64 (Ma.nr d0), .int .i64 0, .int .i64 0, .int .i64 0] _ (fun W hg => (S217.out.gr (Gr.un hg)).range 0 rfl 0 8 rfl) Tryd.underlying35 rfl (by kernel_rfl)) ?_
                simp only [n1, n3, n4]
                refine wpK_store (i := 10) (none) rfl rfl (by kernel_rfl) (by rfl) (by rfl) (fun W218 hg219 => ⟨_, run_store_mid 35 (.tmp 2) (.tmp 91) rfl g4 0 #[.string (bstr n0), .bool false, .bool true, .bool false, .int .i64 (Ma.nr d0), .int .i64 0, .int .i64 0, .int .i64 0] rfl rfl ((S217.out.gr (Gr.un hg219)).room 2 rfl 0 8 (by simp)) (by kernel_rfl) (by kernel_rfl), ?_⟩)
                simp only [n2]
                obtain ⟨U220, hu_, hS_⟩ := ((S217.out.gr (Gr.un hg219)).put 2 rfl 0 (#[.string (bstr n0), .bool false, .bool true, .bool false, .int .i64 (Ma.nr d0), .int .i64 0, .int .i64 0, .int .i64 0] : Array Value).toList (ds := [.string (bstr n0), .bool false, .bool true, .bool false, .int .i64 (Ma.nr d0), .int .i64 0, .int .i64 0, .int .i64 0]) rfl).named
                rw [← hu_]
                have S221 : Hid (St w noB [blk g45 35 [.string (bstr n0), .bool false, .bool true, .bool false, .int .i64 (Ma.nr d0), .int .i64 0, .int .i64 0, .int .i64 0], own (.slice (some ⟨wg, 0, none⟩) 4 wc) 9 1 4 ([n0, k0, f0, d0].map sv), blk g4 35 [.string (bstr n0), .bool false, .bool true, .bool false, .int .i64 (Ma.nr d0), .int .i64 0, .int .i64 0, .int .i64 0]] U220) := Lib.hid hS_
                clear S217
                clear hu_ hS_ hg219
                refine wpK_ta (i := 11) (some 3) (v := .bool true) rfl rfl (by kernel_rfl) (fun _ _ _ h => onN_panic h) (Or.inl ⟨rfl, fun _ => rfl⟩) ?_
                simp only [n1, n3, n4]
                refine wpK_done (by kernel_rfl) (fun V222 hv223 => ?_) _
                have S224 : Hid (St w noB [blk g45 35 [.string (bstr n0), .bool false, .bool true, .bool false, .int .i64 (Ma.nr d0), .int .i64 0, .int .i64 0, .int .i64 0], own (.slice (some ⟨wg, 0, none⟩) 4 wc) 9 1 4 ([n0, k0, f0, d0].map sv), blk g4 35 [.string (bstr n0), .bool false, .bool true, .bool false, .int .i64 (Ma.nr d0), .int .i64 0, .int .i64 0, .int .i64 0]] V222) := Lib.hid (S221.out.gr hv223)
                clear S221
                clear hv223
                refine ⟨rfl, hK _ _ ?_⟩
                clear hK
                go_wp2_with fail
                (try simp only [Exit.inBlock, Exit.then])
                refine bodyPost_ret (results_cell_tmp rfl _ _ _ g4 0 [.string (bstr n0), .bool false, .bool true, .bool false, .int .i64 (Ma.nr d0), .int .i64 0, .int .i64 0, .int .i64 0] _ rfl (S224.out.range 2 rfl 0 8 rfl) Tryd.underlying35 rfl (by kernel_rfl)) rfl ?_
                (have e_f42 := f42.out; have e_f188 := f188.out; have hk_ : Ma.kn k0 = some (false, true, false) := (by rw [e_f188]; rfl); obtain ⟨v_, hv_, hr_⟩ := Ma.nr_pos (w := d0) (by omega); have h4_ := Ma.mat4_yes hk_ hv_ f29 e_f42; have h : Ma.mat x = some _ := (Ma.mat_w hw).trans (h4_); exact ⟨((⟨n0, false, true, false, (Ma.nr d0), 0, 0, 0⟩ : Ma.Mt) : Ma.Mt), by show Ending.returned (.tuple #[.agg #[.string (bstr n0), .bool false, .bool true, .bool false, .int .i64 (Ma.nr d0), .int .i64 0, .int .i64 0, .int .i64 0], .bool true]) = _; rw [h]; rfl, fun m_ hm_ => (by rw [h] at hm_; injection hm_ with hm_; rw [← hm_, hr_]), S224.out.bel⟩)
            | false =>
              have f225 := of_decide_eq_false Hc187.out.symm
              go_upto_region 6 with fail
              refine wpG_region_k (fun K hK => ?_)
              refine @wpG_p _ _ _ _ _ (some 41) (.agg #[.string ⟨#[]⟩, .bool false, .bool false, .bool false, .int .i64 0, .int .i64 0, .int .i64 0, .int .i64 0]) _ _ rfl (by rfl) (fun W => by go_simp) ?_
              simp only [n1, n3, n4]
              refine wpG_store (none) rfl (by rfl) (fun W226 hg227 => ⟨_, run_store_mid 35 (.tmp 2) (.tmp 41) rfl g4 0 #[.string ⟨#[]⟩, .bool false, .bool false, .bool false, .int .i64 0, .int .i64 0, .int .i64 0, .int .i64 0] rfl rfl ((S186.out.gr hg227).room 2 rfl 0 8 (by simp)) (by kernel_rfl) (by kernel_rfl), ?_⟩)
              simp only [n2]
              obtain ⟨U228, hu_, hS_⟩ := ((S186.out.gr hg227).put 2 rfl 0 (#[.string ⟨#[]⟩, .bool false, .bool false, .bool false, .int .i64 0, .int .i64 0, .int .i64 0, .int .i64 0] : Array Value).toList (ds := [.string ⟨#[]⟩, .bool false, .bool false, .bool false, .int .i64 0, .int .i64 0, .int .i64 0, .int .i64 0]) rfl).named
              rw [← hu_]
              have S229 : Hid (St w noB [blk g45 35 [.string (bstr n0), .bool false, .bool false, .bool false, .int .i64 (Ma.nr d0), .int .i64 0, .int .i64 0, .int .i64 0], own (.slice (some ⟨wg, 0, none⟩) 4 wc) 9 1 4 ([n0, k0, f0, d0].map sv), blk g4 35 [.string ⟨#[]⟩, .bool false, .bool false, .bool false, .int .i64 0, .int .i64 0, .int .i64 0, .int .i64 0]] U228) := Lib.hid hS_
              clear S186
              clear hu_ hS_ hg227
              refine @wpG_p _ _ _ _ _ (some 3) (.bool false) _ _ rfl (by rfl) (fun _ => rfl) ?_
              simp only [n1, n3, n4]
              refine wpG_done (fun V230 hv231 => ?_)
              have S232 : Hid (St w noB [blk g45 35 [.string (bstr n0), .bool false, .bool false, .bool false, .int .i64 (Ma.nr d0), .int .i64 0, .int .i64 0, .int .i64 0], own (.slice (some ⟨wg, 0, none⟩) 4 wc) 9 1 4 ([n0, k0, f0, d0].map sv), blk g4 35 [.string ⟨#[]⟩, .bool false, .bool false, .bool false, .int .i64 0, .int .i64 0, .int .i64 0, .int .i64 0]] V230) := Lib.hid (S229.out.gr hv231)
              clear S229
              clear hv231
              refine ⟨rfl, hK _ _ ?_⟩
              clear hK
              go_wp2_with fail
              (try simp only [Exit.inBlock, Exit.then])
              refine bodyPost_ret (results_cell_tmp rfl _ _ _ g4 0 [.string ⟨#[]⟩, .bool false, .bool false, .bool false, .int .i64 0, .int .i64 0, .int .i64 0, .int .i64 0] _ rfl (S232.out.range 2 rfl 0 8 rfl) Tryd.underlying35 rfl (by kernel_rfl)) rfl ?_
              (have e_f42 := f42.out; have h : Ma.mat x = none := (Ma.mat_w hw).trans (Ma.m4_4 (Ma.mat4_kind (Ma.kn_no f92 f134 f183 f225))); exact ⟨((⟨[], false, false, false, 0, 0, 0, 0⟩ : Ma.Mt) : Ma.Mt), by show Ending.returned (.tuple #[.agg #[.string ⟨#[]⟩, .bool false, .bool false, .bool false, .int .i64 0, .int .i64 0, .int .i64 0, .int .i64 0], .bool false]) = _; rw [h]; rfl, fun m_ hm_ => (by rw [h] at hm_; cases hm_), S232.out.bel⟩)
set_option maxRecDepth 1000000 in
set_option maxHeartbeats 4000000 in
theorem rmat_8 (x : List UInt8) (n0 k0 f0 d0 e0 y0 y1 y2 : List UInt8) (w : World) (hx : x.length ≤ 1000000) (hw : Ma.words x = [n0, k0, f0, d0, e0, y0, y1, y2]) :
    Calls Tryd.prog 41 #[.string (bstr x)] w fun e w' => ∃ m : Ma.Mt, e = .returned (.tuple #[.agg #[.string (bstr m.n), .bool m.s, .bool m.l, .bool m.f, .int .i64 m.fd, .int .i64 m.a, .int .i64 m.b, .int .i64 m.c], .bool ((Ma.mat x).isSome)]) ∧ (∀ m', Ma.mat x = some m' → m' = m) ∧ Below w.heap.size w w' := by
  have S1 : Hid (St w noB [] w) := Lib.hid (St.start w)
  go_enter Tryd.func41, Tryd.ntmps41
  go_upto_region 0 with fail
  refine wpG_region_k (fun K hK => ?_)
  refine wpG_val (some 2) rfl (by rfl) (fun W2 hg3 => ⟨.pointer (some ⟨W2.heap.size, 0, none⟩), W2.alloc (.cells #[.string ⟨#[]⟩, .bool false, .bool false, .bool false, .int .i64 0, .int .i64 0, .int .i64 0, .int .i64 0] 35), by (first | (go_simp; done) | (go_simp <;> rfl)), ?_⟩)
  simp only [n1, n3, n4]
  obtain ⟨g4, U5, hg_, hu_, hS_⟩ := (S1.out.gr hg3).made [.string ⟨#[]⟩, .bool false, .bool false, .bool false, .int .i64 0, .int .i64 0, .int .i64 0, .int .i64 0] 35
  rw [← hu_, ← hg_]
  have S6 : Hid (St w noB [blk g4 35 [.string ⟨#[]⟩, .bool false, .bool false, .bool false, .int .i64 0, .int .i64 0, .int .i64 0, .int .i64 0]] U5) := Lib.hid hS_
  clear S1
  clear hg_ hu_ hS_ hg3
  refine @wpG_p _ _ _ _ _ (some 3) (.bool false) _ _ rfl (by rfl) (fun _ => rfl) ?_
  simp only [n1, n3, n4]
  refine wpG_done (fun V7 hv8 => ?_)
  have S9 : Hid (St w noB [blk g4 35 [.string ⟨#[]⟩, .bool false, .bool false, .bool false, .int .i64 0, .int .i64 0, .int .i64 0, .int .i64 0]] V7) := Lib.hid (S6.out.gr hv8)
  clear S6
  clear hv8
  refine ⟨rfl, hK _ _ ?_⟩
  clear hK
  go_upto_region 1 with fail
  refine wpG_region_k (fun K hK => ?_)
  refine @wpG_p _ _ _ _ _ (some 7) (.string (bstr x)) _ _ rfl (by rfl) (fun _ => rfl) ?_
  simp only [n1, n3, n4]
  refine wpG_call (some 8) 56 #[.string (bstr x)] rfl (by rfl) (fun W => by go_simp) (fun W10 hg11 => ?_)
  refine (words_any x W10 (by omega)).mono ?_
  rintro e w12 ⟨wA, wn, wc, rfl, hS_⟩
  refine ⟨_, rfl, ?_⟩
  rw [hw] at hS_
  obtain ⟨rfl, wg, rfl⟩ := own_lit (hS_.ownr 0 rfl) (k := 8) rfl (by decide)
  have hT_ := (S9.out.gr hg11).got hS_
  simp only [n1, n3, n4]
  have S13 : Hid (St w noB [own (.slice (some ⟨wg, 0, none⟩) 8 wc) 9 1 8 ([n0, k0, f0, d0, e0, y0, y1, y2].map sv), blk g4 35 [.string ⟨#[]⟩, .bool false, .bool false, .bool false, .int .i64 0, .int .i64 0, .int .i64 0, .int .i64 0]] w12) := Lib.hid hT_
  clear S9
  clear hT_ hS_ hg11
  refine @wpG_p _ _ _ _ _ (some 4) (.slice (some ⟨wg, 0, none⟩) 8 wc) _ _ rfl (by rfl) (fun _ => rfl) ?_
  simp only [n1, n3, n4]
  refine wpG_done (fun V14 hv15 => ?_)
  have S16 : Hid (St w noB [own (.slice (some ⟨wg, 0, none⟩) 8 wc) 9 1 8 ([n0, k0, f0, d0, e0, y0, y1, y2].map sv), blk g4 35 [.string ⟨#[]⟩, .bool false, .bool false, .bool false, .int .i64 0, .int .i64 0, .int .i64 0, .int .i64 0]] V14) := Lib.hid (S13.out.gr hv15)
  clear S13
  clear hv15
  refine ⟨rfl, hK _ _ ?_⟩
  clear hK
  go_upto_region 2 with fail
  refine wpG_region_k (fun K hK => ?_)
  refine @wpG_p _ _ _ _ _ (some 9) (.slice (some ⟨wg, 0, none⟩) 8 wc) _ _ rfl (by rfl) (fun _ => rfl) ?_
  simp only [n1, n3, n4]
  refine @wpG_p _ _ _ _ _ (some 10) (.int .i64 8) _ _ rfl (by rfl) (fun W => by go_simp) ?_
  simp only [n1, n3, n4]
  refine @wpG_p _ _ _ _ _ (some 11) (.bool true) _ _ rfl (by rfl) (fun W => by go_simp) ?_
  simp only [n1, n3, n4]
  refine @wpG_p _ _ _ _ _ (some 12) (.bool true) _ _ rfl (by rfl) (fun _ => rfl) ?_
  simp only [n1, n3, n4]
  refine @wpG_p _ _ _ _ _ (some 13) (.slice (some ⟨wg, 0, none⟩) 8 wc) _ _ rfl (by rfl) (fun _ => rfl) ?_
  simp only [n1, n3, n4]
  refine @wpG_p _ _ _ _ _ (some 14) (.int .i64 8) _ _ rfl (by rfl) (fun W => by go_simp) ?_
  simp only [n1, n3, n4]
  refine @wpG_p _ _ _ _ _ (some 15) (.bool false) _ _ rfl (by rfl) (fun W => by go_simp) ?_
  simp only [n1, n3, n4]
  refine @wpG_p _ _ _ _ _ (some 16) (.bool false) _ _ rfl (by rfl) (fun W => by go_simp) ?_
  simp only [n1, n3, n4]
  refine @wpG_p _ _ _ _ _ (some 17) (.bool false) _ _ rfl (by rfl) (fun _ => rfl) ?_
  simp only [n1, n3, n4]
  refine @wpG_p _ _ _ _ _ (some 18) (.slice (some ⟨wg, 0, none⟩) 8 wc) _ _ rfl (by rfl) (fun _ => rfl) ?_
  simp only [n1, n3, n4]
  refine @wpG_p _ _ _ _ _ (some 19) (.pointer (some ⟨wg, 0, none⟩)) _ _ rfl (by rfl) (fun W => by (go_simp <;> first | rfl | omega | (simp; omega))) ?_
  simp only [n1, n3, n4]
  refine @wpG_r _ _ _ _ _ (some 20) (.string (bstr n0)) _ _ rfl (by rfl) (fun W hg => by have c := ((lies_at1 ((S16.out.gr hg).liesOwn 0 rfl) 0 (v := .string (bstr n0)) rfl)) 0 _ rfl; (try simp only [Nat.add_zero, Nat.zero_add] at c); go_simp) ?_
  simp only [n1, n3, n4]
  refine @wpG_p _ _ _ _ _ (some 21) (.bool (decide (n0 = []))) _ _ rfl (by rfl) (fun W => op_str_eql W n0 [] rfl rfl rfl Tryd.underlying9) ?_
  simp only [n1, n3, n4]
  refine @wpG_p _ _ _ _ _ (some 22) (.bool (decide (n0 = []))) _ _ rfl (by rfl) (fun W => by go_simp) ?_
  simp only [n1, n3, n4]
  refine @wpG_p _ _ _ _ _ (some 23) (.bool (decide (n0 = []))) _ _ rfl (by rfl) (fun _ => rfl) ?_
  simp only [n1, n3, n4]
  obtain ⟨c17, hc17⟩ : ∃ q_, q_ = (decide (n0 = [])) := ⟨_, rfl⟩
  rw [← hc17]
  have Hc17 := Lib.hid hc17
  clear hc17
  cases c17 with
  | true =>
    have f18 := Lib.hid (of_decide_eq_true Hc17.out.symm)
    refine @wpG_no _ _ _ _ _ (some 24) _ _ rfl (by rfl) ?_
    simp only [n1, n3, n4]
    refine @wpG_no _ _ _ _ _ (some 25) _ _ rfl (by rfl) ?_
    simp only [n1, n3, n4]
    refine @wpG_no _ _ _ _ _ (some 26) _ _ rfl (by rfl) ?_
    simp only [n1, n3, n4]
    refine @wpG_no _ _ _ _ _ (some 27) _ _ rfl (by rfl) ?_
    simp only [n1, n3, n4]
    refine @wpG_p _ _ _ _ _ (some 28) (.bool true) _ _ rfl (by rfl) (fun W => by go_simp) ?_
    simp only [n1, n3, n4]
    refine wpG_done (fun V19 hv20 => ?_)
    have S21 : Hid (St w noB [own (.slice (some ⟨wg, 0, none⟩) 8 wc) 9 1 8 ([n0, k0, f0, d0, e0, y0, y1, y2].map sv), blk g4 35 [.string ⟨#[]⟩, .bool false, .bool false, .bool false, .int .i64 0, .int .i64 0, .int .i64 0, .int .i64 0]] V19) := Lib.hid (S16.out.gr hv20)
    clear S16
    clear hv20
    refine ⟨rfl, hK _ _ ?_⟩
    clear hK
    go_upto_region 3 with fail
    refine wpG_region_k (fun K hK => ?_)
    refine @wpG_p _ _ _ _ _ (some 29) (.agg #[.string ⟨#[]⟩, .bool false, .bool false, .bool false, .int .i64 0, .int .i64 0, .int .i64 0, .int .i64 0]) _ _ rfl (by rfl) (fun W => by go_simp) ?_
    simp only [n1, n3, n4]
    refine wpG_store (none) rfl (by rfl) (fun W22 hg23 => ⟨_, run_store_mid 35 (.tmp 2) (.tmp 29) rfl g4 0 #[.string ⟨#[]⟩, .bool false, .bool false, .bool false, .int .i64 0, .int .i64 0, .int .i64 0, .int .i64 0] rfl rfl ((S21.out.gr hg23).room 1 rfl 0 8 (by simp)) (by kernel_rfl) (by kernel_rfl), ?_⟩)
    simp only [n2]
    obtain ⟨U24, hu_, hS_⟩ := ((S21.out.gr hg23).put 1 rfl 0 (#[.string ⟨#[]⟩, .bool false, .bool false, .bool false, .int .i64 0, .int .i64 0, .int .i64 0, .int .i64 0] : Array Value).toList (ds := [.string ⟨#[]⟩, .bool false, .bool false, .bool false, .int .i64 0, .int .i64 0, .int .i64 0, .int .i64 0]) rfl).named
    rw [← hu_]
    have S25 : Hid (St w noB [own (.slice (some ⟨wg, 0, none⟩) 8 wc) 9 1 8 ([n0, k0, f0, d0, e0, y0, y1, y2].map sv), blk g4 35 [.string ⟨#[]⟩, .bool false, .bool false, .bool false, .int .i64 0, .int .i64 0, .int .i64 0, .int .i64 0]] U24) := Lib.hid hS_
    clear S21
    clear hu_ hS_ hg23
    refine @wpG_p _ _ _ _ _ (some 3) (.bool false) _ _ rfl (by rfl) (fun _ => rfl) ?_
    simp only [n1, n3, n4]
    refine wpG_done (fun V26 hv27 => ?_)
    have S28 : Hid (St w noB [own (.slice (some ⟨wg, 0, none⟩) 8 wc) 9 1 8 ([n0, k0, f0, d0, e0, y0, y1, y2].map sv), blk g4 35 [.string ⟨#[]⟩, .bool false, .bool false, .bool false, .int .i64 0, .int .i64 0, .int .i64 0, .int .i64 0]] V26) := Lib.hid (S25.out.gr hv27)
    clear S25
    clear hv27
    refine ⟨rfl, hK _ _ ?_⟩
    clear hK
    go_wp2_with fail
    (try simp only [Exit.inBlock, Exit.then])
    refine bodyPost_ret (results_cell_tmp rfl _ _ _ g4 0 [.string ⟨#[]⟩, .bool false, .bool false, .bool false, .int .i64 0, .int .i64 0, .int .i64 0, .int .i64 0] _ rfl (S28.out.range 1 rfl 0 8 rfl) Tryd.underlying35 rfl (by kernel_rfl)) rfl ?_
    (have e_f18 := f18.out; have h : Ma.mat x = none := (Ma.mat_w hw).trans (Ma.m4_8 (Ma.m4_name e_f18)); exact ⟨((⟨[], false, false, false, 0, 0, 0, 0⟩ : Ma.Mt) : Ma.Mt), by show Ending.returned (.tuple #[.agg #[.string ⟨#[]⟩, .bool false, .bool false, .bool false, .int .i64 0, .int .i64 0, .int .i64 0, .int .i64 0], .bool false]) = _; rw [h]; rfl, fun m_ hm_ => (by rw [h] at hm_; cases hm_), S28.out.bel⟩)
  | false =>
    have f29 := of_decide_eq_false Hc17.out.symm
    refine @wpG_p _ _ _ _ _ (some 24) (.slice (some ⟨wg, 0, none⟩) 8 wc) _ _ rfl (by rfl) (fun _ => rfl) ?_
    simp only [n1, n3, n4]
    refine @wpG_p _ _ _ _ _ (some 25) (.pointer (some ⟨wg, 2, none⟩)) _ _ rfl (by rfl) (fun W => by (go_simp <;> first | rfl | omega | (simp; omega))) ?_
    simp only [n1, n3, n4]
    refine @wpG_r _ _ _ _ _ (some 26) (.string (bstr f0)) _ _ rfl (by rfl) (fun W hg => by have c := ((lies_at1 ((S16.out.gr hg).liesOwn 0 rfl) 2 (v := .string (bstr f0)) rfl)) 0 _ rfl; (try simp only [Nat.add_zero, Nat.zero_add] at c); go_simp) ?_
    simp only [n1, n3, n4]
    refine @wpG_p _ _ _ _ _ (some 27) (.bool (decide (f0 ≠ [102, 97, 100, 101]))) _ _ rfl (by rfl) (fun W => op_str_neq W f0 [102, 97, 100, 101] rfl rfl rfl Tryd.underlying9) ?_
    simp only [n1, n3, n4]
    refine @wpG_p _ _ _ _ _ (some 28) (.bool (decide (f0 ≠ [102, 97, 100, 101]))) _ _ rfl (by rfl) (fun W => by go_simp) ?_
    simp only [n1, n3, n4]
    refine wpG_done (fun V30 hv31 => ?_)
    have S32 : Hid (St w noB [own (.slice (some ⟨wg, 0, none⟩) 8 wc) 9 1 8 ([n0, k0, f0, d0, e0, y0, y1, y2].map sv), blk g4 35 [.string ⟨#[]⟩, .bool false, .bool false, .bool false, .int .i64 0, .int .i64 0, .int .i64 0, .int .i64 0]] V30) := Lib.hid (S16.out.gr hv31)
    clear S16
    clear hv31
    refine ⟨rfl, hK _ _ ?_⟩
    clear hK
    obtain ⟨c33, hc33⟩ : ∃ q_, q_ = (decide (f0 ≠ [102, 97, 100, 101])) := ⟨_, rfl⟩
    rw [← hc33]
    have Hc33 := Lib.hid hc33
    clear hc33
    cases c33 with
    | true =>
      have f34 := of_decide_eq_true Hc33.out.symm
      go_upto_region 3 with fail
      refine wpG_region_k (fun K hK => ?_)
      refine @wpG_p _ _ _ _ _ (some 29) (.agg #[.string ⟨#[]⟩, .bool false, .bool false, .bool false, .int .i64 0, .int .i64 0, .int .i64 0, .int .i64 0]) _ _ rfl (by rfl) (fun W => by go_simp) ?_
      simp only [n1, n3, n4]
      refine wpG_store (none) rfl (by rfl) (fun W35 hg36 => ⟨_, run_store_mid 35 (.tmp 2) (.tmp 29) rfl g4 0 #[.string ⟨#[]⟩, .bool false, .bool false, .bool false, .int .i64 0, .int .i64 0, .int .i64 0, .int .i64 0] rfl rfl ((S32.out.gr hg36).room 1 rfl 0 8 (by simp)) (by kernel_rfl) (by kernel_rfl), ?_⟩)
      simp only [n2]
      obtain ⟨U37, hu_, hS_⟩ := ((S32.out.gr hg36).put 1 rfl 0 (#[.string ⟨#[]⟩, .bool false, .bool false, .bool false, .int .i64 0, .int .i64 0, .int .i64 0, .int .i64 0] : Array Value).toList (ds := [.string ⟨#[]⟩, .bool false, .bool false, .bool false, .int .i64 0, .int .i64 0, .int .i64 0, .int .i64 0]) rfl).named
      rw [← hu_]
      have S38 : Hid (St w noB [own (.slice (some ⟨wg, 0, none⟩) 8 wc) 9 1 8 ([n0, k0, f0, d0, e0, y0, y1, y2].map sv), blk g4 35 [.string ⟨#[]⟩, .bool false, .bool false, .bool false, .int .i64 0, .int .i64 0, .int .i64 0, .int .i64 0]] U37) := Lib.hid hS_
      clear S32
      clear hu_ hS_ hg36
      refine @wpG_p _ _ _ _ _ (some 3) (.bool false) _ _ rfl (by rfl) (fun _ => rfl) ?_
      simp only [n1, n3, n4]
      refine wpG_done (fun V39 hv40 => ?_)
      have S41 : Hid (St w noB [own (.slice (some ⟨wg, 0, none⟩) 8 wc) 9 1 8 ([n0, k0, f0, d0, e0, y0, y1, y2].map sv), blk g4 35 [.string ⟨#[]⟩, .bool false, .bool false, .bool false, .int .i64 0, .int .i64 0, .int .i64 0, .int .i64 0]] V39) := Lib.hid (S38.out.gr hv40)
      clear S38
      clear hv40
      refine ⟨rfl, hK _ _ ?_⟩
      clear hK
      go_wp2_with fail
      (try simp only [Exit.inBlock, Exit.then])
      refine bodyPost_ret (results_cell_tmp rfl _ _ _ g4 0 [.string ⟨#[]⟩, .bool false, .bool false, .bool false, .int .i64 0, .int .i64 0, .int .i64 0, .int .i64 0] _ rfl (S41.out.range 1 rfl 0 8 rfl) Tryd.underlying35 rfl (by kernel_rfl)) rfl ?_
      (have h : Ma.mat x = none := (Ma.mat_w hw).trans (Ma.m4_8 (Ma.mat4_fade f34)); exact ⟨((⟨[], false, false, false, 0, 0, 0, 0⟩ : Ma.Mt) : Ma.Mt), by show Ending.returned (.tuple #[.agg #[.string ⟨#[]⟩, .bool false, .bool false, .bool false, .int .i64 0, .int .i64 0, .int .i64 0, .int .i64 0], .bool false]) = _; rw [h]; rfl, fun m_ hm_ => (by rw [h] at hm_; cases hm_), S41.out.bel⟩)
    | false =>
      have f42 := Lib.hid (Decidable.not_not.1 (of_decide_eq_false Hc33.out.symm))
      go_upto_region 4 with fail
      refine wpK_region_k (by kernel_rfl) (fun K hK => ?_)
      refine wpK_ta (i := 0) (some 30) (v := .slice (some ⟨wg, 0, none⟩) 8 wc) rfl rfl (by kernel_rfl) (fun _ _ _ h => onN_panic h) (Or.inl ⟨rfl, fun _ => rfl⟩) ?_
      simp only [n1, n3, n4]
      refine wpK_ta (i := 1) (some 31) (v := .pointer (some ⟨wg, 0, none⟩)) rfl rfl (by kernel_rfl) (fun _ _ _ h => onN_panic h) (Or.inl ⟨by rfl, fun W => by (go_simp <;> first | rfl | omega | (simp; omega))⟩) ?_
      simp only [n1, n3, n4]
      refine wpK_ta (i := 3) (some 33) (v := .slice (some ⟨wg, 0, none⟩) 8 wc) rfl rfl (by kernel_rfl) (fun _ _ _ h => onN_panic h) (Or.inl ⟨rfl, fun _ => rfl⟩) ?_
      simp only [n1, n3, n4]
      refine wpK_ta (i := 4) (some 34) (v := .pointer (some ⟨wg, 3, none⟩)) rfl rfl (by kernel_rfl) (fun _ _ _ h => onN_panic h) (Or.inl ⟨by rfl, fun W => by (go_simp <;> first | rfl | omega | (simp; omega))⟩) ?_
      simp only [n1, n3, n4]
      refine wpK_tk (i := 2) (some 32) (v := .string (bstr n0)) rfl rfl (by kernel_rfl) (fun _ _ _ h => onN_panic h) (.val (by rfl) (fun W hg => by have c := ((lies_at1 ((S32.out.gr (Gr.un hg)).liesOwn 0 rfl) 0 (v := .string (bstr n0)) rfl)) 0 _ rfl; (try simp only [Nat.add_zero, Nat.zero_add] at c); go_simp)) ?_
      simp only [n1, n3, n4]
      refine wpK_tk (i := 5) (some 35) (v := .string (bstr d0)) rfl rfl (by kernel_rfl) (fun _ _ _ h => onN_panic h) (.val (by rfl) (fun W hg => by have c := ((lies_at1 ((S32.out.gr (Gr.un hg)).liesOwn 0 rfl) 3 (v := .string (bstr d0)) rfl)) 0 _ rfl; (try simp only [Nat.add_zero, Nat.zero_add] at c); go_simp)) ?_
      simp only [n1, n3, n4]
      refine wpK_tk (i := 6) (some 36) (v := .int .i64 (Ma.nr d0)) rfl rfl (by kernel_rfl) (fun _ _ _ h => onN_panic h) (.call (f := 57) (args := #[.string (bstr d0)]) (by rfl) (fun W => by go_simp) (fun W hg => number_any d0 W)) ?_
      simp only [n1, n3, n4]
      refine wpK_ta (i := 7) (some 37) (v := .agg #[.string (bstr n0), .bool false, .bool false, .bool false, .int .i64 (Ma.nr d0), .int .i64 0, .int .i64 0, .int .i64 0]) rfl rfl (by kernel_rfl) (fun _ _ _ h => onN_panic h) (Or.inl ⟨by rfl, fun W => by go_simp⟩) ?_
      simp only [n1, n3, n4]
      refine wpK_val (i := 8) (some 5) rfl rfl (by kernel_rfl) (by rfl) (fun W43 hg44 => ⟨.pointer (some ⟨W43.heap.size, 0, none⟩), W43.alloc (.cells #[.string ⟨#[]⟩, .bool false, .bool false, .bool false, .int .i64 0, .int .i64 0, .int .i64 0, .int .i64 0] 35), by (first | (go_simp; done) | (go_simp <;> rfl)), Gr.al _ _, ?_⟩)
      simp only [n1, n3, n4]
      obtain ⟨g45, U46, hg_, hu_, hS_⟩ := (S32.out.gr (Gr.un hg44)).made [.string ⟨#[]⟩, .bool false, .bool false, .bool false, .int .i64 0, .int .i64 0, .int .i64 0, .int .i64 0] 35
      rw [← hu_, ← hg_]
      have S47 : Hid (St w noB [blk g45 35 [.string ⟨#[]⟩, .bool false, .bool false, .bool false, .int .i64 0, .int .i64 0, .int .i64 0, .int .i64 0], own (.slice (some ⟨wg, 0, none⟩) 8 wc) 9 1 8 ([n0, k0, f0, d0, e0, y0, y1, y2].map sv), blk g4 35 [.string ⟨#[]⟩, .bool false, .bool false, .bool false, .int .i64 0, .int .i64 0, .int .i64 0, .int .i64 0]] U46) := Lib.hid hS_
      clear S32
      clear hg_ hu_ hS_ hg44
      refine wpK_store (i := 9) (none) rfl rfl (by kernel_rfl) (by rfl) (by rfl) (fun W48 hg49 => ⟨_, run_store_mid 35 (.tmp 5) (.tmp 37) rfl g45 0 #[.string (bstr n0), .bool false, .bool false, .bool false, .int .i64 (Ma.nr d0), .int .i64 0, .int .i64 0, .int .i64 0] rfl rfl ((S47.out.gr hg49).room 0 rfl 0 8 (by simp)) (by kernel_rfl) (by kernel_rfl), ?_⟩)
      simp only [n2]
      obtain ⟨U50, hu_, hS_⟩ := ((S47.out.gr hg49).put 0 rfl 0 (#[.string (bstr n0), .bool false, .bool false, .bool false, .int .i64 (Ma.nr d0), .int .i64 0, .int .i64 0, .int .i64 0] : Array Value).toList (ds := [.string (bstr n0), .bool false, .bool false, .bool false, .int .i64 (Ma.nr d0), .int .i64 0, .int .i64 0, .int .i64 0]) rfl).named
      rw [← hu_]
      have S51 : Hid (St w noB [blk g45 35 [.string (bstr n0), .bool false, .bool false, .bool false, .int .i64 (Ma.nr d0), .int .i64 0, .int .i64 0, .int .i64 0], own (.slice (some ⟨wg, 0, none⟩) 8 wc) 9 1 8 ([n0, k0, f0, d0, e0, y0, y1, y2].map sv), blk g4 35 [.string ⟨#[]⟩, .bool false, .bool false, .bool false, .int .i64 0, .int .i64 0, .int .i64 0, .int .i64 0]] U50) := Lib.hid hS_
      clear S47
      clear hu_ hS_ hg49
      refine wpK_done (by kernel_rfl) (fun V52 hv53 => ?_) _
      have S54 : Hid (St w noB [blk g45 35 [.string (bstr n0), .bool false, .bool false, .bool false, .int .i64 (Ma.nr d0), .int .i64 0, .int .i64 0, .int .i64 0], own (.slice (some ⟨wg, 0, none⟩) 8 wc) 9 1 8 ([n0, k0, f0, d0, e0, y0, y1, y2].map sv), blk g4 35 [.string ⟨#[]⟩, .bool false, .bool false, .bool false, .int .i64 0, .int .i64 0, .int .i64 0, .int .i64 0]] V52) := Lib.hid (S51.out.gr hv53)
      clear S51
      clear hv53
      refine ⟨rfl, hK _ _ ?_⟩
      clear hK
      go_step
      go_step
      obtain ⟨J55, hJ_⟩ : ∃ J_ : Act → World → Prop, J_ = (fun a_ w_ => ∃ (s_ l_ f_ : Bool) (u3 u38 u39 u40 u41 u42 u43 u44 u45 u46 u47 u48 u49 u50 u51 u52 u53 : Value), a_ = ⟨#[.string (bstr x), undef, .pointer (some ⟨g4, 0, none⟩), u3, .slice (some ⟨wg, 0, none⟩) 8 wc, .pointer (some ⟨g45, 0, none⟩), undef, .string (bstr x), .slice (some ⟨wg, 0, none⟩) 8 wc, .slice (some ⟨wg, 0, none⟩) 8 wc, .int .i64 8, .bool true, .bool true, .slice (some ⟨wg, 0, none⟩) 8 wc, .int .i64 8, .bool false, .bool false, .bool false, .slice (some ⟨wg, 0, none⟩) 8 wc, .pointer (some ⟨wg, 0, none⟩), .string (bstr n0), .bool false, .bool false, .bool false, .slice (some ⟨wg, 0, none⟩) 8 wc, .pointer (some ⟨wg, 2, none⟩), .string (bstr f0), .bool false, .bool false, undef, .slice (some ⟨wg, 0, none⟩) 8 wc, .pointer (some ⟨wg, 0, none⟩), .string (bstr n0), .slice (some ⟨wg, 0, none⟩) 8 wc, .pointer (some ⟨wg, 3, none⟩), .string (bstr d0), .int .i64 (Ma.nr d0), .agg #[.string (bstr n0), .bool false, .bool false, .bool false, .int .i64 (Ma.nr d0), .int .i64 0, .int .i64 0, .int .i64 0], u38, u39, u40, u41, u42, u43, u44, u45, u46, u47, u48, u49, u50, u51, u52, u53, undef, undef, undef, undef, undef, undef, undef, undef, undef, undef, undef, undef, undef, undef, undef, undef, undef, undef, undef, undef, undef, undef, undef, undef, undef, undef, undef, undef, undef, undef, undef, undef, undef, undef, undef, undef, undef, undef, undef, undef, undef, undef, undef, undef, undef, undef, undef], []⟩ ∧ Ma.kn k0 = some (s_, l_, f_) ∧ St w noB [blk g45 35 [.string (bstr n0), .bool s_, .bool l_, .bool f_, .int .i64 (Ma.nr d0), .int .i64 0, .int .i64 0, .int .i64 0], own (.slice (some ⟨wg, 0, none⟩) 8 wc) 9 1 8 ([n0, k0, f0, d0, e0, y0, y1, y2].map sv), blk g4 35 [.string ⟨#[]⟩, .bool false, .bool false, .bool false, .int .i64 0, .int .i64 0, .int .i64 0, .int .i64 0]] w_) := ⟨_, rfl⟩
      have HJ55 := Lib.hid hJ_
      clear hJ_
      refine wp_join J55 ?_ ?_
      · skip
        go_upto_region 5 with fail
        refine wpG_region_k (fun K hK => ?_)
        refine @wpG_p _ _ _ _ _ (some 38) (.slice (some ⟨wg, 0, none⟩) 8 wc) _ _ rfl (by rfl) (fun _ => rfl) ?_
        simp only [n1, n3, n4]
        refine @wpG_p _ _ _ _ _ (some 39) (.pointer (some ⟨wg, 1, none⟩)) _ _ rfl (by rfl) (fun W => by (go_simp <;> first | rfl | omega | (simp; omega))) ?_
        simp only [n1, n3, n4]
        refine @wpG_r _ _ _ _ _ (some 40) (.string (bstr k0)) _ _ rfl (by rfl) (fun W hg => by have c := ((lies_at1 ((S54.out.gr hg).liesOwn 1 rfl) 1 (v := .string (bstr k0)) rfl)) 0 _ rfl; (try simp only [Nat.add_zero, Nat.zero_add] at c); go_simp) ?_
        simp only [n1, n3, n4]
        refine wpG_done (fun V56 hv57 => ?_)
        have S58 : Hid (St w noB [blk g45 35 [.string (bstr n0), .bool false, .bool false, .bool false, .int .i64 (Ma.nr d0), .int .i64 0, .int .i64 0, .int .i64 0], own (.slice (some ⟨wg, 0, none⟩) 8 wc) 9 1 8 ([n0, k0, f0, d0, e0, y0, y1, y2].map sv), blk g4 35 [.string ⟨#[]⟩, .bool false, .bool false, .bool false, .int .i64 0, .int .i64 0, .int .i64 0, .int .i64 0]] V56) := Lib.hid (S54.out.gr hv57)
        clear S54
        clear hv57
        refine ⟨rfl, hK _ _ ?_⟩
        clear hK
        go_upto_region 7 with fail
        refine wpG_region_k (fun K hK => ?_)
        refine @wpG_p _ _ _ _ _ (some 43) (.bool (decide (k0 = [103, 97, 115]))) _ _ rfl (by rfl) (fun W => op_str_eql W k0 [103, 97, 115] rfl rfl rfl Tryd.underlying9) ?_
        simp only [n1, n3, n4]
        refine @wpG_p _ _ _ _ _ (some 42) (.bool (decide (k0 = [103, 97, 115]))) _ _ rfl (by rfl) (fun _ => rfl) ?_
        simp only [n1, n3, n4]
        refine wpG_done (fun V59 hv60 => ?_)
        have S61 : Hid (St w noB [blk g45 35 [.string (bstr n0), .bool false, .bool false, .bool false, .int .i64 (Ma.nr d0), .int .i64 0, .int .i64 0, .int .i64 0], own (.slice (some ⟨wg, 0, none⟩) 8 wc) 9 1 8 ([n0, k0, f0, d0, e0, y0, y1, y2].map sv), blk g4 35 [.string ⟨#[]⟩, .bool false, .bool false, .bool false, .int .i64 0, .int .i64 0, .int .i64 0, .int .i64 0]] V59) := Lib.hid (S58.out.gr hv60)
        clear S58
        clear hv60
        refine ⟨rfl, hK _ _ ?_⟩
        clear hK
        obtain ⟨c62, hc62⟩ : ∃ q_, q_ = (decide (k0 = [103, 97, 115])) := ⟨_, rfl⟩
        rw [← hc62]
        have Hc62 := Lib.hid hc62
        clear hc62
        cases c62 with
        | true =>
          have f63 := Lib.hid (of_decide_eq_true Hc62.out.symm)
          go_wp2_with fail
          rw [HJ55.out]
          exact ⟨false, false, false, _, _, _, _, _, _, _, _, _, _, _, _, _, _, _, _, _, rfl, (by rw [f63.out]; rfl), S61.out⟩
        | false =>
          have f64 := of_decide_eq_false Hc62.out.symm
          go_upto_region 8 with fail
          refine wpG_region_k (fun K hK => ?_)
          refine @wpG_p _ _ _ _ _ (some 45) (.bool (decide (k0 = [115, 111, 108, 105, 100]))) _ _ rfl (by rfl) (fun W => op_str_eql W k0 [115, 111, 108, 105, 100] rfl rfl rfl Tryd.underlying9) ?_
          simp only [n1, n3, n4]
          refine @wpG_p _ _ _ _ _ (some 44) (.bool (decide (k0 = [115, 111, 108, 105, 100]))) _ _ rfl (by rfl) (fun _ => rfl) ?_
          simp only [n1, n3, n4]
          refine wpG_done (fun V65 hv66 => ?_)
          have S67 : Hid (St w noB [blk g45 35 [.string (bstr n0), .bool false, .bool false, .bool false, .int .i64 (Ma.nr d0), .int .i64 0, .int .i64 0, .int .i64 0], own (.slice (some ⟨wg, 0, none⟩) 8 wc) 9 1 8 ([n0, k0, f0, d0, e0, y0, y1, y2].map sv), blk g4 35 [.string ⟨#[]⟩, .bool false, .bool false, .bool false, .int .i64 0, .int .i64 0, .int .i64 0, .int .i64 0]] V65) := Lib.hid (S61.out.gr hv66)
          clear S61
          clear hv66
          refine ⟨rfl, hK _ _ ?_⟩
          clear hK
          obtain ⟨c68, hc68⟩ : ∃ q_, q_ = (decide (k0 = [115, 111, 108, 105, 100])) := ⟨_, rfl⟩
          rw [← hc68]
          have Hc68 := Lib.hid hc68
          clear hc68
          cases c68 with
          | true =>
            have f69 := Lib.hid (of_decide_eq_true Hc68.out.symm)
            go_upto_region 9 with fail
            refine wpG_region_k (fun K hK => ?_)
            refine @wpG_p _ _ _ _ _ (some 46) (.pointer (some ⟨g45, 1, none⟩)) _ _ rfl (by rfl) (fun W => by go_simp) ?_
            simp only [n1, n3, n4]
            refine wpG_store (none) rfl (by rfl) (fun W70 hg71 => ⟨W70.setCell ⟨g45, 1, none⟩ (.bool true), by have c := (S67.out.gr hg71).cell 0 rfl 1 rfl; have c2 := (S67.out.gr hg71).soft 0 rfl 1 rfl; go_simp, ?_⟩)
            simp only [n2]
            obtain ⟨U72, hu_, hS_⟩ := ((S67.out.gr hg71).put1 0 rfl 1 (.bool true)).named
            rw [← hu_]
            have S73 : Hid (St w noB [blk g45 35 [.string (bstr n0), .bool true, .bool false, .bool false, .int .i64 (Ma.nr d0), .int .i64 0, .int .i64 0, .int .i64 0], own (.slice (some ⟨wg, 0, none⟩) 8 wc) 9 1 8 ([n0, k0, f0, d0, e0, y0, y1, y2].map sv), blk g4 35 [.string ⟨#[]⟩, .bool false, .bool false, .bool false, .int .i64 0, .int .i64 0, .int .i64 0, .int .i64 0]] U72) := Lib.hid hS_
            clear S67
            clear hu_ hS_ hg71
            refine wpG_done (fun V74 hv75 => ?_)
            have S76 : Hid (St w noB [blk g45 35 [.string (bstr n0), .bool true, .bool false, .bool false, .int .i64 (Ma.nr d0), .int .i64 0, .int .i64 0, .int .i64 0], own (.slice (some ⟨wg, 0, none⟩) 8 wc) 9 1 8 ([n0, k0, f0, d0, e0, y0, y1, y2].map sv), blk g4 35 [.string ⟨#[]⟩, .bool false, .bool false, .bool false, .int .i64 0, .int .i64 0, .int .i64 0, .int .i64 0]] V74) := Lib.hid (S73.out.gr hv75)
            clear S73
            clear hv75
            refine ⟨rfl, hK _ _ ?_⟩
            clear hK
            go_wp2_with fail
            rw [HJ55.out]
            exact ⟨true, false, false, _, _, _, _, _, _, _, _, _, _, _, _, _, _, _, _, _, rfl, (by rw [f69.out]; rfl), S76.out⟩
          | false =>
            have f77 := of_decide_eq_false Hc68.out.symm
            go_upto_region 10 with fail
            refine wpG_region_k (fun K hK => ?_)
            refine @wpG_p _ _ _ _ _ (some 48) (.bool (decide (k0 = [102, 97, 108, 108, 105, 110, 103]))) _ _ rfl (by rfl) (fun W => op_str_eql W k0 [102, 97, 108, 108, 105, 110, 103] rfl rfl rfl Tryd.underlying9) ?_
            simp only [n1, n3, n4]
            refine @wpG_p _ _ _ _ _ (some 47) (.bool (decide (k0 = [102, 97, 108, 108, 105, 110, 103]))) _ _ rfl (by rfl) (fun _ => rfl) ?_
            simp only [n1, n3, n4]
            refine wpG_done (fun V78 hv79 => ?_)
            have S80 : Hid (St w noB [blk g45 35 [.string (bstr n0), .bool false, .bool false, .bool false, .int .i64 (Ma.nr d0), .int .i64 0, .int .i64 0, .int .i64 0], own (.slice (some ⟨wg, 0, none⟩) 8 wc) 9 1 8 ([n0, k0, f0, d0, e0, y0, y1, y2].map sv), blk g4 35 [.string ⟨#[]⟩, .bool false, .bool false, .bool false, .int .i64 0, .int .i64 0, .int .i64 0, .int .i64 0]] V78) := Lib.hid (S67.out.gr hv79)
            clear S67
            clear hv79
            refine ⟨rfl, hK _ _ ?_⟩
            clear hK
            obtain ⟨c81, hc81⟩ : ∃ q_, q_ = (decide (k0 = [102, 97, 108, 108, 105, 110, 103])) := ⟨_, rfl⟩
            rw [← hc81]
            have Hc81 := Lib.hid hc81
            clear hc81
            cases c81 with
            | true =>
              have f82 := Lib.hid (of_decide_eq_true Hc81.out.symm)
              go_upto_region 11 with fail
              refine wpG_region_k (fun K hK => ?_)
              refine @wpG_p _ _ _ _ _ (some 49) (.pointer (some ⟨g45, 1, none⟩)) _ _ rfl (by rfl) (fun W => by go_simp) ?_
              simp only [n1, n3, n4]
              refine wpG_store (none) rfl (by rfl) (fun W83 hg84 => ⟨W83.setCell ⟨g45, 1, none⟩ (.bool true), by have c := (S80.out.gr hg84).cell 0 rfl 1 rfl; have c2 := (S80.out.gr hg84).soft 0 rfl 1 rfl; go_simp, ?_⟩)
              simp only [n2]
              obtain ⟨U85, hu_, hS_⟩ := ((S80.out.gr hg84).put1 0 rfl 1 (.bool true)).named
              rw [← hu_]
              have S86 : Hid (St w noB [blk g45 35 [.string (bstr n0), .bool true, .bool false, .bool false, .int .i64 (Ma.nr d0), .int .i64 0, .int .i64 0, .int .i64 0], own (.slice (some ⟨wg, 0, none⟩) 8 wc) 9 1 8 ([n0, k0, f0, d0, e0, y0, y1, y2].map sv), blk g4 35 [.string ⟨#[]⟩, .bool false, .bool false, .bool false, .int .i64 0, .int .i64 0, .int .i64 0, .int .i64 0]] U85) := Lib.hid hS_
              clear S80
              clear hu_ hS_ hg84
              refine wpG_done (fun V87 hv88 => ?_)
              have S89 : Hid (St w noB [blk g45 35 [.string (bstr n0), .bool true, .bool false, .bool false, .int .i64 (Ma.nr d0), .int .i64 0, .int .i64 0, .int .i64 0], own (.slice (some ⟨wg, 0, none⟩) 8 wc) 9 1 8 ([n0, k0, f0, d0, e0, y0, y1, y2].map sv), blk g4 35 [.string ⟨#[]⟩, .bool false, .bool false, .bool false, .int .i64 0, .int .i64 0, .int .i64 0, .int .i64 0]] V87) := Lib.hid (S86.out.gr hv88)
              clear S86
              clear hv88
              refine ⟨rfl, hK _ _ ?_⟩
              clear hK
              go_upto_region 12 with fail
              refine wpG_region_k (fun K hK => ?_)
              refine @wpG_p _ _ _ _ _ (some 50) (.pointer (some ⟨g45, 3, none⟩)) _ _ rfl (by rfl) (fun W => by go_simp) ?_
              simp only [n1, n3, n4]
              refine wpG_store (none) rfl (by rfl) (fun W90 hg91 => ⟨W90.setCell ⟨g45, 3, none⟩ (.bool true), by have c := (S89.out.gr hg91).cell 0 rfl 3 rfl; have c2 := (S89.out.gr hg91).soft 0 rfl 3 rfl; go_simp, ?_⟩)
              simp only [n2]
              obtain ⟨U92, hu_, hS_⟩ := ((S89.out.gr hg91).put1 0 rfl 3 (.bool true)).named
              rw [← hu_]
              have S93 : Hid (St w noB [blk g45 35 [.string (bstr n0), .bool true, .bool false, .bool true, .int .i64 (Ma.nr d0), .int .i64 0, .int .i64 0, .int .i64 0], own (.slice (some ⟨wg, 0, none⟩) 8 wc) 9 1 8 ([n0, k0, f0, d0, e0, y0, y1, y2].map sv), blk g4 35 [.string ⟨#[]⟩, .bool false, .bool false, .bool false, .int .i64 0, .int .i64 0, .int .i64 0, .int .i64 0]] U92) := Lib.hid hS_
              clear S89
              clear hu_ hS_ hg91
              refine wpG_done (fun V94 hv95 => ?_)
              have S96 : Hid (St w noB [blk g45 35 [.string (bstr n0), .bool true, .bool false, .bool true, .int .i64 (Ma.nr d0), .int .i64 0, .int .i64 0, .int .i64 0], own (.slice (some ⟨wg, 0, none⟩) 8 wc) 9 1 8 ([n0, k0, f0, d0, e0, y0, y1, y2].map sv), blk g4 35 [.string ⟨#[]⟩, .bool false, .bool false, .bool false, .int .i64 0, .int .i64 0, .int .i64 0, .int .i64 0]] V94) := Lib.hid (S93.out.gr hv95)
              clear S93
              clear hv95
              refine ⟨rfl, hK _ _ ?_⟩
              clear hK
              go_wp2_with fail
              rw [HJ55.out]
              exact ⟨true, false, true, _, _, _, _, _, _, _, _, _, _, _, _, _, _, _, _, _, rfl, (by rw [f82.out]; rfl), S96.out⟩
            | false =>
              have f97 := of_decide_eq_false Hc81.out.symm
              go_upto_region 13 with fail
              refine wpG_region_k (fun K hK => ?_)
              refine @wpG_p _ _ _ _ _ (some 52) (.bool (decide (k0 = [108, 105, 113, 117, 105, 100]))) _ _ rfl (by rfl) (fun W => op_str_eql W k0 [108, 105, 113, 117, 105, 100] rfl rfl rfl Tryd.underlying9) ?_
              simp only [n1, n3, n4]
              refine @wpG_p _ _ _ _ _ (some 51) (.bool (decide (k0 = [108, 105, 113, 117, 105, 100]))) _ _ rfl (by rfl) (fun _ => rfl) ?_
              simp only [n1, n3, n4]
              refine wpG_done (fun V98 hv99 => ?_)
              have S100 : Hid (St w noB [blk g45 35 [.string (bstr n0), .bool false, .bool false, .bool false, .int .i64 (Ma.nr d0), .int .i64 0, .int .i64 0, .int .i64 0], own (.slice (some ⟨wg, 0, none⟩) 8 wc) 9 1 8 ([n0, k0, f0, d0, e0, y0, y1, y2].map sv), blk g4 35 [.string ⟨#[]⟩, .bool false, .bool false, .bool false, .int .i64 0, .int .i64 0, .int .i64 0, .int .i64 0]] V98) := Lib.hid (S80.out.gr hv99)
              clear S80
              clear hv99
              refine ⟨rfl, hK _ _ ?_⟩
              clear hK
              obtain ⟨c101, hc101⟩ : ∃ q_, q_ = (decide (k0 = [108, 105, 113, 117, 105, 100])) := ⟨_, rfl⟩
              rw [← hc101]
              have Hc101 := Lib.hid hc101
              clear hc101
              cases c101 with
              | true =>
                have f102 := Lib.hid (of_decide_eq_true Hc101.out.symm)
                go_upto_region 14 with fail
                refine wpG_region_k (fun K hK => ?_)
                refine @wpG_p _ _ _ _ _ (some 53) (.pointer (some ⟨g45, 2, none⟩)) _ _ rfl (by rfl) (fun W => by go_simp) ?_
                simp only [n1, n3, n4]
                refine wpG_store (none) rfl (by rfl) (fun W103 hg104 => ⟨W103.setCell ⟨g45, 2, none⟩ (.bool true), by have c := (S100.out.gr hg104).cell 0 rfl 2 rfl; have c2 := (S100.out.gr hg104).soft 0 rfl 2 rfl; go_simp, ?_⟩)
                simp only [n2]
                obtain ⟨U105, hu_, hS_⟩ := ((S100.out.gr hg104).put1 0 rfl 2 (.bool true)).named
                rw [← hu_]
                have S106 : Hid (St w noB [blk g45 35 [.string (bstr n0), .bool false, .bool true, .bool false, .int .i64 (Ma.nr d0), .int .i64 0, .int .i64 0, .int .i64 0], own (.slice (some ⟨wg, 0, none⟩) 8 wc) 9 1 8 ([n0, k0, f0, d0, e0, y0, y1, y2].map sv), blk g4 35 [.string ⟨#[]⟩, .bool false, .bool false, .bool false, .int .i64 0, .int .i64 0, .int .i64 0, .int .i64 0]] U105) := Lib.hid hS_
                clear S100
                clear hu_ hS_ hg104
                refine wpG_done (fun V107 hv108 => ?_)
                have S109 : Hid (St w noB [blk g45 35 [.string (bstr n0), .bool false, .bool true, .bool false, .int .i64 (Ma.nr d0), .int .i64 0, .int .i64 0, .int .i64 0], own (.slice (some ⟨wg, 0, none⟩) 8 wc) 9 1 8 ([n0, k0, f0, d0, e0, y0, y1, y2].map sv), blk g4 35 [.string ⟨#[]⟩, .bool false, .bool false, .bool false, .int .i64 0, .int .i64 0, .int .i64 0, .int .i64 0]] V107) := Lib.hid (S106.out.gr hv108)
                clear S106
                clear hv108
                refine ⟨rfl, hK _ _ ?_⟩
                clear hK
                go_wp2_with fail
                rw [HJ55.out]
                exact ⟨false, true, false, _, _, _, _, _, _, _, _, _, _, _, _, _, _, _, _, _, rfl, (by rw [f102.out]; rfl), S109.out⟩
              | false =>
                have f110 := of_decide_eq_false Hc101.out.symm
                go_upto_region 6 with fail
                refine wpG_region_k (fun K hK => ?_)
                refine @wpG_p _ _ _ _ _ (some 41) (.agg #[.string ⟨#[]⟩, .bool false, .bool false, .bool false, .int .i64 0, .int .i64 0, .int .i64 0, .int .i64 0]) _ _ rfl (by rfl) (fun W => by go_simp) ?_
                simp only [n1, n3, n4]
                refine wpG_store (none) rfl (by rfl) (fun W111 hg112 => ⟨_, run_store_mid 35 (.tmp 2) (.tmp 41) rfl g4 0 #[.string ⟨#[]⟩, .bool false, .bool false, .bool false, .int .i64 0, .int .i64 0, .int .i64 0, .int .i64 0] rfl rfl ((S100.out.gr hg112).room 2 rfl 0 8 (by simp)) (by kernel_rfl) (by kernel_rfl), ?_⟩)
                simp only [n2]
                obtain ⟨U113, hu_, hS_⟩ := ((S100.out.gr hg112).put 2 rfl 0 (#[.string ⟨#[]⟩, .bool false, .bool false, .bool false, .int .i64 0, .int .i64 0, .int .i64 0, .int .i64 0] : Array Value).toList (ds := [.string ⟨#[]⟩, .bool false, .bool false, .bool false, .int .i64 0, .int .i64 0, .int .i64 0, .int .i64 0]) rfl).named
                rw [← hu_]
                have S114 : Hid (St w noB [blk g45 35 [.string (bstr n0), .bool false, .bool false, .bool false, .int .i64 (Ma.nr d0), .int .i64 0, .int .i64 0, .int .i64 0], own (.slice (some ⟨wg, 0, none⟩) 8 wc) 9 1 8 ([n0, k0, f0, d0, e0, y0, y1, y2].map sv), blk g4 35 [.string ⟨#[]⟩, .bool false, .bool false, .bool false, .int .i64 0, .int .i64 0, .int .i64 0, .int .i64 0]] U113) := Lib.hid hS_
                clear S100
                clear hu_ hS_ hg112
                refine @wpG_p _ _ _ _ _ (some 3) (.bool false) _ _ rfl (by rfl) (fun _ => rfl) ?_
                simp only [n1, n3, n4]
                refine wpG_done (fun V115 hv116 => ?_)
                have S117 : Hid (St w noB [blk g45 35 [.string (bstr n0), .bool false, .bool false, .bool false, .int .i64 (Ma.nr d0), .int .i64 0, .int .i64 0, .int .i64 0], own (.slice (some ⟨wg, 0, none⟩) 8 wc) 9 1 8 ([n0, k0, f0, d0, e0, y0, y1, y2].map sv), blk g4 35 [.string ⟨#[]⟩, .bool false, .bool false, .bool false, .int .i64 0, .int .i64 0, .int .i64 0, .int .i64 0]] V115) := Lib.hid (S114.out.gr hv116)
                clear S114
                clear hv116
                refine ⟨rfl, hK _ _ ?_⟩
                clear hK
                go_wp2_with fail
                (try simp only [Exit.inBlock, Exit.then])
                refine bodyPost_ret (results_cell_tmp rfl _ _ _ g4 0 [.string ⟨#[]⟩, .bool false, .bool false, .bool false, .int .i64 0, .int .i64 0, .int .i64 0, .int .i64 0] _ rfl (S117.out.range 2 rfl 0 8 rfl) Tryd.underlying35 rfl (by kernel_rfl)) rfl ?_
                (have e_f42 := f42.out; have h : Ma.mat x = none := (Ma.mat_w hw).trans (Ma.m4_8 (Ma.mat4_kind (Ma.kn_no f64 f77 f97 f110))); exact ⟨((⟨[], false, false, false, 0, 0, 0, 0⟩ : Ma.Mt) : Ma.Mt), by show Ending.returned (.tuple #[.agg #[.string ⟨#[]⟩, .bool false, .bool false, .bool false, .int .i64 0, .int .i64 0, .int .i64 0, .int .i64 0], .bool false]) = _; rw [h]; rfl, fun m_ hm_ => (by rw [h] at hm_; cases hm_), S117.out.bel⟩)
      · intro a_ w_ hj_
        rw [HJ55.out] at hj_
        clear HJ55
        obtain ⟨s_, l_, f_, u3, u38, u39, u40, u41, u42, u43, u44, u45, u46, u47, u48, u49, u50, u51, u52, u53, rfl, hk_, hS_⟩ := hj_
        have HK_ := Lib.hid hk_
        clear hk_
        have S118 : Hid (St w noB [blk g45 35 [.string (bstr n0), .bool s_, .bool l_, .bool f_, .int .i64 (Ma.nr d0), .int .i64 0, .int .i64 0, .int .i64 0], own (.slice (some ⟨wg, 0, none⟩) 8 wc) 9 1 8 ([n0, k0, f0, d0, e0, y0, y1, y2].map sv), blk g4 35 [.string ⟨#[]⟩, .bool false, .bool false, .bool false, .int .i64 0, .int .i64 0, .int .i64 0, .int .i64 0]] w_) := Lib.hid hS_
        clear S54
        clear hS_
        go_upto_region 15 with fail
        refine wpG_region_k (fun K hK => ?_)
        refine @wpG_p _ _ _ _ _ (some 54) (.pointer (some ⟨g45, 4, none⟩)) _ _ rfl (by rfl) (fun W => by go_simp) ?_
        simp only [n1, n3, n4]
        refine @wpG_r _ _ _ _ _ (some 55) (.int .i64 (Ma.nr d0)) _ _ rfl (by rfl) (fun W hg => by have c := (S118.out.gr hg).cell 0 rfl 4 rfl; go_simp) ?_
        simp only [n1, n3, n4]
        refine @wpG_p _ _ _ _ _ (some 56) (.bool (decide (Ma.nr d0 < 0))) _ _ rfl (by rfl) (fun W => op_int_lss W (Ma.nr d0) 0 rfl rfl rfl Tryd.underlying3) ?_
        simp only [n1, n3, n4]
        refine @wpG_p _ _ _ _ _ (some 57) (.bool (decide (Ma.nr d0 < 0))) _ _ rfl (by rfl) (fun _ => rfl) ?_
        simp only [n1, n3, n4]
        obtain ⟨c120, hc120⟩ : ∃ q_, q_ = (decide (Ma.nr d0 < 0)) := ⟨_, rfl⟩
        rw [← hc120]
        have Hc120 := Lib.hid hc120
        clear hc120
        cases c120 with
        | true =>
          have f121 := of_decide_eq_true Hc120.out.symm
          refine @wpG_no _ _ _ _ _ (some 58) _ _ rfl (by rfl) ?_
          simp only [n1, n3, n4]
          refine @wpG_no _ _ _ _ _ (some 59) _ _ rfl (by rfl) ?_
          simp only [n1, n3, n4]
          refine @wpG_no _ _ _ _ _ (some 60) _ _ rfl (by rfl) ?_
          simp only [n1, n3, n4]
          refine @wpG_no _ _ _ _ _ (some 61) _ _ rfl (by rfl) ?_
          simp only [n1, n3, n4]
          refine @wpG_no _ _ _ _ _ (some 62) _ _ rfl (by rfl) ?_
          simp only [n1, n3, n4]
          refine @wpG_no _ _ _ _ _ (some 63) _ _ rfl (by rfl) ?_
          simp only [n1, n3, n4]
          refine @wpG_no _ _ _ _ _ (some 64) _ _ rfl (by rfl) ?_
          simp only [n1, n3, n4]
          refine @wpG_no _ _ _ _ _ (some 65) _ _ rfl (by rfl) ?_
          simp only [n1, n3, n4]
          refine @wpG_no _ _ _ _ _ (some 66) _ _ rfl (by rfl) ?_
          simp only [n1, n3, n4]
          refine @wpG_p _ _ _ _ _ (some 67) (.bool true) _ _ rfl (by rfl) (fun W => by go_simp) ?_
          simp only [n1, n3, n4]
          refine wpG_done (fun V122 hv123 => ?_)
          have S124 : Hid (St w noB [blk g45 35 [.string (bstr n0), .bool s_, .bool l_, .bool f_, .int .i64 (Ma.nr d0), .int .i64 0, .int .i64 0, .int .i64 0], own (.slice (some ⟨wg, 0, none⟩) 8 wc) 9 1 8 ([n0, k0, f0, d0, e0, y0, y1, y2].map sv), blk g4 35 [.string ⟨#[]⟩, .bool false, .bool false, .bool false, .int .i64 0, .int .i64 0, .int .i64 0, .int .i64 0]] V122) := Lib.hid (S118.out.gr hv123)
          clear S118
          clear hv123
          refine ⟨rfl, hK _ _ ?_⟩
          clear hK
          go_upto_region 16 with fail
          refine wpG_region_k (fun K hK => ?_)
          refine @wpG_p _ _ _ _ _ (some 68) (.agg #[.string ⟨#[]⟩, .bool false, .bool false, .bool false, .int .i64 0, .int .i64 0, .int .i64 0, .int .i64 0]) _ _ rfl (by rfl) (fun W => by go_simp) ?_
          simp only [n1, n3, n4]
          refine wpG_store (none) rfl (by rfl) (fun W125 hg126 => ⟨_, run_store_mid 35 (.tmp 2) (.tmp 68) rfl g4 0 #[.string ⟨#[]⟩, .bool false, .bool false, .bool false, .int .i64 0, .int .i64 0, .int .i64 0, .int .i64 0] rfl rfl ((S124.out.gr hg126).room 2 rfl 0 8 (by simp)) (by kernel_rfl) (by kernel_rfl), ?_⟩)
          simp only [n2]
          obtain ⟨U127, hu_, hS_⟩ := ((S124.out.gr hg126).put 2 rfl 0 (#[.string ⟨#[]⟩, .bool false, .bool false, .bool false, .int .i64 0, .int .i64 0, .int .i64 0, .int .i64 0] : Array Value).toList (ds := [.string ⟨#[]⟩, .bool false, .bool false, .bool false, .int .i64 0, .int .i64 0, .int .i64 0, .int .i64 0]) rfl).named
          rw [← hu_]
          have S128 : Hid (St w noB [blk g45 35 [.string (bstr n0), .bool s_, .bool l_, .bool f_, .int .i64 (Ma.nr d0), .int .i64 0, .int .i64 0, .int .i64 0], own (.slice (some ⟨wg, 0, none⟩) 8 wc) 9 1 8 ([n0, k0, f0, d0, e0, y0, y1, y2].map sv), blk g4 35 [.string ⟨#[]⟩, .bool false, .bool false, .bool false, .int .i64 0, .int .i64 0, .int .i64 0, .int .i64 0]] U127) := Lib.hid hS_
          clear S124
          clear hu_ hS_ hg126
          refine @wpG_p _ _ _ _ _ (some 3) (.bool false) _ _ rfl (by rfl) (fun _ => rfl) ?_
          simp only [n1, n3, n4]
          refine wpG_done (fun V129 hv130 => ?_)
          have S131 : Hid (St w noB [blk g45 35 [.string (bstr n0), .bool s_, .bool l_, .bool f_, .int .i64 (Ma.nr d0), .int .i64 0, .int .i64 0, .int .i64 0], own (.slice (some ⟨wg, 0, none⟩) 8 wc) 9 1 8 ([n0, k0, f0, d0, e0, y0, y1, y2].map sv), blk g4 35 [.string ⟨#[]⟩, .bool false, .bool false, .bool false, .int .i64 0, .int .i64 0, .int .i64 0, .int .i64 0]] V129) := Lib.hid (S128.out.gr hv130)
          clear S128
          clear hv130
          refine ⟨rfl, hK _ _ ?_⟩
          clear hK
          go_wp2_with fail
          (try simp only [Exit.inBlock, Exit.then])
          refine bodyPost_ret (results_cell_tmp rfl _ _ _ g4 0 [.string ⟨#[]⟩, .bool false, .bool false, .bool false, .int .i64 0, .int .i64 0, .int .i64 0, .int .i64 0] _ rfl (S131.out.range 2 rfl 0 8 rfl) Tryd.underlying35 rfl (by kernel_rfl)) rfl ?_
          (have e_f42 := f42.out; have h : Ma.mat x = none := (Ma.mat_w hw).trans (Ma.m4_8 (Ma.mat4_num (Ma.nr_neg (by omega)))); exact ⟨((⟨[], false, false, false, 0, 0, 0, 0⟩ : Ma.Mt) : Ma.Mt), by show Ending.returned (.tuple #[.agg #[.string ⟨#[]⟩, .bool false, .bool false, .bool false, .int .i64 0, .int .i64 0, .int .i64 0, .int .i64 0], .bool false]) = _; rw [h]; rfl, fun m_ hm_ => (by rw [h] at hm_; cases hm_), S131.out.bel⟩)
        | false =>
          have f132 := of_decide_eq_false Hc120.out.symm
          refine @wpG_p _ _ _ _ _ (some 58) (.slice (some ⟨wg, 0, none⟩) 8 wc) _ _ rfl (by rfl) (fun _ => rfl) ?_
          simp only [n1, n3, n4]
          refine @wpG_p _ _ _ _ _ (some 59) (.int .i64 8) _ _ rfl (by rfl) (fun W => by go_simp) ?_
          simp only [n1, n3, n4]
          refine @wpG_p _ _ _ _ _ (some 60) (.bool true) _ _ rfl (by rfl) (fun W => by go_simp) ?_
          simp only [n1, n3, n4]
          refine @wpG_p _ _ _ _ _ (some 61) (.bool true) _ _ rfl (by rfl) (fun _ => rfl) ?_
          simp only [n1, n3, n4]
          refine @wpG_p _ _ _ _ _ (some 62) (.slice (some ⟨wg, 0, none⟩) 8 wc) _ _ rfl (by rfl) (fun _ => rfl) ?_
          simp only [n1, n3, n4]
          refine @wpG_p _ _ _ _ _ (some 63) (.pointer (some ⟨wg, 4, none⟩)) _ _ rfl (by rfl) (fun W => by (go_simp <;> first | rfl | omega | (simp; omega))) ?_
          simp only [n1, n3, n4]
          refine @wpG_r _ _ _ _ _ (some 64) (.string (bstr e0)) _ _ rfl (by rfl) (fun W hg => by have c := ((lies_at1 ((S118.out.gr hg).liesOwn 1 rfl) 4 (v := .string (bstr e0)) rfl)) 0 _ rfl; (try simp only [Nat.add_zero, Nat.zero_add] at c); go_simp) ?_
          simp only [n1, n3, n4]
          refine @wpG_p _ _ _ _ _ (some 65) (.bool (decide (e0 ≠ [101, 109, 105, 116]))) _ _ rfl (by rfl) (fun W => op_str_neq W e0 [101, 109, 105, 116] rfl rfl rfl Tryd.underlying9) ?_
          simp only [n1, n3, n4]
          refine @wpG_p _ _ _ _ _ (some 66) (.bool (decide (e0 ≠ [101, 109, 105, 116]))) _ _ rfl (by rfl) (fun W => by go_simp) ?_
          simp only [n1, n3, n4]
          refine @wpG_p _ _ _ _ _ (some 67) (.bool (decide (e0 ≠ [101, 109, 105, 116]))) _ _ rfl (by rfl) (fun W => by go_simp) ?_
          simp only [n1, n3, n4]
          refine wpG_done (fun V133 hv134 => ?_)
          have S135 : Hid (St w noB [blk g45 35 [.string (bstr n0), .bool s_, .bool l_, .bool f_, .int .i64 (Ma.nr d0), .int .i64 0, .int .i64 0, .int .i64 0], own (.slice (some ⟨wg, 0, none⟩) 8 wc) 9 1 8 ([n0, k0, f0, d0, e0, y0, y1, y2].map sv), blk g4 35 [.string ⟨#[]⟩, .bool false, .bool false, .bool false, .int .i64 0, .int .i64 0, .int .i64 0, .int .i64 0]] V133) := Lib.hid (S118.out.gr hv134)
          clear S118
          clear hv134
          refine ⟨rfl, hK _ _ ?_⟩
          clear hK
          obtain ⟨c136, hc136⟩ : ∃ q_, q_ = (decide (e0 ≠ [101, 109, 105, 116])) := ⟨_, rfl⟩
          rw [← hc136]
          have Hc136 := Lib.hid hc136
          clear hc136
          cases c136 with
          | true =>
            have f137 := of_decide_eq_true Hc136.out.symm
            go_upto_region 16 with fail
            refine wpG_region_k (fun K hK => ?_)
            refine @wpG_p _ _ _ _ _ (some 68) (.agg #[.string ⟨#[]⟩, .bool false, .bool false, .bool false, .int .i64 0, .int .i64 0, .int .i64 0, .int .i64 0]) _ _ rfl (by rfl) (fun W => by go_simp) ?_
            simp only [n1, n3, n4]
            refine wpG_store (none) rfl (by rfl) (fun W138 hg139 => ⟨_, run_store_mid 35 (.tmp 2) (.tmp 68) rfl g4 0 #[.string ⟨#[]⟩, .bool false, .bool false, .bool false, .int .i64 0, .int .i64 0, .int .i64 0, .int .i64 0] rfl rfl ((S135.out.gr hg139).room 2 rfl 0 8 (by simp)) (by kernel_rfl) (by kernel_rfl), ?_⟩)
            simp only [n2]
            obtain ⟨U140, hu_, hS_⟩ := ((S135.out.gr hg139).put 2 rfl 0 (#[.string ⟨#[]⟩, .bool false, .bool false, .bool false, .int .i64 0, .int .i64 0, .int .i64 0, .int .i64 0] : Array Value).toList (ds := [.string ⟨#[]⟩, .bool false, .bool false, .bool false, .int .i64 0, .int .i64 0, .int .i64 0, .int .i64 0]) rfl).named
            rw [← hu_]
            have S141 : Hid (St w noB [blk g45 35 [.string (bstr n0), .bool s_, .bool l_, .bool f_, .int .i64 (Ma.nr d0), .int .i64 0, .int .i64 0, .int .i64 0], own (.slice (some ⟨wg, 0, none⟩) 8 wc) 9 1 8 ([n0, k0, f0, d0, e0, y0, y1, y2].map sv), blk g4 35 [.string ⟨#[]⟩, .bool false, .bool false, .bool false, .int .i64 0, .int .i64 0, .int .i64 0, .int .i64 0]] U140) := Lib.hid hS_
            clear S135
            clear hu_ hS_ hg139
            refine @wpG_p _ _ _ _ _ (some 3) (.bool false) _ _ rfl (by rfl) (fun _ => rfl) ?_
            simp only [n1, n3, n4]
            refine wpG_done (fun V142 hv143 => ?_)
            have S144 : Hid (St w noB [blk g45 35 [.string (bstr n0), .bool s_, .bool l_, .bool f_, .int .i64 (Ma.nr d0), .int .i64 0, .int .i64 0, .int .i64 0], own (.slice (some ⟨wg, 0, none⟩) 8 wc) 9 1 8 ([n0, k0, f0, d0, e0, y0, y1, y2].map sv), blk g4 35 [.string ⟨#[]⟩, .bool false, .bool false, .bool false, .int .i64 0, .int .i64 0, .int .i64 0, .int .i64 0]] V142) := Lib.hid (S141.out.gr hv143)
            clear S141
            clear hv143
            refine ⟨rfl, hK _ _ ?_⟩
            clear hK
            go_wp2_with fail
            (try simp only [Exit.inBlock, Exit.then])
            refine bodyPost_ret (results_cell_tmp rfl _ _ _ g4 0 [.string ⟨#[]⟩, .bool false, .bool false, .bool false, .int .i64 0, .int .i64 0, .int .i64 0, .int .i64 0] _ rfl (S144.out.range 2 rfl 0 8 rfl) Tryd.underlying35 rfl (by kernel_rfl)) rfl ?_
            (have e_f42 := f42.out; have h : Ma.mat x = none := (Ma.mat_w hw).trans (Ma.m8_e (Ma.e3_e f137)); exact ⟨((⟨[], false, false, false, 0, 0, 0, 0⟩ : Ma.Mt) : Ma.Mt), by show Ending.returned (.tuple #[.agg #[.string ⟨#[]⟩, .bool false, .bool false, .bool false, .int .i64 0, .int .i64 0, .int .i64 0, .int .i64 0], .bool false]) = _; rw [h]; rfl, fun m_ hm_ => (by rw [h] at hm_; cases hm_), S144.out.bel⟩)
          | false =>
            have f145 := Lib.hid (Decidable.not_not.1 (of_decide_eq_false Hc136.out.symm))
            go_upto_region 17 with fail
            refine wpG_region_k (fun K hK => ?_)
            refine @wpG_p _ _ _ _ _ (some 6) (.int .i64 5) _ _ rfl (by rfl) (fun _ => rfl) ?_
            simp only [n1, n3, n4]
            refine wpG_done (fun V146 hv147 => ?_)
            have S148 : Hid (St w noB [blk g45 35 [.string (bstr n0), .bool s_, .bool l_, .bool f_, .int .i64 (Ma.nr d0), .int .i64 0, .int .i64 0, .int .i64 0], own (.slice (some ⟨wg, 0, none⟩) 8 wc) 9 1 8 ([n0, k0, f0, d0, e0, y0, y1, y2].map sv), blk g4 35 [.string ⟨#[]⟩, .bool false, .bool false, .bool false, .int .i64 0, .int .i64 0, .int .i64 0, .int .i64 0]] V146) := Lib.hid (S135.out.gr hv147)
            clear S135
            clear hv147
            refine ⟨rfl, hK _ _ ?_⟩
            clear hK
            go_wp2_with fail
            refine wp_loop_rounds 4 ?_
            rw [rounds_succ]
            go_upto_region 18 with fail
            refine wpG_region_k (fun K hK => ?_)
            refine @wpG_p _ _ _ _ _ (some 69) (.int .i64 5) _ _ rfl (by rfl) (fun _ => rfl) ?_
            simp only [n1, n3, n4]
            refine @wpG_p _ _ _ _ _ (some 70) (.slice (some ⟨wg, 0, none⟩) 8 wc) _ _ rfl (by rfl) (fun _ => rfl) ?_
            simp only [n1, n3, n4]
            refine @wpG_p _ _ _ _ _ (some 71) (.int .i64 8) _ _ rfl (by rfl) (fun W => by go_simp) ?_
            simp only [n1, n3, n4]
            refine @wpG_p _ _ _ _ _ (some 72) (.bool true) _ _ rfl (by rfl) (fun W => by go_simp) ?_
            simp only [n1, n3, n4]
            refine wpG_done (fun V149 hv150 => ?_)
            have S151 : Hid (St w noB [blk g45 35 [.string (bstr n0), .bool s_, .bool l_, .bool f_, .int .i64 (Ma.nr d0), .int .i64 0, .int .i64 0, .int .i64 0], own (.slice (some ⟨wg, 0, none⟩) 8 wc) 9 1 8 ([n0, k0, f0, d0, e0, y0, y1, y2].map sv), blk g4 35 [.string ⟨#[]⟩, .bool false, .bool false, .bool false, .int .i64 0, .int .i64 0, .int .i64 0, .int .i64 0]] V149) := Lib.hid (S148.out.gr hv150)
            clear S148
            clear hv150
            refine ⟨rfl, hK _ _ ?_⟩
            clear hK
            go_upto_region 20 with fail
            refine wpG_region_k (fun K hK => ?_)
            refine @wpG_p _ _ _ _ _ (some 75) (.int .i64 5) _ _ rfl (by rfl) (fun _ => rfl) ?_
            simp only [n1, n3, n4]
            refine @wpG_p _ _ _ _ _ (some 76) (.int .i64 0) _ _ rfl (by rfl) (fun W => by go_simp <;> rfl) ?_
            simp only [n1, n3, n4]
            refine @wpG_p _ _ _ _ _ (some 77) (.slice (some ⟨wg, 0, none⟩) 8 wc) _ _ rfl (by rfl) (fun _ => rfl) ?_
            simp only [n1, n3, n4]
            refine @wpG_p _ _ _ _ _ (some 78) (.int .i64 5) _ _ rfl (by rfl) (fun _ => rfl) ?_
            simp only [n1, n3, n4]
            refine @wpG_p _ _ _ _ _ (some 79) (.pointer (some ⟨wg, 5, none⟩)) _ _ rfl (by rfl) (fun W => by (go_simp <;> first | rfl | omega | (simp; omega))) ?_
            simp only [n1, n3, n4]
            refine @wpG_r _ _ _ _ _ (some 80) (.string (bstr y0)) _ _ rfl (by rfl) (fun W hg => by have c := ((lies_at1 ((S151.out.gr hg).liesOwn 1 rfl) 5 (v := .string (bstr y0)) rfl)) 0 _ rfl; (try simp only [Nat.add_zero, Nat.zero_add] at c); go_simp) ?_
            simp only [n1, n3, n4]
            refine @wpG_tk _ _ _ _ _ (some 81) (.int .i64 (Ma.nr y0)) _ _ rfl (.call (f := 57) (args := #[.string (bstr y0)]) (by rfl) (fun W => by go_simp) (fun W hg => number_any y0 W)) ?_
            simp only [n1, n3, n4]
            refine @wpG_p _ _ _ _ _ (some 82) (.pointer (some ⟨g45, 5, none⟩)) _ _ rfl (by rfl) (fun W => by go_simp) ?_
            simp only [n1, n3, n4]
            refine @wpG_p _ _ _ _ _ (some 83) (.pointer (some ⟨g45, 5, none⟩)) _ _ rfl (by rfl) (fun W => by (go_simp <;> first | rfl | omega)) ?_
            simp only [n1, n3, n4]
            refine wpG_store (none) rfl (by rfl) (fun W152 hg153 => ⟨W152.setCell ⟨g45, 5, none⟩ (.int .i64 (Ma.nr y0)), by have c := (S151.out.gr hg153).cell 0 rfl 5 rfl; have c2 := (S151.out.gr hg153).soft 0 rfl 5 rfl; go_simp, ?_⟩)
            simp only [n2]
            obtain ⟨U154, hu_, hS_⟩ := ((S151.out.gr hg153).put1 0 rfl 5 (.int .i64 (Ma.nr y0))).named
            rw [← hu_]
            have S155 : Hid (St w noB [blk g45 35 [.string (bstr n0), .bool s_, .bool l_, .bool f_, .int .i64 (Ma.nr d0), .int .i64 (Ma.nr y0), .int .i64 0, .int .i64 0], own (.slice (some ⟨wg, 0, none⟩) 8 wc) 9 1 8 ([n0, k0, f0, d0, e0, y0, y1, y2].map sv), blk g4 35 [.string ⟨#[]⟩, .bool false, .bool false, .bool false, .int .i64 0, .int .i64 0, .int .i64 0, .int .i64 0]] U154) := Lib.hid hS_
            clear S151
            clear hu_ hS_ hg153
            refine wpG_done (fun V156 hv157 => ?_)
            have S158 : Hid (St w noB [blk g45 35 [.string (bstr n0), .bool s_, .bool l_, .bool f_, .int .i64 (Ma.nr d0), .int .i64 (Ma.nr y0), .int .i64 0, .int .i64 0], own (.slice (some ⟨wg, 0, none⟩) 8 wc) 9 1 8 ([n0, k0, f0, d0, e0, y0, y1, y2].map sv), blk g4 35 [.string ⟨#[]⟩, .bool false, .bool false, .bool false, .int .i64 0, .int .i64 0, .int .i64 0, .int .i64 0]] V156) := Lib.hid (S155.out.gr hv157)
            clear S155
            clear hv157
            refine ⟨rfl, hK _ _ ?_⟩
            clear hK
            go_upto_region 21 with fail
            refine wpG_region_k (fun K hK => ?_)
            refine @wpG_p _ _ _ _ _ (some 84) (.int .i64 5) _ _ rfl (by rfl) (fun _ => rfl) ?_
            simp only [n1, n3, n4]
            refine @wpG_p _ _ _ _ _ (some 85) (.int .i64 0) _ _ rfl (by rfl) (fun W => by go_simp <;> rfl) ?_
            simp only [n1, n3, n4]
            refine @wpG_p _ _ _ _ _ (some 86) (.pointer (some ⟨g45, 5, none⟩)) _ _ rfl (by rfl) (fun W => by go_simp) ?_
            simp only [n1, n3, n4]
            refine @wpG_p _ _ _ _ _ (some 87) (.pointer (some ⟨g45, 5, none⟩)) _ _ rfl (by rfl) (fun W => by (go_simp <;> first | rfl | omega)) ?_
            simp only [n1, n3, n4]
            refine @wpG_r _ _ _ _ _ (some 88) (.int .i64 (Ma.nr y0)) _ _ rfl (by rfl) (fun W hg => by have c := (S158.out.gr hg).cell 0 rfl 5 rfl; go_simp) ?_
            simp only [n1, n3, n4]
            refine @wpG_p _ _ _ _ _ (some 89) (.bool (decide (Ma.nr y0 < 0))) _ _ rfl (by rfl) (fun W => op_int_lss W (Ma.nr y0) 0 rfl rfl rfl Tryd.underlying3) ?_
            simp only [n1, n3, n4]
            refine wpG_done (fun V159 hv160 => ?_)
            have S161 : Hid (St w noB [blk g45 35 [.string (bstr n0), .bool s_, .bool l_, .bool f_, .int .i64 (Ma.nr d0), .int .i64 (Ma.nr y0), .int .i64 0, .int .i64 0], own (.slice (some ⟨wg, 0, none⟩) 8 wc) 9 1 8 ([n0, k0, f0, d0, e0, y0, y1, y2].map sv), blk g4 35 [.string ⟨#[]⟩, .bool false, .bool false, .bool false, .int .i64 0, .int .i64 0, .int .i64 0, .int .i64 0]] V159) := Lib.hid (S158.out.gr hv160)
            clear S158
            clear hv160
            refine ⟨rfl, hK _ _ ?_⟩
            clear hK
            obtain ⟨c162, hc162⟩ : ∃ q_, q_ = (decide (Ma.nr y0 < 0)) := ⟨_, rfl⟩
            rw [← hc162]
            have Hc162 := Lib.hid hc162
            clear hc162
            cases c162 with
            | true =>
              have f163 := of_decide_eq_true Hc162.out.symm
              go_upto_region 22 with fail
              refine wpG_region_k (fun K hK => ?_)
              refine @wpG_p _ _ _ _ _ (some 90) (.agg #[.string ⟨#[]⟩, .bool false, .bool false, .bool false, .int .i64 0, .int .i64 0, .int .i64 0, .int .i64 0]) _ _ rfl (by rfl) (fun W => by go_simp) ?_
              simp only [n1, n3, n4]
              refine wpG_store (none) rfl (by rfl) (fun W164 hg165 => ⟨_, run_store_mid 35 (.tmp 2) (.tmp 90) rfl g4 0 #[.string ⟨#[]⟩, .bool false, .bool false, .bool false, .int .i64 0, .int .i64 0, .int .i64 0, .int .i64 0] rfl rfl ((S161.out.gr hg165).room 2 rfl 0 8 (by simp)) (by kernel_rfl) (by kernel_rfl), ?_⟩)
              simp only [n2]
              obtain ⟨U166, hu_, hS_⟩ := ((S161.out.gr hg165).put 2 rfl 0 (#[.string ⟨#[]⟩, .bool false, .bool false, .bool false, .int .i64 0, .int .i64 0, .int .i64 0, .int .i64 0] : Array Value).toList (ds := [.string ⟨#[]⟩, .bool false, .bool false, .bool false, .int .i64 0, .int .i64 0, .int .i64 0, .int .i64 0]) rfl).named
              rw [← hu_]
              have S167 : Hid (St w noB [blk g45 35 [.string (bstr n0), .bool s_, .bool l_, .bool f_, .int .i64 (Ma.nr d0), .int .i64 (Ma.nr y0), .int .i64 0, .int .i64 0], own (.slice (some ⟨wg, 0, none⟩) 8 wc) 9 1 8 ([n0, k0, f0, d0, e0, y0, y1, y2].map sv), blk g4 35 [.string ⟨#[]⟩, .bool false, .bool false, .bool false, .int .i64 0, .int .i64 0, .int .i64 0, .int .i64 0]] U166) := Lib.hid hS_
              clear S161
              clear hu_ hS_ hg165
              refine @wpG_p _ _ _ _ _ (some 3) (.bool false) _ _ rfl (by rfl) (fun _ => rfl) ?_
              simp only [n1, n3, n4]
              refine wpG_done (fun V168 hv169 => ?_)
              have S170 : Hid (St w noB [blk g45 35 [.string (bstr n0), .bool s_, .bool l_, .bool f_, .int .i64 (Ma.nr d0), .int .i64 (Ma.nr y0), .int .i64 0, .int .i64 0], own (.slice (some ⟨wg, 0, none⟩) 8 wc) 9 1 8 ([n0, k0, f0, d0, e0, y0, y1, y2].map sv), blk g4 35 [.string ⟨#[]⟩, .bool false, .bool false, .bool false, .int .i64 0, .int .i64 0, .int .i64 0, .int .i64 0]] V168) := Lib.hid (S167.out.gr hv169)
              clear S167
              clear hv169
              refine ⟨rfl, hK _ _ ?_⟩
              clear hK
              go_wp2_with fail
              (try simp only [Exit.inBlock, Exit.then])
              refine bodyPost_ret (results_cell_tmp rfl _ _ _ g4 0 [.string ⟨#[]⟩, .bool false, .bool false, .bool false, .int .i64 0, .int .i64 0, .int .i64 0, .int .i64 0] _ rfl (S170.out.range 2 rfl 0 8 rfl) Tryd.underlying35 rfl (by kernel_rfl)) rfl ?_
              (have e_f42 := f42.out; have e_f145 := f145.out; have h : Ma.mat x = none := (Ma.mat_w hw).trans (Ma.m8_e (Ma.e3_x (Ma.nr_neg (by omega)))); exact ⟨((⟨[], false, false, false, 0, 0, 0, 0⟩ : Ma.Mt) : Ma.Mt), by show Ending.returned (.tuple #[.agg #[.string ⟨#[]⟩, .bool false, .bool false, .bool false, .int .i64 0, .int .i64 0, .int .i64 0, .int .i64 0], .bool false]) = _; rw [h]; rfl, fun m_ hm_ => (by rw [h] at hm_; cases hm_), S170.out.bel⟩)
            | false =>
              have f171 := of_decide_eq_false Hc162.out.symm
              go_upto_region 19 with fail
              refine wpG_region_k (fun K hK => ?_)
              refine @wpG_p _ _ _ _ _ (some 73) (.int .i64 5) _ _ rfl (by rfl) (fun _ => rfl) ?_
              simp only [n1, n3, n4]
              refine @wpG_p _ _ _ _ _ (some 74) (.int .i64 6) _ _ rfl (by rfl) (fun W => by go_simp <;> rfl) ?_
              simp only [n1, n3, n4]
              refine @wpG_p _ _ _ _ _ (some 6) (.int .i64 6) _ _ rfl (by rfl) (fun _ => rfl) ?_
              simp only [n1, n3, n4]
              refine wpG_done (fun V172 hv173 => ?_)
              have S174 : Hid (St w noB [blk g45 35 [.string (bstr n0), .bool s_, .bool l_, .bool f_, .int .i64 (Ma.nr d0), .int .i64 (Ma.nr y0), .int .i64 0, .int .i64 0], own (.slice (some ⟨wg, 0, none⟩) 8 wc) 9 1 8 ([n0, k0, f0, d0, e0, y0, y1, y2].map sv), blk g4 35 [.string ⟨#[]⟩, .bool false, .bool false, .bool false, .int .i64 0, .int .i64 0, .int .i64 0, .int .i64 0]] V172) := Lib.hid (S161.out.gr hv173)
              clear S161
              clear hv173
              refine ⟨rfl, hK _ _ ?_⟩
              clear hK
              go_wp2_with fail
              rw [rounds_succ]
              go_upto_region 18 with fail
              refine wpG_region_k (fun K hK => ?_)
              refine @wpG_p _ _ _ _ _ (some 69) (.int .i64 6) _ _ rfl (by rfl) (fun _ => rfl) ?_
              simp only [n1, n3, n4]
              refine @wpG_p _ _ _ _ _ (some 70) (.slice (some ⟨wg, 0, none⟩) 8 wc) _ _ rfl (by rfl) (fun _ => rfl) ?_
              simp only [n1, n3, n4]
              refine @wpG_p _ _ _ _ _ (some 71) (.int .i64 8) _ _ rfl (by rfl) (fun W => by go_simp) ?_
              simp only [n1, n3, n4]
              refine @wpG_p _ _ _ _ _ (some 72) (.bool true) _ _ rfl (by rfl) (fun W => by go_simp) ?_
              simp only [n1, n3, n4]
              refine wpG_done (fun V175 hv176 => ?_)
              have S177 : Hid (St w noB [blk g45 35 [.string (bstr n0), .bool s_, .bool l_, .bool f_, .int .i64 (Ma.nr d0), .int .i64 (Ma.nr y0), .int .i64 0, .int .i64 0], own (.slice (some ⟨wg, 0, none⟩) 8 wc) 9 1 8 ([n0, k0, f0, d0, e0, y0, y1, y2].map sv), blk g4 35 [.string ⟨#[]⟩, .bool false, .bool false, .bool false, .int .i64 0, .int .i64 0, .int .i64 0, .int .i64 0]] V175) := Lib.hid (S174.out.gr hv176)
              clear S174
              clear hv176
              refine ⟨rfl, hK _ _ ?_⟩
              clear hK
              go_upto_region 20 with fail
              refine wpG_region_k (fun K hK => ?_)
              refine @wpG_p _ _ _ _ _ (some 75) (.int .i64 6) _ _ rfl (by rfl) (fun _ => rfl) ?_
              simp only [n1, n3, n4]
              refine @wpG_p _ _ _ _ _ (some 76) (.int .i64 1) _ _ rfl (by rfl) (fun W => by go_simp <;> rfl) ?_
              simp only [n1, n3, n4]
              refine @wpG_p _ _ _ _ _ (some 77) (.slice (some ⟨wg, 0, none⟩) 8 wc) _ _ rfl (by rfl) (fun _ => rfl) ?_
              simp only [n1, n3, n4]
              refine @wpG_p _ _ _ _ _ (some 78) (.int .i64 6) _ _ rfl (by rfl) (fun _ => rfl) ?_
              simp only [n1, n3, n4]
              refine @wpG_p _ _ _ _ _ (some 79) (.pointer (some ⟨wg, 6, none⟩)) _ _ rfl (by rfl) (fun W => by (go_simp <;> first | rfl | omega | (simp; omega))) ?_
              simp only [n1, n3, n4]
              refine @wpG_r _ _ _ _ _ (some 80) (.string (bstr y1)) _ _ rfl (by rfl) (fun W hg => by have c := ((lies_at1 ((S177.out.gr hg).liesOwn 1 rfl) 6 (v := .string (bstr y1)) rfl)) 0 _ rfl; (try simp only [Nat.add_zero, Nat.zero_add] at c); go_simp) ?_
              simp only [n1, n3, n4]
              refine @wpG_tk _ _ _ _ _ (some 81) (.int .i64 (Ma.nr y1)) _ _ rfl (.call (f := 57) (args := #[.string (bstr y1)]) (by rfl) (fun W => by go_simp) (fun W hg => number_any y1 W)) ?_
              simp only [n1, n3, n4]
              refine @wpG_p _ _ _ _ _ (some 82) (.pointer (some ⟨g45, 5, none⟩)) _ _ rfl (by rfl) (fun W => by go_simp) ?_
              simp only [n1, n3, n4]
              refine @wpG_p _ _ _ _ _ (some 83) (.pointer (some ⟨g45, 6, none⟩)) _ _ rfl (by rfl) (fun W => by (go_simp <;> first | rfl | omega)) ?_
              simp only [n1, n3, n4]
              refine wpG_store (none) rfl (by rfl) (fun W178 hg179 => ⟨W178.setCell ⟨g45, 6, none⟩ (.int .i64 (Ma.nr y1)), by have c := (S177.out.gr hg179).cell 0 rfl 6 rfl; have c2 := (S177.out.gr hg179).soft 0 rfl 6 rfl; go_simp, ?_⟩)
              simp only [n2]
              obtain ⟨U180, hu_, hS_⟩ := ((S177.out.gr hg179).put1 0 rfl 6 (.int .i64 (Ma.nr y1))).named
              rw [← hu_]
              have S181 : Hid (St w noB [blk g45 35 [.string (bstr n0), .bool s_, .bool l_, .bool f_, .int .i64 (Ma.nr d0), .int .i64 (Ma.nr y0), .int .i64 (Ma.nr y1), .int .i64 0], own (.slice (some ⟨wg, 0, none⟩) 8 wc) 9 1 8 ([n0, k0, f0, d0, e0, y0, y1, y2].map sv), blk g4 35 [.string ⟨#[]⟩, .bool false, .bool false, .bool false, .int .i64 0, .int .i64 0, .int .i64 0, .int .i64 0]] U180) := Lib.hid hS_
              clear S177
              clear hu_ hS_ hg179
              refine wpG_done (fun V182 hv183 => ?_)
              have S184 : Hid (St w noB [blk g45 35 [.string (bstr n0), .bool s_, .bool l_, .bool f_, .int .i64 (Ma.nr d0), .int .i64 (Ma.nr y0), .int .i64 (Ma.nr y1), .int .i64 0], own (.slice (some ⟨wg, 0, none⟩) 8 wc) 9 1 8 ([n0, k0, f0, d0, e0, y0, y1, y2].map sv), blk g4 35 [.string ⟨#[]⟩, .bool false, .bool false, .bool false, .int .i64 0, .int .i64 0, .int .i64 0, .int .i64 0]] V182) := Lib.hid (S181.out.gr hv183)
              clear S181
              clear hv183
              refine ⟨rfl, hK _ _ ?_⟩
              clear hK
              go_upto_region 21 with fail
              refine wpG_region_k (fun K hK => ?_)
              refine @wpG_p _ _ _ _ _ (some 84) (.int .i64 6) _ _ rfl (by rfl) (fun _ => rfl) ?_
              simp only [n1, n3, n4]
              refine @wpG_p _ _ _ _ _ (some 85) (.int .i64 1) _ _ rfl (by rfl) (fun W => by go_simp <;> rfl) ?_
              simp only [n1, n3, n4]
              refine @wpG_p _ _ _ _ _ (some 86) (.pointer (some ⟨g45, 5, none⟩)) _ _ rfl (by rfl) (fun W => by go_simp) ?_
              simp only [n1, n3, n4]
              refine @wpG_p _ _ _ _ _ (some 87) (.pointer (some ⟨g45, 6, none⟩)) _ _ rfl (by rfl) (fun W => by (go_simp <;> first | rfl | omega)) ?_
              simp only [n1, n3, n4]
              refine @wpG_r _ _ _ _ _ (some 88) (.int .i64 (Ma.nr y1)) _ _ rfl (by rfl) (fun W hg => by have c := (S184.out.gr hg).cell 0 rfl 6 rfl; go_simp) ?_
              simp only [n1, n3, n4]
              refine @wpG_p _ _ _ _ _ (some 89) (.bool (decide (Ma.nr y1 < 0))) _ _ rfl (by rfl) (fun W => op_int_lss W (Ma.nr y1) 0 rfl rfl rfl Tryd.underlying3) ?_
              simp only [n1, n3, n4]
              refine wpG_done (fun V185 hv186 => ?_)
              have S187 : Hid (St w noB [blk g45 35 [.string (bstr n0), .bool s_, .bool l_, .bool f_, .int .i64 (Ma.nr d0), .int .i64 (Ma.nr y0), .int .i64 (Ma.nr y1), .int .i64 0], own (.slice (some ⟨wg, 0, none⟩) 8 wc) 9 1 8 ([n0, k0, f0, d0, e0, y0, y1, y2].map sv), blk g4 35 [.string ⟨#[]⟩, .bool false, .bool false, .bool false, .int .i64 0, .int .i64 0, .int .i64 0, .int .i64 0]] V185) := Lib.hid (S184.out.gr hv186)
              clear S184
              clear hv186
              refine ⟨rfl, hK _ _ ?_⟩
              clear hK
              obtain ⟨c188, hc188⟩ : ∃ q_, q_ = (decide (Ma.nr y1 < 0)) := ⟨_, rfl⟩
              rw [← hc188]
              have Hc188 := Lib.hid hc188
              clear hc188
              cases c188 with
              | true =>
                have f189 := of_decide_eq_true Hc188.out.symm
                go_upto_region 22 with fail
                refine wpG_region_k (fun K hK => ?_)
                refine @wpG_p _ _ _ _ _ (some 90) (.agg #[.string ⟨#[]⟩, .bool false, .bool false, .bool false, .int .i64 0, .int .i64 0, .int .i64 0, .int .i64 0]) _ _ rfl (by rfl) (fun W => by go_simp) ?_
                simp only [n1, n3, n4]
                refine wpG_store (none) rfl (by rfl) (fun W190 hg191 => ⟨_, run_store_mid 35 (.tmp 2) (.tmp 90) rfl g4 0 #[.string ⟨#[]⟩, .bool false, .bool false, .bool false, .int .i64 0, .int .i64 0, .int .i64 0, .int .i64 0] rfl rfl ((S187.out.gr hg191).room 2 rfl 0 8 (by simp)) (by kernel_rfl) (by kernel_rfl), ?_⟩)
                simp only [n2]
                obtain ⟨U192, hu_, hS_⟩ := ((S187.out.gr hg191).put 2 rfl 0 (#[.string ⟨#[]⟩, .bool false, .bool false, .bool false, .int .i64 0, .int .i64 0, .int .i64 0, .int .i64 0] : Array Value).toList (ds := [.string ⟨#[]⟩, .bool false, .bool false, .bool false, .int .i64 0, .int .i64 0, .int .i64 0, .int .i64 0]) rfl).named
                rw [← hu_]
                have S193 : Hid (St w noB [blk g45 35 [.string (bstr n0), .bool s_, .bool l_, .bool f_, .int .i64 (Ma.nr d0), .int .i64 (Ma.nr y0), .int .i64 (Ma.nr y1), .int .i64 0], own (.slice (some ⟨wg, 0, none⟩) 8 wc) 9 1 8 ([n0, k0, f0, d0, e0, y0, y1, y2].map sv), blk g4 35 [.string ⟨#[]⟩, .bool false, .bool false, .bool false, .int .i64 0, .int .i64 0, .int .i64 0, .int .i64 0]] U192) := Lib.hid hS_
                clear S187
                clear hu_ hS_ hg191
                refine @wpG_p _ _ _ _ _ (some 3) (.bool false) _ _ rfl (by rfl) (fun _ => rfl) ?_
                simp only [n1, n3, n4]
                refine wpG_done (fun V194 hv195 => ?_)
                have S196 : Hid (St w noB [blk g45 35 [.string (bstr n0), .bool s_, .bool l_, .bool f_, .int .i64 (Ma.nr d0), .int .i64 (Ma.nr y0), .int .i64 (Ma.nr y1), .int .i64 0], own (.slice (some ⟨wg, 0, none⟩) 8 wc) 9 1 8 ([n0, k0, f0, d0, e0, y0, y1, y2].map sv), blk g4 35 [.string ⟨#[]⟩, .bool false, .bool false, .bool false, .int .i64 0, .int .i64 0, .int .i64 0, .int .i64 0]] V194) := Lib.hid (S193.out.gr hv195)
                clear S193
                clear hv195
                refine ⟨rfl, hK _ _ ?_⟩
                clear hK
                go_wp2_with fail
                (try simp only [Exit.inBlock, Exit.then])
                refine bodyPost_ret (results_cell_tmp rfl _ _ _ g4 0 [.string ⟨#[]⟩, .bool false, .bool false, .bool false, .int .i64 0, .int .i64 0, .int .i64 0, .int .i64 0] _ rfl (S196.out.range 2 rfl 0 8 rfl) Tryd.underlying35 rfl (by kernel_rfl)) rfl ?_
                (have e_f42 := f42.out; have e_f145 := f145.out; have h : Ma.mat x = none := (Ma.mat_w hw).trans (Ma.m8_e (Ma.e3_y (Ma.nr_neg (by omega)))); exact ⟨((⟨[], false, false, false, 0, 0, 0, 0⟩ : Ma.Mt) : Ma.Mt), by show Ending.returned (.tuple #[.agg #[.string ⟨#[]⟩, .bool false, .bool false, .bool false, .int .i64 0, .int .i64 0, .int .i64 0, .int .i64 0], .bool false]) = _; rw [h]; rfl, fun m_ hm_ => (by rw [h] at hm_; cases hm_), S196.out.bel⟩)
              | false =>
                have f197 := of_decide_eq_false Hc188.out.symm
                go_upto_region 19 with fail
                refine wpG_region_k (fun K hK => ?_)
                refine @wpG_p _ _ _ _ _ (some 73) (.int .i64 6) _ _ rfl (by rfl) (fun _ => rfl) ?_
                simp only [n1, n3, n4]
                refine @wpG_p _ _ _ _ _ (some 74) (.int .i64 7) _ _ rfl (by rfl) (fun W => by go_simp <;> rfl) ?_
                simp only [n1, n3, n4]
                refine @wpG_p _ _ _ _ _ (some 6) (.int .i64 7) _ _ rfl (by rfl) (fun _ => rfl) ?_
                simp only [n1, n3, n4]
                refine wpG_done (fun V198 hv199 => ?_)
                have S200 : Hid (St w noB [blk g45 35 [.string (bstr n0), .bool s_, .bool l_, .bool f_, .int .i64 (Ma.nr d0), .int .i64 (Ma.nr y0), .int .i64 (Ma.nr y1), .int .i64 0], own (.slice (some ⟨wg, 0, none⟩) 8 wc) 9 1 8 ([n0, k0, f0, d0, e0, y0, y1, y2].map sv), blk g4 35 [.string ⟨#[]⟩, .bool false, .bool false, .bool false, .int .i64 0, .int .i64 0, .int .i64 0, .int .i64 0]] V198) := Lib.hid (S187.out.gr hv199)
                clear S187
                clear hv199
                refine ⟨rfl, hK _ _ ?_⟩
                clear hK
                go_wp2_with fail
                rw [rounds_succ]
                go_upto_region 18 with fail
                refine wpG_region_k (fun K hK => ?_)
                refine @wpG_p _ _ _ _ _ (some 69) (.int .i64 7) _ _ rfl (by rfl) (fun _ => rfl) ?_
                simp only [n1, n3, n4]
                refine @wpG_p _ _ _ _ _ (some 70) (.slice (some ⟨wg, 0, none⟩) 8 wc) _ _ rfl (by rfl) (fun _ => rfl) ?_
                simp only [n1, n3, n4]
                refine @wpG_p _ _ _ _ _ (some 71) (.int .i64 8) _ _ rfl (by rfl) (fun W => by go_simp) ?_
                simp only [n1, n3, n4]
                refine @wpG_p _ _ _ _ _ (some 72) (.bool true) _ _ rfl (by rfl) (fun W => by go_simp) ?_
                simp only [n1, n3, n4]
                refine wpG_done (fun V201 hv202 => ?_)
                have S203 : Hid (St w noB [blk g45 35 [.string (bstr n0), .bool s_, .bool l_, .bool f_, .int .i64 (Ma.nr d0), .int .i64 (Ma.nr y0), .int .i64 (Ma.nr y1), .int .i64 0], own (.slice (some ⟨wg, 0, none⟩) 8 wc) 9 1 8 ([n0, k0, f0, d0, e0, y0, y1, y2].map sv), blk g4 35 [.string ⟨#[]⟩, .bool false, .bool false, .bool false, .int .i64 0, .int .i64 0, .int .i64 0, .int .i64 0]] V201) := Lib.hid (S200.out.gr hv202)
                clear S200
                clear hv202
                refine ⟨rfl, hK _ _ ?_⟩
                clear hK
                go_upto_region 20 with fail
                refine wpG_region_k (fun K hK => ?_)
                refine @wpG_p _ _ _ _ _ (some 75) (.int .i64 7) _ _ rfl (by rfl) (fun _ => rfl) ?_
                simp only [n1, n3, n4]
                refine @wpG_p _ _ _ _ _ (some 76) (.int .i64 2) _ _ rfl (by rfl) (fun W => by go_simp <;> rfl) ?_
                simp only [n1, n3, n4]
                refine @wpG_p _ _ _ _ _ (some 77) (.slice (some ⟨wg, 0, none⟩) 8 wc) _ _ rfl (by rfl) (fun _ => rfl) ?_
                simp only [n1, n3, n4]
                refine @wpG_p _ _ _ _ _ (some 78) (.int .i64 7) _ _ rfl (by rfl) (fun _ => rfl) ?_
                simp only [n1, n3, n4]
                refine @wpG_p _ _ _ _ _ (some 79) (.pointer (some ⟨wg, 7, none⟩)) _ _ rfl (by rfl) (fun W => by (go_simp <;> first | rfl | omega | (simp; omega))) ?_
                simp only [n1, n3, n4]
                refine @wpG_r _ _ _ _ _ (some 80) (.string (bstr y2)) _ _ rfl (by rfl) (fun W hg => by have c := ((lies_at1 ((S203.out.gr hg).liesOwn 1 rfl) 7 (v := .string (bstr y2)) rfl)) 0 _ rfl; (try simp only [Nat.add_zero, Nat.zero_add] at c); go_simp) ?_
                simp only [n1, n3, n4]
                refine @wpG_tk _ _ _ _ _ (some 81) (.int .i64 (Ma.nr y2)) _ _ rfl (.call (f := 57) (args := #[.string (bstr y2)]) (by rfl) (fun W => by go_simp) (fun W hg => number_any y2 W)) ?_
                simp only [n1, n3, n4]
                refine @wpG_p _ _ _ _ _ (some 82) (.pointer (some ⟨g45, 5, none⟩)) _ _ rfl (by rfl) (fun W => by go_simp) ?_
                simp only [n1, n3, n4]
                refine @wpG_p _ _ _ _ _ (some 83) (.pointer (some ⟨g45, 7, none⟩)) _ _ rfl (by rfl) (fun W => by (go_simp <;> first | rfl | omega)) ?_
                simp only [n1, n3, n4]
                refine wpG_store (none) rfl (by rfl) (fun W204 hg205 => ⟨W204.setCell ⟨g45, 7, none⟩ (.int .i64 (Ma.nr y2)), by have c := (S203.out.gr hg205).cell 0 rfl 7 rfl; have c2 := (S203.out.gr hg205).soft 0 rfl 7 rfl; go_simp, ?_⟩)
                simp only [n2]
                obtain ⟨U206, hu_, hS_⟩ := ((S203.out.gr hg205).put1 0 rfl 7 (.int .i64 (Ma.nr y2))).named
                rw [← hu_]
                have S207 : Hid (St w noB [blk g45 35 [.string (bstr n0), .bool s_, .bool l_, .bool f_, .int .i64 (Ma.nr d0), .int .i64 (Ma.nr y0), .int .i64 (Ma.nr y1), .int .i64 (Ma.nr y2)], own (.slice (some ⟨wg, 0, none⟩) 8 wc) 9 1 8 ([n0, k0, f0, d0, e0, y0, y1, y2].map sv), blk g4 35 [.string ⟨#[]⟩, .bool false, .bool false, .bool false, .int .i64 0, .int .i64 0, .int .i64 0, .int .i64 0]] U206) := Lib.hid hS_
                clear S203
                clear hu_ hS_ hg205
                refine wpG_done (fun V208 hv209 => ?_)
                have S210 : Hid (St w noB [blk g45 35 [.string (bstr n0), .bool s_, .bool l_, .bool f_, .int .i64 (Ma.nr d0), .int .i64 (Ma.nr y0), .int .i64 (Ma.nr y1), .int .i64 (Ma.nr y2)], own (.slice (some ⟨wg, 0, none⟩) 8 wc) 9 1 8 ([n0, k0, f0, d0, e0, y0, y1, y2].map sv), blk g4 35 [.string ⟨#[]⟩, .bool false, .bool false, .bool false, .int .i64 0, .int .i64 0, .int .i64 0, .int .i64 0]] V208) := Lib.hid (S207.out.gr hv209)
                clear S207
                clear hv209
                refine ⟨rfl, hK _ _ ?_⟩
                clear hK
                go_upto_region 21 with fail
                refine wpG_region_k (fun K hK => ?_)
                refine @wpG_p _ _ _ _ _ (some 84) (.int .i64 7) _ _ rfl (by rfl) (fun _ => rfl) ?_
                simp only [n1, n3, n4]
                refine @wpG_p _ _ _ _ _ (some 85) (.int .i64 2) _ _ rfl (by rfl) (fun W => by go_simp <;> rfl) ?_
                simp only [n1, n3, n4]
                refine @wpG_p _ _ _ _ _ (some 86) (.pointer (some ⟨g45, 5, none⟩)) _ _ rfl (by rfl) (fun W => by go_simp) ?_
                simp only [n1, n3, n4]
                refine @wpG_p _ _ _ _ _ (some 87) (.pointer (some ⟨g45, 7, none⟩)) _ _ rfl (by rfl) (fun W => by (go_simp <;> first | rfl | omega)) ?_
                simp only [n1, n3, n4]
                refine @wpG_r _ _ _ _ _ (some 88) (.int .i64 (Ma.nr y2)) _ _ rfl (by rfl) (fun W hg => by have c := (S210.out.gr hg).cell 0 rfl 7 rfl; go_simp) ?_
                simp only [n1, n3, n4]
                refine @wpG_p _ _ _ _ _ (some 89) (.bool (decide (Ma.nr y2 < 0))) _ _ rfl (by rfl) (fun W => op_int_lss W (Ma.nr y2) 0 rfl rfl rfl Tryd.underlying3) ?_
                simp only [n1, n3, n4]
                refine wpG_done (fun V211 hv212 => ?_)
                have S213 : Hid (St w noB [blk g45 35 [.string (bstr n0), .bool s_, .bool l_, .bool f_, .int .i64 (Ma.nr d0), .int .i64 (Ma.nr y0), .int .i64 (Ma.nr y1), .int .i64 (Ma.nr y2)], own (.slice (some ⟨wg, 0, none⟩) 8 wc) 9 1 8 ([n0, k0, f0, d0, e0, y0, y1, y2].map sv), blk g4 35 [.string ⟨#[]⟩, .bool false, .bool false, .bool false, .int .i64 0, .int .i64 0, .int .i64 0, .int .i64 0]] V211) := Lib.hid (S210.out.gr hv212)
                clear S210
                clear hv212
                refine ⟨rfl, hK _ _ ?_⟩
                clear hK
                obtain ⟨c214, hc214⟩ : ∃ q_, q_ = (decide (Ma.nr y2 < 0)) := ⟨_, rfl⟩
                rw [← hc214]
                have Hc214 := Lib.hid hc214
                clear hc214
                cases c214 with
                | true =>
                  have f215 := of_decide_eq_true Hc214.out.symm
                  go_upto_region 22 with fail
                  refine wpG_region_k (fun K hK => ?_)
                  refine @wpG_p _ _ _ _ _ (some 90) (.agg #[.string ⟨#[]⟩, .bool false, .bool false, .bool false, .int .i64 0, .int .i64 0, .int .i64 0, .int .i64 0]) _ _ rfl (by rfl) (fun W => by go_simp) ?_
                  simp only [n1, n3, n4]
                  refine wpG_store (none) rfl (by rfl) (fun W216 hg217 => ⟨_, run_store_mid 35 (.tmp 2) (.tmp 90) rfl g4 0 #[.string ⟨#[]⟩, .bool false, .bool false, .bool false, .int .i64 0, .int .i64 0, .int .i64 0, .int .i64 0] rfl rfl ((S213.out.gr hg217).room 2 rfl 0 8 (by simp)) (by kernel_rfl) (by kernel_rfl), ?_⟩)
                  simp only [n2]
                  obtain ⟨U218, hu_, hS_⟩ := ((S213.out.gr hg217).put 2 rfl 0 (#[.string ⟨#[]⟩, .bool false, .bool false, .bool false, .int .i64 0, .int .i64 0, .int .i64 0, .int .i64 0] : Array Value).toList (ds := [.string ⟨#[]⟩, .bool false, .bool false, .bool false, .int .i64 0, .int .i64 0, .int .i64 0, .int .i64 0]) rfl).named
                  rw [← hu_]
                  have S219 : Hid (St w noB [blk g45 35 [.string (bstr n0), .bool s_, .bool l_, .bool f_, .int .i64 (Ma.nr d0), .int .i64 (Ma.nr y0), .int .i64 (Ma.nr y1), .int .i64 (Ma.nr y2)], own (.slice (some ⟨wg, 0, none⟩) 8 wc) 9 1 8 ([n0, k0, f0, d0, e0, y0, y1, y2].map sv), blk g4 35 [.string ⟨#[]⟩, .bool false, .bool false, .bool false, .int .i64 0, .int .i64 0, .int .i64 0, .int .i64 0]] U218) := Lib.hid hS_
                  clear S213
                  clear hu_ hS_ hg217
                  refine @wpG_p _ _ _ _ _ (some 3) (.bool false) _ _ rfl (by rfl) (fun _ => rfl) ?_
                  simp only [n1, n3, n4]
                  refine wpG_done (fun V220 hv221 => ?_)
                  have S222 : Hid (St w noB [blk g45 35 [.string (bstr n0), .bool s_, .bool l_, .bool f_, .int .i64 (Ma.nr d0), .int .i64 (Ma.nr y0), .int .i64 (Ma.nr y1), .int .i64 (Ma.nr y2)], own (.slice (some ⟨wg, 0, none⟩) 8 wc) 9 1 8 ([n0, k0, f0, d0, e0, y0, y1, y2].map sv), blk g4 35 [.string ⟨#[]⟩, .bool false, .bool false, .bool false, .int .i64 0, .int .i64 0, .int .i64 0, .int .i64 0]] V220) := Lib.hid (S219.out.gr hv221)
                  clear S219
                  clear hv221
                  refine ⟨rfl, hK _ _ ?_⟩
                  clear hK
                  go_wp2_with fail
                  (try simp only [Exit.inBlock, Exit.then])
                  refine bodyPost_ret (results_cell_tmp rfl _ _ _ g4 0 [.string ⟨#[]⟩, .bool false, .bool false, .bool false, .int .i64 0, .int .i64 0, .int .i64 0, .int .i64 0] _ rfl (S222.out.range 2 rfl 0 8 rfl) Tryd.underlying35 rfl (by kernel_rfl)) rfl ?_
                  (have e_f42 := f42.out; have e_f145 := f145.out; have h : Ma.mat x = none := (Ma.mat_w hw).trans (Ma.m8_e (Ma.e3_z (Ma.nr_neg (by omega)))); exact ⟨((⟨[], false, false, false, 0, 0, 0, 0⟩ : Ma.Mt) : Ma.Mt), by show Ending.returned (.tuple #[.agg #[.string ⟨#[]⟩, .bool false, .bool false, .bool false, .int .i64 0, .int .i64 0, .int .i64 0, .int .i64 0], .bool false]) = _; rw [h]; rfl, fun m_ hm_ => (by rw [h] at hm_; cases hm_), S222.out.bel⟩)
                | false =>
                  have f223 := of_decide_eq_false Hc214.out.symm
                  go_upto_region 19 with fail
                  refine wpG_region_k (fun K hK => ?_)
                  refine @wpG_p _ _ _ _ _ (some 73) (.int .i64 7) _ _ rfl (by rfl) (fun _ => rfl) ?_
                  simp only [n1, n3, n4]
                  refine @wpG_p _ _ _ _ _ (some 74) (.int .i64 8) _ _ rfl (by rfl) (fun W => by go_simp <;> rfl) ?_
                  simp only [n1, n3, n4]
                  refine @wpG_p _ _ _ _ _ (some 6) (.int .i64 8) _ _ rfl (by rfl) (fun _ => rfl) ?_
                  simp only [n1, n3, n4]
                  refine wpG_done (fun V224 hv225 => ?_)
                  have S226 : Hid (St w noB [blk g45 35 [.string (bstr n0), .bool s_, .bool l_, .bool f_, .int .i64 (Ma.nr d0), .int .i64 (Ma.nr y0), .int .i64 (Ma.nr y1), .int .i64 (Ma.nr y2)], own (.slice (some ⟨wg, 0, none⟩) 8 wc) 9 1 8 ([n0, k0, f0, d0, e0, y0, y1, y2].map sv), blk g4 35 [.string ⟨#[]⟩, .bool false, .bool false, .bool false, .int .i64 0, .int .i64 0, .int .i64 0, .int .i64 0]] V224) := Lib.hid (S213.out.gr hv225)
                  clear S213
                  clear hv225
                  refine ⟨rfl, hK _ _ ?_⟩
                  clear hK
                  go_wp2_with fail
                  rw [rounds_succ]
                  go_upto_region 18 with fail
                  refine wpG_region_k (fun K hK => ?_)
                  refine @wpG_p _ _ _ _ _ (some 69) (.int .i64 8) _ _ rfl (by rfl) (fun _ => rfl) ?_
                  simp only [n1, n3, n4]
                  refine @wpG_p _ _ _ _ _ (some 70) (.slice (some ⟨wg, 0, none⟩) 8 wc) _ _ rfl (by rfl) (fun _ => rfl) ?_
                  simp only [n1, n3, n4]
                  refine @wpG_p _ _ _ _ _ (some 71) (.int .i64 8) _ _ rfl (by rfl) (fun W => by go_simp) ?_
                  simp only [n1, n3, n4]
                  refine @wpG_p _ _ _ _ _ (some 72) (.bool false) _ _ rfl (by rfl) (fun W => by go_simp) ?_
                  simp only [n1, n3, n4]
                  refine wpG_done (fun V227 hv228 => ?_)
                  have S229 : Hid (St w noB [blk g45 35 [.string (bstr n0), .bool s_, .bool l_, .bool f_, .int .i64 (Ma.nr d0), .int .i64 (Ma.nr y0), .int .i64 (Ma.nr y1), .int .i64 (Ma.nr y2)], own (.slice (some ⟨wg, 0, none⟩) 8 wc) 9 1 8 ([n0, k0, f0, d0, e0, y0, y1, y2].map sv), blk g4 35 [.string ⟨#[]⟩, .bool false, .bool false, .bool false, .int .i64 0, .int .i64 0, .int .i64 0, .int .i64 0]] V227) := Lib.hid (S226.out.gr hv228)
                  clear S226
                  clear hv228
                  refine ⟨rfl, hK _ _ ?_⟩
                  clear hK
                  go_upto_region 23 with fail
                  refine wpK_region_k (by kernel_rfl) (fun K hK => ?_)
                  refine wpK_ta (i := 1) (some 92) (v := .slice (some ⟨wg, 0, none⟩) 8 wc) rfl rfl (by kernel_rfl) (fun _ _ _ h => onN_panic h) (Or.inl ⟨rfl, fun _ => rfl⟩) ?_
                  simp only [n1, n3, n4]
                  refine wpK_ta (i := 2) (some 93) (v := .int .i64 8) rfl rfl (by kernel_rfl) (fun _ _ _ h => onN_panic h) (Or.inl ⟨by rfl, fun W => by go_simp⟩) ?_
                  simp only [n1, n3, n4]
                  refine wpK_ta (i := 3) (some 94) (v := .bool false) rfl rfl (by kernel_rfl) (fun _ _ _ h => onN_panic h) (Or.inl ⟨by rfl, fun W => by go_simp⟩) ?_
                  simp only [n1, n3, n4]
                  refine wpK_ta (i := 4) (some 95) (v := .bool false) rfl rfl (by kernel_rfl) (fun _ _ _ h => onN_panic h) (Or.inl ⟨rfl, fun _ => rfl⟩) ?_
                  simp only [n1, n3, n4]
                  refine wpK_ta (i := 5) (some 96) (v := .pointer (some ⟨g45, 5, none⟩)) rfl rfl (by kernel_rfl) (fun _ _ _ h => onN_panic h) (Or.inl ⟨by rfl, fun W => by go_simp⟩) ?_
                  simp only [n1, n3, n4]
                  refine wpK_ta (i := 7) (some 98) (v := .agg #[.int .i64 0, .int .i64 0, .int .i64 0]) rfl rfl (by kernel_rfl) (fun _ _ _ h => onN_panic h) (Or.inl ⟨by rfl, fun W => by go_simp⟩) ?_
                  simp only [n1, n3, n4]
                  refine wpK_tk (i := 0) (some 91) (v := .agg #[.string (bstr n0), .bool s_, .bool l_, .bool f_, .int .i64 (Ma.nr d0), .int .i64 (Ma.nr y0), .int .i64 (Ma.nr y1), .int .i64 (Ma.nr y2)]) rfl rfl (by kernel_rfl) (fun _ _ _ h => onN_panic h) (.load_mid (by rfl) 35 (.tmp 5) rfl g45 0 rfl [.string (bstr n0), .bool s_, .bool l_, .bool f_, .int .i64 (Ma.nr d0), .int .i64 (Ma.nr y0), .int .i64 (Ma.nr y1), .int .i64 (Ma.nr y2)] _ (fun W hg => (S229.out.gr (Gr.un hg)).range 0 rfl 0 8 rfl) Tryd.underlying35 rfl (by kernel_rfl)) ?_
                  simp only [n1, n3, n4]
                  refine wpK_ls (i := 6) (j := 10) (some 97) (v := .agg #[.int .i64 (Ma.nr y0), .int .i64 (Ma.nr y1), .int .i64 (Ma.nr y2)]) rfl rfl rfl rfl (by kernel_rfl) (by rfl) (by rfl) (.load_mid (by rfl) 33 (.tmp 96) rfl g45 5 rfl [.int .i64 (Ma.nr y0), .int .i64 (Ma.nr y1), .int .i64 (Ma.nr y2)] _ (fun W hg => (S229.out.gr (Gr.un hg)).range 0 rfl 5 3 rfl) Tryd.underlying33 rfl (by kernel_rfl)) ?_ ?_
                  simp only [n1, n3, n4]
                  rotate_left
                  · intro W_ hg_
                    refine (⟨_, run_store_mid 35 (.tmp 2) (.tmp 91) rfl g4 0 #[.string (bstr n0), .bool s_, .bool l_, .bool f_, .int .i64 (Ma.nr d0), .int .i64 (Ma.nr y0), .int .i64 (Ma.nr y1), .int .i64 (Ma.nr y2)] rfl rfl ((S229.out.gr (Gr.un hg_)).room 2 rfl 0 8 (by simp)) (by kernel_rfl) (by kernel_rfl), ?_⟩)
                    simp only [n2]
                    obtain ⟨U232, hu_, hS_⟩ := ((S229.out.gr (Gr.un hg_)).put 2 rfl 0 (#[.string (bstr n0), .bool s_, .bool l_, .bool f_, .int .i64 (Ma.nr d0), .int .i64 (Ma.nr y0), .int .i64 (Ma.nr y1), .int .i64 (Ma.nr y2)] : Array Value).toList (ds := [.string (bstr n0), .bool s_, .bool l_, .bool f_, .int .i64 (Ma.nr d0), .int .i64 (Ma.nr y0), .int .i64 (Ma.nr y1), .int .i64 (Ma.nr y2)]) rfl).named
                    rw [← hu_]
                    have S233 : Hid (St w noB [blk g45 35 [.string (bstr n0), .bool s_, .bool l_, .bool f_, .int .i64 (Ma.nr d0), .int .i64 (Ma.nr y0), .int .i64 (Ma.nr y1), .int .i64 (Ma.nr y2)], own (.slice (some ⟨wg, 0, none⟩) 8 wc) 9 1 8 ([n0, k0, f0, d0, e0, y0, y1, y2].map sv), blk g4 35 [.string (bstr n0), .bool s_, .bool l_, .bool f_, .int .i64 (Ma.nr d0), .int .i64 (Ma.nr y0), .int .i64 (Ma.nr y1), .int .i64 (Ma.nr y2)]] U232) := Lib.hid hS_
                    clear S229
                    clear hu_ hS_ hg_
                    refine wpK_tk (i := 6) (some 97) (v := .agg #[.int .i64 (Ma.nr y0), .int .i64 (Ma.nr y1), .int .i64 (Ma.nr y2)]) rfl rfl (by kernel_rfl) (fun _ _ _ h => onN_panic h) (.load_mid (by rfl) 33 (.tmp 96) rfl g45 5 rfl [.int .i64 (Ma.nr y0), .int .i64 (Ma.nr y1), .int .i64 (Ma.nr y2)] _ (fun W hg => (S233.out.gr hg).range 0 rfl 5 3 rfl) Tryd.underlying33 rfl (by kernel_rfl)) ?_
                    simp only [n1, n3, n4]
                    refine wpK_ta (i := 8) (some 99) (v := .bool (decide (¬ ((Ma.nr y0) = 0 ∧ (Ma.nr y1) = 0 ∧ (Ma.nr y2) = 0)))) rfl rfl (by kernel_rfl) (fun _ _ _ h => onN_panic h) (Or.inl ⟨by rfl, fun W => by exact op_i3_neq W (Ma.nr y0) (Ma.nr y1) (Ma.nr y2) 0 0 0 rfl rfl rfl⟩) ?_
                    simp only [n1, n3, n4]
                    refine wpK_ta (i := 9) (some 100) (v := .bool (decide (¬ ((Ma.nr y0) = 0 ∧ (Ma.nr y1) = 0 ∧ (Ma.nr y2) = 0)))) rfl rfl (by kernel_rfl) (fun _ _ _ h => onN_panic h) (Or.inl ⟨by rfl, fun W => by go_simp⟩) ?_
                    simp only [n1, n3, n4]
                    refine wpK_ta (i := 11) (some 3) (v := .bool (decide (¬ ((Ma.nr y0) = 0 ∧ (Ma.nr y1) = 0 ∧ (Ma.nr y2) = 0)))) rfl rfl (by kernel_rfl) (fun _ _ _ h => onN_panic h) (Or.inl ⟨rfl, fun _ => rfl⟩) ?_
                    simp only [n1, n3, n4]
                    refine wpK_done (by kernel_rfl) (fun V234 hv235 => ?_) _
                    have S236 : Hid (St w noB [blk g45 35 [.string (bstr n0), .bool s_, .bool l_, .bool f_, .int .i64 (Ma.nr d0), .int .i64 (Ma.nr y0), .int .i64 (Ma.nr y1), .int .i64 (Ma.nr y2)], own (.slice (some ⟨wg, 0, none⟩) 8 wc) 9 1 8 ([n0, k0, f0, d0, e0, y0, y1, y2].map sv), blk g4 35 [.string (bstr n0), .bool s_, .bool l_, .bool f_, .int .i64 (Ma.nr d0), .int .i64 (Ma.nr y0), .int .i64 (Ma.nr y1), .int .i64 (Ma.nr y2)]] V234) := Lib.hid (S233.out.gr hv235)
                    clear S233
                    clear hv235
                    refine ⟨rfl, hK _ _ ?_⟩
                    clear hK
                    go_wp2_with fail
                    (try simp only [Exit.inBlock, Exit.then])
                    refine bodyPost_ret (results_cell_tmp rfl _ _ _ g4 0 [.string (bstr n0), .bool s_, .bool l_, .bool f_, .int .i64 (Ma.nr d0), .int .i64 (Ma.nr y0), .int .i64 (Ma.nr y1), .int .i64 (Ma.nr y2)] _ rfl (S236.out.range 2 rfl 0 8 rfl) Tryd.underlying35 rfl (by kernel_rfl)) rfl ?_
                    obtain ⟨c237, hc237⟩ : ∃ q_, q_ = (decide (¬ ((Ma.nr y0) = 0 ∧ (Ma.nr y1) = 0 ∧ (Ma.nr y2) = 0))) := ⟨_, rfl⟩
                    rw [← hc237]
                    have Hc237 := Lib.hid hc237
                    clear hc237
                    cases c237 with
                    | true =>
                      have f238 := Lib.hid (of_decide_eq_true Hc237.out.symm)
                      (have e_f42 := f42.out; have e_f145 := f145.out; have e_f238 := f238.out; have hk_ := HK_.out; obtain ⟨v_, hv_, hr_⟩ := Ma.nr_pos (w := d0) (by omega); have h4_ := Ma.mat4_yes hk_ hv_ f29 e_f42; obtain ⟨v0_, hv0_, hr0_⟩ := Ma.nr_pos (w := y0) (by omega); obtain ⟨v1_, hv1_, hr1_⟩ := Ma.nr_pos (w := y1) (by omega); obtain ⟨v2_, hv2_, hr2_⟩ := Ma.nr_pos (w := y2) (by omega); have hz_ := e_f238; rw [hr0_, hr1_, hr2_] at hz_; have h : Ma.mat x = some _ := (Ma.mat_w hw).trans (Ma.m8_yes h4_ (Ma.e3_yes e_f145 hv0_ hv1_ hv2_ hz_)); exact ⟨((⟨n0, s_, l_, f_, (Ma.nr d0), (Ma.nr y0), (Ma.nr y1), (Ma.nr y2)⟩ : Ma.Mt) : Ma.Mt), by show Ending.returned (.tuple #[.agg #[.string (bstr n0), .bool s_, .bool l_, .bool f_, .int .i64 (Ma.nr d0), .int .i64 (Ma.nr y0), .int .i64 (Ma.nr y1), .int .i64 (Ma.nr y2)], .bool true]) = _; rw [h]; rfl, fun m_ hm_ => (by rw [h] at hm_; injection hm_ with hm_; rw [← hm_, hr_, hr0_, hr1_, hr2_]), S236.out.bel⟩)
                    | false =>
                      have f239 := of_decide_eq_false Hc237.out.symm
                      (have e_f42 := f42.out; have e_f145 := f145.out; obtain ⟨v0_, hv0_, hr0_⟩ := Ma.nr_pos (w := y0) (by omega); obtain ⟨v1_, hv1_, hr1_⟩ := Ma.nr_pos (w := y1) (by omega); obtain ⟨v2_, hv2_, hr2_⟩ := Ma.nr_pos (w := y2) (by omega); have hz_ := f239; rw [hr0_, hr1_, hr2_] at hz_; have h : Ma.mat x = none := (Ma.mat_w hw).trans (Ma.m8_e (Ma.e3_zero hv0_ hv1_ hv2_ (Decidable.not_not.1 hz_))); exact ⟨((⟨n0, s_, l_, f_, (Ma.nr d0), (Ma.nr y0), (Ma.nr y1), (Ma.nr y2)⟩ : Ma.Mt) : Ma.Mt), by show Ending.returned (.tuple #[.agg #[.string (bstr n0), .bool s_, .bool l_, .bool f_, .int .i64 (Ma.nr d0), .int .i64 (Ma.nr y0), .int .i64 (Ma.nr y1), .int .i64 (Ma.nr y2)], .bool false]) = _; rw [h]; rfl, fun m_ hm_ => (by rw [h] at hm_; cases hm_), S236.out.bel⟩)
                  · skip
                    refine wpK_ta (i := 8) (some 99) (v := .bool (decide (¬ ((Ma.nr y0) = 0 ∧ (Ma.nr y1) = 0 ∧ (Ma.nr y2) = 0)))) rfl rfl (by kernel_rfl) (fun _ _ _ h => onN_panic h) (Or.inl ⟨by rfl, fun W => by exact op_i3_neq W (Ma.nr y0) (Ma.nr y1) (Ma.nr y2) 0 0 0 rfl rfl rfl⟩) ?_
                    simp only [n1, n3, n4]
                    refine wpK_ta (i := 9) (some 100) (v := .bool (decide (¬ ((Ma.nr y0) = 0 ∧ (Ma.nr y1) = 0 ∧ (Ma.nr y2) = 0)))) rfl rfl (by kernel_rfl) (fun _ _ _ h => onN_panic h) (Or.inl ⟨by rfl, fun W => by go_simp⟩) ?_
                    simp only [n1, n3, n4]
                    refine wpK_store (i := 10) (none) rfl rfl (by kernel_rfl) (by rfl) (by rfl) (fun W240 hg241 => ⟨_, run_store_mid 35 (.tmp 2) (.tmp 91) rfl g4 0 #[.string (bstr n0), .bool s_, .bool l_, .bool f_, .int .i64 (Ma.nr d0), .int .i64 (Ma.nr y0), .int .i64 (Ma.nr y1), .int .i64 (Ma.nr y2)] rfl rfl ((S229.out.gr (Gr.un hg241)).room 2 rfl 0 8 (by simp)) (by kernel_rfl) (by kernel_rfl), ?_⟩)
                    simp only [n2]
                    obtain ⟨U242, hu_, hS_⟩ := ((S229.out.gr (Gr.un hg241)).put 2 rfl 0 (#[.string (bstr n0), .bool s_, .bool l_, .bool f_, .int .i64 (Ma.nr d0), .int .i64 (Ma.nr y0), .int .i64 (Ma.nr y1), .int .i64 (Ma.nr y2)] : Array Value).toList (ds := [.string (bstr n0), .bool s_, .bool l_, .bool f_, .int .i64 (Ma.nr d0), .int .i64 (Ma.nr y0), .int .i64 (Ma.nr y1), .int .i64 (Ma.nr y2)]) rfl).named
                    rw [← hu_]
                    have S243 : Hid (St w noB [blk g45 35 [.string (bstr n0), .bool s_, .bool l_, .bool f_, .int .i64 (Ma.nr d0), .int .i64 (Ma.nr y0), .int .i64 (Ma.nr y1), .int .i64 (Ma.nr y2)], own (.slice (some ⟨wg, 0, none⟩) 8 wc) 9 1 8 ([n0, k0, f0, d0, e0, y0, y1, y2].map sv), blk g4 35 [.string (bstr n0), .bool s_, .bool l_, .bool f_, .int .i64 (Ma.nr d0), .int .i64 (Ma.nr y0), .int .i64 (Ma.nr y1), .int .i64 (Ma.nr y2)]] U242) := Lib.hid hS_
                    clear S229
                    clear hu_ hS_ hg241
                    refine wpK_ta (i := 11) (some 3) (v := .bool (decide (¬ ((Ma.nr y0) = 0 ∧ (Ma.nr y1) = 0 ∧ (Ma.nr y2) = 0)))) rfl rfl (by kernel_rfl) (fun _ _ _ h => onN_panic h) (Or.inl ⟨rfl, fun _ => rfl⟩) ?_
                    simp only [n1, n3, n4]
                    refine wpK_done (by kernel_rfl) (fun V244 hv245 => ?_) _
                    have S246 : Hid (St w noB [blk g45 35 [.string (bstr n0), .bool s_, .bool l_, .bool f_, .int .i64 (Ma.nr d0), .int .i64 (Ma.nr y0), .int .i64 (Ma.nr y1), .int .i64 (Ma.nr y2)], own (.slice (some ⟨wg, 0, none⟩) 8 wc) 9 1 8 ([n0, k0, f0, d0, e0, y0, y1, y2].map sv), blk g4 35 [.string (bstr n0), .bool s_, .bool l_, .bool f_, .int .i64 (Ma.nr d0), .int .i64 (Ma.nr y0), .int .i64 (Ma.nr y1), .int .i64 (Ma.nr y2)]] V244) := Lib.hid (S243.out.gr hv245)
                    clear S243
                    clear hv245
                    refine ⟨rfl, hK _ _ ?_⟩
                    clear hK
                    go_wp2_with fail
                    (try simp only [Exit.inBlock, Exit.then])
                    refine bodyPost_ret (results_cell_tmp rfl _ _ _ g4 0 [.string (bstr n0), .bool s_, .bool l_, .bool f_, .int .i64 (Ma.nr d0), .int .i64 (Ma.nr y0), .int .i64 (Ma.nr y1), .int .i64 (Ma.nr y2)] _ rfl (S246.out.range 2 rfl 0 8 rfl) Tryd.underlying35 rfl (by kernel_rfl)) rfl ?_
                    obtain ⟨c247, hc247⟩ : ∃ q_, q_ = (decide (¬ ((Ma.nr y0) = 0 ∧ (Ma.nr y1) = 0 ∧ (Ma.nr y2) = 0))) := ⟨_, rfl⟩
                    rw [← hc247]
                    have Hc247 := Lib.hid hc247
                    clear hc247
                    cases c247 with
                    | true =>
                      have f248 := Lib.hid (of_decide_eq_true Hc247.out.symm)
                      (have e_f42 := f42.out; have e_f145 := f145.out; have e_f248 := f248.out; have hk_ := HK_.out; obtain ⟨v_, hv_, hr_⟩ := Ma.nr_pos (w := d0) (by omega); have h4_ := Ma.mat4_yes hk_ hv_ f29 e_f42; obtain ⟨v0_, hv0_, hr0_⟩ := Ma.nr_pos (w := y0) (by omega); obtain ⟨v1_, hv1_, hr1_⟩ := Ma.nr_pos (w := y1) (by omega); obtain ⟨v2_, hv2_, hr2_⟩ := Ma.nr_pos (w := y2) (by omega); have hz_ := e_f248; rw [hr0_, hr1_, hr2_] at hz_; have h : Ma.mat x = some _ := (Ma.mat_w hw).trans (Ma.m8_yes h4_ (Ma.e3_yes e_f145 hv0_ hv1_ hv2_ hz_)); exact ⟨((⟨n0, s_, l_, f_, (Ma.nr d0), (Ma.nr y0), (Ma.nr y1), (Ma.nr y2)⟩ : Ma.Mt) : Ma.Mt), by show Ending.returned (.tuple #[.agg #[.string (bstr n0), .bool s_, .bool l_, .bool f_, .int .i64 (Ma.nr d0), .int .i64 (Ma.nr y0), .int .i64 (Ma.nr y1), .int .i64 (Ma.nr y2)], .bool true]) = _; rw [h]; rfl, fun m_ hm_ => (by rw [h] at hm_; injection hm_ with hm_; rw [← hm_, hr_, hr0_, hr1_, hr2_]), S246.out.bel⟩)
                    | false =>
                      have f249 := of_decide_eq_false Hc247.out.symm
                      (have e_f42 := f42.out; have e_f145 := f145.out; obtain ⟨v0_, hv0_, hr0_⟩ := Ma.nr_pos (w := y0) (by omega); obtain ⟨v1_, hv1_, hr1_⟩ := Ma.nr_pos (w := y1) (by omega); obtain ⟨v2_, hv2_, hr2_⟩ := Ma.nr_pos (w := y2) (by omega); have hz_ := f249; rw [hr0_, hr1_, hr2_] at hz_; have h : Ma.mat x = none := (Ma.mat_w hw).trans (Ma.m8_e (Ma.e3_zero hv0_ hv1_ hv2_ (Decidable.not_not.1 hz_))); exact ⟨((⟨n0, s_, l_, f_, (Ma.nr d0), (Ma.nr y0), (Ma.nr y1), (Ma.nr y2)⟩ : Ma.Mt) : Ma.Mt), by show Ending.returned (.tuple #[.agg #[.string (bstr n0), .bool s_, .bool l_, .bool f_, .int .i64 (Ma.nr d0), .int .i64 (Ma.nr y0), .int .i64 (Ma.nr y1), .int .i64 (Ma.nr y2)], .bool false]) = _; rw [h]; rfl, fun m_ hm_ => (by rw [h] at hm_; cases hm_), S246.out.bel⟩)
set_option maxRecDepth 1000000 in
set_option maxHeartbeats 4000000 in
theorem rmat_no (x : List UInt8) (w : World) (hx : x.length ≤ 1000000) (h4 : ¬ (Ma.words x).length = 4) (h8 : ¬ (Ma.words x).length = 8) :
    Calls Tryd.prog 41 #[.string (bstr x)] w fun e w' => ∃ m : Ma.Mt, e = .returned (.tuple #[.agg #[.string (bstr m.n), .bool m.s, .bool m.l, .bool m.f, .int .i64 m.fd, .int .i64 m.a, .int .i64 m.b, .int .i64 m.c], .bool ((Ma.mat x).isSome)]) ∧ (∀ m', Ma.mat x = some m' → m' = m) ∧ Below w.heap.size w w' := by
  have S1 : Hid (St w noB [] w) := Lib.hid (St.start w)
  go_enter Tryd.func41, Tryd.ntmps41
  go_upto_region 0 with fail
  refine wpG_region_k (fun K hK => ?_)
  refine wpG_val (some 2) rfl (by rfl) (fun W2 hg3 => ⟨.pointer (some ⟨W2.heap.size, 0, none⟩), W2.alloc (.cells #[.string ⟨#[]⟩, .bool false, .bool false, .bool false, .int .i64 0, .int .i64 0, .int .i64 0, .int .i64 0] 35), by (first | (go_simp; done) | (go_simp <;> rfl)), ?_⟩)
  simp only [n1, n3, n4]
  obtain ⟨g4, U5, hg_, hu_, hS_⟩ := (S1.out.gr hg3).made [.string ⟨#[]⟩, .bool false, .bool false, .bool false, .int .i64 0, .int .i64 0, .int .i64 0, .int .i64 0] 35
  rw [← hu_, ← hg_]
  have S6 : Hid (St w noB [blk g4 35 [.string ⟨#[]⟩, .bool false, .bool false, .bool false, .int .i64 0, .int .i64 0, .int .i64 0, .int .i64 0]] U5) := Lib.hid hS_
  clear S1
  clear hg_ hu_ hS_ hg3
  refine @wpG_p _ _ _ _ _ (some 3) (.bool false) _ _ rfl (by rfl) (fun _ => rfl) ?_
  simp only [n1, n3, n4]
  refine wpG_done (fun V7 hv8 => ?_)
  have S9 : Hid (St w noB [blk g4 35 [.string ⟨#[]⟩, .bool false, .bool false, .bool false, .int .i64 0, .int .i64 0, .int .i64 0, .int .i64 0]] V7) := Lib.hid (S6.out.gr hv8)
  clear S6
  clear hv8
  refine ⟨rfl, hK _ _ ?_⟩
  clear hK
  go_upto_region 1 with fail
  refine wpG_region_k (fun K hK => ?_)
  refine @wpG_p _ _ _ _ _ (some 7) (.string (bstr x)) _ _ rfl (by rfl) (fun _ => rfl) ?_
  simp only [n1, n3, n4]
  refine wpG_call (some 8) 56 #[.string (bstr x)] rfl (by rfl) (fun W => by go_simp) (fun W10 hg11 => ?_)
  refine (words_any x W10 (by omega)).mono ?_
  rintro e w12 ⟨wA, wn, wc, rfl, hS_⟩
  refine ⟨_, rfl, ?_⟩
  have hwn := own_len (hS_.ownr 0 rfl)
  have hn4 : ¬ wn = 4 := by rw [hwn]; exact h4
  have hn8 : ¬ wn = 8 := by rw [hwn]; exact h8
  clear hwn
  have hT_ := (S9.out.gr hg11).got hS_
  simp only [n1, n3, n4]
  have S13 : Hid (St w noB [own (.slice wA wn wc) 9 1 wn ((Ma.words x).map sv), blk g4 35 [.string ⟨#[]⟩, .bool false, .bool false, .bool false, .int .i64 0, .int .i64 0, .int .i64 0, .int .i64 0]] w12) := Lib.hid hT_
  clear S9
  clear hT_ hS_ hg11
  refine @wpG_p _ _ _ _ _ (some 4) (.slice wA wn wc) _ _ rfl (by rfl) (fun _ => rfl) ?_
  simp only [n1, n3, n4]
  refine wpG_done (fun V14 hv15 => ?_)
  have S16 : Hid (St w noB [own (.slice wA wn wc) 9 1 wn ((Ma.words x).map sv), blk g4 35 [.string ⟨#[]⟩, .bool false, .bool false, .bool false, .int .i64 0, .int .i64 0, .int .i64 0, .int .i64 0]] V14) := Lib.hid (S13.out.gr hv15)
  clear S13
  clear hv15
  refine ⟨rfl, hK _ _ ?_⟩
  clear hK
  go_upto_region 2 with fail
  refine wpG_region_k (fun K hK => ?_)
  refine @wpG_p _ _ _ _ _ (some 9) (.slice wA wn wc) _ _ rfl (by rfl) (fun _ => rfl) ?_
  simp only [n1, n3, n4]
  refine @wpG_p _ _ _ _ _ (some 10) (.int .i64 (wn : Int)) _ _ rfl (by rfl) (fun W => by go_simp) ?_
  simp only [n1, n3, n4]
  refine @wpG_p _ _ _ _ _ (some 11) (.bool true) _ _ rfl (by rfl) (fun W => by have hq : ((wn : Int) ≠ 4) := (by omega); first | (go_simp; done) | (go_simp <;> omega)) ?_
  simp only [n1, n3, n4]
  refine @wpG_p _ _ _ _ _ (some 12) (.bool true) _ _ rfl (by rfl) (fun _ => rfl) ?_
  simp only [n1, n3, n4]
  refine @wpG_p _ _ _ _ _ (some 13) (.slice wA wn wc) _ _ rfl (by rfl) (fun _ => rfl) ?_
  simp only [n1, n3, n4]
  refine @wpG_p _ _ _ _ _ (some 14) (.int .i64 (wn : Int)) _ _ rfl (by rfl) (fun W => by go_simp) ?_
  simp only [n1, n3, n4]
  refine @wpG_p _ _ _ _ _ (some 15) (.bool true) _ _ rfl (by rfl) (fun W => by have hq : ((wn : Int) ≠ 8) := (by omega); first | (go_simp; done) | (go_simp <;> omega)) ?_
  simp only [n1, n3, n4]
  refine @wpG_p _ _ _ _ _ (some 16) (.bool true) _ _ rfl (by rfl) (fun W => by go_simp) ?_
  simp only [n1, n3, n4]
  refine @wpG_p _ _ _ _ _ (some 17) (.bool true) _ _ rfl (by rfl) (fun _ => rfl) ?_
  simp only [n1, n3, n4]
  refine @wpG_no _ _ _ _ _ (some 18) _ _ rfl (by rfl) ?_
  simp only [n1, n3, n4]
  refine @wpG_no _ _ _ _ _ (some 19) _ _ rfl (by rfl) ?_
  simp only [n1, n3, n4]
  refine @wpG_no _ _ _ _ _ (some 20) _ _ rfl (by rfl) ?_
  simp only [n1, n3, n4]
  refine @wpG_no _ _ _ _ _ (some 21) _ _ rfl (by rfl) ?_
  simp only [n1, n3, n4]
  refine @wpG_p _ _ _ _ _ (some 22) (.bool true) _ _ rfl (by rfl) (fun W => by go_simp) ?_
  simp only [n1, n3, n4]
  refine @wpG_p _ _ _ _ _ (some 23) (.bool true) _ _ rfl (by rfl) (fun _ => rfl) ?_
  simp only [n1, n3, n4]
  refine @wpG_no _ _ _ _ _ (some 24) _ _ rfl (by rfl) ?_
  simp only [n1, n3, n4]
  refine @wpG_no _ _ _ _ _ (some 25) _ _ rfl (by rfl) ?_
  simp only [n1, n3, n4]
  refine @wpG_no _ _ _ _ _ (some 26) _ _ rfl (by rfl) ?_
  simp only [n1, n3, n4]
  refine @wpG_no _ _ _ _ _ (some 27) _ _ rfl (by rfl) ?_
  simp only [n1, n3, n4]
  refine @wpG_p _ _ _ _ _ (some 28) (.bool true) _ _ rfl (by rfl) (fun W => by go_simp) ?_
  simp only [n1, n3, n4]
  refine wpG_done (fun V17 hv18 => ?_)
  have S19 : Hid (St w noB [own (.slice wA wn wc) 9 1 wn ((Ma.words x).map sv), blk g4 35 [.string ⟨#[]⟩, .bool false, .bool false, .bool false, .int .i64 0, .int .i64 0, .int .i64 0, .int .i64 0]] V17) := Lib.hid (S16.out.gr hv18)
  clear S16
  clear hv18
  refine ⟨rfl, hK _ _ ?_⟩
  clear hK
  go_upto_region 3 with fail
  refine wpG_region_k (fun K hK => ?_)
  refine @wpG_p _ _ _ _ _ (some 29) (.agg #[.string ⟨#[]⟩, .bool false, .bool false, .bool false, .int .i64 0, .int .i64 0, .int .i64 0, .int .i64 0]) _ _ rfl (by rfl) (fun W => by go_simp) ?_
  simp only [n1, n3, n4]
  refine wpG_store (none) rfl (by rfl) (fun W20 hg21 => ⟨_, run_store_mid 35 (.tmp 2) (.tmp 29) rfl g4 0 #[.string ⟨#[]⟩, .bool false, .bool false, .bool false, .int .i64 0, .int .i64 0, .int .i64 0, .int .i64 0] rfl rfl ((S19.out.gr hg21).room 1 rfl 0 8 (by simp)) (by kernel_rfl) (by kernel_rfl), ?_⟩)
  simp only [n2]
  obtain ⟨U22, hu_, hS_⟩ := ((S19.out.gr hg21).put 1 rfl 0 (#[.string ⟨#[]⟩, .bool false, .bool false, .bool false, .int .i64 0, .int .i64 0, .int .i64 0, .int .i64 0] : Array Value).toList (ds := [.string ⟨#[]⟩, .bool false, .bool false, .bool false, .int .i64 0, .int .i64 0, .int .i64 0, .int .i64 0]) rfl).named
  rw [← hu_]
  have S23 : Hid (St w noB [own (.slice wA wn wc) 9 1 wn ((Ma.words x).map sv), blk g4 35 [.string ⟨#[]⟩, .bool false, .bool false, .bool false, .int .i64 0, .int .i64 0, .int .i64 0, .int .i64 0]] U22) := Lib.hid hS_
  clear S19
  clear hu_ hS_ hg21
  refine @wpG_p _ _ _ _ _ (some 3) (.bool false) _ _ rfl (by rfl) (fun _ => rfl) ?_
  simp only [n1, n3, n4]
  refine wpG_done (fun V24 hv25 => ?_)
  have S26 : Hid (St w noB [own (.slice wA wn wc) 9 1 wn ((Ma.words x).map sv), blk g4 35 [.string ⟨#[]⟩, .bool false, .bool false, .bool false, .int .i64 0, .int .i64 0, .int .i64 0, .int .i64 0]] V24) := Lib.hid (S23.out.gr hv25)
  clear S23
  clear hv25
  refine ⟨rfl, hK _ _ ?_⟩
  clear hK
  go_wp2_with fail
  (try simp only [Exit.inBlock, Exit.then])
  refine bodyPost_ret (results_cell_tmp rfl _ _ _ g4 0 [.string ⟨#[]⟩, .bool false, .bool false, .bool false, .int .i64 0, .int .i64 0, .int .i64 0, .int .i64 0] _ rfl (S26.out.range 1 rfl 0 8 rfl) Tryd.underlying35 rfl (by kernel_rfl)) rfl ?_
  (have h : Ma.mat x = none := (Ma.mat_w rfl).trans (Ma.matw_len h4 h8); exact ⟨((⟨[], false, false, false, 0, 0, 0, 0⟩ : Ma.Mt) : Ma.Mt), by show Ending.returned (.tuple #[.agg #[.string ⟨#[]⟩, .bool false, .bool false, .bool false, .int .i64 0, .int .i64 0, .int .i64 0, .int .i64 0], .bool false]) = _; rw [h]; rfl, fun m_ hm_ => (by rw [h] at hm_; cases hm_), S26.out.bel⟩)
theorem rmat_any (x : List UInt8) (w : World) (hx : x.length ≤ 1000000) : Calls Tryd.prog 41 #[.string (bstr x)] w (fun e w' => ∃ m : Ma.Mt, e = .returned (.tuple #[.agg #[.string (bstr m.n), .bool m.s, .bool m.l, .bool m.f, .int .i64 m.fd, .int .i64 m.a, .int .i64 m.b, .int .i64 m.c], .bool ((Ma.mat x).isSome)]) ∧ (∀ m', Ma.mat x = some m' → m' = m) ∧ Below w.heap.size w w') := by
  by_cases h4 : (Ma.words x).length = 4
  · match hw : Ma.words x, h4 with
    | [a, b, c, d], _ => exact rmat_4 x a b c d w hx hw
  · by_cases h8 : (Ma.words x).length = 8
    · match hw : Ma.words x, h8 with
      | [a, b, c, d, e, f, g, h], _ => exact rmat_8 x a b c d e f g h w hx hw
    · exact rmat_no x w hx h4 h8

end Go.Proofs.YtpjjddjoegnipaaDoor
