/-
  Contracts of package palette: fields gathered from bits.
-/
import Derived.Test.YtfomieekdbkcnaaPk10
import Derived.Test.YtfomieekdbkcnaaPk11
import Derived.Test.YtfomieekdbkcnaaKrq
import Derived.Handy
namespace Go.Proofs.Ytfomieekdbkcnaa
open Go Go.RowKit
set_option linter.unusedVariables false
set_option linter.unusedSimpArgs false
set_option maxRecDepth 1000000 in
set_option maxHeartbeats 4000000 in
theorem inTurn_any (N : Int) (A : Option Addr) (m c : Nat) (w : World) :
    Calls Try.prog 39 #[.int .i64 N, .slice A m c] w fun e w' => ∃ gn gu gl, e = .returned (.func (.func 50) #[] #[.pointer (some ⟨gn, 0, none⟩), .pointer (some ⟨gu, 0, none⟩), .pointer (some ⟨gl, 0, none⟩)]) ∧ St w noB [blk gu 3 [.int .i64 0], blk gl 22 [.slice A m c], blk gn 3 [.int .i64 N]] w' := by
  have S1 : Hid (St w noB [] w) := Lib.hid (St.start w)
  go_enter Try.func39, Try.ntmps39
  go_upto_region 0 with fail
  refine wpG_region_k (fun K hK => ?_)
  refine wpG_val (some 2) rfl (by rfl) (fun W2 hg3 => ⟨.pointer (some ⟨W2.heap.size, 0, none⟩), W2.alloc (.cells #[.int .i64 N] 3), by (first | (go_simp; done) | (go_simp <;> rfl)), ?_⟩)
  simp only [n1, n3, n4]
  obtain ⟨g4, U5, hg_, hu_, hS_⟩ := (S1.out.gr hg3).made [.int .i64 N] 3
  rw [← hu_, ← hg_]
  have S6 : Hid (St w noB [blk g4 3 [.int .i64 N]] U5) := Lib.hid hS_
  clear S1
  clear hg_ hu_ hS_ hg3
  refine wpG_val (some 3) rfl (by rfl) (fun W7 hg8 => ⟨.pointer (some ⟨W7.heap.size, 0, none⟩), W7.alloc (.cells #[.slice A m c] 22), by (first | (go_simp; done) | (go_simp <;> rfl)), ?_⟩)
  simp only [n1, n3, n4]
  obtain ⟨g9, U10, hg_, hu_, hS_⟩ := (S6.out.gr hg8).made [.slice A m c] 22
  rw [← hu_, ← hg_]
  have S11 : Hid (St w noB [blk g9 22 [.slice A m c], blk g4 3 [.int .i64 N]] U10) := Lib.hid hS_
  clear S6
  clear hg_ hu_ hS_ hg8
  refine @wpG_p _ _ _ _ _ (some 4) (.nilFunc) _ _ rfl (by rfl) (fun _ => rfl) ?_
  simp only [n1, n3, n4]
  refine wpG_done (fun V12 hv13 => ?_)
  have S14 : Hid (St w noB [blk g9 22 [.slice A m c], blk g4 3 [.int .i64 N]] V12) := Lib.hid (S11.out.gr hv13)
  clear S11
  clear hv13
  refine ⟨rfl, hK _ _ ?_⟩
  clear hK
  go_upto_region 1 with fail
  refine wpG_region_k (fun K hK => ?_)
  refine wpG_val (some 5) rfl (by rfl) (fun W15 hg16 => ⟨.pointer (some ⟨W15.heap.size, 0, none⟩), W15.alloc (.cells #[.int .i64 0] 3), by (first | (go_simp; done) | (go_simp <;> rfl)), ?_⟩)
  simp only [n1, n3, n4]
  obtain ⟨g17, U18, hg_, hu_, hS_⟩ := (S14.out.gr hg16).made [.int .i64 0] 3
  rw [← hu_, ← hg_]
  have S19 : Hid (St w noB [blk g17 3 [.int .i64 0], blk g9 22 [.slice A m c], blk g4 3 [.int .i64 N]] U18) := Lib.hid hS_
  clear S14
  clear hg_ hu_ hS_ hg16
  refine wpG_store (none) rfl (by rfl) (fun W20 hg21 => ⟨W20.setCell ⟨g17, 0, none⟩ (.int .i64 0), by have c := (S19.out.gr hg21).cell 0 rfl 0 rfl; have c2 := (S19.out.gr hg21).soft 0 rfl 0 rfl; go_simp, ?_⟩)
  simp only [n2]
  obtain ⟨U22, hu_, hS_⟩ := ((S19.out.gr hg21).put1 0 rfl 0 (.int .i64 0)).named
  rw [← hu_]
  have S23 : Hid (St w noB [blk g17 3 [.int .i64 0], blk g9 22 [.slice A m c], blk g4 3 [.int .i64 N]] U22) := Lib.hid hS_
  clear S19
  clear hu_ hS_ hg21
  refine wpG_done (fun V24 hv25 => ?_)
  have S26 : Hid (St w noB [blk g17 3 [.int .i64 0], blk g9 22 [.slice A m c], blk g4 3 [.int .i64 N]] V24) := Lib.hid (S23.out.gr hv25)
  clear S23
  clear hv25
  refine ⟨rfl, hK _ _ ?_⟩
  clear hK
  go_upto_region 2 with fail
  refine wpG_region_k (fun K hK => ?_)
  refine @wpG_p _ _ _ _ _ (some 6) (.func (.func 50) #[] #[.pointer (some ⟨g4, 0, none⟩), .pointer (some ⟨g17, 0, none⟩), .pointer (some ⟨g9, 0, none⟩)]) _ _ rfl (by rfl) (fun W => by go_simp) ?_
  simp only [n1, n3, n4]
  refine @wpG_p _ _ _ _ _ (some 4) (.func (.func 50) #[] #[.pointer (some ⟨g4, 0, none⟩), .pointer (some ⟨g17, 0, none⟩), .pointer (some ⟨g9, 0, none⟩)]) _ _ rfl (by rfl) (fun _ => rfl) ?_
  simp only [n1, n3, n4]
  refine wpG_done (fun V27 hv28 => ?_)
  have S29 : Hid (St w noB [blk g17 3 [.int .i64 0], blk g9 22 [.slice A m c], blk g4 3 [.int .i64 N]] V27) := Lib.hid (S26.out.gr hv28)
  clear S26
  clear hv28
  refine ⟨rfl, hK _ _ ?_⟩
  clear hK
  go_wp2_with fail
  go_ret
  exact ⟨g4, g17, g9, rfl, S29.out⟩
set_option maxRecDepth 1000000 in
set_option maxHeartbeats 4000000 in
theorem turn_any (x U : Nat) (N : Int) (gn gu gl : Nat) (A : Option Addr) (m c : Nat) (p : List Int) (F : Nat → Prop) (w : World) (hN : 1 ≤ N ∧ N ≤ 1000) (hU : U ≤ 1000) (hm : m ≤ 1000) (hB : Sts [blk gu 3 [.int .i64 (U : Int)], blk gl 22 [.slice A m c], blk gn 3 [.int .i64 N], own (.slice A m c) 3 1 m (ic p)] w F) :
    Calls Try.prog 50 #[.int .i64 (x : Int), .pointer (some ⟨gn, 0, none⟩), .pointer (some ⟨gu, 0, none⟩), .pointer (some ⟨gl, 0, none⟩)] w fun e w' => e = .returned (.tuple #[.int .i64 (Pl.tv p U x), .bool (Pl.tg p U x N)]) ∧ St w F [blk gu 3 [.int .i64 (Pl.tu p U x : Int)], blk gl 22 [.slice A m c], blk gn 3 [.int .i64 (N - 1)], own (.slice A m c) 3 1 m (ic p)] w' := by
  have HML : Hid (p.length = m) := Lib.hid (own_icl ((St.borrow hB).ownr 3 rfl)).symm
  have S1 : Hid (St w F [blk gu 3 [.int .i64 (U : Int)], blk gl 22 [.slice A m c], blk gn 3 [.int .i64 N], own (.slice A m c) 3 1 m (ic p)] w) := Lib.hid (St.borrow hB)
  go_enter Try.func50, Try.ntmps50
  go_upto_region 0 with fail
  refine wpG_region_k (fun K hK => ?_)
  refine @wpG_p _ _ _ _ _ (some 5) (.int .i64 0) _ _ rfl (by rfl) (fun _ => rfl) ?_
  simp only [n1, n3, n4]
  refine @wpG_p _ _ _ _ _ (some 6) (.bool false) _ _ rfl (by rfl) (fun _ => rfl) ?_
  simp only [n1, n3, n4]
  refine wpG_done (fun V2 hv3 => ?_)
  have S4 : Hid (St w F [blk gu 3 [.int .i64 (U : Int)], blk gl 22 [.slice A m c], blk gn 3 [.int .i64 N], own (.slice A m c) 3 1 m (ic p)] V2) := Lib.hid (S1.out.gr hv3)
  clear S1
  clear hv3
  refine ⟨rfl, hK _ _ ?_⟩
  clear hK
  go_upto_region 1 with fail
  refine wpG_region_k (fun K hK => ?_)
  refine @wpG_r _ _ _ _ _ (some 7) (.int .i64 N) _ _ rfl (by rfl) (fun W hg => by have c := (S4.out.gr hg).cell 2 rfl 0 rfl; go_simp) ?_
  simp only [n1, n3, n4]
  refine @wpG_p _ _ _ _ _ (some 8) (.int .i64 (N - 1)) _ _ rfl (by rfl) (fun W => op_i_sub W N 1 (by omega) rfl rfl rfl Try.underlying3) ?_
  simp only [n1, n3, n4]
  refine wpG_store (none) rfl (by rfl) (fun W5 hg6 => ⟨W5.setCell ⟨gn, 0, none⟩ (.int .i64 (N - 1)), by have c := (S4.out.gr hg6).cell 2 rfl 0 rfl; have c2 := (S4.out.gr hg6).soft 2 rfl 0 rfl; go_simp, ?_⟩)
  simp only [n2]
  obtain ⟨U7, hu_, hS_⟩ := ((S4.out.gr hg6).put1 2 rfl 0 (.int .i64 (N - 1))).named
  rw [← hu_]
  have S8 : Hid (St w F [blk gu 3 [.int .i64 (U : Int)], blk gl 22 [.slice A m c], blk gn 3 [.int .i64 (N - 1)], own (.slice A m c) 3 1 m (ic p)] U7) := Lib.hid hS_
  clear S4
  clear hu_ hS_ hg6
  refine wpG_done (fun V9 hv10 => ?_)
  have S11 : Hid (St w F [blk gu 3 [.int .i64 (U : Int)], blk gl 22 [.slice A m c], blk gn 3 [.int .i64 (N - 1)], own (.slice A m c) 3 1 m (ic p)] V9) := Lib.hid (S8.out.gr hv10)
  clear S8
  clear hv10
  refine ⟨rfl, hK _ _ ?_⟩
  clear hK
  go_upto_region 2 with fail
  refine wpG_region_k (fun K hK => ?_)
  refine @wpG_p _ _ _ _ _ (some 9) (.int .i64 (x : Int)) _ _ rfl (by rfl) (fun _ => rfl) ?_
  simp only [n1, n3, n4]
  refine @wpG_r _ _ _ _ _ (some 10) (.int .i64 (U : Int)) _ _ rfl (by rfl) (fun W hg => by have c := (S11.out.gr hg).cell 0 rfl 0 rfl; go_simp) ?_
  simp only [n1, n3, n4]
  refine @wpG_p _ _ _ _ _ (some 11) (.bool (decide ((x : Int) > (U : Int)))) _ _ rfl (by rfl) (fun W => op_int_gtr W (x : Int) (U : Int) rfl rfl rfl Try.underlying3) ?_
  simp only [n1, n3, n4]
  refine @wpG_p _ _ _ _ _ (some 12) (.bool (decide ((x : Int) > (U : Int)))) _ _ rfl (by rfl) (fun _ => rfl) ?_
  simp only [n1, n3, n4]
  obtain ⟨c12, hc12⟩ : ∃ q_, q_ = (decide ((x : Int) > (U : Int))) := ⟨_, rfl⟩
  rw [← hc12]
  have Hc12 := Lib.hid hc12
  clear hc12
  cases c12 with
  | true =>
    have f13 := of_decide_eq_true Hc12.out.symm
    refine @wpG_no _ _ _ _ _ (some 13) _ _ rfl (by rfl) ?_
    simp only [n1, n3, n4]
    refine @wpG_no _ _ _ _ _ (some 14) _ _ rfl (by rfl) ?_
    simp only [n1, n3, n4]
    refine @wpG_no _ _ _ _ _ (some 15) _ _ rfl (by rfl) ?_
    simp only [n1, n3, n4]
    refine @wpG_no _ _ _ _ _ (some 16) _ _ rfl (by rfl) ?_
    simp only [n1, n3, n4]
    refine @wpG_p _ _ _ _ _ (some 17) (.bool true) _ _ rfl (by rfl) (fun W => by go_simp) ?_
    simp only [n1, n3, n4]
    refine wpG_done (fun V14 hv15 => ?_)
    have S16 : Hid (St w F [blk gu 3 [.int .i64 (U : Int)], blk gl 22 [.slice A m c], blk gn 3 [.int .i64 (N - 1)], own (.slice A m c) 3 1 m (ic p)] V14) := Lib.hid (S11.out.gr hv15)
    clear S11
    clear hv15
    refine ⟨rfl, hK _ _ ?_⟩
    clear hK
    go_upto_region 3 with fail
    refine wpG_region_k (fun K hK => ?_)
    refine @wpG_p _ _ _ _ _ (some 5) (.int .i64 0) _ _ rfl (by rfl) (fun _ => rfl) ?_
    simp only [n1, n3, n4]
    refine @wpG_p _ _ _ _ _ (some 6) (.bool false) _ _ rfl (by rfl) (fun _ => rfl) ?_
    simp only [n1, n3, n4]
    refine wpG_done (fun V17 hv18 => ?_)
    have S19 : Hid (St w F [blk gu 3 [.int .i64 (U : Int)], blk gl 22 [.slice A m c], blk gn 3 [.int .i64 (N - 1)], own (.slice A m c) 3 1 m (ic p)] V17) := Lib.hid (S16.out.gr hv18)
    clear S16
    clear hv18
    refine ⟨rfl, hK _ _ ?_⟩
    clear hK
    go_wp2_with fail
    go_ret2
    (have hml_ : p.length = m := HML.out; obtain ⟨e1_, e2_, e3_⟩ := Pl.tv_no (p := p) (U := U) (x := x) (N := N) (by omega); rw [e1_, e2_, e3_]; exact ⟨rfl, S19.out⟩)
  | false =>
    have f20 := of_decide_eq_false Hc12.out.symm
    refine @wpG_p _ _ _ _ _ (some 13) (.int .i64 (x : Int)) _ _ rfl (by rfl) (fun _ => rfl) ?_
    simp only [n1, n3, n4]
    refine @wpG_r _ _ _ _ _ (some 14) (.slice A m c) _ _ rfl (by rfl) (fun W hg => by have c := (S11.out.gr hg).cell 1 rfl 0 rfl; go_simp) ?_
    simp only [n1, n3, n4]
    refine @wpG_p _ _ _ _ _ (some 15) (.int .i64 (m : Int)) _ _ rfl (by rfl) (fun W => by go_simp) ?_
    simp only [n1, n3, n4]
    refine @wpG_p _ _ _ _ _ (some 16) (.bool (decide ((x : Int) ≥ (m : Int)))) _ _ rfl (by rfl) (fun W => op_int_geq W (x : Int) (m : Int) rfl rfl rfl Try.underlying3) ?_
    simp only [n1, n3, n4]
    refine @wpG_p _ _ _ _ _ (some 17) (.bool (decide ((x : Int) ≥ (m : Int)))) _ _ rfl (by rfl) (fun W => by go_simp) ?_
    simp only [n1, n3, n4]
    refine wpG_done (fun V21 hv22 => ?_)
    have S23 : Hid (St w F [blk gu 3 [.int .i64 (U : Int)], blk gl 22 [.slice A m c], blk gn 3 [.int .i64 (N - 1)], own (.slice A m c) 3 1 m (ic p)] V21) := Lib.hid (S11.out.gr hv22)
    clear S11
    clear hv22
    refine ⟨rfl, hK _ _ ?_⟩
    clear hK
    obtain ⟨c24, hc24⟩ : ∃ q_, q_ = (decide ((x : Int) ≥ (m : Int))) := ⟨_, rfl⟩
    rw [← hc24]
    have Hc24 := Lib.hid hc24
    clear hc24
    cases c24 with
    | true =>
      have f25 := of_decide_eq_true Hc24.out.symm
      go_upto_region 3 with fail
      refine wpG_region_k (fun K hK => ?_)
      refine @wpG_p _ _ _ _ _ (some 5) (.int .i64 0) _ _ rfl (by rfl) (fun _ => rfl) ?_
      simp only [n1, n3, n4]
      refine @wpG_p _ _ _ _ _ (some 6) (.bool false) _ _ rfl (by rfl) (fun _ => rfl) ?_
      simp only [n1, n3, n4]
      refine wpG_done (fun V26 hv27 => ?_)
      have S28 : Hid (St w F [blk gu 3 [.int .i64 (U : Int)], blk gl 22 [.slice A m c], blk gn 3 [.int .i64 (N - 1)], own (.slice A m c) 3 1 m (ic p)] V26) := Lib.hid (S23.out.gr hv27)
      clear S23
      clear hv27
      refine ⟨rfl, hK _ _ ?_⟩
      clear hK
      go_wp2_with fail
      go_ret2
      (have hml_ : p.length = m := HML.out; obtain ⟨e1_, e2_, e3_⟩ := Pl.tv_no (p := p) (U := U) (x := x) (N := N) (by omega); rw [e1_, e2_, e3_]; exact ⟨rfl, S28.out⟩)
    | false =>
      have f29 := of_decide_eq_false Hc24.out.symm
      go_upto_region 4 with fail
      refine wpG_region_k (fun K hK => ?_)
      refine @wpG_p _ _ _ _ _ (some 18) (.int .i64 (x : Int)) _ _ rfl (by rfl) (fun _ => rfl) ?_
      simp only [n1, n3, n4]
      refine @wpG_r _ _ _ _ _ (some 19) (.int .i64 (U : Int)) _ _ rfl (by rfl) (fun W hg => by have c := (S23.out.gr hg).cell 0 rfl 0 rfl; go_simp) ?_
      simp only [n1, n3, n4]
      refine @wpG_p _ _ _ _ _ (some 20) (.bool (decide ((x : Int) = (U : Int)))) _ _ rfl (by rfl) (fun W => op_int_eql W (x : Int) (U : Int) rfl rfl rfl Try.underlying3) ?_
      simp only [n1, n3, n4]
      refine wpG_done (fun V30 hv31 => ?_)
      have S32 : Hid (St w F [blk gu 3 [.int .i64 (U : Int)], blk gl 22 [.slice A m c], blk gn 3 [.int .i64 (N - 1)], own (.slice A m c) 3 1 m (ic p)] V30) := Lib.hid (S23.out.gr hv31)
      clear S23
      clear hv31
      refine ⟨rfl, hK _ _ ?_⟩
      clear hK
      obtain ⟨c33, hc33⟩ : ∃ q_, q_ = (decide ((x : Int) = (U : Int))) := ⟨_, rfl⟩
      rw [← hc33]
      have Hc33 := Lib.hid hc33
      clear hc33
      cases c33 with
      | true =>
        have f34 := Lib.hid (of_decide_eq_true Hc33.out.symm)
        have f34a := Int.le_of_eq f34.out
        have f34b := Int.le_of_eq f34.out.symm
        go_upto_region 5 with fail
        refine wpG_region_k (fun K hK => ?_)
        refine @wpG_r _ _ _ _ _ (some 21) (.int .i64 (U : Int)) _ _ rfl (by rfl) (fun W hg => by have c := (S32.out.gr hg).cell 0 rfl 0 rfl; go_simp) ?_
        simp only [n1, n3, n4]
        refine @wpG_p _ _ _ _ _ (some 22) (.int .i64 ((U : Int) + 1)) _ _ rfl (by rfl) (fun W => op_i_add W (U : Int) 1 (by omega) rfl rfl rfl Try.underlying3) ?_
        simp only [n1, n3, n4]
        refine wpG_store (none) rfl (by rfl) (fun W35 hg36 => ⟨W35.setCell ⟨gu, 0, none⟩ (.int .i64 ((U : Int) + 1)), by have c := (S32.out.gr hg36).cell 0 rfl 0 rfl; have c2 := (S32.out.gr hg36).soft 0 rfl 0 rfl; go_simp, ?_⟩)
        simp only [n2]
        obtain ⟨U37, hu_, hS_⟩ := ((S32.out.gr hg36).put1 0 rfl 0 (.int .i64 ((U : Int) + 1))).named
        rw [← hu_]
        have S38 : Hid (St w F [blk gu 3 [.int .i64 ((U : Int) + 1)], blk gl 22 [.slice A m c], blk gn 3 [.int .i64 (N - 1)], own (.slice A m c) 3 1 m (ic p)] U37) := Lib.hid hS_
        clear S32
        clear hu_ hS_ hg36
        refine wpG_done (fun V39 hv40 => ?_)
        have S41 : Hid (St w F [blk gu 3 [.int .i64 ((U : Int) + 1)], blk gl 22 [.slice A m c], blk gn 3 [.int .i64 (N - 1)], own (.slice A m c) 3 1 m (ic p)] V39) := Lib.hid (S38.out.gr hv40)
        clear S38
        clear hv40
        refine ⟨rfl, hK _ _ ?_⟩
        clear hK
        go_upto_region 6 with fail
        refine wpK_region_k (by kernel_rfl) (fun K hK => ?_)
        refine wpK_ta (i := 1) (some 24) (v := .int .i64 (x : Int)) rfl rfl (by kernel_rfl) (fun _ _ _ h => onN_panic h) (Or.inl ⟨rfl, fun _ => rfl⟩) ?_
        simp only [n1, n3, n4]
        refine wpK_tk (i := 0) (some 23) (v := .slice A m c) rfl rfl (by kernel_rfl) (fun _ _ _ h => onN_panic h) (.val (by rfl) (fun W hg => by have c := (S41.out.gr (Gr.un hg)).cell 1 rfl 0 rfl; go_simp)) ?_
        simp only [n1, n3, n4]
        obtain ⟨og42, rfl⟩ := ownAdr (S41.out.ownr 3 rfl) (by omega)
        have hix_ : x < m := by omega
        refine wpK_ta (i := 2) (some 25) (v := .pointer (some ⟨og42, x, none⟩)) rfl rfl (by kernel_rfl) (fun _ _ _ h => onN_panic h) (Or.inl ⟨by rfl, fun W => by (go_simp <;> first | rfl | omega | (simp; omega))⟩) ?_
        simp only [n1, n3, n4]
        refine wpK_tk (i := 3) (some 26) (v := .int .i64 (p.getD x 0)) rfl rfl (by kernel_rfl) (fun _ _ _ h => onN_panic h) (.val (by rfl) (fun W hg => by have c := (SL.ofOwn ((S41.out.gr (Gr.un hg)).ownr 3 rfl)).int (l := p) x (by (have := HML.out; omega)) 0 _ rfl; (try simp only [Nat.add_zero, Nat.zero_add] at c); go_simp)) ?_
        simp only [n1, n3, n4]
        refine wpK_ta (i := 10) (some 5) (v := .int .i64 (p.getD x 0)) rfl rfl (by kernel_rfl) (fun _ _ _ h => onN_panic h) (Or.inl ⟨rfl, fun _ => rfl⟩) ?_
        simp only [n1, n3, n4]
        refine wpK_tk (i := 4) (some 27) (v := .slice (some ⟨og42, 0, none⟩) m c) rfl rfl (by kernel_rfl) (fun _ _ _ h => onN_panic h) (.val (by rfl) (fun W hg => by have c := (S41.out.gr (Gr.un hg)).cell 1 rfl 0 rfl; go_simp)) ?_
        simp only [n1, n3, n4]
        refine wpK_ta (i := 5) (some 28) (v := .int .i64 (m : Int)) rfl rfl (by kernel_rfl) (fun _ _ _ h => onN_panic h) (Or.inl ⟨by rfl, fun W => by go_simp⟩) ?_
        simp only [n1, n3, n4]
        refine wpK_tk (i := 6) (some 29) (v := .int .i64 ((U : Int) + 1)) rfl rfl (by kernel_rfl) (fun _ _ _ h => onN_panic h) (.val (by rfl) (fun W hg => by have c := (S41.out.gr (Gr.un hg)).cell 0 rfl 0 rfl; go_simp)) ?_
        simp only [n1, n3, n4]
        refine wpK_ta (i := 7) (some 30) (v := .int .i64 ((m : Int) - ((U : Int) + 1))) rfl rfl (by kernel_rfl) (fun _ _ _ h => onN_panic h) (Or.inl ⟨by rfl, fun W => by exact op_i_sub W (m : Int) ((U : Int) + 1) (by omega) rfl rfl rfl Try.underlying3⟩) ?_
        simp only [n1, n3, n4]
        refine wpK_tk (i := 8) (some 31) (v := .int .i64 (N - 1)) rfl rfl (by kernel_rfl) (fun _ _ _ h => onN_panic h) (.val (by rfl) (fun W hg => by have c := (S41.out.gr (Gr.un hg)).cell 2 rfl 0 rfl; go_simp)) ?_
        simp only [n1, n3, n4]
        refine wpK_ta (i := 9) (some 32) (v := .bool (decide ((m : Int) - ((U : Int) + 1) ≤ N - 1))) rfl rfl (by kernel_rfl) (fun _ _ _ h => onN_panic h) (Or.inl ⟨by rfl, fun W => by exact op_int_leq W ((m : Int) - ((U : Int) + 1)) (N - 1) rfl rfl rfl Try.underlying3⟩) ?_
        simp only [n1, n3, n4]
        refine wpK_ta (i := 11) (some 6) (v := .bool (decide ((m : Int) - ((U : Int) + 1) ≤ N - 1))) rfl rfl (by kernel_rfl) (fun _ _ _ h => onN_panic h) (Or.inl ⟨rfl, fun _ => rfl⟩) ?_
        simp only [n1, n3, n4]
        refine wpK_done (by kernel_rfl) (fun V43 hv44 => ?_) _
        have S45 : Hid (St w F [blk gu 3 [.int .i64 ((U : Int) + 1)], blk gl 22 [.slice (some ⟨og42, 0, none⟩) m c], blk gn 3 [.int .i64 (N - 1)], own (.slice (some ⟨og42, 0, none⟩) m c) 3 1 m (ic p)] V43) := Lib.hid (S41.out.gr (Gr.un hv44))
        clear S41
        clear hv44
        refine ⟨rfl, hK _ _ ?_⟩
        clear hK
        go_wp2_with fail
        go_ret2
        (have e_f34 := f34.out; have hml_ : p.length = m := HML.out; obtain ⟨e1_, e2_, e3_⟩ := Pl.tv_eq (p := p) (U := U) (x := x) (N := N) (by omega) (by omega); rw [e1_, e2_, e3_, hml_]; exact ⟨rfl, S45.out⟩)
      | false =>
        have f46 := of_decide_eq_false Hc33.out.symm
        go_upto_region 6 with fail
        refine wpK_region_k (by kernel_rfl) (fun K hK => ?_)
        refine wpK_ta (i := 1) (some 24) (v := .int .i64 (x : Int)) rfl rfl (by kernel_rfl) (fun _ _ _ h => onN_panic h) (Or.inl ⟨rfl, fun _ => rfl⟩) ?_
        simp only [n1, n3, n4]
        refine wpK_tk (i := 0) (some 23) (v := .slice A m c) rfl rfl (by kernel_rfl) (fun _ _ _ h => onN_panic h) (.val (by rfl) (fun W hg => by have c := (S32.out.gr (Gr.un hg)).cell 1 rfl 0 rfl; go_simp)) ?_
        simp only [n1, n3, n4]
        obtain ⟨og47, rfl⟩ := ownAdr (S32.out.ownr 3 rfl) (by omega)
        have hix_ : x < m := by omega
        refine wpK_ta (i := 2) (some 25) (v := .pointer (some ⟨og47, x, none⟩)) rfl rfl (by kernel_rfl) (fun _ _ _ h => onN_panic h) (Or.inl ⟨by rfl, fun W => by (go_simp <;> first | rfl | omega | (simp; omega))⟩) ?_
        simp only [n1, n3, n4]
        refine wpK_tk (i := 3) (some 26) (v := .int .i64 (p.getD x 0)) rfl rfl (by kernel_rfl) (fun _ _ _ h => onN_panic h) (.val (by rfl) (fun W hg => by have c := (SL.ofOwn ((S32.out.gr (Gr.un hg)).ownr 3 rfl)).int (l := p) x (by (have := HML.out; omega)) 0 _ rfl; (try simp only [Nat.add_zero, Nat.zero_add] at c); go_simp)) ?_
        simp only [n1, n3, n4]
        refine wpK_ta (i := 10) (some 5) (v := .int .i64 (p.getD x 0)) rfl rfl (by kernel_rfl) (fun _ _ _ h => onN_panic h) (Or.inl ⟨rfl, fun _ => rfl⟩) ?_
        simp only [n1, n3, n4]
        refine wpK_tk (i := 4) (some 27) (v := .slice (some ⟨og47, 0, none⟩) m c) rfl rfl (by kernel_rfl) (fun _ _ _ h => onN_panic h) (.val (by rfl) (fun W hg => by have c := (S32.out.gr (Gr.un hg)).cell 1 rfl 0 rfl; go_simp)) ?_
        simp only [n1, n3, n4]
        refine wpK_ta (i := 5) (some 28) (v := .int .i64 (m : Int)) rfl rfl (by kernel_rfl) (fun _ _ _ h => onN_panic h) (Or.inl ⟨by rfl, fun W => by go_simp⟩) ?_
        simp only [n1, n3, n4]
        refine wpK_tk (i := 6) (some 29) (v := .int .i64 (U : Int)) rfl rfl (by kernel_rfl) (fun _ _ _ h => onN_panic h) (.val (by rfl) (fun W hg => by have c := (S32.out.gr (Gr.un hg)).cell 0 rfl 0 rfl; go_simp)) ?_
        simp only [n1, n3, n4]
        refine wpK_ta (i := 7) (some 30) (v := .int .i64 ((m : Int) - (U : Int))) rfl rfl (by kernel_rfl) (fun _ _ _ h => onN_panic h) (Or.inl ⟨by rfl, fun W => by exact op_i_sub W (m : Int) (U : Int) (by omega) rfl rfl rfl Try.underlying3⟩) ?_
        simp only [n1, n3, n4]
        refine wpK_tk (i := 8) (some 31) (v := .int .i64 (N - 1)) rfl rfl (by kernel_rfl) (fun _ _ _ h => onN_panic h) (.val (by rfl) (fun W hg => by have c := (S32.out.gr (Gr.un hg)).cell 2 rfl 0 rfl; go_simp)) ?_
        simp only [n1, n3, n4]
        refine wpK_ta (i := 9) (some 32) (v := .bool (decide ((m : Int) - (U : Int) ≤ N - 1))) rfl rfl (by kernel_rfl) (fun _ _ _ h => onN_panic h) (Or.inl ⟨by rfl, fun W => by exact op_int_leq W ((m : Int) - (U : Int)) (N - 1) rfl rfl rfl Try.underlying3⟩) ?_
        simp only [n1, n3, n4]
        refine wpK_ta (i := 11) (some 6) (v := .bool (decide ((m : Int) - (U : Int) ≤ N - 1))) rfl rfl (by kernel_rfl) (fun _ _ _ h => onN_panic h) (Or.inl ⟨rfl, fun _ => rfl⟩) ?_
        simp only [n1, n3, n4]
        refine wpK_done (by kernel_rfl) (fun V48 hv49 => ?_) _
        have S50 : Hid (St w F [blk gu 3 [.int .i64 (U : Int)], blk gl 22 [.slice (some ⟨og47, 0, none⟩) m c], blk gn 3 [.int .i64 (N - 1)], own (.slice (some ⟨og47, 0, none⟩) m c) 3 1 m (ic p)] V48) := Lib.hid (S32.out.gr (Gr.un hv49))
        clear S32
        clear hv49
        refine ⟨rfl, hK _ _ ?_⟩
        clear hK
        go_wp2_with fail
        go_ret2
        (have hml_ : p.length = m := HML.out; obtain ⟨e1_, e2_, e3_⟩ := Pl.tv_ne (p := p) (U := U) (x := x) (N := N) (by omega) (by omega) (by omega); rw [e1_, e2_, e3_, hml_]; exact ⟨rfl, S50.out⟩)
set_option maxRecDepth 1000000 in
set_option maxHeartbeats 4000000 in
theorem getMask1_any (x : Nat) (w : World) :
    Calls Try.prog 54 #[.int .i64 (x : Int)] w fun e w' => e = .returned (.tuple #[.bool (decide ((x : Int) = 1)), .bool true]) ∧ Below w.heap.size w w' := by
  have S1 : Hid (St w noB [] w) := Lib.hid (St.start w)
  go_enter Try.func54, Try.ntmps54
  go_upto_region 0 with fail
  refine wpG_region_k (fun K hK => ?_)
  refine @wpG_p _ _ _ _ _ (some 2) (.bool false) _ _ rfl (by rfl) (fun _ => rfl) ?_
  simp only [n1, n3, n4]
  refine @wpG_p _ _ _ _ _ (some 3) (.bool false) _ _ rfl (by rfl) (fun _ => rfl) ?_
  simp only [n1, n3, n4]
  refine wpG_done (fun V2 hv3 => ?_)
  have S4 : Hid (St w noB [] V2) := Lib.hid (S1.out.gr hv3)
  clear S1
  clear hv3
  refine ⟨rfl, hK _ _ ?_⟩
  clear hK
  go_upto_region 1 with fail
  refine wpG_region_k (fun K hK => ?_)
  refine @wpG_p _ _ _ _ _ (some 4) (.int .i64 (x : Int)) _ _ rfl (by rfl) (fun _ => rfl) ?_
  simp only [n1, n3, n4]
  refine @wpG_p _ _ _ _ _ (some 5) (.bool (decide ((x : Int) = 1))) _ _ rfl (by rfl) (fun W => op_int_eql W (x : Int) 1 rfl rfl rfl Try.underlying3) ?_
  simp only [n1, n3, n4]
  refine @wpG_p _ _ _ _ _ (some 2) (.bool (decide ((x : Int) = 1))) _ _ rfl (by rfl) (fun _ => rfl) ?_
  simp only [n1, n3, n4]
  refine @wpG_p _ _ _ _ _ (some 3) (.bool true) _ _ rfl (by rfl) (fun _ => rfl) ?_
  simp only [n1, n3, n4]
  refine wpG_done (fun V5 hv6 => ?_)
  have S7 : Hid (St w noB [] V5) := Lib.hid (S4.out.gr hv6)
  clear S4
  clear hv6
  refine ⟨rfl, hK _ _ ?_⟩
  clear hK
  go_wp2_with fail
  go_ret2
  refine ⟨?_, S7.out.bel⟩
  show Ending.returned (.tuple #[.bool (decide ((x : Int) = 1)), .bool true]) = _
  (first | rfl | (rfl))

end Go.Proofs.Ytfomieekdbkcnaa
