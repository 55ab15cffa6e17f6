/-
  Contracts of package palette: Decode, Materials; those of the specification.
-/
import Derived.Test.YtfomieekdbkcnaaPk19
import Derived.Test.YtfomieekdbkcnaaPk21
import Derived.Test.YtfomieekdbkcnaaPk9
import Derived.Handy
namespace Go.Proofs.Ytfomieekdbkcnaa
open Go Go.RowKit
set_option linter.unusedVariables false
set_option linter.unusedSimpArgs false
namespace Pl
/-- Decode -/
def de (x : List UInt8) : List Int × Nat := if (un x).2.2 ≠ 0 then ([], (un x).2.2) else if (un x).2.1 ≠ x.length ∨ (un x).1.length ≠ 64 then ([], 6) else ((un x).1, 0)
theorem de_err {x : List UInt8} (h : (un x).2.2 ≠ 0) : de x = ([], (un x).2.2) := by unfold de; rw [if_pos h]
theorem de_bad {x : List UInt8} (h : (un x).2.2 = 0) (h2 : (un x).2.1 ≠ x.length ∨ (un x).1.length ≠ 64) : de x = ([], 6) := by unfold de; rw [if_neg (by omega), if_pos h2]
theorem de_ok {x : List UInt8} (h : (un x).2.2 = 0) (h2 : ¬ ((un x).2.1 ≠ x.length ∨ (un x).1.length ≠ 64)) : de x = ((un x).1, 0) := by unfold de; rw [if_neg (by omega), if_neg h2]
theorem un_bd (x : List UInt8) : (un x).1.length ≤ 64 ∧ (∀ c ∈ (un x).1, cell c) ∧ ((un x).2.2 = 0 → (un x).2.1 ≤ x.length) := by
  by_cases h : (un x).2.2 = 0
  · obtain ⟨h1, h2, _, h4, _⟩ := pk_un h
    exact ⟨h1, h2, fun _ => h4⟩
  · rw [un_err h]
    exact ⟨by simp, by simp, fun h2 => absurd h2 h⟩
theorem de_cell (x : List UInt8) : (de x).1.length ≤ 64 ∧ ∀ c ∈ (de x).1, cell c := by
  obtain ⟨h1, h2, _⟩ := un_bd x
  unfold de
  split
  · exact ⟨by simp, by simp⟩
  · split
    · exact ⟨by simp, by simp⟩
    · exact ⟨h1, h2⟩
end Pl
set_option maxRecDepth 1000000 in
set_option maxHeartbeats 4000000 in
theorem decode_any (x : List UInt8) (w : World) (hx : x.length ≤ 1000) :
    Calls Try.prog 18 #[.string (bstr x)] w fun e w' => ∃ A q c, e = .returned (.tuple #[.slice A q c, .int .i64 ((Pl.de x).2 : Int)]) ∧ St w noB [own (.slice A q c) 3 1 q (ic (Pl.de x).1)] w' := by
  have S1 : Hid (St w noB [] w) := Lib.hid (St.start w)
  go_enter Try.func18, Try.ntmps18
  go_upto_region 0 with fail
  refine wpG_region_k (fun K hK => ?_)
  refine @wpG_p _ _ _ _ _ (some 2) (.slice none 0 0) _ _ rfl (by rfl) (fun _ => rfl) ?_
  simp only [n1, n3, n4]
  refine @wpG_p _ _ _ _ _ (some 3) (.int .i64 0) _ _ rfl (by rfl) (fun _ => rfl) ?_
  simp only [n1, n3, n4]
  refine wpG_done (fun V2 hv3 => ?_)
  have S4 : Hid (St w noB [] V2) := Lib.hid (S1.out.gr hv3)
  clear S1
  clear hv3
  refine ⟨rfl, hK _ _ ?_⟩
  clear hK
  go_upto_region 1 with fail
  refine wpG_region_k (fun K hK => ?_)
  refine @wpG_p _ _ _ _ _ (some 8) (.string (bstr x)) _ _ rfl (by rfl) (fun _ => rfl) ?_
  simp only [n1, n3, n4]
  refine wpG_call (some 9) 13 #[.string (bstr x)] rfl (by rfl) (fun W => by go_simp) (fun W5 hg6 => ?_)
  refine (unpack_any x W5 (by omega)).mono ?_
  rintro e w7 ⟨D, m, dc, rfl, hS_⟩
  refine ⟨_, rfl, ?_⟩
  have hT_ := (S4.out.gr hg6).got hS_
  simp only [n1, n3, n4]
  have S8 : Hid (St w noB [own (.slice D m dc) 3 1 m (ic ((Pl.un x).1))] w7) := Lib.hid hT_
  clear S4
  clear hT_ hS_ hg6
  have HML : Hid (m = ((Pl.un x).1).length) := Lib.hid (own_icl (S8.out.ownr 0 rfl))
  refine @wpG_p _ _ _ _ _ (some 7) (.tuple #[.slice D m dc, .int .i64 ((Pl.un x).2.1 : Int), .int .i64 ((Pl.un x).2.2 : Int)]) _ _ rfl (by rfl) (fun _ => rfl) ?_
  simp only [n1, n3, n4]
  refine @wpG_p _ _ _ _ _ (some 10) (.slice D m dc) _ _ rfl (by rfl) (fun W => by go_simp) ?_
  simp only [n1, n3, n4]
  refine @wpG_p _ _ _ _ _ (some 11) (.int .i64 ((Pl.un x).2.1 : Int)) _ _ rfl (by rfl) (fun W => by go_simp) ?_
  simp only [n1, n3, n4]
  refine @wpG_p _ _ _ _ _ (some 12) (.int .i64 ((Pl.un x).2.2 : Int)) _ _ rfl (by rfl) (fun W => by go_simp) ?_
  simp only [n1, n3, n4]
  refine @wpG_p _ _ _ _ _ (some 4) (.slice D m dc) _ _ rfl (by rfl) (fun _ => rfl) ?_
  simp only [n1, n3, n4]
  refine @wpG_p _ _ _ _ _ (some 5) (.int .i64 ((Pl.un x).2.1 : Int)) _ _ rfl (by rfl) (fun _ => rfl) ?_
  simp only [n1, n3, n4]
  refine @wpG_p _ _ _ _ _ (some 6) (.int .i64 ((Pl.un x).2.2 : Int)) _ _ rfl (by rfl) (fun _ => rfl) ?_
  simp only [n1, n3, n4]
  refine wpG_done (fun V9 hv10 => ?_)
  have S11 : Hid (St w noB [own (.slice D m dc) 3 1 m (ic ((Pl.un x).1))] V9) := Lib.hid (S8.out.gr hv10)
  clear S8
  clear hv10
  refine ⟨rfl, hK _ _ ?_⟩
  clear hK
  go_upto_region 2 with fail
  refine wpG_region_k (fun K hK => ?_)
  refine @wpG_p _ _ _ _ _ (some 14) (.int .i64 ((Pl.un x).2.2 : Int)) _ _ rfl (by rfl) (fun _ => rfl) ?_
  simp only [n1, n3, n4]
  refine @wpG_p _ _ _ _ _ (some 15) (.bool (decide (((Pl.un x).2.2 : Int) ≠ 0))) _ _ rfl (by rfl) (fun W => op_int_neq W ((Pl.un x).2.2 : Int) 0 rfl rfl rfl Try.underlying24) ?_
  simp only [n1, n3, n4]
  refine @wpG_p _ _ _ _ _ (some 13) (.bool (decide (((Pl.un x).2.2 : Int) ≠ 0))) _ _ rfl (by rfl) (fun _ => rfl) ?_
  simp only [n1, n3, n4]
  refine wpG_done (fun V12 hv13 => ?_)
  have S14 : Hid (St w noB [own (.slice D m dc) 3 1 m (ic ((Pl.un x).1))] V12) := Lib.hid (S11.out.gr hv13)
  clear S11
  clear hv13
  refine ⟨rfl, hK _ _ ?_⟩
  clear hK
  obtain ⟨c15, hc15⟩ : ∃ q_, q_ = (decide (((Pl.un x).2.2 : Int) ≠ 0)) := ⟨_, rfl⟩
  rw [← hc15]
  have Hc15 := Lib.hid hc15
  clear hc15
  cases c15 with
  | true =>
    have f16 := of_decide_eq_true Hc15.out.symm
    go_upto_region 3 with fail
    refine wpG_region_k (fun K hK => ?_)
    refine @wpG_p _ _ _ _ _ (some 16) (.int .i64 ((Pl.un x).2.2 : Int)) _ _ rfl (by rfl) (fun _ => rfl) ?_
    simp only [n1, n3, n4]
    refine @wpG_p _ _ _ _ _ (some 2) (.slice none 0 0) _ _ rfl (by rfl) (fun _ => rfl) ?_
    simp only [n1, n3, n4]
    refine @wpG_p _ _ _ _ _ (some 3) (.int .i64 ((Pl.un x).2.2 : Int)) _ _ rfl (by rfl) (fun _ => rfl) ?_
    simp only [n1, n3, n4]
    refine wpG_done (fun V17 hv18 => ?_)
    have S19 : Hid (St w noB [own (.slice D m dc) 3 1 m (ic ((Pl.un x).1))] V17) := Lib.hid (S14.out.gr hv18)
    clear S14
    clear hv18
    refine ⟨rfl, hK _ _ ?_⟩
    clear hK
    go_wp2_with fail
    go_ret2
    (have hb_ := Pl.un_bd x; have hml_ := HML.out; have hu_ := Pl.de_err (x := x) (by omega); exact ⟨none, 0, 0, by rw [hu_]; rfl, by rw [hu_]; exact S19.out.dropAll.nilOwn _ _⟩)
  | false =>
    have f20 := Lib.hid (Decidable.not_not.1 (of_decide_eq_false Hc15.out.symm))
    have f20a := Int.le_of_eq f20.out
    have f20b := Int.le_of_eq f20.out.symm
    go_upto_region 4 with fail
    refine wpG_region_k (fun K hK => ?_)
    refine @wpG_p _ _ _ _ _ (some 18) (.int .i64 ((Pl.un x).2.1 : Int)) _ _ rfl (by rfl) (fun _ => rfl) ?_
    simp only [n1, n3, n4]
    refine @wpG_p _ _ _ _ _ (some 19) (.string (bstr x)) _ _ rfl (by rfl) (fun _ => rfl) ?_
    simp only [n1, n3, n4]
    refine @wpG_p _ _ _ _ _ (some 20) (.int .i64 (x.length : Int)) _ _ rfl (by rfl) (fun W => op_str_len W x rfl rfl Try.underlying9) ?_
    simp only [n1, n3, n4]
    refine @wpG_p _ _ _ _ _ (some 21) (.bool (decide (((Pl.un x).2.1 : Int) < (x.length : Int)))) _ _ rfl (by rfl) (fun W => op_int_lss W ((Pl.un x).2.1 : Int) (x.length : Int) rfl rfl rfl Try.underlying3) ?_
    simp only [n1, n3, n4]
    refine @wpG_p _ _ _ _ _ (some 22) (.bool (decide (((Pl.un x).2.1 : Int) < (x.length : Int)))) _ _ rfl (by rfl) (fun _ => rfl) ?_
    simp only [n1, n3, n4]
    obtain ⟨c21, hc21⟩ : ∃ q_, q_ = (decide (((Pl.un x).2.1 : Int) < (x.length : Int))) := ⟨_, rfl⟩
    rw [← hc21]
    have Hc21 := Lib.hid hc21
    clear hc21
    cases c21 with
    | true =>
      have f22 := of_decide_eq_true Hc21.out.symm
      refine @wpG_no _ _ _ _ _ (some 23) _ _ rfl (by rfl) ?_
      simp only [n1, n3, n4]
      refine @wpG_no _ _ _ _ _ (some 24) _ _ rfl (by rfl) ?_
      simp only [n1, n3, n4]
      refine @wpG_no _ _ _ _ _ (some 25) _ _ rfl (by rfl) ?_
      simp only [n1, n3, n4]
      refine @wpG_p _ _ _ _ _ (some 26) (.bool true) _ _ rfl (by rfl) (fun W => by go_simp) ?_
      simp only [n1, n3, n4]
      refine @wpG_p _ _ _ _ _ (some 17) (.bool true) _ _ rfl (by rfl) (fun _ => rfl) ?_
      simp only [n1, n3, n4]
      refine wpG_done (fun V23 hv24 => ?_)
      have S25 : Hid (St w noB [own (.slice D m dc) 3 1 m (ic ((Pl.un x).1))] V23) := Lib.hid (S14.out.gr hv24)
      clear S14
      clear hv24
      refine ⟨rfl, hK _ _ ?_⟩
      clear hK
      go_upto_region 5 with fail
      refine wpG_region_k (fun K hK => ?_)
      refine @wpG_p _ _ _ _ _ (some 2) (.slice none 0 0) _ _ rfl (by rfl) (fun _ => rfl) ?_
      simp only [n1, n3, n4]
      refine @wpG_p _ _ _ _ _ (some 3) (.int .i64 6) _ _ rfl (by rfl) (fun _ => rfl) ?_
      simp only [n1, n3, n4]
      refine wpG_done (fun V26 hv27 => ?_)
      have S28 : Hid (St w noB [own (.slice D m dc) 3 1 m (ic ((Pl.un x).1))] V26) := Lib.hid (S25.out.gr hv27)
      clear S25
      clear hv27
      refine ⟨rfl, hK _ _ ?_⟩
      clear hK
      go_wp2_with fail
      go_ret2
      (have e_f20 := f20.out; have hb_ := Pl.un_bd x; have hml_ := HML.out; have hu_ := Pl.de_bad (x := x) (by omega) (by omega); exact ⟨none, 0, 0, by rw [hu_]; rfl, by rw [hu_]; exact S28.out.dropAll.nilOwn _ _⟩)
    | false =>
      have f29 := of_decide_eq_false Hc21.out.symm
      refine @wpG_p _ _ _ _ _ (some 23) (.slice D m dc) _ _ rfl (by rfl) (fun _ => rfl) ?_
      simp only [n1, n3, n4]
      refine @wpG_p _ _ _ _ _ (some 24) (.int .i64 (m : Int)) _ _ rfl (by rfl) (fun W => by go_simp) ?_
      simp only [n1, n3, n4]
      refine @wpG_p _ _ _ _ _ (some 25) (.bool (decide ((m : Int) ≠ 64))) _ _ rfl (by rfl) (fun W => op_int_neq W (m : Int) 64 rfl rfl rfl Try.underlying3) ?_
      simp only [n1, n3, n4]
      refine @wpG_p _ _ _ _ _ (some 26) (.bool (decide ((m : Int) ≠ 64))) _ _ rfl (by rfl) (fun W => by go_simp) ?_
      simp only [n1, n3, n4]
      refine @wpG_p _ _ _ _ _ (some 17) (.bool (decide ((m : Int) ≠ 64))) _ _ rfl (by rfl) (fun _ => rfl) ?_
      simp only [n1, n3, n4]
      refine wpG_done (fun V30 hv31 => ?_)
      have S32 : Hid (St w noB [own (.slice D m dc) 3 1 m (ic ((Pl.un x).1))] V30) := Lib.hid (S14.out.gr hv31)
      clear S14
      clear hv31
      refine ⟨rfl, hK _ _ ?_⟩
      clear hK
      obtain ⟨c33, hc33⟩ : ∃ q_, q_ = (decide ((m : Int) ≠ 64)) := ⟨_, rfl⟩
      rw [← hc33]
      have Hc33 := Lib.hid hc33
      clear hc33
      cases c33 with
      | true =>
        have f34 := of_decide_eq_true Hc33.out.symm
        go_upto_region 5 with fail
        refine wpG_region_k (fun K hK => ?_)
        refine @wpG_p _ _ _ _ _ (some 2) (.slice none 0 0) _ _ rfl (by rfl) (fun _ => rfl) ?_
        simp only [n1, n3, n4]
        refine @wpG_p _ _ _ _ _ (some 3) (.int .i64 6) _ _ rfl (by rfl) (fun _ => rfl) ?_
        simp only [n1, n3, n4]
        refine wpG_done (fun V35 hv36 => ?_)
        have S37 : Hid (St w noB [own (.slice D m dc) 3 1 m (ic ((Pl.un x).1))] V35) := Lib.hid (S32.out.gr hv36)
        clear S32
        clear hv36
        refine ⟨rfl, hK _ _ ?_⟩
        clear hK
        go_wp2_with fail
        go_ret2
        (have e_f20 := f20.out; have hb_ := Pl.un_bd x; have hml_ := HML.out; have hu_ := Pl.de_bad (x := x) (by omega) (by omega); exact ⟨none, 0, 0, by rw [hu_]; rfl, by rw [hu_]; exact S37.out.dropAll.nilOwn _ _⟩)
      | false =>
        have f38 := Lib.hid (Decidable.not_not.1 (of_decide_eq_false Hc33.out.symm))
        have f38a := Int.le_of_eq f38.out
        have f38b := Int.le_of_eq f38.out.symm
        go_upto_region 6 with fail
        refine wpG_region_k (fun K hK => ?_)
        refine @wpG_p _ _ _ _ _ (some 27) (.slice D m dc) _ _ rfl (by rfl) (fun _ => rfl) ?_
        simp only [n1, n3, n4]
        refine @wpG_p _ _ _ _ _ (some 2) (.slice D m dc) _ _ rfl (by rfl) (fun _ => rfl) ?_
        simp only [n1, n3, n4]
        refine @wpG_p _ _ _ _ _ (some 3) (.int .i64 0) _ _ rfl (by rfl) (fun _ => rfl) ?_
        simp only [n1, n3, n4]
        refine wpG_done (fun V39 hv40 => ?_)
        have S41 : Hid (St w noB [own (.slice D m dc) 3 1 m (ic ((Pl.un x).1))] V39) := Lib.hid (S32.out.gr hv40)
        clear S32
        clear hv40
        refine ⟨rfl, hK _ _ ?_⟩
        clear hK
        go_wp2_with fail
        go_ret2
        (have e_f20 := f20.out; have e_f38 := f38.out; have hb_ := Pl.un_bd x; have hml_ := HML.out; have hu_ := Pl.de_ok (x := x) (by omega) (by omega); exact ⟨D, m, dc, by rw [hu_]; rfl, by rw [hu_]; exact S41.out.sub (.cons_cons _ .slnil)⟩)
set_option maxRecDepth 1000000 in
set_option maxHeartbeats 4000000 in
theorem rdecode_any (x : List UInt8) (w : World) (hx : x.length ≤ 1000) :
    Calls Try.prog 19 #[.string (bstr x)] w fun e w' => ∃ A q c, e = .returned (.tuple #[.slice A q c, .int .i64 ((Pl.de x).2 : Int)]) ∧ St w noB [own (.slice A q c) 3 1 q (ic (Pl.de x).1)] w' := by
  have S1 : Hid (St w noB [] w) := Lib.hid (St.start w)
  go_enter Try.func19, Try.ntmps19
  go_upto_region 0 with fail
  refine wpG_region_k (fun K hK => ?_)
  refine @wpG_p _ _ _ _ _ (some 2) (.slice none 0 0) _ _ rfl (by rfl) (fun _ => rfl) ?_
  simp only [n1, n3, n4]
  refine @wpG_p _ _ _ _ _ (some 3) (.int .i64 0) _ _ rfl (by rfl) (fun _ => rfl) ?_
  simp only [n1, n3, n4]
  refine wpG_done (fun V2 hv3 => ?_)
  have S4 : Hid (St w noB [] V2) := Lib.hid (S1.out.gr hv3)
  clear S1
  clear hv3
  refine ⟨rfl, hK _ _ ?_⟩
  clear hK
  go_upto_region 1 with fail
  refine wpG_region_k (fun K hK => ?_)
  refine @wpG_p _ _ _ _ _ (some 5) (.string (bstr x)) _ _ rfl (by rfl) (fun _ => rfl) ?_
  simp only [n1, n3, n4]
  refine wpG_call (some 6) 14 #[.string (bstr x)] rfl (by rfl) (fun W => by go_simp) (fun W5 hg6 => ?_)
  refine (runpack_any x W5 (by omega)).mono ?_
  rintro e w7 ⟨D, m, dc, rfl, hS_⟩
  refine ⟨_, rfl, ?_⟩
  have hT_ := (S4.out.gr hg6).got hS_
  simp only [n1, n3, n4]
  have S8 : Hid (St w noB [own (.slice D m dc) 3 1 m (ic ((Pl.un x).1))] w7) := Lib.hid hT_
  clear S4
  clear hT_ hS_ hg6
  have HML : Hid (m = ((Pl.un x).1).length) := Lib.hid (own_icl (S8.out.ownr 0 rfl))
  refine wpG_val (some 4) rfl (by rfl) (fun W9 hg10 => ⟨.pointer (some ⟨W9.heap.size, 0, none⟩), W9.alloc (.cells #[.slice none 0 0, .int .i64 0, .int .i64 0] 30), by (first | (go_simp; done) | (go_simp <;> rfl)), ?_⟩)
  simp only [n1, n3, n4]
  obtain ⟨g11, U12, hg_, hu_, hS_⟩ := (S8.out.gr hg10).made [.slice none 0 0, .int .i64 0, .int .i64 0] 30
  rw [← hu_, ← hg_]
  have S13 : Hid (St w noB [blk g11 30 [.slice none 0 0, .int .i64 0, .int .i64 0], own (.slice D m dc) 3 1 m (ic ((Pl.un x).1))] U12) := Lib.hid hS_
  clear S8
  clear hg_ hu_ hS_ hg10
  refine wpG_store (none) rfl (by rfl) (fun W14 hg15 => ⟨_, run_store_mid 30 (.tmp 4) (.tmp 6) rfl g11 0 #[.slice D m dc, .int .i64 ((Pl.un x).2.1 : Int), .int .i64 ((Pl.un x).2.2 : Int)] rfl rfl ((S13.out.gr hg15).room 0 rfl 0 3 (by simp)) (by kernel_rfl) (by kernel_rfl), ?_⟩)
  simp only [n2]
  obtain ⟨U16, hu_, hS_⟩ := ((S13.out.gr hg15).put 0 rfl 0 (#[.slice D m dc, .int .i64 ((Pl.un x).2.1 : Int), .int .i64 ((Pl.un x).2.2 : Int)] : Array Value).toList (ds := [.slice D m dc, .int .i64 ((Pl.un x).2.1 : Int), .int .i64 ((Pl.un x).2.2 : Int)]) rfl).named
  rw [← hu_]
  have S17 : Hid (St w noB [blk g11 30 [.slice D m dc, .int .i64 ((Pl.un x).2.1 : Int), .int .i64 ((Pl.un x).2.2 : Int)], own (.slice D m dc) 3 1 m (ic ((Pl.un x).1))] U16) := Lib.hid hS_
  clear S13
  clear hu_ hS_ hg15
  refine wpG_done (fun V18 hv19 => ?_)
  have S20 : Hid (St w noB [blk g11 30 [.slice D m dc, .int .i64 ((Pl.un x).2.1 : Int), .int .i64 ((Pl.un x).2.2 : Int)], own (.slice D m dc) 3 1 m (ic ((Pl.un x).1))] V18) := Lib.hid (S17.out.gr hv19)
  clear S17
  clear hv19
  refine ⟨rfl, hK _ _ ?_⟩
  clear hK
  go_upto_region 2 with fail
  refine wpG_region_k (fun K hK => ?_)
  refine @wpG_p _ _ _ _ _ (some 7) (.pointer (some ⟨g11, 2, none⟩)) _ _ rfl (by rfl) (fun W => by go_simp) ?_
  simp only [n1, n3, n4]
  refine @wpG_r _ _ _ _ _ (some 8) (.int .i64 ((Pl.un x).2.2 : Int)) _ _ rfl (by rfl) (fun W hg => by have c := (S20.out.gr hg).cell 0 rfl 2 rfl; go_simp) ?_
  simp only [n1, n3, n4]
  refine @wpG_p _ _ _ _ _ (some 9) (.bool (decide (((Pl.un x).2.2 : Int) ≠ 0))) _ _ rfl (by rfl) (fun W => op_int_neq W ((Pl.un x).2.2 : Int) 0 rfl rfl rfl Try.underlying24) ?_
  simp only [n1, n3, n4]
  refine wpG_done (fun V21 hv22 => ?_)
  have S23 : Hid (St w noB [blk g11 30 [.slice D m dc, .int .i64 ((Pl.un x).2.1 : Int), .int .i64 ((Pl.un x).2.2 : Int)], own (.slice D m dc) 3 1 m (ic ((Pl.un x).1))] V21) := Lib.hid (S20.out.gr hv22)
  clear S20
  clear hv22
  refine ⟨rfl, hK _ _ ?_⟩
  clear hK
  obtain ⟨c24, hc24⟩ : ∃ q_, q_ = (decide (((Pl.un x).2.2 : Int) ≠ 0)) := ⟨_, rfl⟩
  rw [← hc24]
  have Hc24 := Lib.hid hc24
  clear hc24
  cases c24 with
  | true =>
    have f25 := of_decide_eq_true Hc24.out.symm
    go_upto_region 3 with fail
    refine wpK_region_k (by kernel_rfl) (fun K hK => ?_)
    refine wpK_ta (i := 0) (some 10) (v := .pointer (some ⟨g11, 2, none⟩)) rfl rfl (by kernel_rfl) (fun _ _ _ h => onN_panic h) (Or.inl ⟨by rfl, fun W => by go_simp⟩) ?_
    simp only [n1, n3, n4]
    refine wpK_ta (i := 2) (some 2) (v := .slice none 0 0) rfl rfl (by kernel_rfl) (fun _ _ _ h => onN_panic h) (Or.inl ⟨rfl, fun _ => rfl⟩) ?_
    simp only [n1, n3, n4]
    refine wpK_tk (i := 1) (some 11) (v := .int .i64 ((Pl.un x).2.2 : Int)) rfl rfl (by kernel_rfl) (fun _ _ _ h => onN_panic h) (.val (by rfl) (fun W hg => by have c := (S23.out.gr (Gr.un hg)).cell 0 rfl 2 rfl; go_simp)) ?_
    simp only [n1, n3, n4]
    refine wpK_ta (i := 3) (some 3) (v := .int .i64 ((Pl.un x).2.2 : Int)) rfl rfl (by kernel_rfl) (fun _ _ _ h => onN_panic h) (Or.inl ⟨rfl, fun _ => rfl⟩) ?_
    simp only [n1, n3, n4]
    refine wpK_done (by kernel_rfl) (fun V26 hv27 => ?_) _
    have S28 : Hid (St w noB [blk g11 30 [.slice D m dc, .int .i64 ((Pl.un x).2.1 : Int), .int .i64 ((Pl.un x).2.2 : Int)], own (.slice D m dc) 3 1 m (ic ((Pl.un x).1))] V26) := Lib.hid (S23.out.gr (Gr.un hv27))
    clear S23
    clear hv27
    refine ⟨rfl, hK _ _ ?_⟩
    clear hK
    go_wp2_with fail
    go_ret2
    (have hb_ := Pl.un_bd x; have hml_ := HML.out; have hu_ := Pl.de_err (x := x) (by omega); exact ⟨none, 0, 0, by rw [hu_]; rfl, by rw [hu_]; exact S28.out.dropAll.nilOwn _ _⟩)
  | false =>
    have f29 := Lib.hid (Decidable.not_not.1 (of_decide_eq_false Hc24.out.symm))
    have f29a := Int.le_of_eq f29.out
    have f29b := Int.le_of_eq f29.out.symm
    go_upto_region 4 with fail
    refine wpG_region_k (fun K hK => ?_)
    refine @wpG_p _ _ _ _ _ (some 12) (.pointer (some ⟨g11, 1, none⟩)) _ _ rfl (by rfl) (fun W => by go_simp) ?_
    simp only [n1, n3, n4]
    refine @wpG_r _ _ _ _ _ (some 13) (.int .i64 ((Pl.un x).2.1 : Int)) _ _ rfl (by rfl) (fun W hg => by have c := (S23.out.gr hg).cell 0 rfl 1 rfl; go_simp) ?_
    simp only [n1, n3, n4]
    refine @wpG_p _ _ _ _ _ (some 14) (.string (bstr x)) _ _ rfl (by rfl) (fun _ => rfl) ?_
    simp only [n1, n3, n4]
    refine @wpG_p _ _ _ _ _ (some 15) (.int .i64 (x.length : Int)) _ _ rfl (by rfl) (fun W => op_str_len W x rfl rfl Try.underlying9) ?_
    simp only [n1, n3, n4]
    refine @wpG_p _ _ _ _ _ (some 16) (.bool (decide (((Pl.un x).2.1 : Int) ≠ (x.length : Int)))) _ _ rfl (by rfl) (fun W => op_int_neq W ((Pl.un x).2.1 : Int) (x.length : Int) rfl rfl rfl Try.underlying3) ?_
    simp only [n1, n3, n4]
    refine @wpG_p _ _ _ _ _ (some 17) (.bool (decide (((Pl.un x).2.1 : Int) ≠ (x.length : Int)))) _ _ rfl (by rfl) (fun _ => rfl) ?_
    simp only [n1, n3, n4]
    obtain ⟨c30, hc30⟩ : ∃ q_, q_ = (decide (((Pl.un x).2.1 : Int) ≠ (x.length : Int))) := ⟨_, rfl⟩
    rw [← hc30]
    have Hc30 := Lib.hid hc30
    clear hc30
    cases c30 with
    | true =>
      have f31 := of_decide_eq_true Hc30.out.symm
      refine @wpG_no _ _ _ _ _ (some 18) _ _ rfl (by rfl) ?_
      simp only [n1, n3, n4]
      refine @wpG_no _ _ _ _ _ (some 19) _ _ rfl (by rfl) ?_
      simp only [n1, n3, n4]
      refine @wpG_no _ _ _ _ _ (some 20) _ _ rfl (by rfl) ?_
      simp only [n1, n3, n4]
      refine @wpG_no _ _ _ _ _ (some 21) _ _ rfl (by rfl) ?_
      simp only [n1, n3, n4]
      refine @wpG_p _ _ _ _ _ (some 22) (.bool true) _ _ rfl (by rfl) (fun W => by go_simp) ?_
      simp only [n1, n3, n4]
      refine wpG_done (fun V32 hv33 => ?_)
      have S34 : Hid (St w noB [blk g11 30 [.slice D m dc, .int .i64 ((Pl.un x).2.1 : Int), .int .i64 ((Pl.un x).2.2 : Int)], own (.slice D m dc) 3 1 m (ic ((Pl.un x).1))] V32) := Lib.hid (S23.out.gr hv33)
      clear S23
      clear hv33
      refine ⟨rfl, hK _ _ ?_⟩
      clear hK
      go_upto_region 5 with fail
      refine wpG_region_k (fun K hK => ?_)
      refine @wpG_p _ _ _ _ _ (some 2) (.slice none 0 0) _ _ rfl (by rfl) (fun _ => rfl) ?_
      simp only [n1, n3, n4]
      refine @wpG_p _ _ _ _ _ (some 3) (.int .i64 6) _ _ rfl (by rfl) (fun _ => rfl) ?_
      simp only [n1, n3, n4]
      refine wpG_done (fun V35 hv36 => ?_)
      have S37 : Hid (St w noB [blk g11 30 [.slice D m dc, .int .i64 ((Pl.un x).2.1 : Int), .int .i64 ((Pl.un x).2.2 : Int)], own (.slice D m dc) 3 1 m (ic ((Pl.un x).1))] V35) := Lib.hid (S34.out.gr hv36)
      clear S34
      clear hv36
      refine ⟨rfl, hK _ _ ?_⟩
      clear hK
      go_wp2_with fail
      go_ret2
      (have e_f29 := f29.out; have hb_ := Pl.un_bd x; have hml_ := HML.out; have hu_ := Pl.de_bad (x := x) (by omega) (by omega); exact ⟨none, 0, 0, by rw [hu_]; rfl, by rw [hu_]; exact S37.out.dropAll.nilOwn _ _⟩)
    | false =>
      have f38 := Lib.hid (Decidable.not_not.1 (of_decide_eq_false Hc30.out.symm))
      have f38a := Int.le_of_eq f38.out
      have f38b := Int.le_of_eq f38.out.symm
      refine @wpG_p _ _ _ _ _ (some 18) (.pointer (some ⟨g11, 0, none⟩)) _ _ rfl (by rfl) (fun W => by go_simp) ?_
      simp only [n1, n3, n4]
      refine @wpG_r _ _ _ _ _ (some 19) (.slice D m dc) _ _ rfl (by rfl) (fun W hg => by have c := (S23.out.gr hg).cell 0 rfl 0 rfl; go_simp) ?_
      simp only [n1, n3, n4]
      refine @wpG_p _ _ _ _ _ (some 20) (.int .i64 (m : Int)) _ _ rfl (by rfl) (fun W => by go_simp) ?_
      simp only [n1, n3, n4]
      refine @wpG_p _ _ _ _ _ (some 21) (.bool (decide ((m : Int) ≠ 64))) _ _ rfl (by rfl) (fun W => op_int_neq W (m : Int) 64 rfl rfl rfl Try.underlying3) ?_
      simp only [n1, n3, n4]
      refine @wpG_p _ _ _ _ _ (some 22) (.bool (decide ((m : Int) ≠ 64))) _ _ rfl (by rfl) (fun W => by go_simp) ?_
      simp only [n1, n3, n4]
      refine wpG_done (fun V39 hv40 => ?_)
      have S41 : Hid (St w noB [blk g11 30 [.slice D m dc, .int .i64 ((Pl.un x).2.1 : Int), .int .i64 ((Pl.un x).2.2 : Int)], own (.slice D m dc) 3 1 m (ic ((Pl.un x).1))] V39) := Lib.hid (S23.out.gr hv40)
      clear S23
      clear hv40
      refine ⟨rfl, hK _ _ ?_⟩
      clear hK
      obtain ⟨c42, hc42⟩ : ∃ q_, q_ = (decide ((m : Int) ≠ 64)) := ⟨_, rfl⟩
      rw [← hc42]
      have Hc42 := Lib.hid hc42
      clear hc42
      cases c42 with
      | true =>
        have f43 := of_decide_eq_true Hc42.out.symm
        go_upto_region 5 with fail
        refine wpG_region_k (fun K hK => ?_)
        refine @wpG_p _ _ _ _ _ (some 2) (.slice none 0 0) _ _ rfl (by rfl) (fun _ => rfl) ?_
        simp only [n1, n3, n4]
        refine @wpG_p _ _ _ _ _ (some 3) (.int .i64 6) _ _ rfl (by rfl) (fun _ => rfl) ?_
        simp only [n1, n3, n4]
        refine wpG_done (fun V44 hv45 => ?_)
        have S46 : Hid (St w noB [blk g11 30 [.slice D m dc, .int .i64 ((Pl.un x).2.1 : Int), .int .i64 ((Pl.un x).2.2 : Int)], own (.slice D m dc) 3 1 m (ic ((Pl.un x).1))] V44) := Lib.hid (S41.out.gr hv45)
        clear S41
        clear hv45
        refine ⟨rfl, hK _ _ ?_⟩
        clear hK
        go_wp2_with fail
        go_ret2
        (have e_f29 := f29.out; have e_f38 := f38.out; have hb_ := Pl.un_bd x; have hml_ := HML.out; have hu_ := Pl.de_bad (x := x) (by omega) (by omega); exact ⟨none, 0, 0, by rw [hu_]; rfl, by rw [hu_]; exact S46.out.dropAll.nilOwn _ _⟩)
      | false =>
        have f47 := Lib.hid (Decidable.not_not.1 (of_decide_eq_false Hc42.out.symm))
        have f47a := Int.le_of_eq f47.out
        have f47b := Int.le_of_eq f47.out.symm
        go_upto_region 6 with fail
        refine wpG_region_k (fun K hK => ?_)
        refine @wpG_p _ _ _ _ _ (some 23) (.pointer (some ⟨g11, 0, none⟩)) _ _ rfl (by rfl) (fun W => by go_simp) ?_
        simp only [n1, n3, n4]
        refine @wpG_r _ _ _ _ _ (some 24) (.slice D m dc) _ _ rfl (by rfl) (fun W hg => by have c := (S41.out.gr hg).cell 0 rfl 0 rfl; go_simp) ?_
        simp only [n1, n3, n4]
        refine @wpG_p _ _ _ _ _ (some 2) (.slice D m dc) _ _ rfl (by rfl) (fun _ => rfl) ?_
        simp only [n1, n3, n4]
        refine @wpG_p _ _ _ _ _ (some 3) (.int .i64 0) _ _ rfl (by rfl) (fun _ => rfl) ?_
        simp only [n1, n3, n4]
        refine wpG_done (fun V48 hv49 => ?_)
        have S50 : Hid (St w noB [blk g11 30 [.slice D m dc, .int .i64 ((Pl.un x).2.1 : Int), .int .i64 ((Pl.un x).2.2 : Int)], own (.slice D m dc) 3 1 m (ic ((Pl.un x).1))] V48) := Lib.hid (S41.out.gr hv49)
        clear S41
        clear hv49
        refine ⟨rfl, hK _ _ ?_⟩
        clear hK
        go_wp2_with fail
        go_ret2
        (have e_f29 := f29.out; have e_f38 := f38.out; have e_f47 := f47.out; have hb_ := Pl.un_bd x; have hml_ := HML.out; have hu_ := Pl.de_ok (x := x) (by omega) (by omega); exact ⟨D, m, dc, by rw [hu_]; rfl, by rw [hu_]; exact S50.out.sub (.cons _ (.cons_cons _ .slnil))⟩)
set_option maxRecDepth 1000000 in
set_option maxHeartbeats 4000000 in
theorem materials_any (x : List UInt8) (w : World) (hx : x.length ≤ 1000) :
    Calls Try.prog 20 #[.string (bstr x)] w fun e w' => ∃ A q c, e = .returned (.tuple #[.slice A q c, .int .i64 ((Pl.de x).2 : Int)]) ∧ St w noB [own (.slice A q c) 3 1 q (ic (Pl.pal (Pl.de x).1))] w' := by
  have S1 : Hid (St w noB [] w) := Lib.hid (St.start w)
  go_enter Try.func20, Try.ntmps20
  go_upto_region 0 with fail
  refine wpG_region_k (fun K hK => ?_)
  refine @wpG_p _ _ _ _ _ (some 2) (.slice none 0 0) _ _ rfl (by rfl) (fun _ => rfl) ?_
  simp only [n1, n3, n4]
  refine @wpG_p _ _ _ _ _ (some 3) (.int .i64 0) _ _ rfl (by rfl) (fun _ => rfl) ?_
  simp only [n1, n3, n4]
  refine wpG_done (fun V2 hv3 => ?_)
  have S4 : Hid (St w noB [] V2) := Lib.hid (S1.out.gr hv3)
  clear S1
  clear hv3
  refine ⟨rfl, hK _ _ ?_⟩
  clear hK
  go_upto_region 1 with fail
  refine wpG_region_k (fun K hK => ?_)
  refine @wpG_p _ _ _ _ _ (some 7) (.string (bstr x)) _ _ rfl (by rfl) (fun _ => rfl) ?_
  simp only [n1, n3, n4]
  refine wpG_call (some 8) 18 #[.string (bstr x)] rfl (by rfl) (fun W => by go_simp) (fun W5 hg6 => ?_)
  refine (decode_any x W5 (by omega)).mono ?_
  rintro e w7 ⟨D, m, dc, rfl, hS_⟩
  refine ⟨_, rfl, ?_⟩
  have hT_ := (S4.out.gr hg6).got hS_
  simp only [n1, n3, n4]
  have S8 : Hid (St w noB [own (.slice D m dc) 3 1 m (ic ((Pl.de x).1))] w7) := Lib.hid hT_
  clear S4
  clear hT_ hS_ hg6
  have HML : Hid (m = ((Pl.de x).1).length) := Lib.hid (own_icl (S8.out.ownr 0 rfl))
  refine @wpG_p _ _ _ _ _ (some 6) (.tuple #[.slice D m dc, .int .i64 ((Pl.de x).2 : Int)]) _ _ rfl (by rfl) (fun _ => rfl) ?_
  simp only [n1, n3, n4]
  refine @wpG_p _ _ _ _ _ (some 9) (.slice D m dc) _ _ rfl (by rfl) (fun W => by go_simp) ?_
  simp only [n1, n3, n4]
  refine @wpG_p _ _ _ _ _ (some 10) (.int .i64 ((Pl.de x).2 : Int)) _ _ rfl (by rfl) (fun W => by go_simp) ?_
  simp only [n1, n3, n4]
  refine @wpG_p _ _ _ _ _ (some 4) (.slice D m dc) _ _ rfl (by rfl) (fun _ => rfl) ?_
  simp only [n1, n3, n4]
  refine @wpG_p _ _ _ _ _ (some 5) (.int .i64 ((Pl.de x).2 : Int)) _ _ rfl (by rfl) (fun _ => rfl) ?_
  simp only [n1, n3, n4]
  refine wpG_done (fun V9 hv10 => ?_)
  have S11 : Hid (St w noB [own (.slice D m dc) 3 1 m (ic ((Pl.de x).1))] V9) := Lib.hid (S8.out.gr hv10)
  clear S8
  clear hv10
  refine ⟨rfl, hK _ _ ?_⟩
  clear hK
  go_upto_region 2 with fail
  refine wpG_region_k (fun K hK => ?_)
  refine @wpG_p _ _ _ _ _ (some 11) (.slice D m dc) _ _ rfl (by rfl) (fun _ => rfl) ?_
  simp only [n1, n3, n4]
  refine wpG_call (some 12) 28 #[.slice D m dc] rfl (by rfl) (fun W => by go_simp) (fun W15 hg16 => ?_)
  refine (different_any _ _ _ ((Pl.de x).1) W15 (SL.ofOwn ((S11.out.gr hg16).ownr 0 rfl)) (by have hb_ := (Pl.de_cell x).1; have hml_ := HML.out; omega) (Pl.de_cell x).2).mono ?_
  rintro e w17 ⟨A12, n13, c14, rfl, hS_⟩
  refine ⟨_, rfl, ?_⟩
  have hT_ := (S11.out.gr hg16).got hS_
  simp only [n1, n3, n4]
  have S18 : Hid (St w noB [own (.slice A12 n13 c14) 3 1 n13 (ic (Pl.pal ((Pl.de x).1))), own (.slice D m dc) 3 1 m (ic ((Pl.de x).1))] w17) := Lib.hid hT_
  clear S11
  clear hT_ hS_ hg16
  have hln13 : Hid (n13 = (Pl.pal ((Pl.de x).1)).length) := Lib.hid (own_icl (S18.out.ownr 0 rfl))
  refine @wpG_p _ _ _ _ _ (some 13) (.int .i64 ((Pl.de x).2 : Int)) _ _ rfl (by rfl) (fun _ => rfl) ?_
  simp only [n1, n3, n4]
  refine @wpG_p _ _ _ _ _ (some 2) (.slice A12 n13 c14) _ _ rfl (by rfl) (fun _ => rfl) ?_
  simp only [n1, n3, n4]
  refine @wpG_p _ _ _ _ _ (some 3) (.int .i64 ((Pl.de x).2 : Int)) _ _ rfl (by rfl) (fun _ => rfl) ?_
  simp only [n1, n3, n4]
  refine wpG_done (fun V19 hv20 => ?_)
  have S21 : Hid (St w noB [own (.slice A12 n13 c14) 3 1 n13 (ic (Pl.pal ((Pl.de x).1))), own (.slice D m dc) 3 1 m (ic ((Pl.de x).1))] V19) := Lib.hid (S18.out.gr hv20)
  clear S18
  clear hv20
  refine ⟨rfl, hK _ _ ?_⟩
  clear hK
  go_wp2_with fail
  go_ret2
  exact ⟨A12, n13, c14, rfl, S21.out.sub (.cons_cons _ (.cons _ .slnil))⟩
set_option maxRecDepth 1000000 in
set_option maxHeartbeats 4000000 in
theorem rmaterials_any (x : List UInt8) (w : World) (hx : x.length ≤ 1000) :
    Calls Try.prog 21 #[.string (bstr x)] w fun e w' => ∃ A q c, e = .returned (.tuple #[.slice A q c, .int .i64 ((Pl.de x).2 : Int)]) ∧ St w noB [own (.slice A q c) 3 1 q (ic (Pl.pal (Pl.de x).1))] w' := by
  have S1 : Hid (St w noB [] w) := Lib.hid (St.start w)
  go_enter Try.func21, Try.ntmps21
  go_upto_region 0 with fail
  refine wpG_region_k (fun K hK => ?_)
  refine @wpG_p _ _ _ _ _ (some 2) (.slice none 0 0) _ _ rfl (by rfl) (fun _ => rfl) ?_
  simp only [n1, n3, n4]
  refine @wpG_p _ _ _ _ _ (some 3) (.int .i64 0) _ _ rfl (by rfl) (fun _ => rfl) ?_
  simp only [n1, n3, n4]
  refine wpG_done (fun V2 hv3 => ?_)
  have S4 : Hid (St w noB [] V2) := Lib.hid (S1.out.gr hv3)
  clear S1
  clear hv3
  refine ⟨rfl, hK _ _ ?_⟩
  clear hK
  go_upto_region 1 with fail
  refine wpG_region_k (fun K hK => ?_)
  refine @wpG_p _ _ _ _ _ (some 7) (.string (bstr x)) _ _ rfl (by rfl) (fun _ => rfl) ?_
  simp only [n1, n3, n4]
  refine wpG_call (some 8) 19 #[.string (bstr x)] rfl (by rfl) (fun W => by go_simp) (fun W5 hg6 => ?_)
  refine (rdecode_any x W5 (by omega)).mono ?_
  rintro e w7 ⟨D, m, dc, rfl, hS_⟩
  refine ⟨_, rfl, ?_⟩
  have hT_ := (S4.out.gr hg6).got hS_
  simp only [n1, n3, n4]
  have S8 : Hid (St w noB [own (.slice D m dc) 3 1 m (ic ((Pl.de x).1))] w7) := Lib.hid hT_
  clear S4
  clear hT_ hS_ hg6
  have HML : Hid (m = ((Pl.de x).1).length) := Lib.hid (own_icl (S8.out.ownr 0 rfl))
  refine @wpG_p _ _ _ _ _ (some 6) (.tuple #[.slice D m dc, .int .i64 ((Pl.de x).2 : Int)]) _ _ rfl (by rfl) (fun _ => rfl) ?_
  simp only [n1, n3, n4]
  refine @wpG_p _ _ _ _ _ (some 9) (.slice D m dc) _ _ rfl (by rfl) (fun W => by go_simp) ?_
  simp only [n1, n3, n4]
  refine @wpG_p _ _ _ _ _ (some 10) (.int .i64 ((Pl.de x).2 : Int)) _ _ rfl (by rfl) (fun W => by go_simp) ?_
  simp only [n1, n3, n4]
  refine @wpG_p _ _ _ _ _ (some 4) (.slice D m dc) _ _ rfl (by rfl) (fun _ => rfl) ?_
  simp only [n1, n3, n4]
  refine @wpG_p _ _ _ _ _ (some 5) (.int .i64 ((Pl.de x).2 : Int)) _ _ rfl (by rfl) (fun _ => rfl) ?_
  simp only [n1, n3, n4]
  refine wpG_done (fun V9 hv10 => ?_)
  have S11 : Hid (St w noB [own (.slice D m dc) 3 1 m (ic ((Pl.de x).1))] V9) := Lib.hid (S8.out.gr hv10)
  clear S8
  clear hv10
  refine ⟨rfl, hK _ _ ?_⟩
  clear hK
  go_upto_region 2 with fail
  refine wpG_region_k (fun K hK => ?_)
  refine @wpG_p _ _ _ _ _ (some 11) (.slice D m dc) _ _ rfl (by rfl) (fun _ => rfl) ?_
  simp only [n1, n3, n4]
  refine wpG_call (some 12) 33 #[.slice D m dc] rfl (by rfl) (fun W => by go_simp) (fun W15 hg16 => ?_)
  refine (palette_any _ _ _ ((Pl.de x).1) W15 (SL.ofOwn ((S11.out.gr hg16).ownr 0 rfl)) (by have hb_ := (Pl.de_cell x).1; have hml_ := HML.out; omega)).mono ?_
  rintro e w17 ⟨A12, n13, c14, rfl, hS_⟩
  refine ⟨_, rfl, ?_⟩
  have hT_ := (S11.out.gr hg16).got hS_
  simp only [n1, n3, n4]
  have S18 : Hid (St w noB [own (.slice A12 n13 c14) 3 1 n13 (ic (Pl.pal ((Pl.de x).1))), own (.slice D m dc) 3 1 m (ic ((Pl.de x).1))] w17) := Lib.hid hT_
  clear S11
  clear hT_ hS_ hg16
  have hln13 : Hid (n13 = (Pl.pal ((Pl.de x).1)).length) := Lib.hid (own_icl (S18.out.ownr 0 rfl))
  refine @wpG_p _ _ _ _ _ (some 13) (.int .i64 ((Pl.de x).2 : Int)) _ _ rfl (by rfl) (fun _ => rfl) ?_
  simp only [n1, n3, n4]
  refine @wpG_p _ _ _ _ _ (some 2) (.slice A12 n13 c14) _ _ rfl (by rfl) (fun _ => rfl) ?_
  simp only [n1, n3, n4]
  refine @wpG_p _ _ _ _ _ (some 3) (.int .i64 ((Pl.de x).2 : Int)) _ _ rfl (by rfl) (fun _ => rfl) ?_
  simp only [n1, n3, n4]
  refine wpG_done (fun V19 hv20 => ?_)
  have S21 : Hid (St w noB [own (.slice A12 n13 c14) 3 1 n13 (ic (Pl.pal ((Pl.de x).1))), own (.slice D m dc) 3 1 m (ic ((Pl.de x).1))] V19) := Lib.hid (S18.out.gr hv20)
  clear S18
  clear hv20
  refine ⟨rfl, hK _ _ ?_⟩
  clear hK
  go_wp2_with fail
  go_ret2
  exact ⟨A12, n13, c14, rfl, S21.out.sub (.cons_cons _ (.cons _ .slnil))⟩

end Go.Proofs.Ytfomieekdbkcnaa
