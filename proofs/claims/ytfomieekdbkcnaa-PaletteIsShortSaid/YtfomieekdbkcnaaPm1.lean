/-
  PalettePacksAsSpecified: the walk.
-/
import Derived.Test.YtfomieekdbkcnaaPk27
import Derived.Test.YtfomieekdbkcnaaPk16
import Derived.Test.YtfomieekdbkcnaaPk22
import Derived.Handy
namespace Go.Proofs.Ytfomieekdbkcnaa
open Go Go.RowKit
set_option linter.unusedVariables false
set_option linter.unusedSimpArgs false
section
variable {ev : Operand → Value} {o : Oper} (W : World) {t t' : TypeId} {x y : Operand}
theorem op_str_same (a : List UInt8) (ho : o.op = .binOp .eql t x y t') (hx : ev x = .string (bstr a)) (hy : ev y = .string (bstr a)) (ht : Try.prog.underlying t = some .string) : (execOp ev o).run Try.prog W = .ok (.value (.bool true)) W := by
  rw [op_str_eql W a a ho hx hy ht, decide_eq_true rfl]
end
set_option maxRecDepth 1000000 in
set_option maxHeartbeats 4000000 in
theorem law_pm1 (A : Option Addr) (n c : Nat) (l : List Int) (x : List UInt8) (w : World) (hG : SL w 1 A n c (ic l)) :
    Calls Try.prog 3 #[.slice A n c, .string (bstr x)] w fun e w' => e = .returned (.bool true) ∧ Below w.heap.size w w' := by
  have HGA := Lib.hid hG
  have HLEN : Hid (l.length = n) := Lib.hid (by have h_ := hG.len; rw [ic_len] at h_; omega)
  have hnbHGA : n ≤ 9223372036854775807 := Nat.le_trans hG.cap hG.bnd
  clear hG
  have S1 : Hid (St w noB [] w) := Lib.hid (St.start w)
  go_enter Try.func3, Try.ntmps3
  go_upto_region 0 with fail
  refine wpG_region_k (fun K hK => ?_)
  refine @wpG_p _ _ _ _ _ (some 4) (.bool false) _ _ rfl (by rfl) (fun _ => rfl) ?_
  simp only [n1, n3, n4]
  refine wpG_done (fun V2 hv3 => ?_)
  have S4 : Hid (St w noB [] V2) := Lib.hid (S1.out.gr hv3)
  clear S1
  clear hv3
  refine ⟨rfl, hK _ _ ?_⟩
  clear hK
  go_upto_region 1 with fail
  refine wpG_region_k (fun K hK => ?_)
  refine @wpG_p _ _ _ _ _ (some 13) (.slice A n c) _ _ rfl (by rfl) (fun _ => rfl) ?_
  simp only [n1, n3, n4]
  refine @wpG_p _ _ _ _ _ (some 14) (.int .i64 (n : Int)) _ _ rfl (by rfl) (fun W => by go_simp) ?_
  simp only [n1, n3, n4]
  refine @wpG_p _ _ _ _ _ (some 15) (.bool (decide ((n : Int) > 100))) _ _ rfl (by rfl) (fun W => op_int_gtr W (n : Int) 100 rfl rfl rfl Try.underlying3) ?_
  simp only [n1, n3, n4]
  refine @wpG_p _ _ _ _ _ (some 16) (.bool (decide ((n : Int) > 100))) _ _ rfl (by rfl) (fun _ => rfl) ?_
  simp only [n1, n3, n4]
  obtain ⟨c5, hc5⟩ : ∃ q_, q_ = (decide ((n : Int) > 100)) := ⟨_, rfl⟩
  rw [← hc5]
  have Hc5 := Lib.hid hc5
  clear hc5
  cases c5 with
  | true =>
    have f6 := of_decide_eq_true Hc5.out.symm
    refine @wpG_no _ _ _ _ _ (some 17) _ _ rfl (by rfl) ?_
    simp only [n1, n3, n4]
    refine @wpG_no _ _ _ _ _ (some 18) _ _ rfl (by rfl) ?_
    simp only [n1, n3, n4]
    refine @wpG_no _ _ _ _ _ (some 19) _ _ rfl (by rfl) ?_
    simp only [n1, n3, n4]
    refine @wpG_p _ _ _ _ _ (some 20) (.bool true) _ _ rfl (by rfl) (fun W => by go_simp) ?_
    simp only [n1, n3, n4]
    refine wpG_done (fun V7 hv8 => ?_)
    have S9 : Hid (St w noB [] V7) := Lib.hid (S4.out.gr hv8)
    clear S4
    clear hv8
    refine ⟨rfl, hK _ _ ?_⟩
    clear hK
    go_upto_region 2 with fail
    refine wpG_region_k (fun K hK => ?_)
    refine @wpG_tk _ _ _ _ _ (some 21) (.bool true) _ _ rfl (.call (f := 10) (args := #[]) (by rfl) (fun W => by go_simp) (fun W hg => sanity_any W)) ?_
    simp only [n1, n3, n4]
    refine @wpG_p _ _ _ _ _ (some 4) (.bool true) _ _ rfl (by rfl) (fun _ => rfl) ?_
    simp only [n1, n3, n4]
    refine wpG_done (fun V10 hv11 => ?_)
    have S12 : Hid (St w noB [] V10) := Lib.hid (S9.out.gr hv11)
    clear S9
    clear hv11
    refine ⟨rfl, hK _ _ ?_⟩
    clear hK
    go_wp2_with fail
    go_ret
    refine ⟨?_, S12.out.bel⟩
    show Ending.returned (.bool true) = _
    (first | rfl | (rfl))
  | false =>
    have f13 := of_decide_eq_false Hc5.out.symm
    refine @wpG_p _ _ _ _ _ (some 17) (.string (bstr x)) _ _ rfl (by rfl) (fun _ => rfl) ?_
    simp only [n1, n3, n4]
    refine @wpG_p _ _ _ _ _ (some 18) (.int .i64 (x.length : Int)) _ _ rfl (by rfl) (fun W => op_str_len W x rfl rfl Try.underlying9) ?_
    simp only [n1, n3, n4]
    refine @wpG_p _ _ _ _ _ (some 19) (.bool (decide ((x.length : Int) > 300))) _ _ rfl (by rfl) (fun W => op_int_gtr W (x.length : Int) 300 rfl rfl rfl Try.underlying3) ?_
    simp only [n1, n3, n4]
    refine @wpG_p _ _ _ _ _ (some 20) (.bool (decide ((x.length : Int) > 300))) _ _ rfl (by rfl) (fun W => by go_simp) ?_
    simp only [n1, n3, n4]
    refine wpG_done (fun V14 hv15 => ?_)
    have S16 : Hid (St w noB [] V14) := Lib.hid (S4.out.gr hv15)
    clear S4
    clear hv15
    refine ⟨rfl, hK _ _ ?_⟩
    clear hK
    obtain ⟨c17, hc17⟩ : ∃ q_, q_ = (decide ((x.length : Int) > 300)) := ⟨_, rfl⟩
    rw [← hc17]
    have Hc17 := Lib.hid hc17
    clear hc17
    cases c17 with
    | true =>
      have f18 := of_decide_eq_true Hc17.out.symm
      go_upto_region 2 with fail
      refine wpG_region_k (fun K hK => ?_)
      refine @wpG_tk _ _ _ _ _ (some 21) (.bool true) _ _ rfl (.call (f := 10) (args := #[]) (by rfl) (fun W => by go_simp) (fun W hg => sanity_any W)) ?_
      simp only [n1, n3, n4]
      refine @wpG_p _ _ _ _ _ (some 4) (.bool true) _ _ rfl (by rfl) (fun _ => rfl) ?_
      simp only [n1, n3, n4]
      refine wpG_done (fun V19 hv20 => ?_)
      have S21 : Hid (St w noB [] V19) := Lib.hid (S16.out.gr hv20)
      clear S16
      clear hv20
      refine ⟨rfl, hK _ _ ?_⟩
      clear hK
      go_wp2_with fail
      go_ret
      refine ⟨?_, S21.out.bel⟩
      show Ending.returned (.bool true) = _
      (first | rfl | (rfl))
    | false =>
      have f22 := of_decide_eq_false Hc17.out.symm
      go_upto_region 3 with fail
      refine wpG_region_k (fun K hK => ?_)
      refine @wpG_p _ _ _ _ _ (some 23) (.slice A n c) _ _ rfl (by rfl) (fun _ => rfl) ?_
      simp only [n1, n3, n4]
      refine @wpG_tk _ _ _ _ _ (some 24) (.tuple #[.string (bstr (Pl.pS l)), .int .i64 (Pl.pE l)]) _ _ rfl (.call (f := 11) (args := #[.slice A n c]) (by rfl) (fun W => by go_simp) (fun W hg => pack_any _ _ _ l W (HGA.out.gr (S16.out.gr hg).bel) (by omega))) ?_
      simp only [n1, n3, n4]
      refine @wpG_p _ _ _ _ _ (some 22) (.tuple #[.string (bstr (Pl.pS l)), .int .i64 (Pl.pE l)]) _ _ rfl (by rfl) (fun _ => rfl) ?_
      simp only [n1, n3, n4]
      refine @wpG_p _ _ _ _ _ (some 25) (.string (bstr (Pl.pS l))) _ _ rfl (by rfl) (fun W => by go_simp) ?_
      simp only [n1, n3, n4]
      refine @wpG_p _ _ _ _ _ (some 26) (.int .i64 (Pl.pE l)) _ _ rfl (by rfl) (fun W => by go_simp) ?_
      simp only [n1, n3, n4]
      refine @wpG_p _ _ _ _ _ (some 5) (.string (bstr (Pl.pS l))) _ _ rfl (by rfl) (fun _ => rfl) ?_
      simp only [n1, n3, n4]
      refine @wpG_p _ _ _ _ _ (some 6) (.int .i64 (Pl.pE l)) _ _ rfl (by rfl) (fun _ => rfl) ?_
      simp only [n1, n3, n4]
      refine wpG_done (fun V23 hv24 => ?_)
      have S25 : Hid (St w noB [] V23) := Lib.hid (S16.out.gr hv24)
      clear S16
      clear hv24
      refine ⟨rfl, hK _ _ ?_⟩
      clear hK
      go_upto_region 4 with fail
      refine wpG_region_k (fun K hK => ?_)
      refine @wpG_p _ _ _ _ _ (some 28) (.slice A n c) _ _ rfl (by rfl) (fun _ => rfl) ?_
      simp only [n1, n3, n4]
      refine @wpG_tk _ _ _ _ _ (some 29) (.tuple #[.string (bstr (Pl.pS l)), .int .i64 (Pl.pE l)]) _ _ rfl (.call (f := 12) (args := #[.slice A n c]) (by rfl) (fun W => by go_simp) (fun W hg => rpack_any _ _ _ l W (HGA.out.gr (S25.out.gr hg).bel) (by omega))) ?_
      simp only [n1, n3, n4]
      refine @wpG_p _ _ _ _ _ (some 27) (.tuple #[.string (bstr (Pl.pS l)), .int .i64 (Pl.pE l)]) _ _ rfl (by rfl) (fun _ => rfl) ?_
      simp only [n1, n3, n4]
      refine @wpG_p _ _ _ _ _ (some 30) (.string (bstr (Pl.pS l))) _ _ rfl (by rfl) (fun W => by go_simp) ?_
      simp only [n1, n3, n4]
      refine @wpG_p _ _ _ _ _ (some 31) (.int .i64 (Pl.pE l)) _ _ rfl (by rfl) (fun W => by go_simp) ?_
      simp only [n1, n3, n4]
      refine @wpG_p _ _ _ _ _ (some 7) (.string (bstr (Pl.pS l))) _ _ rfl (by rfl) (fun _ => rfl) ?_
      simp only [n1, n3, n4]
      refine @wpG_p _ _ _ _ _ (some 8) (.int .i64 (Pl.pE l)) _ _ rfl (by rfl) (fun _ => rfl) ?_
      simp only [n1, n3, n4]
      refine wpG_done (fun V26 hv27 => ?_)
      have S28 : Hid (St w noB [] V26) := Lib.hid (S25.out.gr hv27)
      clear S25
      clear hv27
      refine ⟨rfl, hK _ _ ?_⟩
      clear hK
      go_upto_region 5 with fail
      refine wpG_region_k (fun K hK => ?_)
      refine @wpG_p _ _ _ _ _ (some 33) (.string (bstr x)) _ _ rfl (by rfl) (fun _ => rfl) ?_
      simp only [n1, n3, n4]
      refine wpG_call (some 34) 13 #[.string (bstr x)] rfl (by rfl) (fun W => by go_simp) (fun W32 hg33 => ?_)
      refine (unpack_any x W32 (by omega)).mono ?_
      rintro e w34 ⟨D29, mm30, dc31, rfl, hS_⟩
      refine ⟨_, rfl, ?_⟩
      have hT_ := (S28.out.gr hg33).got hS_
      simp only [n1, n3, n4]
      have S35 : Hid (St w noB [own (.slice D29 mm30 dc31) 3 1 mm30 (ic ((Pl.un x).1))] w34) := Lib.hid hT_
      clear S28
      clear hT_ hS_ hg33
      have hlmm30 : Hid (mm30 = ((Pl.un x).1).length) := Lib.hid (own_icl (S35.out.ownr 0 rfl))
      refine @wpG_p _ _ _ _ _ (some 32) (.tuple #[.slice D29 mm30 dc31, .int .i64 ((Pl.un x).2.1 : Int), .int .i64 ((Pl.un x).2.2 : Int)]) _ _ rfl (by rfl) (fun _ => rfl) ?_
      simp only [n1, n3, n4]
      refine @wpG_p _ _ _ _ _ (some 35) (.slice D29 mm30 dc31) _ _ rfl (by rfl) (fun W => by go_simp) ?_
      simp only [n1, n3, n4]
      refine @wpG_p _ _ _ _ _ (some 36) (.int .i64 ((Pl.un x).2.1 : Int)) _ _ rfl (by rfl) (fun W => by go_simp) ?_
      simp only [n1, n3, n4]
      refine @wpG_p _ _ _ _ _ (some 37) (.int .i64 ((Pl.un x).2.2 : Int)) _ _ rfl (by rfl) (fun W => by go_simp) ?_
      simp only [n1, n3, n4]
      refine @wpG_p _ _ _ _ _ (some 9) (.slice D29 mm30 dc31) _ _ rfl (by rfl) (fun _ => rfl) ?_
      simp only [n1, n3, n4]
      refine @wpG_p _ _ _ _ _ (some 10) (.int .i64 ((Pl.un x).2.1 : Int)) _ _ rfl (by rfl) (fun _ => rfl) ?_
      simp only [n1, n3, n4]
      refine @wpG_p _ _ _ _ _ (some 11) (.int .i64 ((Pl.un x).2.2 : Int)) _ _ rfl (by rfl) (fun _ => rfl) ?_
      simp only [n1, n3, n4]
      refine wpG_done (fun V36 hv37 => ?_)
      have S38 : Hid (St w noB [own (.slice D29 mm30 dc31) 3 1 mm30 (ic ((Pl.un x).1))] V36) := Lib.hid (S35.out.gr hv37)
      clear S35
      clear hv37
      refine ⟨rfl, hK _ _ ?_⟩
      clear hK
      go_upto_region 6 with fail
      refine wpG_region_k (fun K hK => ?_)
      refine @wpG_p _ _ _ _ _ (some 38) (.string (bstr x)) _ _ rfl (by rfl) (fun _ => rfl) ?_
      simp only [n1, n3, n4]
      refine wpG_call (some 39) 14 #[.string (bstr x)] rfl (by rfl) (fun W => by go_simp) (fun W42 hg43 => ?_)
      refine (runpack_any x W42 (by omega)).mono ?_
      rintro e w44 ⟨D39, mm40, dc41, rfl, hS_⟩
      refine ⟨_, rfl, ?_⟩
      have hT_ := (S38.out.gr hg43).got hS_
      simp only [n1, n3, n4]
      have S45 : Hid (St w noB [own (.slice D39 mm40 dc41) 3 1 mm40 (ic ((Pl.un x).1)), own (.slice D29 mm30 dc31) 3 1 mm30 (ic ((Pl.un x).1))] w44) := Lib.hid hT_
      clear S38
      clear hT_ hS_ hg43
      have hlmm40 : Hid (mm40 = ((Pl.un x).1).length) := Lib.hid (own_icl (S45.out.ownr 0 rfl))
      refine wpG_val (some 12) rfl (by rfl) (fun W46 hg47 => ⟨.pointer (some ⟨W46.heap.size, 0, none⟩), W46.alloc (.cells #[.slice none 0 0, .int .i64 0, .int .i64 0] 30), by (first | (go_simp; done) | (go_simp <;> rfl)), ?_⟩)
      simp only [n1, n3, n4]
      obtain ⟨g48, U49, hg_, hu_, hS_⟩ := (S45.out.gr hg47).made [.slice none 0 0, .int .i64 0, .int .i64 0] 30
      rw [← hu_, ← hg_]
      have S50 : Hid (St w noB [blk g48 30 [.slice none 0 0, .int .i64 0, .int .i64 0], own (.slice D39 mm40 dc41) 3 1 mm40 (ic ((Pl.un x).1)), own (.slice D29 mm30 dc31) 3 1 mm30 (ic ((Pl.un x).1))] U49) := Lib.hid hS_
      clear S45
      clear hg_ hu_ hS_ hg47
      refine wpG_store (none) rfl (by rfl) (fun W51 hg52 => ⟨_, run_store_mid 30 (.tmp 12) (.tmp 39) rfl g48 0 #[.slice D39 mm40 dc41, .int .i64 ((Pl.un x).2.1 : Int), .int .i64 ((Pl.un x).2.2 : Int)] rfl rfl ((S50.out.gr hg52).room 0 rfl 0 3 (by simp)) (by kernel_rfl) (by kernel_rfl), ?_⟩)
      simp only [n2]
      obtain ⟨U53, hu_, hS_⟩ := ((S50.out.gr hg52).put 0 rfl 0 (#[.slice D39 mm40 dc41, .int .i64 ((Pl.un x).2.1 : Int), .int .i64 ((Pl.un x).2.2 : Int)] : Array Value).toList (ds := [.slice D39 mm40 dc41, .int .i64 ((Pl.un x).2.1 : Int), .int .i64 ((Pl.un x).2.2 : Int)]) rfl).named
      rw [← hu_]
      have S54 : Hid (St w noB [blk g48 30 [.slice D39 mm40 dc41, .int .i64 ((Pl.un x).2.1 : Int), .int .i64 ((Pl.un x).2.2 : Int)], own (.slice D39 mm40 dc41) 3 1 mm40 (ic ((Pl.un x).1)), own (.slice D29 mm30 dc31) 3 1 mm30 (ic ((Pl.un x).1))] U53) := Lib.hid hS_
      clear S50
      clear hu_ hS_ hg52
      refine wpG_done (fun V55 hv56 => ?_)
      have S57 : Hid (St w noB [blk g48 30 [.slice D39 mm40 dc41, .int .i64 ((Pl.un x).2.1 : Int), .int .i64 ((Pl.un x).2.2 : Int)], own (.slice D39 mm40 dc41) 3 1 mm40 (ic ((Pl.un x).1)), own (.slice D29 mm30 dc31) 3 1 mm30 (ic ((Pl.un x).1))] V55) := Lib.hid (S54.out.gr hv56)
      clear S54
      clear hv56
      refine ⟨rfl, hK _ _ ?_⟩
      clear hK
      go_upto_region 7 with fail
      refine wpG_region_k (fun K hK => ?_)
      refine @wpG_tk _ _ _ _ _ (some 40) (.bool true) _ _ rfl (.call (f := 10) (args := #[]) (by rfl) (fun W => by go_simp) (fun W hg => sanity_any W)) ?_
      simp only [n1, n3, n4]
      refine @wpG_p _ _ _ _ _ (some 41) (.bool true) _ _ rfl (by rfl) (fun _ => rfl) ?_
      simp only [n1, n3, n4]
      refine @wpG_p _ _ _ _ _ (some 42) (.string (bstr (Pl.pS l))) _ _ rfl (by rfl) (fun _ => rfl) ?_
      simp only [n1, n3, n4]
      refine @wpG_p _ _ _ _ _ (some 43) (.string (bstr (Pl.pS l))) _ _ rfl (by rfl) (fun _ => rfl) ?_
      simp only [n1, n3, n4]
      refine @wpG_p _ _ _ _ _ (some 44) (.bool true) _ _ rfl (by rfl) (fun W => op_str_same W (Pl.pS l) rfl rfl rfl Try.underlying9) ?_
      simp only [n1, n3, n4]
      refine @wpG_p _ _ _ _ _ (some 45) (.bool true) _ _ rfl (by rfl) (fun W => by go_simp) ?_
      simp only [n1, n3, n4]
      refine @wpG_p _ _ _ _ _ (some 46) (.bool true) _ _ rfl (by rfl) (fun _ => rfl) ?_
      simp only [n1, n3, n4]
      refine @wpG_p _ _ _ _ _ (some 47) (.int .i64 (Pl.pE l)) _ _ rfl (by rfl) (fun _ => rfl) ?_
      simp only [n1, n3, n4]
      refine @wpG_p _ _ _ _ _ (some 48) (.int .i64 (Pl.pE l)) _ _ rfl (by rfl) (fun _ => rfl) ?_
      simp only [n1, n3, n4]
      refine @wpG_p _ _ _ _ _ (some 49) (.bool true) _ _ rfl (by rfl) (fun W => by go_simp) ?_
      simp only [n1, n3, n4]
      refine @wpG_p _ _ _ _ _ (some 50) (.bool true) _ _ rfl (by rfl) (fun W => by go_simp) ?_
      simp only [n1, n3, n4]
      refine @wpG_p _ _ _ _ _ (some 51) (.bool true) _ _ rfl (by rfl) (fun _ => rfl) ?_
      simp only [n1, n3, n4]
      refine @wpG_p _ _ _ _ _ (some 52) (.slice D29 mm30 dc31) _ _ rfl (by rfl) (fun _ => rfl) ?_
      simp only [n1, n3, n4]
      refine @wpG_p _ _ _ _ _ (some 53) (.pointer (some ⟨g48, 0, none⟩)) _ _ rfl (by rfl) (fun W => by go_simp) ?_
      simp only [n1, n3, n4]
      refine @wpG_r _ _ _ _ _ (some 54) (.slice D39 mm40 dc41) _ _ rfl (by rfl) (fun W hg => by have c := (S57.out.gr hg).cell 0 rfl 0 rfl; go_simp) ?_
      simp only [n1, n3, n4]
      refine @wpG_tk _ _ _ _ _ (some 55) (.bool true) _ _ rfl (.call (f := 15) (args := #[.slice D29 mm30 dc31, .slice D39 mm40 dc41]) (by rfl) (fun W => by go_simp) (fun W hg => ((same_any _ _ _ ((Pl.un x).1) _ _ _ ((Pl.un x).1) W (SL.ofOwn ((S57.out.gr hg).ownr 2 rfl)) (SL.ofOwn ((S57.out.gr hg).ownr 1 rfl))).mono (fun e w' h => ⟨h.1.trans (by rw [decide_eq_true rfl]), h.2⟩)))) ?_
      simp only [n1, n3, n4]
      refine @wpG_p _ _ _ _ _ (some 56) (.bool true) _ _ rfl (by rfl) (fun W => by go_simp) ?_
      simp only [n1, n3, n4]
      refine @wpG_p _ _ _ _ _ (some 57) (.bool true) _ _ rfl (by rfl) (fun _ => rfl) ?_
      simp only [n1, n3, n4]
      refine @wpG_p _ _ _ _ _ (some 58) (.int .i64 ((Pl.un x).2.1 : Int)) _ _ rfl (by rfl) (fun _ => rfl) ?_
      simp only [n1, n3, n4]
      refine @wpG_p _ _ _ _ _ (some 59) (.pointer (some ⟨g48, 1, none⟩)) _ _ rfl (by rfl) (fun W => by go_simp) ?_
      simp only [n1, n3, n4]
      refine @wpG_r _ _ _ _ _ (some 60) (.int .i64 ((Pl.un x).2.1 : Int)) _ _ rfl (by rfl) (fun W hg => by have c := (S57.out.gr hg).cell 0 rfl 1 rfl; go_simp) ?_
      simp only [n1, n3, n4]
      refine @wpG_p _ _ _ _ _ (some 61) (.bool true) _ _ rfl (by rfl) (fun W => by go_simp) ?_
      simp only [n1, n3, n4]
      refine @wpG_p _ _ _ _ _ (some 62) (.bool true) _ _ rfl (by rfl) (fun W => by go_simp) ?_
      simp only [n1, n3, n4]
      refine @wpG_p _ _ _ _ _ (some 63) (.bool true) _ _ rfl (by rfl) (fun _ => rfl) ?_
      simp only [n1, n3, n4]
      refine @wpG_p _ _ _ _ _ (some 64) (.int .i64 ((Pl.un x).2.2 : Int)) _ _ rfl (by rfl) (fun _ => rfl) ?_
      simp only [n1, n3, n4]
      refine @wpG_p _ _ _ _ _ (some 65) (.pointer (some ⟨g48, 2, none⟩)) _ _ rfl (by rfl) (fun W => by go_simp) ?_
      simp only [n1, n3, n4]
      refine @wpG_r _ _ _ _ _ (some 66) (.int .i64 ((Pl.un x).2.2 : Int)) _ _ rfl (by rfl) (fun W hg => by have c := (S57.out.gr hg).cell 0 rfl 2 rfl; go_simp) ?_
      simp only [n1, n3, n4]
      refine @wpG_p _ _ _ _ _ (some 67) (.bool true) _ _ rfl (by rfl) (fun W => by go_simp) ?_
      simp only [n1, n3, n4]
      refine @wpG_p _ _ _ _ _ (some 68) (.bool true) _ _ rfl (by rfl) (fun W => by go_simp) ?_
      simp only [n1, n3, n4]
      refine @wpG_p _ _ _ _ _ (some 4) (.bool true) _ _ rfl (by rfl) (fun _ => rfl) ?_
      simp only [n1, n3, n4]
      refine wpG_done (fun V58 hv59 => ?_)
      have S60 : Hid (St w noB [blk g48 30 [.slice D39 mm40 dc41, .int .i64 ((Pl.un x).2.1 : Int), .int .i64 ((Pl.un x).2.2 : Int)], own (.slice D39 mm40 dc41) 3 1 mm40 (ic ((Pl.un x).1)), own (.slice D29 mm30 dc31) 3 1 mm30 (ic ((Pl.un x).1))] V58) := Lib.hid (S57.out.gr hv59)
      clear S57
      clear hv59
      refine ⟨rfl, hK _ _ ?_⟩
      clear hK
      go_wp2_with fail
      go_ret
      refine ⟨?_, S60.out.bel⟩
      show Ending.returned (.bool true) = _
      (first | rfl | (rfl))

end Go.Proofs.Ytfomieekdbkcnaa
