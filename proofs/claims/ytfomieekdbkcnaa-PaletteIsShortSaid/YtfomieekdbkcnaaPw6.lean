/-
  PaletteIsShort: the walk.
-/
import Derived.Test.YtfomieekdbkcnaaPm1
import Derived.Test.YtfomieekdbkcnaaPw1
import Derived.Handy
namespace Go.Proofs.Ytfomieekdbkcnaa
open Go Go.RowKit
set_option linter.unusedVariables false
set_option linter.unusedSimpArgs false
theorem op_u8_rem {P : Program} {ev : Operand → Value} {o : Oper} {W : World} {t t' : TypeId} {x y : Operand} (a b c : Nat) (hc : a % b = c) (hb : b ≠ 0) (ho : o.op = .binOp .rem t x y t') (hx : ev x = .int .u8 (a : Int)) (hy : ev y = .int .u8 (b : Int)) : (execOp ev o).run P W = .ok (.value (.int .u8 (c : Int))) W := by
  have e1 : (binOp .rem t (.int .u8 (a : Int)) (.int .u8 (b : Int))).run P W = .ok (.int .u8 (c : Int)) W := by
    have hb2 : ¬ (b : Int) = 0 := by omega
    simp only [binOp, Op.intDiv, hb2, if_false, ne_eq, not_true_eq_false, Sem.run_pure]
    rw [show (a : Int).tmod (b : Int) = (c : Int) by rw [← hc]; rfl]
  have eg : ∀ u v, (eqGuard .rem t x y u v).run P W = .ok () W := fun _ _ => rfl
  unfold execOp
  rw [ho]
  simp only [hx, hy, Sem.run_bind, eg, e1, Result.andThen_ok, Sem.run_pure]
set_option maxRecDepth 1000000 in
set_option maxHeartbeats 4000000 in
theorem law_pw6 (A : Option Addr) (n c : Nat) (l : List Int) (o1 o2 : Int) (t : Nat) (w : World) (hG : SL w 1 A n c (ic l)) (ht : t < 256) :
    Calls Try.prog 8 #[.slice A n c, .int .i64 o1, .int .i64 o2, .int .u8 (t : Int)] w fun e w' => e = .returned (.bool true) ∧ Below w.heap.size w w' := by
  have HGA := Lib.hid hG
  have HLEN : Hid (l.length = n) := Lib.hid (by have h_ := hG.len; rw [ic_len] at h_; omega)
  have hnbHGA : n ≤ 9223372036854775807 := Nat.le_trans hG.cap hG.bnd
  clear hG
  have S1 : Hid (St w noB [] w) := Lib.hid (St.start w)
  go_enter Try.func8, Try.ntmps8
  go_upto_region 0 with fail
  refine wpG_region_k (fun K hK => ?_)
  refine @wpG_p _ _ _ _ _ (some 8) (.bool false) _ _ rfl (by rfl) (fun _ => rfl) ?_
  simp only [n1, n3, n4]
  refine wpG_done (fun V2 hv3 => ?_)
  have S4 : Hid (St w noB [] V2) := Lib.hid (S1.out.gr hv3)
  clear S1
  clear hv3
  refine ⟨rfl, hK _ _ ?_⟩
  clear hK
  go_upto_region 1 with fail
  refine wpG_region_k (fun K hK => ?_)
  refine @wpG_p _ _ _ _ _ (some 20) (.slice A n c) _ _ rfl (by rfl) (fun _ => rfl) ?_
  simp only [n1, n3, n4]
  refine @wpG_p _ _ _ _ _ (some 21) (.int .i64 (n : Int)) _ _ rfl (by rfl) (fun W => by go_simp) ?_
  simp only [n1, n3, n4]
  refine @wpG_p _ _ _ _ _ (some 22) (.bool (decide ((n : Int) > 100))) _ _ rfl (by rfl) (fun W => op_int_gtr W (n : Int) 100 rfl rfl rfl Try.underlying3) ?_
  simp only [n1, n3, n4]
  refine @wpG_p _ _ _ _ _ (some 23) (.bool (decide ((n : Int) > 100))) _ _ rfl (by rfl) (fun _ => rfl) ?_
  simp only [n1, n3, n4]
  obtain ⟨c5, hc5⟩ : ∃ q_, q_ = (decide ((n : Int) > 100)) := ⟨_, rfl⟩
  rw [← hc5]
  have Hc5 := Lib.hid hc5
  clear hc5
  cases c5 with
  | true =>
    have f6 := of_decide_eq_true Hc5.out.symm
    refine @wpG_no _ _ _ _ _ (some 24) _ _ rfl (by rfl) ?_
    simp only [n1, n3, n4]
    refine @wpG_no _ _ _ _ _ (some 25) _ _ rfl (by rfl) ?_
    simp only [n1, n3, n4]
    refine @wpG_p _ _ _ _ _ (some 26) (.bool true) _ _ rfl (by rfl) (fun W => by go_simp) ?_
    simp only [n1, n3, n4]
    refine @wpG_p _ _ _ _ _ (some 27) (.bool true) _ _ rfl (by rfl) (fun _ => rfl) ?_
    simp only [n1, n3, n4]
    refine @wpG_no _ _ _ _ _ (some 28) _ _ rfl (by rfl) ?_
    simp only [n1, n3, n4]
    refine @wpG_no _ _ _ _ _ (some 29) _ _ rfl (by rfl) ?_
    simp only [n1, n3, n4]
    refine @wpG_p _ _ _ _ _ (some 30) (.bool true) _ _ rfl (by rfl) (fun W => by go_simp) ?_
    simp only [n1, n3, n4]
    refine @wpG_p _ _ _ _ _ (some 31) (.bool true) _ _ rfl (by rfl) (fun _ => rfl) ?_
    simp only [n1, n3, n4]
    refine @wpG_no _ _ _ _ _ (some 32) _ _ rfl (by rfl) ?_
    simp only [n1, n3, n4]
    refine @wpG_no _ _ _ _ _ (some 33) _ _ rfl (by rfl) ?_
    simp only [n1, n3, n4]
    refine @wpG_p _ _ _ _ _ (some 34) (.bool true) _ _ rfl (by rfl) (fun W => by go_simp) ?_
    simp only [n1, n3, n4]
    refine @wpG_p _ _ _ _ _ (some 35) (.bool true) _ _ rfl (by rfl) (fun _ => rfl) ?_
    simp only [n1, n3, n4]
    refine @wpG_no _ _ _ _ _ (some 36) _ _ rfl (by rfl) ?_
    simp only [n1, n3, n4]
    refine @wpG_no _ _ _ _ _ (some 37) _ _ rfl (by rfl) ?_
    simp only [n1, n3, n4]
    refine @wpG_p _ _ _ _ _ (some 38) (.bool true) _ _ rfl (by rfl) (fun W => by go_simp) ?_
    simp only [n1, n3, n4]
    refine wpG_done (fun V7 hv8 => ?_)
    have S9 : Hid (St w noB [] V7) := Lib.hid (S4.out.gr hv8)
    clear S4
    clear hv8
    refine ⟨rfl, hK _ _ ?_⟩
    clear hK
    go_upto_region 2 with fail
    refine wpG_region_k (fun K hK => ?_)
    refine @wpG_tk _ _ _ _ _ (some 39) (.bool true) _ _ rfl (.call (f := 10) (args := #[]) (by rfl) (fun W => by go_simp) (fun W hg => sanity_any W)) ?_
    simp only [n1, n3, n4]
    refine @wpG_p _ _ _ _ _ (some 8) (.bool true) _ _ rfl (by rfl) (fun _ => rfl) ?_
    simp only [n1, n3, n4]
    refine wpG_done (fun V10 hv11 => ?_)
    have S12 : Hid (St w noB [] V10) := Lib.hid (S9.out.gr hv11)
    clear S9
    clear hv11
    refine ⟨rfl, hK _ _ ?_⟩
    clear hK
    go_wp2_with fail
    go_ret
    refine ⟨?_, S12.out.bel⟩
    show Ending.returned (.bool true) = _
    (first | rfl | (rfl))
  | false =>
    have f13 := of_decide_eq_false Hc5.out.symm
    refine @wpG_p _ _ _ _ _ (some 24) (.int .i64 o1) _ _ rfl (by rfl) (fun _ => rfl) ?_
    simp only [n1, n3, n4]
    refine @wpG_p _ _ _ _ _ (some 25) (.bool (decide (o1 < 0))) _ _ rfl (by rfl) (fun W => op_int_lss W o1 0 rfl rfl rfl Try.underlying3) ?_
    simp only [n1, n3, n4]
    refine @wpG_p _ _ _ _ _ (some 26) (.bool (decide (o1 < 0))) _ _ rfl (by rfl) (fun W => by go_simp) ?_
    simp only [n1, n3, n4]
    refine @wpG_p _ _ _ _ _ (some 27) (.bool (decide (o1 < 0))) _ _ rfl (by rfl) (fun _ => rfl) ?_
    simp only [n1, n3, n4]
    obtain ⟨c14, hc14⟩ : ∃ q_, q_ = (decide (o1 < 0)) := ⟨_, rfl⟩
    rw [← hc14]
    have Hc14 := Lib.hid hc14
    clear hc14
    cases c14 with
    | true =>
      have f15 := of_decide_eq_true Hc14.out.symm
      refine @wpG_no _ _ _ _ _ (some 28) _ _ rfl (by rfl) ?_
      simp only [n1, n3, n4]
      refine @wpG_no _ _ _ _ _ (some 29) _ _ rfl (by rfl) ?_
      simp only [n1, n3, n4]
      refine @wpG_p _ _ _ _ _ (some 30) (.bool true) _ _ rfl (by rfl) (fun W => by go_simp) ?_
      simp only [n1, n3, n4]
      refine @wpG_p _ _ _ _ _ (some 31) (.bool true) _ _ rfl (by rfl) (fun _ => rfl) ?_
      simp only [n1, n3, n4]
      refine @wpG_no _ _ _ _ _ (some 32) _ _ rfl (by rfl) ?_
      simp only [n1, n3, n4]
      refine @wpG_no _ _ _ _ _ (some 33) _ _ rfl (by rfl) ?_
      simp only [n1, n3, n4]
      refine @wpG_p _ _ _ _ _ (some 34) (.bool true) _ _ rfl (by rfl) (fun W => by go_simp) ?_
      simp only [n1, n3, n4]
      refine @wpG_p _ _ _ _ _ (some 35) (.bool true) _ _ rfl (by rfl) (fun _ => rfl) ?_
      simp only [n1, n3, n4]
      refine @wpG_no _ _ _ _ _ (some 36) _ _ rfl (by rfl) ?_
      simp only [n1, n3, n4]
      refine @wpG_no _ _ _ _ _ (some 37) _ _ rfl (by rfl) ?_
      simp only [n1, n3, n4]
      refine @wpG_p _ _ _ _ _ (some 38) (.bool true) _ _ rfl (by rfl) (fun W => by go_simp) ?_
      simp only [n1, n3, n4]
      refine wpG_done (fun V16 hv17 => ?_)
      have S18 : Hid (St w noB [] V16) := Lib.hid (S4.out.gr hv17)
      clear S4
      clear hv17
      refine ⟨rfl, hK _ _ ?_⟩
      clear hK
      go_upto_region 2 with fail
      refine wpG_region_k (fun K hK => ?_)
      refine @wpG_tk _ _ _ _ _ (some 39) (.bool true) _ _ rfl (.call (f := 10) (args := #[]) (by rfl) (fun W => by go_simp) (fun W hg => sanity_any W)) ?_
      simp only [n1, n3, n4]
      refine @wpG_p _ _ _ _ _ (some 8) (.bool true) _ _ rfl (by rfl) (fun _ => rfl) ?_
      simp only [n1, n3, n4]
      refine wpG_done (fun V19 hv20 => ?_)
      have S21 : Hid (St w noB [] V19) := Lib.hid (S18.out.gr hv20)
      clear S18
      clear hv20
      refine ⟨rfl, hK _ _ ?_⟩
      clear hK
      go_wp2_with fail
      go_ret
      refine ⟨?_, S21.out.bel⟩
      show Ending.returned (.bool true) = _
      (first | rfl | (rfl))
    | false =>
      have f22 := of_decide_eq_false Hc14.out.symm
      refine @wpG_p _ _ _ _ _ (some 28) (.int .i64 o2) _ _ rfl (by rfl) (fun _ => rfl) ?_
      simp only [n1, n3, n4]
      refine @wpG_p _ _ _ _ _ (some 29) (.bool (decide (o2 < 0))) _ _ rfl (by rfl) (fun W => op_int_lss W o2 0 rfl rfl rfl Try.underlying3) ?_
      simp only [n1, n3, n4]
      refine @wpG_p _ _ _ _ _ (some 30) (.bool (decide (o2 < 0))) _ _ rfl (by rfl) (fun W => by go_simp) ?_
      simp only [n1, n3, n4]
      refine @wpG_p _ _ _ _ _ (some 31) (.bool (decide (o2 < 0))) _ _ rfl (by rfl) (fun _ => rfl) ?_
      simp only [n1, n3, n4]
      obtain ⟨c23, hc23⟩ : ∃ q_, q_ = (decide (o2 < 0)) := ⟨_, rfl⟩
      rw [← hc23]
      have Hc23 := Lib.hid hc23
      clear hc23
      cases c23 with
      | true =>
        have f24 := of_decide_eq_true Hc23.out.symm
        refine @wpG_no _ _ _ _ _ (some 32) _ _ rfl (by rfl) ?_
        simp only [n1, n3, n4]
        refine @wpG_no _ _ _ _ _ (some 33) _ _ rfl (by rfl) ?_
        simp only [n1, n3, n4]
        refine @wpG_p _ _ _ _ _ (some 34) (.bool true) _ _ rfl (by rfl) (fun W => by go_simp) ?_
        simp only [n1, n3, n4]
        refine @wpG_p _ _ _ _ _ (some 35) (.bool true) _ _ rfl (by rfl) (fun _ => rfl) ?_
        simp only [n1, n3, n4]
        refine @wpG_no _ _ _ _ _ (some 36) _ _ rfl (by rfl) ?_
        simp only [n1, n3, n4]
        refine @wpG_no _ _ _ _ _ (some 37) _ _ rfl (by rfl) ?_
        simp only [n1, n3, n4]
        refine @wpG_p _ _ _ _ _ (some 38) (.bool true) _ _ rfl (by rfl) (fun W => by go_simp) ?_
        simp only [n1, n3, n4]
        refine wpG_done (fun V25 hv26 => ?_)
        have S27 : Hid (St w noB [] V25) := Lib.hid (S4.out.gr hv26)
        clear S4
        clear hv26
        refine ⟨rfl, hK _ _ ?_⟩
        clear hK
        go_upto_region 2 with fail
        refine wpG_region_k (fun K hK => ?_)
        refine @wpG_tk _ _ _ _ _ (some 39) (.bool true) _ _ rfl (.call (f := 10) (args := #[]) (by rfl) (fun W => by go_simp) (fun W hg => sanity_any W)) ?_
        simp only [n1, n3, n4]
        refine @wpG_p _ _ _ _ _ (some 8) (.bool true) _ _ rfl (by rfl) (fun _ => rfl) ?_
        simp only [n1, n3, n4]
        refine wpG_done (fun V28 hv29 => ?_)
        have S30 : Hid (St w noB [] V28) := Lib.hid (S27.out.gr hv29)
        clear S27
        clear hv29
        refine ⟨rfl, hK _ _ ?_⟩
        clear hK
        go_wp2_with fail
        go_ret
        refine ⟨?_, S30.out.bel⟩
        show Ending.returned (.bool true) = _
        (first | rfl | (rfl))
      | false =>
        have f31 := of_decide_eq_false Hc23.out.symm
        refine @wpG_p _ _ _ _ _ (some 32) (.int .i64 o1) _ _ rfl (by rfl) (fun _ => rfl) ?_
        simp only [n1, n3, n4]
        refine @wpG_p _ _ _ _ _ (some 33) (.bool (decide (o1 > 255))) _ _ rfl (by rfl) (fun W => op_int_gtr W o1 255 rfl rfl rfl Try.underlying3) ?_
        simp only [n1, n3, n4]
        refine @wpG_p _ _ _ _ _ (some 34) (.bool (decide (o1 > 255))) _ _ rfl (by rfl) (fun W => by go_simp) ?_
        simp only [n1, n3, n4]
        refine @wpG_p _ _ _ _ _ (some 35) (.bool (decide (o1 > 255))) _ _ rfl (by rfl) (fun _ => rfl) ?_
        simp only [n1, n3, n4]
        obtain ⟨c32, hc32⟩ : ∃ q_, q_ = (decide (o1 > 255)) := ⟨_, rfl⟩
        rw [← hc32]
        have Hc32 := Lib.hid hc32
        clear hc32
        cases c32 with
        | true =>
          have f33 := of_decide_eq_true Hc32.out.symm
          refine @wpG_no _ _ _ _ _ (some 36) _ _ rfl (by rfl) ?_
          simp only [n1, n3, n4]
          refine @wpG_no _ _ _ _ _ (some 37) _ _ rfl (by rfl) ?_
          simp only [n1, n3, n4]
          refine @wpG_p _ _ _ _ _ (some 38) (.bool true) _ _ rfl (by rfl) (fun W => by go_simp) ?_
          simp only [n1, n3, n4]
          refine wpG_done (fun V34 hv35 => ?_)
          have S36 : Hid (St w noB [] V34) := Lib.hid (S4.out.gr hv35)
          clear S4
          clear hv35
          refine ⟨rfl, hK _ _ ?_⟩
          clear hK
          go_upto_region 2 with fail
          refine wpG_region_k (fun K hK => ?_)
          refine @wpG_tk _ _ _ _ _ (some 39) (.bool true) _ _ rfl (.call (f := 10) (args := #[]) (by rfl) (fun W => by go_simp) (fun W hg => sanity_any W)) ?_
          simp only [n1, n3, n4]
          refine @wpG_p _ _ _ _ _ (some 8) (.bool true) _ _ rfl (by rfl) (fun _ => rfl) ?_
          simp only [n1, n3, n4]
          refine wpG_done (fun V37 hv38 => ?_)
          have S39 : Hid (St w noB [] V37) := Lib.hid (S36.out.gr hv38)
          clear S36
          clear hv38
          refine ⟨rfl, hK _ _ ?_⟩
          clear hK
          go_wp2_with fail
          go_ret
          refine ⟨?_, S39.out.bel⟩
          show Ending.returned (.bool true) = _
          (first | rfl | (rfl))
        | false =>
          have f40 := of_decide_eq_false Hc32.out.symm
          refine @wpG_p _ _ _ _ _ (some 36) (.int .i64 o2) _ _ rfl (by rfl) (fun _ => rfl) ?_
          simp only [n1, n3, n4]
          refine @wpG_p _ _ _ _ _ (some 37) (.bool (decide (o2 > 255))) _ _ rfl (by rfl) (fun W => op_int_gtr W o2 255 rfl rfl rfl Try.underlying3) ?_
          simp only [n1, n3, n4]
          refine @wpG_p _ _ _ _ _ (some 38) (.bool (decide (o2 > 255))) _ _ rfl (by rfl) (fun W => by go_simp) ?_
          simp only [n1, n3, n4]
          refine wpG_done (fun V41 hv42 => ?_)
          have S43 : Hid (St w noB [] V41) := Lib.hid (S4.out.gr hv42)
          clear S4
          clear hv42
          refine ⟨rfl, hK _ _ ?_⟩
          clear hK
          obtain ⟨c44, hc44⟩ : ∃ q_, q_ = (decide (o2 > 255)) := ⟨_, rfl⟩
          rw [← hc44]
          have Hc44 := Lib.hid hc44
          clear hc44
          cases c44 with
          | true =>
            have f45 := of_decide_eq_true Hc44.out.symm
            go_upto_region 2 with fail
            refine wpG_region_k (fun K hK => ?_)
            refine @wpG_tk _ _ _ _ _ (some 39) (.bool true) _ _ rfl (.call (f := 10) (args := #[]) (by rfl) (fun W => by go_simp) (fun W hg => sanity_any W)) ?_
            simp only [n1, n3, n4]
            refine @wpG_p _ _ _ _ _ (some 8) (.bool true) _ _ rfl (by rfl) (fun _ => rfl) ?_
            simp only [n1, n3, n4]
            refine wpG_done (fun V46 hv47 => ?_)
            have S48 : Hid (St w noB [] V46) := Lib.hid (S43.out.gr hv47)
            clear S43
            clear hv47
            refine ⟨rfl, hK _ _ ?_⟩
            clear hK
            go_wp2_with fail
            go_ret
            refine ⟨?_, S48.out.bel⟩
            show Ending.returned (.bool true) = _
            (first | rfl | (rfl))
          | false =>
            have f49 := of_decide_eq_false Hc44.out.symm
            go_upto_region 3 with fail
            refine wpG_region_k (fun K hK => ?_)
            refine @wpG_p _ _ _ _ _ (some 9) (.slice none 0 0) _ _ rfl (by rfl) (fun _ => rfl) ?_
            simp only [n1, n3, n4]
            refine wpG_done (fun V50 hv51 => ?_)
            have S52 : Hid (St w noB [] V50) := Lib.hid (S43.out.gr hv51)
            clear S43
            clear hv51
            refine ⟨rfl, hK _ _ ?_⟩
            clear hK
            go_upto_region 4 with fail
            refine wpG_region_k (fun K hK => ?_)
            refine @wpG_p _ _ _ _ _ (some 10) (.int .i64 0) _ _ rfl (by rfl) (fun _ => rfl) ?_
            simp only [n1, n3, n4]
            refine wpG_done (fun V53 hv54 => ?_)
            have S55 : Hid (St w noB [] V53) := Lib.hid (S52.out.gr hv54)
            clear S52
            clear hv54
            refine ⟨rfl, hK _ _ ?_⟩
            clear hK
            have S56 : Hid (St w noB [own (.slice none 0 0) 3 1 0 (ic (List.replicate 0 o1))] V53) := Lib.hid (S55.out.nilOwn 3 1)
            clear S55
            go_wp2_with fail
            go_loopw [9, 10] (fun v9 v10 wr => ∃ (E : Option Addr) (d i : Nat), v9 = .slice E i d ∧ v10 = .int .i64 (i : Int) ∧ i ≤ 64 ∧ St w noB [own (.slice E i d) 3 1 i (ic (List.replicate i o1))] wr) (fun a i _ => 64 - (intOf i).toNat)
            case atStart => exact ⟨none, 0, 0, rfl, rfl, (by decide), S56.out⟩
            case round =>
              obtain ⟨E, d, i, rfl, rfl, hi64, hS⟩ := hrel
              have SL := Lib.hid hS
              clear S56 hS
              have S57 := SL
              clear SL
              go_upto_region 5 with fail
              refine wpG_region_k (fun K hK => ?_)
              refine @wpG_p _ _ _ _ _ (some 40) (.int .i64 (i : Int)) _ _ rfl (by rfl) (fun _ => rfl) ?_
              simp only [n1, n3, n4]
              refine @wpG_p _ _ _ _ _ (some 41) (.bool (decide ((i : Int) < 64))) _ _ rfl (by rfl) (fun W => op_int_lss W (i : Int) 64 rfl rfl rfl Try.underlying3) ?_
              simp only [n1, n3, n4]
              refine wpG_done (fun V58 hv59 => ?_)
              have S60 : Hid (St w noB [own (.slice E i d) 3 1 i (ic (List.replicate i o1))] V58) := Lib.hid (S57.out.gr hv59)
              clear S57
              clear hv59
              refine ⟨rfl, hK _ _ ?_⟩
              clear hK
              obtain ⟨c61, hc61⟩ : ∃ q_, q_ = (decide ((i : Int) < 64)) := ⟨_, rfl⟩
              rw [← hc61]
              have Hc61 := Lib.hid hc61
              clear hc61
              cases c61 with
              | true =>
                have f62 := of_decide_eq_true Hc61.out.symm
                go_upto_region 7 with fail
                refine wpG_region_k (fun K hK => ?_)
                refine @wpG_p _ _ _ _ _ (some 44) (.slice E i d) _ _ rfl (by rfl) (fun _ => rfl) ?_
                simp only [n1, n3, n4]
                refine @wpG_p _ _ _ _ _ (some 45) (.int .i64 o1) _ _ rfl (by rfl) (fun _ => rfl) ?_
                simp only [n1, n3, n4]
                refine wpG_val (some 46) rfl (by rfl) (fun W63 hg64 => ⟨.slice (some ⟨W63.heap.size, 0, none⟩) 1 1, W63.alloc (.cells #[.int .i64 o1] 3), by (go_simp <;> rfl), ?_⟩)
                simp only [n1, n3, n4]
                obtain ⟨g65, U66, hg_, hu_, hS_⟩ := (S60.out.gr hg64).made [.int .i64 o1] 3
                rw [← hu_, ← hg_]
                have S67 : Hid (St w noB [blk g65 3 [.int .i64 o1], own (.slice E i d) 3 1 i (ic (List.replicate i o1))] U66) := Lib.hid hS_
                clear S60
                clear hg_ hu_ hS_ hg64
                have S68 : Hid (St w noB [own (.slice E i d) 3 1 i (ic (List.replicate i o1)), blk g65 3 [.int .i64 o1]] U66) := Lib.hid (S67.out.front 1 rfl)
                clear S67
                refine wpG_appS (some 47) rfl rfl (.tmp 44) (.tmp 46) 22 22 rfl 3 1 8 Try.underlying22 (by kernel_rfl) (.slice E i d) i (ic (List.replicate i o1)) S68.out (.slice (some ⟨g65, 0, none⟩) 1 1) 1 [.int .i64 o1] (fun W hg => src_lies Try.underlying22 1 rfl (fun h => by cases h) (by intro u hu; simp at hu; rcases hu with rfl <;> rfl) ((S68.out.gr hg).liesBlk 1 rfl)) rfl rfl (by simp only [maxLen]; omega) (by omega) (fun v69 W70 hS_ => ?_)
                simp only [n1, n3, n4]
                rw [show ic (List.replicate i o1) ++ [.int .i64 o1] = ic ((List.replicate i o1) ++ [o1]) by simp [ic]] at hS_
                obtain ⟨A71, k72, rfl, hle_, hcap_, _⟩ := own_shape (hS_.ownr 0 rfl)
                have S73 : Hid (St w noB [own (.slice A71 (i + 1) k72) 3 1 (i + 1) (ic ((List.replicate i o1) ++ [o1])), blk g65 3 [.int .i64 o1]] W70) := Lib.hid hS_
                clear S68
                clear hS_
                refine @wpG_p _ _ _ _ _ (some 9) (.slice A71 (i + 1) k72) _ _ rfl (by rfl) (fun _ => rfl) ?_
                simp only [n1, n3, n4]
                refine wpG_done (fun V74 hv75 => ?_)
                have S76 : Hid (St w noB [own (.slice A71 (i + 1) k72) 3 1 (i + 1) (ic ((List.replicate i o1) ++ [o1])), blk g65 3 [.int .i64 o1]] V74) := Lib.hid (S73.out.gr hv75)
                clear S73
                clear hv75
                refine ⟨rfl, hK _ _ ?_⟩
                clear hK
                go_upto_region 6 with fail
                refine wpG_region_k (fun K hK => ?_)
                refine @wpG_p _ _ _ _ _ (some 42) (.int .i64 (i : Int)) _ _ rfl (by rfl) (fun _ => rfl) ?_
                simp only [n1, n3, n4]
                refine @wpG_p _ _ _ _ _ (some 43) (.int .i64 ((i : Int) + 1)) _ _ rfl (by rfl) (fun W => op_i_add W (i : Int) 1 (by omega) rfl rfl rfl Try.underlying3) ?_
                simp only [n1, n3, n4]
                refine @wpG_p _ _ _ _ _ (some 10) (.int .i64 ((i : Int) + 1)) _ _ rfl (by rfl) (fun _ => rfl) ?_
                simp only [n1, n3, n4]
                refine wpG_done (fun V77 hv78 => ?_)
                have S79 : Hid (St w noB [own (.slice A71 (i + 1) k72) 3 1 (i + 1) (ic ((List.replicate i o1) ++ [o1])), blk g65 3 [.int .i64 o1]] V77) := Lib.hid (S76.out.gr hv78)
                clear S76
                clear hv78
                refine ⟨rfl, hK _ _ ?_⟩
                clear hK
                go_wp2_with fail
                go_roundw
                have S80 : Hid (St w noB [own (.slice A71 (i + 1) k72) 3 1 (i + 1) (ic ((List.replicate i o1) ++ [o1]))] V77) := Lib.hid (S79.out.sub (.cons_cons _ (.cons _ .slnil)))
                clear S79
                case rel => exact ⟨A71, k72, i + 1, (by first | rfl | go_num), (by first | rfl | go_num), (by omega), (by rw [List.replicate_succ']; exact S80.out)⟩
                case measure => first | (simp only [intOf]; omega) | (simp [intOf]; done) | (simp [intOf]; omega) | omega
              | false =>
                have f81 := of_decide_eq_false Hc61.out.symm
                go_upto_region 8 with fail
                refine wpG_region_k (fun K hK => ?_)
                have hi_ : i = 64 := by omega
                have S82 : Hid (St w noB [own (.slice E i d) 3 1 i (ic (List.replicate 64 o1))] V58) := Lib.hid (by have h_ := S60.out; rw [show ic (List.replicate i o1) = ic (List.replicate 64 o1) from (by rw [hi_])] at h_; exact h_)
                clear S60
                have hib_ : i ≤ 64 ∧ 64 ≤ i := by omega
                clear hi_
                have hc1_ : Pl.cell o1 := by exact ⟨by omega, by omega⟩
                have hc2_ : Pl.cell o2 := by exact ⟨by omega, by omega⟩
                have HS1 := Lib.hid (Pl.sh1 hc1_)
                have HS2 := Lib.hid (Pl.sh2 hc1_)
                have HC1 := Lib.hid hc1_
                have HC2 := Lib.hid hc2_
                clear hc1_ hc2_
                refine @wpG_p _ _ _ _ _ (some 49) (.slice E i d) _ _ rfl (by rfl) (fun _ => rfl) ?_
                simp only [n1, n3, n4]
                refine @wpG_tk _ _ _ _ _ (some 50) (.tuple #[.string (bstr (Pl.eS (List.replicate 64 o1))), .int .i64 0]) _ _ rfl (.call (f := 16) (args := #[.slice E i d]) (by rfl) (fun W => by go_simp) (fun W hg => ((encode_any _ _ _ (List.replicate 64 o1) W (SL.ofOwn ((S82.out.gr hg).ownr 0 rfl)) (by omega)).mono (fun e w' h => ⟨h.1.trans (by rw [HS1.out.1]), h.2⟩)))) ?_
                simp only [n1, n3, n4]
                refine @wpG_p _ _ _ _ _ (some 48) (.tuple #[.string (bstr (Pl.eS (List.replicate 64 o1))), .int .i64 0]) _ _ rfl (by rfl) (fun _ => rfl) ?_
                simp only [n1, n3, n4]
                refine @wpG_p _ _ _ _ _ (some 51) (.string (bstr (Pl.eS (List.replicate 64 o1)))) _ _ rfl (by rfl) (fun W => by go_simp) ?_
                simp only [n1, n3, n4]
                refine @wpG_p _ _ _ _ _ (some 52) (.int .i64 0) _ _ rfl (by rfl) (fun W => by go_simp) ?_
                simp only [n1, n3, n4]
                refine @wpG_p _ _ _ _ _ (some 11) (.string (bstr (Pl.eS (List.replicate 64 o1)))) _ _ rfl (by rfl) (fun _ => rfl) ?_
                simp only [n1, n3, n4]
                refine @wpG_p _ _ _ _ _ (some 12) (.int .i64 0) _ _ rfl (by rfl) (fun _ => rfl) ?_
                simp only [n1, n3, n4]
                refine wpG_done (fun V83 hv84 => ?_)
                have S85 : Hid (St w noB [own (.slice E i d) 3 1 i (ic (List.replicate 64 o1))] V83) := Lib.hid (S82.out.gr hv84)
                clear S82
                clear hv84
                refine ⟨rfl, hK _ _ ?_⟩
                clear hK
                go_upto_region 9 with fail
                refine wpG_region_k (fun K hK => ?_)
                refine @wpG_p _ _ _ _ _ (some 54) (.slice E i d) _ _ rfl (by rfl) (fun _ => rfl) ?_
                simp only [n1, n3, n4]
                refine @wpG_p _ _ _ _ _ (some 55) (.slice E i d) _ _ rfl (by rfl) (fun _ => rfl) ?_
                simp only [n1, n3, n4]
                refine @wpG_tk _ _ _ _ _ (some 56) (.tuple #[.string (bstr (Pl.dS (List.replicate 64 o1) (List.replicate 64 o1))), .int .i64 0]) _ _ rfl (.call (f := 22) (args := #[.slice E i d, .slice E i d]) (by rfl) (fun W => by go_simp) (fun W hg => ((delta_any _ _ _ (List.replicate 64 o1) _ _ _ (List.replicate 64 o1) W (SL.ofOwn ((S85.out.gr hg).ownr 0 rfl)) (SL.ofOwn ((S85.out.gr hg).ownr 0 rfl)) (by omega) (by omega)).mono (fun e w' h => ⟨h.1.trans (by rw [HS2.out.1]), h.2⟩)))) ?_
                simp only [n1, n3, n4]
                refine @wpG_p _ _ _ _ _ (some 53) (.tuple #[.string (bstr (Pl.dS (List.replicate 64 o1) (List.replicate 64 o1))), .int .i64 0]) _ _ rfl (by rfl) (fun _ => rfl) ?_
                simp only [n1, n3, n4]
                refine @wpG_p _ _ _ _ _ (some 57) (.string (bstr (Pl.dS (List.replicate 64 o1) (List.replicate 64 o1)))) _ _ rfl (by rfl) (fun W => by go_simp) ?_
                simp only [n1, n3, n4]
                refine @wpG_p _ _ _ _ _ (some 58) (.int .i64 0) _ _ rfl (by rfl) (fun W => by go_simp) ?_
                simp only [n1, n3, n4]
                refine @wpG_p _ _ _ _ _ (some 13) (.string (bstr (Pl.dS (List.replicate 64 o1) (List.replicate 64 o1)))) _ _ rfl (by rfl) (fun _ => rfl) ?_
                simp only [n1, n3, n4]
                refine @wpG_p _ _ _ _ _ (some 14) (.int .i64 0) _ _ rfl (by rfl) (fun _ => rfl) ?_
                simp only [n1, n3, n4]
                refine wpG_done (fun V86 hv87 => ?_)
                have S88 : Hid (St w noB [own (.slice E i d) 3 1 i (ic (List.replicate 64 o1))] V86) := Lib.hid (S85.out.gr hv87)
                clear S85
                clear hv87
                refine ⟨rfl, hK _ _ ?_⟩
                clear hK
                go_upto_region 10 with fail
                refine wpG_region_k (fun K hK => ?_)
                refine @wpG_p _ _ _ _ _ (some 59) (.slice E i d) _ _ rfl (by rfl) (fun _ => rfl) ?_
                simp only [n1, n3, n4]
                refine @wpG_p _ _ _ _ _ (some 60) (.int .u8 (t : Int)) _ _ rfl (by rfl) (fun _ => rfl) ?_
                simp only [n1, n3, n4]
                obtain ⟨q, h_q⟩ : ∃ q_ : Nat, q_ = t % 64 := ⟨_, rfl⟩
                have hq64_ : q < 64 := by omega
                have Hq := Lib.hid h_q
                clear h_q
                refine @wpG_p _ _ _ _ _ (some 61) (.int .u8 (q : Int)) _ _ rfl (by rfl) (fun W => op_u8_rem t 64 q Hq.out.symm (by decide) rfl rfl rfl) ?_
                simp only [n1, n3, n4]
                refine @wpG_p _ _ _ _ _ (some 62) (.int .i64 o2) _ _ rfl (by rfl) (fun _ => rfl) ?_
                simp only [n1, n3, n4]
                obtain ⟨og89, rfl⟩ := ownAdr (S88.out.ownr 0 rfl) (by omega)
                have hix_ : q < i := by omega
                refine @wpG_p _ _ _ _ _ (some 63) (.pointer (some ⟨og89, q, none⟩)) _ _ rfl (by rfl) (fun W => by (go_simp <;> first | rfl | omega | (simp; omega))) ?_
                simp only [n1, n3, n4]
                refine wpG_store (none) rfl (by rfl) (fun W90 hg91 => ⟨W90.setCell ⟨og89, q, none⟩ (.int .i64 o2), by obtain ⟨⟨_, c⟩, c2⟩ := own_cell (k := q) ((S88.out.gr hg91).ownr 0 rfl) (by omega); go_simp, ?_⟩)
                simp only [n2]
                obtain ⟨U92, hu_, hS_⟩ := ((S88.out.gr hg91).ownPutAt 0 rfl (k := q) (by omega) (.int .i64 o2)).named
                rw [← hu_]
                have hS2_ : St w noB [own (.slice (some ⟨og89, 0, none⟩) i d) 3 1 i (ic ((List.replicate 64 o1).set q o2))] U92 := by have h_ := hS_; rw [show (ic (List.replicate 64 o1)).set q (.int .i64 o2) = ic ((List.replicate 64 o1).set q o2) from ic_set _ _ _] at h_; exact h_
                clear hS_
                have hS_ := hS2_
                clear hS2_
                have S93 : Hid (St w noB [own (.slice (some ⟨og89, 0, none⟩) i d) 3 1 i (ic ((List.replicate 64 o1).set q o2))] U92) := Lib.hid hS_
                clear S88
                clear hu_ hS_ hg91
                refine wpG_done (fun V94 hv95 => ?_)
                have S96 : Hid (St w noB [own (.slice (some ⟨og89, 0, none⟩) i d) 3 1 i (ic ((List.replicate 64 o1).set q o2))] V94) := Lib.hid (S93.out.gr hv95)
                clear S93
                clear hv95
                refine ⟨rfl, hK _ _ ?_⟩
                clear hK
                go_upto_region 11 with fail
                refine wpG_region_k (fun K hK => ?_)
                have HS3 := Lib.hid (Pl.sh3 HC1.out HC2.out hq64_)
                refine @wpG_p _ _ _ _ _ (some 65) (.slice (some ⟨og89, 0, none⟩) i d) _ _ rfl (by rfl) (fun _ => rfl) ?_
                simp only [n1, n3, n4]
                refine @wpG_tk _ _ _ _ _ (some 66) (.tuple #[.string (bstr (Pl.eS ((List.replicate 64 o1).set q o2))), .int .i64 0]) _ _ rfl (.call (f := 16) (args := #[.slice (some ⟨og89, 0, none⟩) i d]) (by rfl) (fun W => by go_simp) (fun W hg => ((encode_any _ _ _ ((List.replicate 64 o1).set q o2) W (SL.ofOwn ((S96.out.gr hg).ownr 0 rfl)) (by omega)).mono (fun e w' h => ⟨h.1.trans (by rw [HS3.out.1]), h.2⟩)))) ?_
                simp only [n1, n3, n4]
                refine @wpG_p _ _ _ _ _ (some 64) (.tuple #[.string (bstr (Pl.eS ((List.replicate 64 o1).set q o2))), .int .i64 0]) _ _ rfl (by rfl) (fun _ => rfl) ?_
                simp only [n1, n3, n4]
                refine @wpG_p _ _ _ _ _ (some 67) (.string (bstr (Pl.eS ((List.replicate 64 o1).set q o2)))) _ _ rfl (by rfl) (fun W => by go_simp) ?_
                simp only [n1, n3, n4]
                refine @wpG_p _ _ _ _ _ (some 68) (.int .i64 0) _ _ rfl (by rfl) (fun W => by go_simp) ?_
                simp only [n1, n3, n4]
                refine @wpG_p _ _ _ _ _ (some 15) (.string (bstr (Pl.eS ((List.replicate 64 o1).set q o2)))) _ _ rfl (by rfl) (fun _ => rfl) ?_
                simp only [n1, n3, n4]
                refine @wpG_p _ _ _ _ _ (some 16) (.int .i64 0) _ _ rfl (by rfl) (fun _ => rfl) ?_
                simp only [n1, n3, n4]
                refine wpG_done (fun V97 hv98 => ?_)
                have S99 : Hid (St w noB [own (.slice (some ⟨og89, 0, none⟩) i d) 3 1 i (ic ((List.replicate 64 o1).set q o2))] V97) := Lib.hid (S96.out.gr hv98)
                clear S96
                clear hv98
                refine ⟨rfl, hK _ _ ?_⟩
                clear hK
                go_upto_region 12 with fail
                refine wpG_region_k (fun K hK => ?_)
                refine @wpG_p _ _ _ _ _ (some 17) (.int .i64 12) _ _ rfl (by rfl) (fun _ => rfl) ?_
                simp only [n1, n3, n4]
                refine wpG_done (fun V100 hv101 => ?_)
                have S102 : Hid (St w noB [own (.slice (some ⟨og89, 0, none⟩) i d) 3 1 i (ic ((List.replicate 64 o1).set q o2))] V100) := Lib.hid (S99.out.gr hv101)
                clear S99
                clear hv101
                refine ⟨rfl, hK _ _ ?_⟩
                clear hK
                go_upto_region 13 with fail
                refine wpG_region_k (fun K hK => ?_)
                refine @wpG_p _ _ _ _ _ (some 69) (.int .i64 o1) _ _ rfl (by rfl) (fun _ => rfl) ?_
                simp only [n1, n3, n4]
                refine @wpG_p _ _ _ _ _ (some 70) (.int .i64 o2) _ _ rfl (by rfl) (fun _ => rfl) ?_
                simp only [n1, n3, n4]
                refine @wpG_p _ _ _ _ _ (some 71) (.bool (decide (o1 = o2))) _ _ rfl (by rfl) (fun W => op_int_eql W o1 o2 rfl rfl rfl Try.underlying3) ?_
                simp only [n1, n3, n4]
                refine wpG_done (fun V103 hv104 => ?_)
                have S105 : Hid (St w noB [own (.slice (some ⟨og89, 0, none⟩) i d) 3 1 i (ic ((List.replicate 64 o1).set q o2))] V103) := Lib.hid (S102.out.gr hv104)
                clear S102
                clear hv104
                refine ⟨rfl, hK _ _ ?_⟩
                clear hK
                obtain ⟨c106, hc106⟩ : ∃ q_, q_ = (decide (o1 = o2)) := ⟨_, rfl⟩
                rw [← hc106]
                have Hc106 := Lib.hid hc106
                clear hc106
                cases c106 with
                | true =>
                  have f107 := Lib.hid (of_decide_eq_true Hc106.out.symm)
                  have f107a := Int.le_of_eq f107.out
                  have f107b := Int.le_of_eq f107.out.symm
                  go_upto_region 14 with fail
                  refine wpG_region_k (fun K hK => ?_)
                  refine @wpG_p _ _ _ _ _ (some 17) (.int .i64 3) _ _ rfl (by rfl) (fun _ => rfl) ?_
                  simp only [n1, n3, n4]
                  refine wpG_done (fun V108 hv109 => ?_)
                  have S110 : Hid (St w noB [own (.slice (some ⟨og89, 0, none⟩) i d) 3 1 i (ic ((List.replicate 64 o1).set q o2))] V108) := Lib.hid (S105.out.gr hv109)
                  clear S105
                  clear hv109
                  refine ⟨rfl, hK _ _ ?_⟩
                  clear hK
                  go_upto_region 15 with fail
                  refine wpG_region_k (fun K hK => ?_)
                  refine @wpG_p _ _ _ _ _ (some 73) (.slice A n c) _ _ rfl (by rfl) (fun _ => rfl) ?_
                  simp only [n1, n3, n4]
                  refine @wpG_tk _ _ _ _ _ (some 74) (.tuple #[.string (bstr (Pl.eS l)), .int .i64 (Pl.eE l)]) _ _ rfl (.call (f := 16) (args := #[.slice A n c]) (by rfl) (fun W => by go_simp) (fun W hg => encode_any _ _ _ l W (HGA.out.gr (S110.out.gr hg).bel) (by omega))) ?_
                  simp only [n1, n3, n4]
                  refine @wpG_p _ _ _ _ _ (some 72) (.tuple #[.string (bstr (Pl.eS l)), .int .i64 (Pl.eE l)]) _ _ rfl (by rfl) (fun _ => rfl) ?_
                  simp only [n1, n3, n4]
                  refine @wpG_p _ _ _ _ _ (some 75) (.string (bstr (Pl.eS l))) _ _ rfl (by rfl) (fun W => by go_simp) ?_
                  simp only [n1, n3, n4]
                  refine @wpG_p _ _ _ _ _ (some 76) (.int .i64 (Pl.eE l)) _ _ rfl (by rfl) (fun W => by go_simp) ?_
                  simp only [n1, n3, n4]
                  refine @wpG_p _ _ _ _ _ (some 18) (.string (bstr (Pl.eS l))) _ _ rfl (by rfl) (fun _ => rfl) ?_
                  simp only [n1, n3, n4]
                  refine @wpG_p _ _ _ _ _ (some 19) (.int .i64 (Pl.eE l)) _ _ rfl (by rfl) (fun _ => rfl) ?_
                  simp only [n1, n3, n4]
                  refine wpG_done (fun V111 hv112 => ?_)
                  have S113 : Hid (St w noB [own (.slice (some ⟨og89, 0, none⟩) i d) 3 1 i (ic ((List.replicate 64 o1).set q o2))] V111) := Lib.hid (S110.out.gr hv112)
                  clear S110
                  clear hv112
                  refine ⟨rfl, hK _ _ ?_⟩
                  clear hK
                  go_upto_region 16 with fail
                  refine wpG_region_k (fun K hK => ?_)
                  refine @wpG_tk _ _ _ _ _ (some 77) (.bool true) _ _ rfl (.call (f := 10) (args := #[]) (by rfl) (fun W => by go_simp) (fun W hg => sanity_any W)) ?_
                  simp only [n1, n3, n4]
                  refine @wpG_p _ _ _ _ _ (some 78) (.bool true) _ _ rfl (by rfl) (fun _ => rfl) ?_
                  simp only [n1, n3, n4]
                  refine @wpG_p _ _ _ _ _ (some 79) (.int .i64 0) _ _ rfl (by rfl) (fun _ => rfl) ?_
                  simp only [n1, n3, n4]
                  refine @wpG_p _ _ _ _ _ (some 80) (.bool true) _ _ rfl (by rfl) (fun W => by go_simp) ?_
                  simp only [n1, n3, n4]
                  refine @wpG_p _ _ _ _ _ (some 81) (.bool true) _ _ rfl (by rfl) (fun W => by go_simp) ?_
                  simp only [n1, n3, n4]
                  refine @wpG_p _ _ _ _ _ (some 82) (.bool true) _ _ rfl (by rfl) (fun _ => rfl) ?_
                  simp only [n1, n3, n4]
                  refine @wpG_p _ _ _ _ _ (some 83) (.int .i64 0) _ _ rfl (by rfl) (fun _ => rfl) ?_
                  simp only [n1, n3, n4]
                  refine @wpG_p _ _ _ _ _ (some 84) (.bool true) _ _ rfl (by rfl) (fun W => by go_simp) ?_
                  simp only [n1, n3, n4]
                  refine @wpG_p _ _ _ _ _ (some 85) (.bool true) _ _ rfl (by rfl) (fun W => by go_simp) ?_
                  simp only [n1, n3, n4]
                  refine @wpG_p _ _ _ _ _ (some 86) (.bool true) _ _ rfl (by rfl) (fun _ => rfl) ?_
                  simp only [n1, n3, n4]
                  refine @wpG_p _ _ _ _ _ (some 87) (.int .i64 0) _ _ rfl (by rfl) (fun _ => rfl) ?_
                  simp only [n1, n3, n4]
                  refine @wpG_p _ _ _ _ _ (some 88) (.bool true) _ _ rfl (by rfl) (fun W => by go_simp) ?_
                  simp only [n1, n3, n4]
                  refine @wpG_p _ _ _ _ _ (some 89) (.bool true) _ _ rfl (by rfl) (fun W => by go_simp) ?_
                  simp only [n1, n3, n4]
                  refine @wpG_p _ _ _ _ _ (some 90) (.bool true) _ _ rfl (by rfl) (fun _ => rfl) ?_
                  simp only [n1, n3, n4]
                  refine @wpG_p _ _ _ _ _ (some 91) (.string (bstr (Pl.eS (List.replicate 64 o1)))) _ _ rfl (by rfl) (fun _ => rfl) ?_
                  simp only [n1, n3, n4]
                  refine @wpG_p _ _ _ _ _ (some 92) (.int .i64 ((Pl.eS (List.replicate 64 o1)).length : Int)) _ _ rfl (by rfl) (fun W => op_str_len W (Pl.eS (List.replicate 64 o1)) rfl rfl Try.underlying9) ?_
                  simp only [n1, n3, n4]
                  refine @wpG_p _ _ _ _ _ (some 93) (.bool true) _ _ rfl (by rfl) (fun W => (op_int_eql W ((Pl.eS (List.replicate 64 o1)).length : Int) 3 rfl rfl rfl Try.underlying3).trans (by rw [decide_eq_true (show ((Pl.eS (List.replicate 64 o1)).length : Int) = 3 from by have h_ := HS1.out.2; omega)])) ?_
                  simp only [n1, n3, n4]
                  refine @wpG_p _ _ _ _ _ (some 94) (.bool true) _ _ rfl (by rfl) (fun W => by go_simp) ?_
                  simp only [n1, n3, n4]
                  refine @wpG_p _ _ _ _ _ (some 95) (.bool true) _ _ rfl (by rfl) (fun _ => rfl) ?_
                  simp only [n1, n3, n4]
                  refine @wpG_p _ _ _ _ _ (some 96) (.string (bstr (Pl.dS (List.replicate 64 o1) (List.replicate 64 o1)))) _ _ rfl (by rfl) (fun _ => rfl) ?_
                  simp only [n1, n3, n4]
                  refine @wpG_p _ _ _ _ _ (some 97) (.int .i64 ((Pl.dS (List.replicate 64 o1) (List.replicate 64 o1)).length : Int)) _ _ rfl (by rfl) (fun W => op_str_len W (Pl.dS (List.replicate 64 o1) (List.replicate 64 o1)) rfl rfl Try.underlying9) ?_
                  simp only [n1, n3, n4]
                  refine @wpG_p _ _ _ _ _ (some 98) (.bool true) _ _ rfl (by rfl) (fun W => (op_int_eql W ((Pl.dS (List.replicate 64 o1) (List.replicate 64 o1)).length : Int) 9 rfl rfl rfl Try.underlying3).trans (by rw [decide_eq_true (show ((Pl.dS (List.replicate 64 o1) (List.replicate 64 o1)).length : Int) = 9 from by have h_ := HS2.out.2; omega)])) ?_
                  simp only [n1, n3, n4]
                  refine @wpG_p _ _ _ _ _ (some 99) (.bool true) _ _ rfl (by rfl) (fun W => by go_simp) ?_
                  simp only [n1, n3, n4]
                  refine @wpG_p _ _ _ _ _ (some 100) (.bool true) _ _ rfl (by rfl) (fun _ => rfl) ?_
                  simp only [n1, n3, n4]
                  refine @wpG_p _ _ _ _ _ (some 101) (.string (bstr (Pl.eS ((List.replicate 64 o1).set q o2)))) _ _ rfl (by rfl) (fun _ => rfl) ?_
                  simp only [n1, n3, n4]
                  refine @wpG_p _ _ _ _ _ (some 102) (.int .i64 ((Pl.eS ((List.replicate 64 o1).set q o2)).length : Int)) _ _ rfl (by rfl) (fun W => op_str_len W (Pl.eS ((List.replicate 64 o1).set q o2)) rfl rfl Try.underlying9) ?_
                  simp only [n1, n3, n4]
                  refine @wpG_p _ _ _ _ _ (some 103) (.int .i64 3) _ _ rfl (by rfl) (fun _ => rfl) ?_
                  simp only [n1, n3, n4]
                  refine @wpG_p _ _ _ _ _ (some 104) (.bool true) _ _ rfl (by rfl) (fun W => (op_int_eql W ((Pl.eS ((List.replicate 64 o1).set q o2)).length : Int) 3 rfl rfl rfl Try.underlying3).trans (by rw [decide_eq_true (show ((Pl.eS ((List.replicate 64 o1).set q o2)).length : Int) = 3 from by have e_f107 := f107.out; have h_ := HS3.out.2; rw [if_pos e_f107] at h_; omega)])) ?_
                  simp only [n1, n3, n4]
                  refine @wpG_p _ _ _ _ _ (some 105) (.bool true) _ _ rfl (by rfl) (fun W => by go_simp) ?_
                  simp only [n1, n3, n4]
                  refine @wpG_p _ _ _ _ _ (some 106) (.bool true) _ _ rfl (by rfl) (fun _ => rfl) ?_
                  simp only [n1, n3, n4]
                  refine @wpG_p _ _ _ _ _ (some 107) (.int .i64 (Pl.eE l)) _ _ rfl (by rfl) (fun _ => rfl) ?_
                  simp only [n1, n3, n4]
                  refine @wpG_p _ _ _ _ _ (some 108) (.bool (decide (Pl.eE l ≠ 0))) _ _ rfl (by rfl) (fun W => op_int_neq W (Pl.eE l) 0 rfl rfl rfl Try.underlying24) ?_
                  simp only [n1, n3, n4]
                  refine @wpG_p _ _ _ _ _ (some 109) (.bool (decide (Pl.eE l ≠ 0))) _ _ rfl (by rfl) (fun _ => rfl) ?_
                  simp only [n1, n3, n4]
                  obtain ⟨c114, hc114⟩ : ∃ q_, q_ = (decide (Pl.eE l ≠ 0)) := ⟨_, rfl⟩
                  rw [← hc114]
                  have Hc114 := Lib.hid hc114
                  clear hc114
                  cases c114 with
                  | true =>
                    have f115 := of_decide_eq_true Hc114.out.symm
                    refine @wpG_no _ _ _ _ _ (some 110) _ _ rfl (by rfl) ?_
                    simp only [n1, n3, n4]
                    refine @wpG_no _ _ _ _ _ (some 111) _ _ rfl (by rfl) ?_
                    simp only [n1, n3, n4]
                    refine @wpG_no _ _ _ _ _ (some 112) _ _ rfl (by rfl) ?_
                    simp only [n1, n3, n4]
                    refine @wpG_p _ _ _ _ _ (some 113) (.bool true) _ _ rfl (by rfl) (fun W => by go_simp) ?_
                    simp only [n1, n3, n4]
                    refine @wpG_p _ _ _ _ _ (some 114) (.bool true) _ _ rfl (by rfl) (fun W => by go_simp) ?_
                    simp only [n1, n3, n4]
                    refine @wpG_p _ _ _ _ _ (some 8) (.bool true) _ _ rfl (by rfl) (fun _ => rfl) ?_
                    simp only [n1, n3, n4]
                    refine wpG_done (fun V116 hv117 => ?_)
                    have S118 : Hid (St w noB [own (.slice (some ⟨og89, 0, none⟩) i d) 3 1 i (ic ((List.replicate 64 o1).set q o2))] V116) := Lib.hid (S113.out.gr hv117)
                    clear S113
                    clear hv117
                    refine ⟨rfl, hK _ _ ?_⟩
                    clear hK
                    go_wp2_with fail
                    go_ret
                    refine ⟨?_, S118.out.bel⟩
                    show Ending.returned (.bool true) = _
                    (first | rfl | (have e_f107 := f107.out; rfl))
                  | false =>
                    have f119 := Lib.hid (Decidable.not_not.1 (of_decide_eq_false Hc114.out.symm))
                    have f119a := Int.le_of_eq f119.out
                    have f119b := Int.le_of_eq f119.out.symm
                    refine @wpG_p _ _ _ _ _ (some 110) (.string (bstr (Pl.eS l))) _ _ rfl (by rfl) (fun _ => rfl) ?_
                    simp only [n1, n3, n4]
                    refine @wpG_p _ _ _ _ _ (some 111) (.int .i64 ((Pl.eS l).length : Int)) _ _ rfl (by rfl) (fun W => op_str_len W (Pl.eS l) rfl rfl Try.underlying9) ?_
                    simp only [n1, n3, n4]
                    refine @wpG_p _ _ _ _ _ (some 112) (.bool true) _ _ rfl (by rfl) (fun W => (op_int_leq W ((Pl.eS l).length : Int) 130 rfl rfl rfl Try.underlying3).trans (by rw [decide_eq_true (by have h_ := Pl.eS_len l; omega)])) ?_
                    simp only [n1, n3, n4]
                    refine @wpG_p _ _ _ _ _ (some 113) (.bool true) _ _ rfl (by rfl) (fun W => by go_simp) ?_
                    simp only [n1, n3, n4]
                    refine @wpG_p _ _ _ _ _ (some 114) (.bool true) _ _ rfl (by rfl) (fun W => by go_simp) ?_
                    simp only [n1, n3, n4]
                    refine @wpG_p _ _ _ _ _ (some 8) (.bool true) _ _ rfl (by rfl) (fun _ => rfl) ?_
                    simp only [n1, n3, n4]
                    refine wpG_done (fun V120 hv121 => ?_)
                    have S122 : Hid (St w noB [own (.slice (some ⟨og89, 0, none⟩) i d) 3 1 i (ic ((List.replicate 64 o1).set q o2))] V120) := Lib.hid (S113.out.gr hv121)
                    clear S113
                    clear hv121
                    refine ⟨rfl, hK _ _ ?_⟩
                    clear hK
                    go_wp2_with fail
                    go_ret
                    refine ⟨?_, S122.out.bel⟩
                    show Ending.returned (.bool true) = _
                    (first | rfl | (have e_f107 := f107.out; have e_f119 := f119.out; rfl))
                | false =>
                  have f123 := of_decide_eq_false Hc106.out.symm
                  go_upto_region 15 with fail
                  refine wpG_region_k (fun K hK => ?_)
                  refine @wpG_p _ _ _ _ _ (some 73) (.slice A n c) _ _ rfl (by rfl) (fun _ => rfl) ?_
                  simp only [n1, n3, n4]
                  refine @wpG_tk _ _ _ _ _ (some 74) (.tuple #[.string (bstr (Pl.eS l)), .int .i64 (Pl.eE l)]) _ _ rfl (.call (f := 16) (args := #[.slice A n c]) (by rfl) (fun W => by go_simp) (fun W hg => encode_any _ _ _ l W (HGA.out.gr (S105.out.gr hg).bel) (by omega))) ?_
                  simp only [n1, n3, n4]
                  refine @wpG_p _ _ _ _ _ (some 72) (.tuple #[.string (bstr (Pl.eS l)), .int .i64 (Pl.eE l)]) _ _ rfl (by rfl) (fun _ => rfl) ?_
                  simp only [n1, n3, n4]
                  refine @wpG_p _ _ _ _ _ (some 75) (.string (bstr (Pl.eS l))) _ _ rfl (by rfl) (fun W => by go_simp) ?_
                  simp only [n1, n3, n4]
                  refine @wpG_p _ _ _ _ _ (some 76) (.int .i64 (Pl.eE l)) _ _ rfl (by rfl) (fun W => by go_simp) ?_
                  simp only [n1, n3, n4]
                  refine @wpG_p _ _ _ _ _ (some 18) (.string (bstr (Pl.eS l))) _ _ rfl (by rfl) (fun _ => rfl) ?_
                  simp only [n1, n3, n4]
                  refine @wpG_p _ _ _ _ _ (some 19) (.int .i64 (Pl.eE l)) _ _ rfl (by rfl) (fun _ => rfl) ?_
                  simp only [n1, n3, n4]
                  refine wpG_done (fun V124 hv125 => ?_)
                  have S126 : Hid (St w noB [own (.slice (some ⟨og89, 0, none⟩) i d) 3 1 i (ic ((List.replicate 64 o1).set q o2))] V124) := Lib.hid (S105.out.gr hv125)
                  clear S105
                  clear hv125
                  refine ⟨rfl, hK _ _ ?_⟩
                  clear hK
                  go_upto_region 16 with fail
                  refine wpG_region_k (fun K hK => ?_)
                  refine @wpG_tk _ _ _ _ _ (some 77) (.bool true) _ _ rfl (.call (f := 10) (args := #[]) (by rfl) (fun W => by go_simp) (fun W hg => sanity_any W)) ?_
                  simp only [n1, n3, n4]
                  refine @wpG_p _ _ _ _ _ (some 78) (.bool true) _ _ rfl (by rfl) (fun _ => rfl) ?_
                  simp only [n1, n3, n4]
                  refine @wpG_p _ _ _ _ _ (some 79) (.int .i64 0) _ _ rfl (by rfl) (fun _ => rfl) ?_
                  simp only [n1, n3, n4]
                  refine @wpG_p _ _ _ _ _ (some 80) (.bool true) _ _ rfl (by rfl) (fun W => by go_simp) ?_
                  simp only [n1, n3, n4]
                  refine @wpG_p _ _ _ _ _ (some 81) (.bool true) _ _ rfl (by rfl) (fun W => by go_simp) ?_
                  simp only [n1, n3, n4]
                  refine @wpG_p _ _ _ _ _ (some 82) (.bool true) _ _ rfl (by rfl) (fun _ => rfl) ?_
                  simp only [n1, n3, n4]
                  refine @wpG_p _ _ _ _ _ (some 83) (.int .i64 0) _ _ rfl (by rfl) (fun _ => rfl) ?_
                  simp only [n1, n3, n4]
                  refine @wpG_p _ _ _ _ _ (some 84) (.bool true) _ _ rfl (by rfl) (fun W => by go_simp) ?_
                  simp only [n1, n3, n4]
                  refine @wpG_p _ _ _ _ _ (some 85) (.bool true) _ _ rfl (by rfl) (fun W => by go_simp) ?_
                  simp only [n1, n3, n4]
                  refine @wpG_p _ _ _ _ _ (some 86) (.bool true) _ _ rfl (by rfl) (fun _ => rfl) ?_
                  simp only [n1, n3, n4]
                  refine @wpG_p _ _ _ _ _ (some 87) (.int .i64 0) _ _ rfl (by rfl) (fun _ => rfl) ?_
                  simp only [n1, n3, n4]
                  refine @wpG_p _ _ _ _ _ (some 88) (.bool true) _ _ rfl (by rfl) (fun W => by go_simp) ?_
                  simp only [n1, n3, n4]
                  refine @wpG_p _ _ _ _ _ (some 89) (.bool true) _ _ rfl (by rfl) (fun W => by go_simp) ?_
                  simp only [n1, n3, n4]
                  refine @wpG_p _ _ _ _ _ (some 90) (.bool true) _ _ rfl (by rfl) (fun _ => rfl) ?_
                  simp only [n1, n3, n4]
                  refine @wpG_p _ _ _ _ _ (some 91) (.string (bstr (Pl.eS (List.replicate 64 o1)))) _ _ rfl (by rfl) (fun _ => rfl) ?_
                  simp only [n1, n3, n4]
                  refine @wpG_p _ _ _ _ _ (some 92) (.int .i64 ((Pl.eS (List.replicate 64 o1)).length : Int)) _ _ rfl (by rfl) (fun W => op_str_len W (Pl.eS (List.replicate 64 o1)) rfl rfl Try.underlying9) ?_
                  simp only [n1, n3, n4]
                  refine @wpG_p _ _ _ _ _ (some 93) (.bool true) _ _ rfl (by rfl) (fun W => (op_int_eql W ((Pl.eS (List.replicate 64 o1)).length : Int) 3 rfl rfl rfl Try.underlying3).trans (by rw [decide_eq_true (show ((Pl.eS (List.replicate 64 o1)).length : Int) = 3 from by have h_ := HS1.out.2; omega)])) ?_
                  simp only [n1, n3, n4]
                  refine @wpG_p _ _ _ _ _ (some 94) (.bool true) _ _ rfl (by rfl) (fun W => by go_simp) ?_
                  simp only [n1, n3, n4]
                  refine @wpG_p _ _ _ _ _ (some 95) (.bool true) _ _ rfl (by rfl) (fun _ => rfl) ?_
                  simp only [n1, n3, n4]
                  refine @wpG_p _ _ _ _ _ (some 96) (.string (bstr (Pl.dS (List.replicate 64 o1) (List.replicate 64 o1)))) _ _ rfl (by rfl) (fun _ => rfl) ?_
                  simp only [n1, n3, n4]
                  refine @wpG_p _ _ _ _ _ (some 97) (.int .i64 ((Pl.dS (List.replicate 64 o1) (List.replicate 64 o1)).length : Int)) _ _ rfl (by rfl) (fun W => op_str_len W (Pl.dS (List.replicate 64 o1) (List.replicate 64 o1)) rfl rfl Try.underlying9) ?_
                  simp only [n1, n3, n4]
                  refine @wpG_p _ _ _ _ _ (some 98) (.bool true) _ _ rfl (by rfl) (fun W => (op_int_eql W ((Pl.dS (List.replicate 64 o1) (List.replicate 64 o1)).length : Int) 9 rfl rfl rfl Try.underlying3).trans (by rw [decide_eq_true (show ((Pl.dS (List.replicate 64 o1) (List.replicate 64 o1)).length : Int) = 9 from by have h_ := HS2.out.2; omega)])) ?_
                  simp only [n1, n3, n4]
                  refine @wpG_p _ _ _ _ _ (some 99) (.bool true) _ _ rfl (by rfl) (fun W => by go_simp) ?_
                  simp only [n1, n3, n4]
                  refine @wpG_p _ _ _ _ _ (some 100) (.bool true) _ _ rfl (by rfl) (fun _ => rfl) ?_
                  simp only [n1, n3, n4]
                  refine @wpG_p _ _ _ _ _ (some 101) (.string (bstr (Pl.eS ((List.replicate 64 o1).set q o2)))) _ _ rfl (by rfl) (fun _ => rfl) ?_
                  simp only [n1, n3, n4]
                  refine @wpG_p _ _ _ _ _ (some 102) (.int .i64 ((Pl.eS ((List.replicate 64 o1).set q o2)).length : Int)) _ _ rfl (by rfl) (fun W => op_str_len W (Pl.eS ((List.replicate 64 o1).set q o2)) rfl rfl Try.underlying9) ?_
                  simp only [n1, n3, n4]
                  refine @wpG_p _ _ _ _ _ (some 103) (.int .i64 12) _ _ rfl (by rfl) (fun _ => rfl) ?_
                  simp only [n1, n3, n4]
                  refine @wpG_p _ _ _ _ _ (some 104) (.bool true) _ _ rfl (by rfl) (fun W => (op_int_eql W ((Pl.eS ((List.replicate 64 o1).set q o2)).length : Int) 12 rfl rfl rfl Try.underlying3).trans (by rw [decide_eq_true (show ((Pl.eS ((List.replicate 64 o1).set q o2)).length : Int) = 12 from by have h_ := HS3.out.2; rw [if_neg f123] at h_; omega)])) ?_
                  simp only [n1, n3, n4]
                  refine @wpG_p _ _ _ _ _ (some 105) (.bool true) _ _ rfl (by rfl) (fun W => by go_simp) ?_
                  simp only [n1, n3, n4]
                  refine @wpG_p _ _ _ _ _ (some 106) (.bool true) _ _ rfl (by rfl) (fun _ => rfl) ?_
                  simp only [n1, n3, n4]
                  refine @wpG_p _ _ _ _ _ (some 107) (.int .i64 (Pl.eE l)) _ _ rfl (by rfl) (fun _ => rfl) ?_
                  simp only [n1, n3, n4]
                  refine @wpG_p _ _ _ _ _ (some 108) (.bool (decide (Pl.eE l ≠ 0))) _ _ rfl (by rfl) (fun W => op_int_neq W (Pl.eE l) 0 rfl rfl rfl Try.underlying24) ?_
                  simp only [n1, n3, n4]
                  refine @wpG_p _ _ _ _ _ (some 109) (.bool (decide (Pl.eE l ≠ 0))) _ _ rfl (by rfl) (fun _ => rfl) ?_
                  simp only [n1, n3, n4]
                  obtain ⟨c127, hc127⟩ : ∃ q_, q_ = (decide (Pl.eE l ≠ 0)) := ⟨_, rfl⟩
                  rw [← hc127]
                  have Hc127 := Lib.hid hc127
                  clear hc127
                  cases c127 with
                  | true =>
                    have f128 := of_decide_eq_true Hc127.out.symm
                    refine @wpG_no _ _ _ _ _ (some 110) _ _ rfl (by rfl) ?_
                    simp only [n1, n3, n4]
                    refine @wpG_no _ _ _ _ _ (some 111) _ _ rfl (by rfl) ?_
                    simp only [n1, n3, n4]
                    refine @wpG_no _ _ _ _ _ (some 112) _ _ rfl (by rfl) ?_
                    simp only [n1, n3, n4]
                    refine @wpG_p _ _ _ _ _ (some 113) (.bool true) _ _ rfl (by rfl) (fun W => by go_simp) ?_
                    simp only [n1, n3, n4]
                    refine @wpG_p _ _ _ _ _ (some 114) (.bool true) _ _ rfl (by rfl) (fun W => by go_simp) ?_
                    simp only [n1, n3, n4]
                    refine @wpG_p _ _ _ _ _ (some 8) (.bool true) _ _ rfl (by rfl) (fun _ => rfl) ?_
                    simp only [n1, n3, n4]
                    refine wpG_done (fun V129 hv130 => ?_)
                    have S131 : Hid (St w noB [own (.slice (some ⟨og89, 0, none⟩) i d) 3 1 i (ic ((List.replicate 64 o1).set q o2))] V129) := Lib.hid (S126.out.gr hv130)
                    clear S126
                    clear hv130
                    refine ⟨rfl, hK _ _ ?_⟩
                    clear hK
                    go_wp2_with fail
                    go_ret
                    refine ⟨?_, S131.out.bel⟩
                    show Ending.returned (.bool true) = _
                    (first | rfl | (rfl))
                  | false =>
                    have f132 := Lib.hid (Decidable.not_not.1 (of_decide_eq_false Hc127.out.symm))
                    have f132a := Int.le_of_eq f132.out
                    have f132b := Int.le_of_eq f132.out.symm
                    refine @wpG_p _ _ _ _ _ (some 110) (.string (bstr (Pl.eS l))) _ _ rfl (by rfl) (fun _ => rfl) ?_
                    simp only [n1, n3, n4]
                    refine @wpG_p _ _ _ _ _ (some 111) (.int .i64 ((Pl.eS l).length : Int)) _ _ rfl (by rfl) (fun W => op_str_len W (Pl.eS l) rfl rfl Try.underlying9) ?_
                    simp only [n1, n3, n4]
                    refine @wpG_p _ _ _ _ _ (some 112) (.bool true) _ _ rfl (by rfl) (fun W => (op_int_leq W ((Pl.eS l).length : Int) 130 rfl rfl rfl Try.underlying3).trans (by rw [decide_eq_true (by have h_ := Pl.eS_len l; omega)])) ?_
                    simp only [n1, n3, n4]
                    refine @wpG_p _ _ _ _ _ (some 113) (.bool true) _ _ rfl (by rfl) (fun W => by go_simp) ?_
                    simp only [n1, n3, n4]
                    refine @wpG_p _ _ _ _ _ (some 114) (.bool true) _ _ rfl (by rfl) (fun W => by go_simp) ?_
                    simp only [n1, n3, n4]
                    refine @wpG_p _ _ _ _ _ (some 8) (.bool true) _ _ rfl (by rfl) (fun _ => rfl) ?_
                    simp only [n1, n3, n4]
                    refine wpG_done (fun V133 hv134 => ?_)
                    have S135 : Hid (St w noB [own (.slice (some ⟨og89, 0, none⟩) i d) 3 1 i (ic ((List.replicate 64 o1).set q o2))] V133) := Lib.hid (S126.out.gr hv134)
                    clear S126
                    clear hv134
                    refine ⟨rfl, hK _ _ ?_⟩
                    clear hK
                    go_wp2_with fail
                    go_ret
                    refine ⟨?_, S135.out.bel⟩
                    show Ending.returned (.bool true) = _
                    (first | rfl | (have e_f132 := f132.out; rfl))

end Go.Proofs.Ytfomieekdbkcnaa
