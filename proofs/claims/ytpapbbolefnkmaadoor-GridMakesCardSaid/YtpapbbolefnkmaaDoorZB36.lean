/-
  Contracts of package grid: ranges, materials, cells, equality, counts, validity.
-/
import Derived.Test.YtpapbbolefnkmaaDoorZB00
import Derived.Test.YtpapbbolefnkmaaDoorZB35
import Derived.Test.YtpapbbolefnkmaaDoorZB34
import Derived.Handy
namespace Go.Proofs.YtpapbbolefnkmaaDoor
open Go Go.RowKit
set_option linter.unusedVariables false
set_option linter.unusedSimpArgs false
instance (B : Gm.Bx) : Decidable B.rg:=by unfold Gm.Bx.rg;infer_instance
def Gm.fits (B : Gm.Bx) : Prop:=B.rg ∧ B.vol ≤ 2097152
instance (B : Gm.Bx) : Decidable (Gm.fits B):=by unfold Gm.fits;infer_instance
set_option maxRecDepth 1000000 in
set_option maxHeartbeats 4000000 in
theorem pnear_any (B : Gm.Bx) (w : World) :
    Calls Tryd.prog 53 #[.agg #[B.a, B.b, B.c, B.d, B.e, B.f]] w fun e w'=>e = .returned (.bool (decide B.rg)) ∧ Below w.heap.size w w':=by
  have S1 : Hid (St w noB [] w):=Lib.hid (St.start w)
  go_enter Tryd.func53,Tryd.ntmps53
  go_upto_region 0 with fail
  refine wpG_region_k (fun K hK=>?_)
  refine wpG_val (some 1) rfl (by rfl) (fun W2 hg3=>⟨.pointer (some ⟨W2.heap.size,0,none⟩),W2.alloc (.cells #[B.a, B.b, B.c, B.d, B.e, B.f] 25),by (first | (go_simp;done) | (go_simp <;> rfl)), ?_⟩)
  simp only [n1,n3,n4]
  obtain ⟨g4,U5,hg_,hu_,hS_⟩:=(S1.out.gr hg3).made [B.a, B.b, B.c, B.d, B.e, B.f] 25
  rw [← hu_,← hg_]
  have S6 : Hid (St w noB [blk g4 25 [B.a, B.b, B.c, B.d, B.e, B.f]] U5):=Lib.hid hS_
  clear S1
  clear hg_ hu_ hS_ hg3
  refine @wpG_p _ _ _ _ _ (some 2) (.bool false) _ _ rfl (by rfl) (fun _=>rfl) ?_
  simp only [n1,n3,n4]
  refine wpG_done (fun V7 hv8=>?_)
  have S9 : Hid (St w noB [blk g4 25 [B.a, B.b, B.c, B.d, B.e, B.f]] V7):=Lib.hid (S6.out.gr hv8)
  clear S6
  clear hv8
  refine ⟨rfl,hK _ _ ?_⟩
  clear hK
  go_upto_region 1 with fail
  refine wpG_region_k (fun K hK=>?_)
  refine @wpG_p _ _ _ _ _ (some 5) (.pointer (some ⟨g4,0,none⟩)) _ _ rfl (by rfl) (fun W=>by go_simp) ?_
  simp only [n1,n3,n4]
  refine @wpG_p _ _ _ _ _ (some 6) (.pointer (some ⟨g4,0,none⟩)) _ _ rfl (by rfl) (fun W=>by go_simp) ?_
  simp only [n1,n3,n4]
  refine @wpG_r _ _ _ _ _ (some 7) B.a _ _ rfl (by rfl) (fun W hg=>by have c:=(S9.out.gr hg).cell 0 rfl 0 rfl;go_simp) ?_
  simp only [n1,n3,n4]
  refine @wpG_p _ _ _ _ _ (some 8) (.pointer (some ⟨g4,0,none⟩)) _ _ rfl (by rfl) (fun W=>by go_simp) ?_
  simp only [n1,n3,n4]
  refine @wpG_p _ _ _ _ _ (some 9) (.pointer (some ⟨g4,1,none⟩)) _ _ rfl (by rfl) (fun W=>by go_simp) ?_
  simp only [n1,n3,n4]
  refine @wpG_r _ _ _ _ _ (some 10) B.b _ _ rfl (by rfl) (fun W hg=>by have c:=(S9.out.gr hg).cell 0 rfl 1 rfl;go_simp) ?_
  simp only [n1,n3,n4]
  refine @wpG_p _ _ _ _ _ (some 11) (.pointer (some ⟨g4,0,none⟩)) _ _ rfl (by rfl) (fun W=>by go_simp) ?_
  simp only [n1,n3,n4]
  refine @wpG_p _ _ _ _ _ (some 12) (.pointer (some ⟨g4,2,none⟩)) _ _ rfl (by rfl) (fun W=>by go_simp) ?_
  simp only [n1,n3,n4]
  refine @wpG_r _ _ _ _ _ (some 13) B.c _ _ rfl (by rfl) (fun W hg=>by have c:=(S9.out.gr hg).cell 0 rfl 2 rfl;go_simp) ?_
  simp only [n1,n3,n4]
  refine @wpG_p _ _ _ _ _ (some 14) (.pointer (some ⟨g4,3,none⟩)) _ _ rfl (by rfl) (fun W=>by go_simp) ?_
  simp only [n1,n3,n4]
  refine @wpG_p _ _ _ _ _ (some 15) (.pointer (some ⟨g4,3,none⟩)) _ _ rfl (by rfl) (fun W=>by go_simp) ?_
  simp only [n1,n3,n4]
  refine @wpG_r _ _ _ _ _ (some 16) B.d _ _ rfl (by rfl) (fun W hg=>by have c:=(S9.out.gr hg).cell 0 rfl 3 rfl;go_simp) ?_
  simp only [n1,n3,n4]
  refine @wpG_p _ _ _ _ _ (some 17) (.pointer (some ⟨g4,3,none⟩)) _ _ rfl (by rfl) (fun W=>by go_simp) ?_
  simp only [n1,n3,n4]
  refine @wpG_p _ _ _ _ _ (some 18) (.pointer (some ⟨g4,4,none⟩)) _ _ rfl (by rfl) (fun W=>by go_simp) ?_
  simp only [n1,n3,n4]
  refine @wpG_r _ _ _ _ _ (some 19) B.e _ _ rfl (by rfl) (fun W hg=>by have c:=(S9.out.gr hg).cell 0 rfl 4 rfl;go_simp) ?_
  simp only [n1,n3,n4]
  refine @wpG_p _ _ _ _ _ (some 20) (.pointer (some ⟨g4,3,none⟩)) _ _ rfl (by rfl) (fun W=>by go_simp) ?_
  simp only [n1,n3,n4]
  refine @wpG_p _ _ _ _ _ (some 21) (.pointer (some ⟨g4,5,none⟩)) _ _ rfl (by rfl) (fun W=>by go_simp) ?_
  simp only [n1,n3,n4]
  refine @wpG_r _ _ _ _ _ (some 22) B.f _ _ rfl (by rfl) (fun W hg=>by have c:=(S9.out.gr hg).cell 0 rfl 5 rfl;go_simp) ?_
  simp only [n1,n3,n4]
  refine @wpG_p _ _ _ _ _ (some 23) (.agg #[B.a, B.b, B.c, B.d, B.e, B.f]) _ _ rfl (by rfl) (fun W=>by go_simp) ?_
  simp only [n1,n3,n4]
  refine @wpG_p _ _ _ _ _ (some 24) () _ _ rfl (by rfl) (fun _=>rfl) ?_
  simp only [n1,n3,n4]
  refine wpG_done (fun V10 hv11=>?_)
  have S12 : Hid (St w noB [blk g4 25 [B.a, B.b, B.c, B.d, B.e, B.f]] V10):=Lib.hid (S9.out.gr hv11)
  clear S9
  clear hv11
  refine ⟨rfl,hK _ _ ?_⟩
  clear hK
  go_wp2_with fail
  refine wp_loop_rounds 7 ?_
  rw [rounds_succ]
  go_upto_region 2 with fail
  refine wpG_region_k (fun K hK=>?_)
  refine @wpG_p _ _ _ _ _ (some 25) (.bool true) _ _ rfl (by rfl) (fun W=>by go_simp) ?_
  simp only [n1,n3,n4]
  refine wpG_done (fun V13 hv14=>?_)
  have S15 : Hid (St w noB [blk g4 25 [B.a, B.b, B.c, B.d, B.e, B.f]] V13):=Lib.hid (S12.out.gr hv14)
  clear S12
  clear hv14
  refine ⟨rfl,hK _ _ ?_⟩
  clear hK
  go_upto_region 3 with fail
  refine wpG_region_k (fun K hK=>?_)
  refine @wpG_p _ _ _ _ _ (some 26) B.a _ _ rfl (by rfl) (fun W=>by first | kernel_rfl | (go_simp;done) | (go_simp <;> rfl)) ?_
  simp only [n1,n3,n4]
  refine @wpG_p _ _ _ _ _ (some 4) B.a _ _ rfl (by rfl) (fun _=>rfl) ?_
  simp only [n1,n3,n4]
  refine wpG_done (fun V16 hv17=>?_)
  have S18 : Hid (St w noB [blk g4 25 [B.a, B.b, B.c, B.d, B.e, B.f]] V16):=Lib.hid (S15.out.gr hv17)
  clear S15
  clear hv17
  refine ⟨rfl,hK _ _ ?_⟩
  clear hK
  go_upto_region 4 with fail
  refine wpG_region_k (fun K hK=>?_)
  refine @wpG_p _ _ _ _ _ (some 27) B.a _ _ rfl (by rfl) (fun _=>rfl) ?_
  simp only [n1,n3,n4]
  refine @wpG_p _ _ _ _ _ (some 28) (.bool (decide (B.a < (-1048575)))) _ _ rfl (by rfl) (fun W=>op_int_lss W B.a (-1048575) rfl rfl rfl Tryd.underlying3) ?_
  simp only [n1,n3,n4]
  refine @wpG_p _ _ _ _ _ (some 29) (.bool (decide (B.a < (-1048575)))) _ _ rfl (by rfl) (fun _=>rfl) ?_
  simp only [n1,n3,n4]
  obtain ⟨c19,hc19⟩ : ∃ q_,q_ = (decide (B.a < (-1048575))):=⟨_,rfl⟩
  rw [← hc19]
  have Hc19:=Lib.hid hc19
  clear hc19
  cases c19 with
  | true =>
    have f20:=of_decide_eq_true Hc19.out.symm
    refine @wpG_no _ _ _ _ _ (some 30) _ _ rfl (by rfl) ?_
    simp only [n1,n3,n4]
    refine @wpG_no _ _ _ _ _ (some 31) _ _ rfl (by rfl) ?_
    simp only [n1,n3,n4]
    refine @wpG_p _ _ _ _ _ (some 32) (.bool true) _ _ rfl (by rfl) (fun W=>by go_simp) ?_
    simp only [n1,n3,n4]
    refine wpG_done (fun V21 hv22=>?_)
    have S23 : Hid (St w noB [blk g4 25 [B.a, B.b, B.c, B.d, B.e, B.f]] V21):=Lib.hid (S18.out.gr hv22)
    clear S18
    clear hv22
    refine ⟨rfl,hK _ _ ?_⟩
    clear hK
    go_upto_region 5 with fail
    refine wpG_region_k (fun K hK=>?_)
    refine @wpG_p _ _ _ _ _ (some 2) (.bool false) _ _ rfl (by rfl) (fun _=>rfl) ?_
    simp only [n1,n3,n4]
    refine wpG_done (fun V24 hv25=>?_)
    have S26 : Hid (St w noB [blk g4 25 [B.a, B.b, B.c, B.d, B.e, B.f]] V24):=Lib.hid (S23.out.gr hv25)
    clear S23
    clear hv25
    refine ⟨rfl,hK _ _ ?_⟩
    clear hK
    go_wp2_with fail
    go_ret
    refine ⟨?_,S26.out.bel⟩
    show Ending.returned (.bool false) = _
    (first | rfl | (exact rb_f (decide_eq_false (by unfold Gm.Bx.rg Gm.rp;omega))))
  | false =>
    have f27:=of_decide_eq_false Hc19.out.symm
    refine @wpG_p _ _ _ _ _ (some 30) B.a _ _ rfl (by rfl) (fun _=>rfl) ?_
    simp only [n1,n3,n4]
    refine @wpG_p _ _ _ _ _ (some 31) (.bool (decide (B.a > 1048575))) _ _ rfl (by rfl) (fun W=>op_int_gtr W B.a 1048575 rfl rfl rfl Tryd.underlying3) ?_
    simp only [n1,n3,n4]
    refine @wpG_p _ _ _ _ _ (some 32) (.bool (decide (B.a > 1048575))) _ _ rfl (by rfl) (fun W=>by go_simp) ?_
    simp only [n1,n3,n4]
    refine wpG_done (fun V28 hv29=>?_)
    have S30 : Hid (St w noB [blk g4 25 [B.a, B.b, B.c, B.d, B.e, B.f]] V28):=Lib.hid (S18.out.gr hv29)
    clear S18
    clear hv29
    refine ⟨rfl,hK _ _ ?_⟩
    clear hK
    obtain ⟨c31,hc31⟩ : ∃ q_,q_ = (decide (B.a > 1048575)):=⟨_,rfl⟩
    rw [← hc31]
    have Hc31:=Lib.hid hc31
    clear hc31
    cases c31 with
    | true =>
      have f32:=of_decide_eq_true Hc31.out.symm
      go_upto_region 5 with fail
      refine wpG_region_k (fun K hK=>?_)
      refine @wpG_p _ _ _ _ _ (some 2) (.bool false) _ _ rfl (by rfl) (fun _=>rfl) ?_
      simp only [n1,n3,n4]
      refine wpG_done (fun V33 hv34=>?_)
      have S35 : Hid (St w noB [blk g4 25 [B.a, B.b, B.c, B.d, B.e, B.f]] V33):=Lib.hid (S30.out.gr hv34)
      clear S30
      clear hv34
      refine ⟨rfl,hK _ _ ?_⟩
      clear hK
      go_wp2_with fail
      go_ret
      refine ⟨?_,S35.out.bel⟩
      show Ending.returned (.bool false) = _
      (first | rfl | (exact rb_f (decide_eq_false (by unfold Gm.Bx.rg Gm.rp;omega))))
    | false =>
      have f36:=of_decide_eq_false Hc31.out.symm
      go_upto_region 6 with fail
      refine wpG_region_k (fun K hK=>?_)
      refine @wpG_p _ _ _ _ _ (some 33) (.int .i64 1) _ _ rfl (by rfl) (fun W=>by go_simp <;> rfl) ?_
      simp only [n1,n3,n4]
      refine @wpG_p _ _ _ _ _ (some 24) (.int .i64 1) _ _ rfl (by rfl) (fun _=>rfl) ?_
      simp only [n1,n3,n4]
      refine wpG_done (fun V37 hv38=>?_)
      have S39 : Hid (St w noB [blk g4 25 [B.a, B.b, B.c, B.d, B.e, B.f]] V37):=Lib.hid (S30.out.gr hv38)
      clear S30
      clear hv38
      refine ⟨rfl,hK _ _ ?_⟩
      clear hK
      go_wp2_with fail
      rw [rounds_succ]
      go_upto_region 2 with fail
      refine wpG_region_k (fun K hK=>?_)
      refine @wpG_p _ _ _ _ _ (some 25) (.bool true) _ _ rfl (by rfl) (fun W=>by go_simp) ?_
      simp only [n1,n3,n4]
      refine wpG_done (fun V40 hv41=>?_)
      have S42 : Hid (St w noB [blk g4 25 [B.a, B.b, B.c, B.d, B.e, B.f]] V40):=Lib.hid (S39.out.gr hv41)
      clear S39
      clear hv41
      refine ⟨rfl,hK _ _ ?_⟩
      clear hK
      go_upto_region 3 with fail
      refine wpG_region_k (fun K hK=>?_)
      refine @wpG_p _ _ _ _ _ (some 26) B.b _ _ rfl (by rfl) (fun W=>by first | kernel_rfl | (go_simp;done) | (go_simp <;> rfl)) ?_
      simp only [n1,n3,n4]
      refine @wpG_p _ _ _ _ _ (some 4) B.b _ _ rfl (by rfl) (fun _=>rfl) ?_
      simp only [n1,n3,n4]
      refine wpG_done (fun V43 hv44=>?_)
      have S45 : Hid (St w noB [blk g4 25 [B.a, B.b, B.c, B.d, B.e, B.f]] V43):=Lib.hid (S42.out.gr hv44)
      clear S42
      clear hv44
      refine ⟨rfl,hK _ _ ?_⟩
      clear hK
      go_upto_region 4 with fail
      refine wpG_region_k (fun K hK=>?_)
      refine @wpG_p _ _ _ _ _ (some 27) B.b _ _ rfl (by rfl) (fun _=>rfl) ?_
      simp only [n1,n3,n4]
      refine @wpG_p _ _ _ _ _ (some 28) (.bool (decide (B.b < (-1048575)))) _ _ rfl (by rfl) (fun W=>op_int_lss W B.b (-1048575) rfl rfl rfl Tryd.underlying3) ?_
      simp only [n1,n3,n4]
      refine @wpG_p _ _ _ _ _ (some 29) (.bool (decide (B.b < (-1048575)))) _ _ rfl (by rfl) (fun _=>rfl) ?_
      simp only [n1,n3,n4]
      obtain ⟨c46,hc46⟩ : ∃ q_,q_ = (decide (B.b < (-1048575))):=⟨_,rfl⟩
      rw [← hc46]
      have Hc46:=Lib.hid hc46
      clear hc46
      cases c46 with
      | true =>
        have f47:=of_decide_eq_true Hc46.out.symm
        refine @wpG_no _ _ _ _ _ (some 30) _ _ rfl (by rfl) ?_
        simp only [n1,n3,n4]
        refine @wpG_no _ _ _ _ _ (some 31) _ _ rfl (by rfl) ?_
        simp only [n1,n3,n4]
        refine @wpG_p _ _ _ _ _ (some 32) (.bool true) _ _ rfl (by rfl) (fun W=>by go_simp) ?_
        simp only [n1,n3,n4]
        refine wpG_done (fun V48 hv49=>?_)
        have S50 : Hid (St w noB [blk g4 25 [B.a, B.b, B.c, B.d, B.e, B.f]] V48):=Lib.hid (S45.out.gr hv49)
        clear S45
        clear hv49
        refine ⟨rfl,hK _ _ ?_⟩
        clear hK
        go_upto_region 5 with fail
        refine wpG_region_k (fun K hK=>?_)
        refine @wpG_p _ _ _ _ _ (some 2) (.bool false) _ _ rfl (by rfl) (fun _=>rfl) ?_
        simp only [n1,n3,n4]
        refine wpG_done (fun V51 hv52=>?_)
        have S53 : Hid (St w noB [blk g4 25 [B.a, B.b, B.c, B.d, B.e, B.f]] V51):=Lib.hid (S50.out.gr hv52)
        clear S50
        clear hv52
        refine ⟨rfl,hK _ _ ?_⟩
        clear hK
        go_wp2_with fail
        go_ret
        refine ⟨?_,S53.out.bel⟩
        show Ending.returned (.bool false) = _
        (first | rfl | (exact rb_f (decide_eq_false (by unfold Gm.Bx.rg Gm.rp;omega))))
      | false =>
        have f54:=of_decide_eq_false Hc46.out.symm
        refine @wpG_p _ _ _ _ _ (some 30) B.b _ _ rfl (by rfl) (fun _=>rfl) ?_
        simp only [n1,n3,n4]
        refine @wpG_p _ _ _ _ _ (some 31) (.bool (decide (B.b > 1048575))) _ _ rfl (by rfl) (fun W=>op_int_gtr W B.b 1048575 rfl rfl rfl Tryd.underlying3) ?_
        simp only [n1,n3,n4]
        refine @wpG_p _ _ _ _ _ (some 32) (.bool (decide (B.b > 1048575))) _ _ rfl (by rfl) (fun W=>by go_simp) ?_
        simp only [n1,n3,n4]
        refine wpG_done (fun V55 hv56=>?_)
        have S57 : Hid (St w noB [blk g4 25 [B.a, B.b, B.c, B.d, B.e, B.f]] V55):=Lib.hid (S45.out.gr hv56)
        clear S45
        clear hv56
        refine ⟨rfl,hK _ _ ?_⟩
        clear hK
        obtain ⟨c58,hc58⟩ : ∃ q_,q_ = (decide (B.b > 1048575)):=⟨_,rfl⟩
        rw [← hc58]
        have Hc58:=Lib.hid hc58
        clear hc58
        cases c58 with
        | true =>
          have f59:=of_decide_eq_true Hc58.out.symm
          go_upto_region 5 with fail
          refine wpG_region_k (fun K hK=>?_)
          refine @wpG_p _ _ _ _ _ (some 2) (.bool false) _ _ rfl (by rfl) (fun _=>rfl) ?_
          simp only [n1,n3,n4]
          refine wpG_done (fun V60 hv61=>?_)
          have S62 : Hid (St w noB [blk g4 25 [B.a, B.b, B.c, B.d, B.e, B.f]] V60):=Lib.hid (S57.out.gr hv61)
          clear S57
          clear hv61
          refine ⟨rfl,hK _ _ ?_⟩
          clear hK
          go_wp2_with fail
          go_ret
          refine ⟨?_,S62.out.bel⟩
          show Ending.returned (.bool false) = _
          (first | rfl | (exact rb_f (decide_eq_false (by unfold Gm.Bx.rg Gm.rp;omega))))
        | false =>
          have f63:=of_decide_eq_false Hc58.out.symm
          go_upto_region 6 with fail
          refine wpG_region_k (fun K hK=>?_)
          refine @wpG_p _ _ _ _ _ (some 33) (.int .i64 2) _ _ rfl (by rfl) (fun W=>by go_simp <;> rfl) ?_
          simp only [n1,n3,n4]
          refine @wpG_p _ _ _ _ _ (some 24) (.int .i64 2) _ _ rfl (by rfl) (fun _=>rfl) ?_
          simp only [n1,n3,n4]
          refine wpG_done (fun V64 hv65=>?_)
          have S66 : Hid (St w noB [blk g4 25 [B.a, B.b, B.c, B.d, B.e, B.f]] V64):=Lib.hid (S57.out.gr hv65)
          clear S57
          clear hv65
          refine ⟨rfl,hK _ _ ?_⟩
          clear hK
          go_wp2_with fail
          rw [rounds_succ]
          go_upto_region 2 with fail
          refine wpG_region_k (fun K hK=>?_)
          refine @wpG_p _ _ _ _ _ (some 25) (.bool true) _ _ rfl (by rfl) (fun W=>by go_simp) ?_
          simp only [n1,n3,n4]
          refine wpG_done (fun V67 hv68=>?_)
          have S69 : Hid (St w noB [blk g4 25 [B.a, B.b, B.c, B.d, B.e, B.f]] V67):=Lib.hid (S66.out.gr hv68)
          clear S66
          clear hv68
          refine ⟨rfl,hK _ _ ?_⟩
          clear hK
          go_upto_region 3 with fail
          refine wpG_region_k (fun K hK=>?_)
          refine @wpG_p _ _ _ _ _ (some 26) B.c _ _ rfl (by rfl) (fun W=>by first | kernel_rfl | (go_simp;done) | (go_simp <;> rfl)) ?_
          simp only [n1,n3,n4]
          refine @wpG_p _ _ _ _ _ (some 4) B.c _ _ rfl (by rfl) (fun _=>rfl) ?_
          simp only [n1,n3,n4]
          refine wpG_done (fun V70 hv71=>?_)
          have S72 : Hid (St w noB [blk g4 25 [B.a, B.b, B.c, B.d, B.e, B.f]] V70):=Lib.hid (S69.out.gr hv71)
          clear S69
          clear hv71
          refine ⟨rfl,hK _ _ ?_⟩
          clear hK
          go_upto_region 4 with fail
          refine wpG_region_k (fun K hK=>?_)
          refine @wpG_p _ _ _ _ _ (some 27) B.c _ _ rfl (by rfl) (fun _=>rfl) ?_
          simp only [n1,n3,n4]
          refine @wpG_p _ _ _ _ _ (some 28) (.bool (decide (B.c < (-1048575)))) _ _ rfl (by rfl) (fun W=>op_int_lss W B.c (-1048575) rfl rfl rfl Tryd.underlying3) ?_
          simp only [n1,n3,n4]
          refine @wpG_p _ _ _ _ _ (some 29) (.bool (decide (B.c < (-1048575)))) _ _ rfl (by rfl) (fun _=>rfl) ?_
          simp only [n1,n3,n4]
          obtain ⟨c73,hc73⟩ : ∃ q_,q_ = (decide (B.c < (-1048575))):=⟨_,rfl⟩
          rw [← hc73]
          have Hc73:=Lib.hid hc73
          clear hc73
          cases c73 with
          | true =>
            have f74:=of_decide_eq_true Hc73.out.symm
            refine @wpG_no _ _ _ _ _ (some 30) _ _ rfl (by rfl) ?_
            simp only [n1,n3,n4]
            refine @wpG_no _ _ _ _ _ (some 31) _ _ rfl (by rfl) ?_
            simp only [n1,n3,n4]
            refine @wpG_p _ _ _ _ _ (some 32) (.bool true) _ _ rfl (by rfl) (fun W=>by go_simp) ?_
            simp only [n1,n3,n4]
            refine wpG_done (fun V75 hv76=>?_)
            have S77 : Hid (St w noB [blk g4 25 [B.a, B.b, B.c, B.d, B.e, B.f]] V75):=Lib.hid (S72.out.gr hv76)
            clear S72
            clear hv76
            refine ⟨rfl,hK _ _ ?_⟩
            clear hK
            go_upto_region 5 with fail
            refine wpG_region_k (fun K hK=>?_)
            refine @wpG_p _ _ _ _ _ (some 2) (.bool false) _ _ rfl (by rfl) (fun _=>rfl) ?_
            simp only [n1,n3,n4]
            refine wpG_done (fun V78 hv79=>?_)
            have S80 : Hid (St w noB [blk g4 25 [B.a, B.b, B.c, B.d, B.e, B.f]] V78):=Lib.hid (S77.out.gr hv79)
            clear S77
            clear hv79
            refine ⟨rfl,hK _ _ ?_⟩
            clear hK
            go_wp2_with fail
            go_ret
            refine ⟨?_,S80.out.bel⟩
            show Ending.returned (.bool false) = _
            (first | rfl | (exact rb_f (decide_eq_false (by unfold Gm.Bx.rg Gm.rp;omega))))
          | false =>
            have f81:=of_decide_eq_false Hc73.out.symm
            refine @wpG_p _ _ _ _ _ (some 30) B.c _ _ rfl (by rfl) (fun _=>rfl) ?_
            simp only [n1,n3,n4]
            refine @wpG_p _ _ _ _ _ (some 31) (.bool (decide (B.c > 1048575))) _ _ rfl (by rfl) (fun W=>op_int_gtr W B.c 1048575 rfl rfl rfl Tryd.underlying3) ?_
            simp only [n1,n3,n4]
            refine @wpG_p _ _ _ _ _ (some 32) (.bool (decide (B.c > 1048575))) _ _ rfl (by rfl) (fun W=>by go_simp) ?_
            simp only [n1,n3,n4]
            refine wpG_done (fun V82 hv83=>?_)
            have S84 : Hid (St w noB [blk g4 25 [B.a, B.b, B.c, B.d, B.e, B.f]] V82):=Lib.hid (S72.out.gr hv83)
            clear S72
            clear hv83
            refine ⟨rfl,hK _ _ ?_⟩
            clear hK
            obtain ⟨c85,hc85⟩ : ∃ q_,q_ = (decide (B.c > 1048575)):=⟨_,rfl⟩
            rw [← hc85]
            have Hc85:=Lib.hid hc85
            clear hc85
            cases c85 with
            | true =>
              have f86:=of_decide_eq_true Hc85.out.symm
              go_upto_region 5 with fail
              refine wpG_region_k (fun K hK=>?_)
              refine @wpG_p _ _ _ _ _ (some 2) (.bool false) _ _ rfl (by rfl) (fun _=>rfl) ?_
              simp only [n1,n3,n4]
              refine wpG_done (fun V87 hv88=>?_)
              have S89 : Hid (St w noB [blk g4 25 [B.a, B.b, B.c, B.d, B.e, B.f]] V87):=Lib.hid (S84.out.gr hv88)
              clear S84
              clear hv88
              refine ⟨rfl,hK _ _ ?_⟩
              clear hK
              go_wp2_with fail
              go_ret
              refine ⟨?_,S89.out.bel⟩
              show Ending.returned (.bool false) = _
              (first | rfl | (exact rb_f (decide_eq_false (by unfold Gm.Bx.rg Gm.rp;omega))))
            | false =>
              have f90:=of_decide_eq_false Hc85.out.symm
              go_upto_region 6 with fail
              refine wpG_region_k (fun K hK=>?_)
              refine @wpG_p _ _ _ _ _ (some 33) (.int .i64 3) _ _ rfl (by rfl) (fun W=>by go_simp <;> rfl) ?_
              simp only [n1,n3,n4]
              refine @wpG_p _ _ _ _ _ (some 24) (.int .i64 3) _ _ rfl (by rfl) (fun _=>rfl) ?_
              simp only [n1,n3,n4]
              refine wpG_done (fun V91 hv92=>?_)
              have S93 : Hid (St w noB [blk g4 25 [B.a, B.b, B.c, B.d, B.e, B.f]] V91):=Lib.hid (S84.out.gr hv92)
              clear S84
              clear hv92
              refine ⟨rfl,hK _ _ ?_⟩
              clear hK
              go_wp2_with fail
              rw [rounds_succ]
              go_upto_region 2 with fail
              refine wpG_region_k (fun K hK=>?_)
              refine @wpG_p _ _ _ _ _ (some 25) (.bool true) _ _ rfl (by rfl) (fun W=>by go_simp) ?_
              simp only [n1,n3,n4]
              refine wpG_done (fun V94 hv95=>?_)
              have S96 : Hid (St w noB [blk g4 25 [B.a, B.b, B.c, B.d, B.e, B.f]] V94):=Lib.hid (S93.out.gr hv95)
              clear S93
              clear hv95
              refine ⟨rfl,hK _ _ ?_⟩
              clear hK
              go_upto_region 3 with fail
              refine wpG_region_k (fun K hK=>?_)
              refine @wpG_p _ _ _ _ _ (some 26) B.d _ _ rfl (by rfl) (fun W=>by first | kernel_rfl | (go_simp;done) | (go_simp <;> rfl)) ?_
              simp only [n1,n3,n4]
              refine @wpG_p _ _ _ _ _ (some 4) B.d _ _ rfl (by rfl) (fun _=>rfl) ?_
              simp only [n1,n3,n4]
              refine wpG_done (fun V97 hv98=>?_)
              have S99 : Hid (St w noB [blk g4 25 [B.a, B.b, B.c, B.d, B.e, B.f]] V97):=Lib.hid (S96.out.gr hv98)
              clear S96
              clear hv98
              refine ⟨rfl,hK _ _ ?_⟩
              clear hK
              go_upto_region 4 with fail
              refine wpG_region_k (fun K hK=>?_)
              refine @wpG_p _ _ _ _ _ (some 27) B.d _ _ rfl (by rfl) (fun _=>rfl) ?_
              simp only [n1,n3,n4]
              refine @wpG_p _ _ _ _ _ (some 28) (.bool (decide (B.d < (-1048575)))) _ _ rfl (by rfl) (fun W=>op_int_lss W B.d (-1048575) rfl rfl rfl Tryd.underlying3) ?_
              simp only [n1,n3,n4]
              refine @wpG_p _ _ _ _ _ (some 29) (.bool (decide (B.d < (-1048575)))) _ _ rfl (by rfl) (fun _=>rfl) ?_
              simp only [n1,n3,n4]
              obtain ⟨c100,hc100⟩ : ∃ q_,q_ = (decide (B.d < (-1048575))):=⟨_,rfl⟩
              rw [← hc100]
              have Hc100:=Lib.hid hc100
              clear hc100
              cases c100 with
              | true =>
                have f101:=of_decide_eq_true Hc100.out.symm
                refine @wpG_no _ _ _ _ _ (some 30) _ _ rfl (by rfl) ?_
                simp only [n1,n3,n4]
                refine @wpG_no _ _ _ _ _ (some 31) _ _ rfl (by rfl) ?_
                simp only [n1,n3,n4]
                refine @wpG_p _ _ _ _ _ (some 32) (.bool true) _ _ rfl (by rfl) (fun W=>by go_simp) ?_
                simp only [n1,n3,n4]
                refine wpG_done (fun V102 hv103=>?_)
                have S104 : Hid (St w noB [blk g4 25 [B.a, B.b, B.c, B.d, B.e, B.f]] V102):=Lib.hid (S99.out.gr hv103)
                clear S99
                clear hv103
                refine ⟨rfl,hK _ _ ?_⟩
                clear hK
                go_upto_region 5 with fail
                refine wpG_region_k (fun K hK=>?_)
                refine @wpG_p _ _ _ _ _ (some 2) (.bool false) _ _ rfl (by rfl) (fun _=>rfl) ?_
                simp only [n1,n3,n4]
                refine wpG_done (fun V105 hv106=>?_)
                have S107 : Hid (St w noB [blk g4 25 [B.a, B.b, B.c, B.d, B.e, B.f]] V105):=Lib.hid (S104.out.gr hv106)
                clear S104
                clear hv106
                refine ⟨rfl,hK _ _ ?_⟩
                clear hK
                go_wp2_with fail
                go_ret
                refine ⟨?_,S107.out.bel⟩
                show Ending.returned (.bool false) = _
                (first | rfl | (exact rb_f (decide_eq_false (by unfold Gm.Bx.rg Gm.rp;omega))))
              | false =>
                have f108:=of_decide_eq_false Hc100.out.symm
                refine @wpG_p _ _ _ _ _ (some 30) B.d _ _ rfl (by rfl) (fun _=>rfl) ?_
                simp only [n1,n3,n4]
                refine @wpG_p _ _ _ _ _ (some 31) (.bool (decide (B.d > 1048575))) _ _ rfl (by rfl) (fun W=>op_int_gtr W B.d 1048575 rfl rfl rfl Tryd.underlying3) ?_
                simp only [n1,n3,n4]
                refine @wpG_p _ _ _ _ _ (some 32) (.bool (decide (B.d > 1048575))) _ _ rfl (by rfl) (fun W=>by go_simp) ?_
                simp only [n1,n3,n4]
                refine wpG_done (fun V109 hv110=>?_)
                have S111 : Hid (St w noB [blk g4 25 [B.a, B.b, B.c, B.d, B.e, B.f]] V109):=Lib.hid (S99.out.gr hv110)
                clear S99
                clear hv110
                refine ⟨rfl,hK _ _ ?_⟩
                clear hK
                obtain ⟨c112,hc112⟩ : ∃ q_,q_ = (decide (B.d > 1048575)):=⟨_,rfl⟩
                rw [← hc112]
                have Hc112:=Lib.hid hc112
                clear hc112
                cases c112 with
                | true =>
                  have f113:=of_decide_eq_true Hc112.out.symm
                  go_upto_region 5 with fail
                  refine wpG_region_k (fun K hK=>?_)
                  refine @wpG_p _ _ _ _ _ (some 2) (.bool false) _ _ rfl (by rfl) (fun _=>rfl) ?_
                  simp only [n1,n3,n4]
                  refine wpG_done (fun V114 hv115=>?_)
                  have S116 : Hid (St w noB [blk g4 25 [B.a, B.b, B.c, B.d, B.e, B.f]] V114):=Lib.hid (S111.out.gr hv115)
                  clear S111
                  clear hv115
                  refine ⟨rfl,hK _ _ ?_⟩
                  clear hK
                  go_wp2_with fail
                  go_ret
                  refine ⟨?_,S116.out.bel⟩
                  show Ending.returned (.bool false) = _
                  (first | rfl | (exact rb_f (decide_eq_false (by unfold Gm.Bx.rg Gm.rp;omega))))
                | false =>
                  have f117:=of_decide_eq_false Hc112.out.symm
                  go_upto_region 6 with fail
                  refine wpG_region_k (fun K hK=>?_)
                  refine @wpG_p _ _ _ _ _ (some 33) (.int .i64 4) _ _ rfl (by rfl) (fun W=>by go_simp <;> rfl) ?_
                  simp only [n1,n3,n4]
                  refine @wpG_p _ _ _ _ _ (some 24) (.int .i64 4) _ _ rfl (by rfl) (fun _=>rfl) ?_
                  simp only [n1,n3,n4]
                  refine wpG_done (fun V118 hv119=>?_)
                  have S120 : Hid (St w noB [blk g4 25 [B.a, B.b, B.c, B.d, B.e, B.f]] V118):=Lib.hid (S111.out.gr hv119)
                  clear S111
                  clear hv119
                  refine ⟨rfl,hK _ _ ?_⟩
                  clear hK
                  go_wp2_with fail
                  rw [rounds_succ]
                  go_upto_region 2 with fail
                  refine wpG_region_k (fun K hK=>?_)
                  refine @wpG_p _ _ _ _ _ (some 25) (.bool true) _ _ rfl (by rfl) (fun W=>by go_simp) ?_
                  simp only [n1,n3,n4]
                  refine wpG_done (fun V121 hv122=>?_)
                  have S123 : Hid (St w noB [blk g4 25 [B.a, B.b, B.c, B.d, B.e, B.f]] V121):=Lib.hid (S120.out.gr hv122)
                  clear S120
                  clear hv122
                  refine ⟨rfl,hK _ _ ?_⟩
                  clear hK
                  go_upto_region 3 with fail
                  refine wpG_region_k (fun K hK=>?_)
                  refine @wpG_p _ _ _ _ _ (some 26) B.e _ _ rfl (by rfl) (fun W=>by first | kernel_rfl | (go_simp;done) | (go_simp <;> rfl)) ?_
                  simp only [n1,n3,n4]
                  refine @wpG_p _ _ _ _ _ (some 4) B.e _ _ rfl (by rfl) (fun _=>rfl) ?_
                  simp only [n1,n3,n4]
                  refine wpG_done (fun V124 hv125=>?_)
                  have S126 : Hid (St w noB [blk g4 25 [B.a, B.b, B.c, B.d, B.e, B.f]] V124):=Lib.hid (S123.out.gr hv125)
                  clear S123
                  clear hv125
                  refine ⟨rfl,hK _ _ ?_⟩
                  clear hK
                  go_upto_region 4 with fail
                  refine wpG_region_k (fun K hK=>?_)
                  refine @wpG_p _ _ _ _ _ (some 27) B.e _ _ rfl (by rfl) (fun _=>rfl) ?_
                  simp only [n1,n3,n4]
                  refine @wpG_p _ _ _ _ _ (some 28) (.bool (decide (B.e < (-1048575)))) _ _ rfl (by rfl) (fun W=>op_int_lss W B.e (-1048575) rfl rfl rfl Tryd.underlying3) ?_
                  simp only [n1,n3,n4]
                  refine @wpG_p _ _ _ _ _ (some 29) (.bool (decide (B.e < (-1048575)))) _ _ rfl (by rfl) (fun _=>rfl) ?_
                  simp only [n1,n3,n4]
                  obtain ⟨c127,hc127⟩ : ∃ q_,q_ = (decide (B.e < (-1048575))):=⟨_,rfl⟩
                  rw [← hc127]
                  have Hc127:=Lib.hid hc127
                  clear hc127
                  cases c127 with
                  | true =>
                    have f128:=of_decide_eq_true Hc127.out.symm
                    refine @wpG_no _ _ _ _ _ (some 30) _ _ rfl (by rfl) ?_
                    simp only [n1,n3,n4]
                    refine @wpG_no _ _ _ _ _ (some 31) _ _ rfl (by rfl) ?_
                    simp only [n1,n3,n4]
                    refine @wpG_p _ _ _ _ _ (some 32) (.bool true) _ _ rfl (by rfl) (fun W=>by go_simp) ?_
                    simp only [n1,n3,n4]
                    refine wpG_done (fun V129 hv130=>?_)
                    have S131 : Hid (St w noB [blk g4 25 [B.a, B.b, B.c, B.d, B.e, B.f]] V129):=Lib.hid (S126.out.gr hv130)
                    clear S126
                    clear hv130
                    refine ⟨rfl,hK _ _ ?_⟩
                    clear hK
                    go_upto_region 5 with fail
                    refine wpG_region_k (fun K hK=>?_)
                    refine @wpG_p _ _ _ _ _ (some 2) (.bool false) _ _ rfl (by rfl) (fun _=>rfl) ?_
                    simp only [n1,n3,n4]
                    refine wpG_done (fun V132 hv133=>?_)
                    have S134 : Hid (St w noB [blk g4 25 [B.a, B.b, B.c, B.d, B.e, B.f]] V132):=Lib.hid (S131.out.gr hv133)
                    clear S131
                    clear hv133
                    refine ⟨rfl,hK _ _ ?_⟩
                    clear hK
                    go_wp2_with fail
                    go_ret
                    refine ⟨?_,S134.out.bel⟩
                    show Ending.returned (.bool false) = _
                    (first | rfl | (exact rb_f (decide_eq_false (by unfold Gm.Bx.rg Gm.rp;omega))))
                  | false =>
                    have f135:=of_decide_eq_false Hc127.out.symm
                    refine @wpG_p _ _ _ _ _ (some 30) B.e _ _ rfl (by rfl) (fun _=>rfl) ?_
                    simp only [n1,n3,n4]
                    refine @wpG_p _ _ _ _ _ (some 31) (.bool (decide (B.e > 1048575))) _ _ rfl (by rfl) (fun W=>op_int_gtr W B.e 1048575 rfl rfl rfl Tryd.underlying3) ?_
                    simp only [n1,n3,n4]
                    refine @wpG_p _ _ _ _ _ (some 32) (.bool (decide (B.e > 1048575))) _ _ rfl (by rfl) (fun W=>by go_simp) ?_
                    simp only [n1,n3,n4]
                    refine wpG_done (fun V136 hv137=>?_)
                    have S138 : Hid (St w noB [blk g4 25 [B.a, B.b, B.c, B.d, B.e, B.f]] V136):=Lib.hid (S126.out.gr hv137)
                    clear S126
                    clear hv137
                    refine ⟨rfl,hK _ _ ?_⟩
                    clear hK
                    obtain ⟨c139,hc139⟩ : ∃ q_,q_ = (decide (B.e > 1048575)):=⟨_,rfl⟩
                    rw [← hc139]
                    have Hc139:=Lib.hid hc139
                    clear hc139
                    cases c139 with
                    | true =>
                      have f140:=of_decide_eq_true Hc139.out.symm
                      go_upto_region 5 with fail
                      refine wpG_region_k (fun K hK=>?_)
                      refine @wpG_p _ _ _ _ _ (some 2) (.bool false) _ _ rfl (by rfl) (fun _=>rfl) ?_
                      simp only [n1,n3,n4]
                      refine wpG_done (fun V141 hv142=>?_)
                      have S143 : Hid (St w noB [blk g4 25 [B.a, B.b, B.c, B.d, B.e, B.f]] V141):=Lib.hid (S138.out.gr hv142)
                      clear S138
                      clear hv142
                      refine ⟨rfl,hK _ _ ?_⟩
                      clear hK
                      go_wp2_with fail
                      go_ret
                      refine ⟨?_,S143.out.bel⟩
                      show Ending.returned (.bool false) = _
                      (first | rfl | (exact rb_f (decide_eq_false (by unfold Gm.Bx.rg Gm.rp;omega))))
                    | false =>
                      have f144:=of_decide_eq_false Hc139.out.symm
                      go_upto_region 6 with fail
                      refine wpG_region_k (fun K hK=>?_)
                      refine @wpG_p _ _ _ _ _ (some 33) (.int .i64 5) _ _ rfl (by rfl) (fun W=>by go_simp <;> rfl) ?_
                      simp only [n1,n3,n4]
                      refine @wpG_p _ _ _ _ _ (some 24) (.int .i64 5) _ _ rfl (by rfl) (fun _=>rfl) ?_
                      simp only [n1,n3,n4]
                      refine wpG_done (fun V145 hv146=>?_)
                      have S147 : Hid (St w noB [blk g4 25 [B.a, B.b, B.c, B.d, B.e, B.f]] V145):=Lib.hid (S138.out.gr hv146)
                      clear S138
                      clear hv146
                      refine ⟨rfl,hK _ _ ?_⟩
                      clear hK
                      go_wp2_with fail
                      rw [rounds_succ]
                      go_upto_region 2 with fail
                      refine wpG_region_k (fun K hK=>?_)
                      refine @wpG_p _ _ _ _ _ (some 25) (.bool true) _ _ rfl (by rfl) (fun W=>by go_simp) ?_
                      simp only [n1,n3,n4]
                      refine wpG_done (fun V148 hv149=>?_)
                      have S150 : Hid (St w noB [blk g4 25 [B.a, B.b, B.c, B.d, B.e, B.f]] V148):=Lib.hid (S147.out.gr hv149)
                      clear S147
                      clear hv149
                      refine ⟨rfl,hK _ _ ?_⟩
                      clear hK
                      go_upto_region 3 with fail
                      refine wpG_region_k (fun K hK=>?_)
                      refine @wpG_p _ _ _ _ _ (some 26) B.f _ _ rfl (by rfl) (fun W=>by first | kernel_rfl | (go_simp;done) | (go_simp <;> rfl)) ?_
                      simp only [n1,n3,n4]
                      refine @wpG_p _ _ _ _ _ (some 4) B.f _ _ rfl (by rfl) (fun _=>rfl) ?_
                      simp only [n1,n3,n4]
                      refine wpG_done (fun V151 hv152=>?_)
                      have S153 : Hid (St w noB [blk g4 25 [B.a, B.b, B.c, B.d, B.e, B.f]] V151):=Lib.hid (S150.out.gr hv152)
                      clear S150
                      clear hv152
                      refine ⟨rfl,hK _ _ ?_⟩
                      clear hK
                      go_upto_region 4 with fail
                      refine wpG_region_k (fun K hK=>?_)
                      refine @wpG_p _ _ _ _ _ (some 27) B.f _ _ rfl (by rfl) (fun _=>rfl) ?_
                      simp only [n1,n3,n4]
                      refine @wpG_p _ _ _ _ _ (some 28) (.bool (decide (B.f < (-1048575)))) _ _ rfl (by rfl) (fun W=>op_int_lss W B.f (-1048575) rfl rfl rfl Tryd.underlying3) ?_
                      simp only [n1,n3,n4]
                      refine @wpG_p _ _ _ _ _ (some 29) (.bool (decide (B.f < (-1048575)))) _ _ rfl (by rfl) (fun _=>rfl) ?_
                      simp only [n1,n3,n4]
                      obtain ⟨c154,hc154⟩ : ∃ q_,q_ = (decide (B.f < (-1048575))):=⟨_,rfl⟩
                      rw [← hc154]
                      have Hc154:=Lib.hid hc154
                      clear hc154
                      cases c154 with
                      | true =>
                        have f155:=of_decide_eq_true Hc154.out.symm
                        refine @wpG_no _ _ _ _ _ (some 30) _ _ rfl (by rfl) ?_
                        simp only [n1,n3,n4]
                        refine @wpG_no _ _ _ _ _ (some 31) _ _ rfl (by rfl) ?_
                        simp only [n1,n3,n4]
                        refine @wpG_p _ _ _ _ _ (some 32) (.bool true) _ _ rfl (by rfl) (fun W=>by go_simp) ?_
                        simp only [n1,n3,n4]
                        refine wpG_done (fun V156 hv157=>?_)
                        have S158 : Hid (St w noB [blk g4 25 [B.a, B.b, B.c, B.d, B.e, B.f]] V156):=Lib.hid (S153.out.gr hv157)
                        clear S153
                        clear hv157
                        refine ⟨rfl,hK _ _ ?_⟩
                        clear hK
                        go_upto_region 5 with fail
                        refine wpG_region_k (fun K hK=>?_)
                        refine @wpG_p _ _ _ _ _ (some 2) (.bool false) _ _ rfl (by rfl) (fun _=>rfl) ?_
                        simp only [n1,n3,n4]
                        refine wpG_done (fun V159 hv160=>?_)
                        have S161 : Hid (St w noB [blk g4 25 [B.a, B.b, B.c, B.d, B.e, B.f]] V159):=Lib.hid (S158.out.gr hv160)
                        clear S158
                        clear hv160
                        refine ⟨rfl,hK _ _ ?_⟩
                        clear hK
                        go_wp2_with fail
                        go_ret
                        refine ⟨?_,S161.out.bel⟩
                        show Ending.returned (.bool false) = _
                        (first | rfl | (exact rb_f (decide_eq_false (by unfold Gm.Bx.rg Gm.rp;omega))))
                      | false =>
                        have f162:=of_decide_eq_false Hc154.out.symm
                        refine @wpG_p _ _ _ _ _ (some 30) B.f _ _ rfl (by rfl) (fun _=>rfl) ?_
                        simp only [n1,n3,n4]
                        refine @wpG_p _ _ _ _ _ (some 31) (.bool (decide (B.f > 1048575))) _ _ rfl (by rfl) (fun W=>op_int_gtr W B.f 1048575 rfl rfl rfl Tryd.underlying3) ?_
                        simp only [n1,n3,n4]
                        refine @wpG_p _ _ _ _ _ (some 32) (.bool (decide (B.f > 1048575))) _ _ rfl (by rfl) (fun W=>by go_simp) ?_
                        simp only [n1,n3,n4]
                        refine wpG_done (fun V163 hv164=>?_)
                        have S165 : Hid (St w noB [blk g4 25 [B.a, B.b, B.c, B.d, B.e, B.f]] V163):=Lib.hid (S153.out.gr hv164)
                        clear S153
                        clear hv164
                        refine ⟨rfl,hK _ _ ?_⟩
                        clear hK
                        obtain ⟨c166,hc166⟩ : ∃ q_,q_ = (decide (B.f > 1048575)):=⟨_,rfl⟩
                        rw [← hc166]
                        have Hc166:=Lib.hid hc166
                        clear hc166
                        cases c166 with
                        | true =>
                          have f167:=of_decide_eq_true Hc166.out.symm
                          go_upto_region 5 with fail
                          refine wpG_region_k (fun K hK=>?_)
                          refine @wpG_p _ _ _ _ _ (some 2) (.bool false) _ _ rfl (by rfl) (fun _=>rfl) ?_
                          simp only [n1,n3,n4]
                          refine wpG_done (fun V168 hv169=>?_)
                          have S170 : Hid (St w noB [blk g4 25 [B.a, B.b, B.c, B.d, B.e, B.f]] V168):=Lib.hid (S165.out.gr hv169)
                          clear S165
                          clear hv169
                          refine ⟨rfl,hK _ _ ?_⟩
                          clear hK
                          go_wp2_with fail
                          go_ret
                          refine ⟨?_,S170.out.bel⟩
                          show Ending.returned (.bool false) = _
                          (first | rfl | (exact rb_f (decide_eq_false (by unfold Gm.Bx.rg Gm.rp;omega))))
                        | false =>
                          have f171:=of_decide_eq_false Hc166.out.symm
                          go_upto_region 6 with fail
                          refine wpG_region_k (fun K hK=>?_)
                          refine @wpG_p _ _ _ _ _ (some 33) (.int .i64 6) _ _ rfl (by rfl) (fun W=>by go_simp <;> rfl) ?_
                          simp only [n1,n3,n4]
                          refine @wpG_p _ _ _ _ _ (some 24) (.int .i64 6) _ _ rfl (by rfl) (fun _=>rfl) ?_
                          simp only [n1,n3,n4]
                          refine wpG_done (fun V172 hv173=>?_)
                          have S174 : Hid (St w noB [blk g4 25 [B.a, B.b, B.c, B.d, B.e, B.f]] V172):=Lib.hid (S165.out.gr hv173)
                          clear S165
                          clear hv173
                          refine ⟨rfl,hK _ _ ?_⟩
                          clear hK
                          go_wp2_with fail
                          rw [rounds_succ]
                          go_upto_region 2 with fail
                          refine wpG_region_k (fun K hK=>?_)
                          refine @wpG_p _ _ _ _ _ (some 25) (.bool false) _ _ rfl (by rfl) (fun W=>by go_simp) ?_
                          simp only [n1,n3,n4]
                          refine wpG_done (fun V175 hv176=>?_)
                          have S177 : Hid (St w noB [blk g4 25 [B.a, B.b, B.c, B.d, B.e, B.f]] V175):=Lib.hid (S174.out.gr hv176)
                          clear S174
                          clear hv176
                          refine ⟨rfl,hK _ _ ?_⟩
                          clear hK
                          go_upto_region 7 with fail
                          refine wpG_region_k (fun K hK=>?_)
                          refine @wpG_p _ _ _ _ _ (some 2) (.bool true) _ _ rfl (by rfl) (fun _=>rfl) ?_
                          simp only [n1,n3,n4]
                          refine wpG_done (fun V178 hv179=>?_)
                          have S180 : Hid (St w noB [blk g4 25 [B.a, B.b, B.c, B.d, B.e, B.f]] V178):=Lib.hid (S177.out.gr hv179)
                          clear S177
                          clear hv179
                          refine ⟨rfl,hK _ _ ?_⟩
                          clear hK
                          go_wp2_with fail
                          go_ret
                          refine ⟨?_,S180.out.bel⟩
                          show Ending.returned (.bool true) = _
                          (first | rfl | (exact rb_t (decide_eq_true (by unfold Gm.Bx.rg Gm.rp;omega))))
set_option maxRecDepth 1000000 in
set_option maxHeartbeats 4000000 in
theorem fits_any (B : Gm.Bx) (w : World) :
    Calls Tryd.prog 46 #[.agg #[B.a, B.b, B.c, B.d, B.e, B.f]] w fun e w'=>e = .returned (.bool (decide (Gm.fits B))) ∧ Below w.heap.size w w':=by
  have S1 : Hid (St w noB [] w):=Lib.hid (St.start w)
  go_enter Tryd.func46,Tryd.ntmps46
  go_upto_region 0 with fail
  refine wpG_region_k (fun K hK=>?_)
  refine wpG_val (some 1) rfl (by rfl) (fun W2 hg3=>⟨.pointer (some ⟨W2.heap.size,0,none⟩),W2.alloc (.cells #[B.a, B.b, B.c, B.d, B.e, B.f] 25),by (first | (go_simp;done) | (go_simp <;> rfl)), ?_⟩)
  simp only [n1,n3,n4]
  obtain ⟨g4,U5,hg_,hu_,hS_⟩:=(S1.out.gr hg3).made [B.a, B.b, B.c, B.d, B.e, B.f] 25
  rw [← hu_,← hg_]
  have S6 : Hid (St w noB [blk g4 25 [B.a, B.b, B.c, B.d, B.e, B.f]] U5):=Lib.hid hS_
  clear S1
  clear hg_ hu_ hS_ hg3
  refine @wpG_p _ _ _ _ _ (some 2) (.bool false) _ _ rfl (by rfl) (fun _=>rfl) ?_
  simp only [n1,n3,n4]
  refine wpG_done (fun V7 hv8=>?_)
  have S9 : Hid (St w noB [blk g4 25 [B.a, B.b, B.c, B.d, B.e, B.f]] V7):=Lib.hid (S6.out.gr hv8)
  clear S6
  clear hv8
  refine ⟨rfl,hK _ _ ?_⟩
  clear hK
  go_upto_region 1 with fail
  refine wpG_region_k (fun K hK=>?_)
  refine @wpG_tk _ _ _ _ _ (some 3) (.agg #[B.a, B.b, B.c, B.d, B.e, B.f]) _ _ rfl (.load_mid (by rfl) 25 (.tmp 1) rfl g4 0 rfl [B.a, B.b, B.c, B.d, B.e, B.f] _ (fun W hg=>(S9.out.gr hg).range 0 rfl 0 6 rfl) Tryd.underlying25 rfl (by kernel_rfl)) ?_
  simp only [n1,n3,n4]
  refine @wpG_tk _ _ _ _ _ (some 4) (.bool (decide (B.rg))) _ _ rfl (.call (f:=53) (args:=#[.agg #[B.a, B.b, B.c, B.d, B.e, B.f]]) (by rfl) (fun W=>by go_simp) (fun W hg=>pnear_any B W)) ?_
  simp only [n1,n3,n4]
  refine @wpG_p _ _ _ _ _ (some 5) (.bool (decide (B.rg))) _ _ rfl (by rfl) (fun _=>rfl) ?_
  simp only [n1,n3,n4]
  obtain ⟨c10,hc10⟩ : ∃ q_,q_ = (decide (B.rg)):=⟨_,rfl⟩
  rw [← hc10]
  have Hc10:=Lib.hid hc10
  clear hc10
  cases c10 with
  | true =>
    have f11:=Lib.hid (of_decide_eq_true Hc10.out.symm)
    refine @wpG_tk _ _ _ _ _ (some 6) (.agg #[B.a, B.b, B.c, B.d, B.e, B.f]) _ _ rfl (.load_mid (by rfl) 25 (.tmp 1) rfl g4 0 rfl [B.a, B.b, B.c, B.d, B.e, B.f] _ (fun W hg=>(S9.out.gr hg).range 0 rfl 0 6 rfl) Tryd.underlying25 rfl (by kernel_rfl)) ?_
    simp only [n1,n3,n4]
    refine @wpG_tk _ _ _ _ _ (some 7) B.vol _ _ rfl (.call (f:=48) (args:=#[.agg #[B.a, B.b, B.c, B.d, B.e, B.f]]) (by rfl) (fun W=>by go_simp) (fun W hg=>pvol_b W B (by have e_f11:=f11.out;exact e_f11))) ?_
    simp only [n1,n3,n4]
    refine @wpG_p _ _ _ _ _ (some 8) (.bool (decide (B.vol ≤ 2097152))) _ _ rfl (by rfl) (fun W=>op_int_leq W B.vol 2097152 rfl rfl rfl Tryd.underlying3) ?_
    simp only [n1,n3,n4]
    refine @wpG_p _ _ _ _ _ (some 9) (.bool (decide (B.vol ≤ 2097152))) _ _ rfl (by rfl) (fun W=>by go_simp) ?_
    simp only [n1,n3,n4]
    refine @wpG_p _ _ _ _ _ (some 2) (.bool (decide (B.vol ≤ 2097152))) _ _ rfl (by rfl) (fun _=>rfl) ?_
    simp only [n1,n3,n4]
    refine wpG_done (fun V12 hv13=>?_)
    have S14 : Hid (St w noB [blk g4 25 [B.a, B.b, B.c, B.d, B.e, B.f]] V12):=Lib.hid (S9.out.gr hv13)
    clear S9
    clear hv13
    refine ⟨rfl,hK _ _ ?_⟩
    clear hK
    go_wp2_with fail
    go_ret
    obtain ⟨c15,hc15⟩ : ∃ q_,q_ = (decide (B.vol ≤ 2097152)):=⟨_,rfl⟩
    rw [← hc15]
    have Hc15:=Lib.hid hc15
    clear hc15
    cases c15 with
    | true =>
      have f16:=of_decide_eq_true Hc15.out.symm
      refine ⟨?_,S14.out.bel⟩
      show Ending.returned (.bool true) = _
      (first | rfl | (have e_f11:=f11.out;exact rb_t (decide_eq_true ⟨e_f11,by omega⟩)))
    | false =>
      have f17:=of_decide_eq_false Hc15.out.symm
      refine ⟨?_,S14.out.bel⟩
      show Ending.returned (.bool false) = _
      (first | rfl | (have e_f11:=f11.out;exact rb_f (decide_eq_false (fun h=>by have:=h.2;omega))))
  | false =>
    have f18:=Lib.hid (of_decide_eq_false Hc10.out.symm)
    refine @wpG_no _ _ _ _ _ (some 6) _ _ rfl (by rfl) ?_
    simp only [n1,n3,n4]
    refine @wpG_no _ _ _ _ _ (some 7) _ _ rfl (by rfl) ?_
    simp only [n1,n3,n4]
    refine @wpG_no _ _ _ _ _ (some 8) _ _ rfl (by rfl) ?_
    simp only [n1,n3,n4]
    refine @wpG_p _ _ _ _ _ (some 9) (.bool false) _ _ rfl (by rfl) (fun W=>by go_simp) ?_
    simp only [n1,n3,n4]
    refine @wpG_p _ _ _ _ _ (some 2) (.bool false) _ _ rfl (by rfl) (fun _=>rfl) ?_
    simp only [n1,n3,n4]
    refine wpG_done (fun V19 hv20=>?_)
    have S21 : Hid (St w noB [blk g4 25 [B.a, B.b, B.c, B.d, B.e, B.f]] V19):=Lib.hid (S9.out.gr hv20)
    clear S9
    clear hv20
    refine ⟨rfl,hK _ _ ?_⟩
    clear hK
    go_wp2_with fail
    go_ret
    refine ⟨?_,S21.out.bel⟩
    show Ending.returned (.bool false) = _
    (first | rfl | (have e_f18:=f18.out;exact rb_f (decide_eq_false (fun h=>e_f18 h.1))))
set_option maxRecDepth 1000000 in
set_option maxHeartbeats 4000000 in
theorem mat_any (x : Int) (w : World) :
    Calls Tryd.prog 51 #[x] w fun e w'=>e = .returned (.bool (decide (Gm.mtl x))) ∧ Below w.heap.size w w':=by
  have S1 : Hid (St w noB [] w):=Lib.hid (St.start w)
  go_enter Tryd.func51,Tryd.ntmps51
  go_upto_region 0 with fail
  refine wpG_region_k (fun K hK=>?_)
  refine @wpG_p _ _ _ _ _ (some 2) (.bool false) _ _ rfl (by rfl) (fun _=>rfl) ?_
  simp only [n1,n3,n4]
  refine wpG_done (fun V2 hv3=>?_)
  have S4 : Hid (St w noB [] V2):=Lib.hid (S1.out.gr hv3)
  clear S1
  clear hv3
  refine ⟨rfl,hK _ _ ?_⟩
  clear hK
  go_upto_region 1 with fail
  refine wpG_region_k (fun K hK=>?_)
  refine @wpG_p _ _ _ _ _ (some 3) x _ _ rfl (by rfl) (fun _=>rfl) ?_
  simp only [n1,n3,n4]
  refine @wpG_p _ _ _ _ _ (some 4) (.bool (decide (x ≥ 0))) _ _ rfl (by rfl) (fun W=>op_int_geq W x 0 rfl rfl rfl Tryd.underlying3) ?_
  simp only [n1,n3,n4]
  refine @wpG_p _ _ _ _ _ (some 5) (.bool (decide (x ≥ 0))) _ _ rfl (by rfl) (fun _=>rfl) ?_
  simp only [n1,n3,n4]
  obtain ⟨c5,hc5⟩ : ∃ q_,q_ = (decide (x ≥ 0)):=⟨_,rfl⟩
  rw [← hc5]
  have Hc5:=Lib.hid hc5
  clear hc5
  cases c5 with
  | true =>
    have f6:=of_decide_eq_true Hc5.out.symm
    refine @wpG_p _ _ _ _ _ (some 6) x _ _ rfl (by rfl) (fun _=>rfl) ?_
    simp only [n1,n3,n4]
    refine @wpG_p _ _ _ _ _ (some 7) (.bool (decide (x < 256))) _ _ rfl (by rfl) (fun W=>op_int_lss W x 256 rfl rfl rfl Tryd.underlying3) ?_
    simp only [n1,n3,n4]
    refine @wpG_p _ _ _ _ _ (some 8) (.bool (decide (x < 256))) _ _ rfl (by rfl) (fun W=>by go_simp) ?_
    simp only [n1,n3,n4]
    refine @wpG_p _ _ _ _ _ (some 2) (.bool (decide (x < 256))) _ _ rfl (by rfl) (fun _=>rfl) ?_
    simp only [n1,n3,n4]
    refine wpG_done (fun V7 hv8=>?_)
    have S9 : Hid (St w noB [] V7):=Lib.hid (S4.out.gr hv8)
    clear S4
    clear hv8
    refine ⟨rfl,hK _ _ ?_⟩
    clear hK
    go_wp2_with fail
    go_ret
    obtain ⟨c10,hc10⟩ : ∃ q_,q_ = (decide (x < 256)):=⟨_,rfl⟩
    rw [← hc10]
    have Hc10:=Lib.hid hc10
    clear hc10
    cases c10 with
    | true =>
      have f11:=of_decide_eq_true Hc10.out.symm
      refine ⟨?_,S9.out.bel⟩
      show Ending.returned (.bool true) = _
      (first | rfl | (exact rb_t (decide_eq_true (by unfold Gm.mtl;omega))))
    | false =>
      have f12:=of_decide_eq_false Hc10.out.symm
      refine ⟨?_,S9.out.bel⟩
      show Ending.returned (.bool false) = _
      (first | rfl | (exact rb_f (decide_eq_false (by unfold Gm.mtl;omega))))
  | false =>
    have f13:=of_decide_eq_false Hc5.out.symm
    refine @wpG_no _ _ _ _ _ (some 6) _ _ rfl (by rfl) ?_
    simp only [n1,n3,n4]
    refine @wpG_no _ _ _ _ _ (some 7) _ _ rfl (by rfl) ?_
    simp only [n1,n3,n4]
    refine @wpG_p _ _ _ _ _ (some 8) (.bool false) _ _ rfl (by rfl) (fun W=>by go_simp) ?_
    simp only [n1,n3,n4]
    refine @wpG_p _ _ _ _ _ (some 2) (.bool false) _ _ rfl (by rfl) (fun _=>rfl) ?_
    simp only [n1,n3,n4]
    refine wpG_done (fun V14 hv15=>?_)
    have S16 : Hid (St w noB [] V14):=Lib.hid (S4.out.gr hv15)
    clear S4
    clear hv15
    refine ⟨rfl,hK _ _ ?_⟩
    clear hK
    go_wp2_with fail
    go_ret
    refine ⟨?_,S16.out.bel⟩
    show Ending.returned (.bool false) = _
    (first | rfl | (exact rb_f (decide_eq_false (by unfold Gm.mtl;omega))))
set_option maxRecDepth 1000000 in
set_option maxHeartbeats 4000000 in
theorem matn_any (x : Int) (w : World) :
    Calls Tryd.prog 50 #[x] w fun e w'=>e = .returned (.bool (!decide (Gm.mtl x))) ∧ Below w.heap.size w w':=by
  have S1 : Hid (St w noB [] w):=Lib.hid (St.start w)
  go_enter Tryd.func50,Tryd.ntmps50
  go_upto_region 0 with fail
  refine wpG_region_k (fun K hK=>?_)
  refine @wpG_p _ _ _ _ _ (some 2) (.bool false) _ _ rfl (by rfl) (fun _=>rfl) ?_
  simp only [n1,n3,n4]
  refine wpG_done (fun V2 hv3=>?_)
  have S4 : Hid (St w noB [] V2):=Lib.hid (S1.out.gr hv3)
  clear S1
  clear hv3
  refine ⟨rfl,hK _ _ ?_⟩
  clear hK
  go_upto_region 1 with fail
  refine wpG_region_k (fun K hK=>?_)
  refine @wpG_p _ _ _ _ _ (some 3) x _ _ rfl (by rfl) (fun _=>rfl) ?_
  simp only [n1,n3,n4]
  refine @wpG_tk _ _ _ _ _ (some 4) (.bool (decide (Gm.mtl x))) _ _ rfl (.call (f:=51) (args:=#[x]) (by rfl) (fun W=>by go_simp) (fun W hg=>mat_any x W)) ?_
  simp only [n1,n3,n4]
  refine @wpG_p _ _ _ _ _ (some 5) (.bool (!(decide (Gm.mtl x)))) _ _ rfl (by rfl) (fun W=>by go_simp) ?_
  simp only [n1,n3,n4]
  refine @wpG_p _ _ _ _ _ (some 2) (.bool (!(decide (Gm.mtl x)))) _ _ rfl (by rfl) (fun _=>rfl) ?_
  simp only [n1,n3,n4]
  refine wpG_done (fun V5 hv6=>?_)
  have S7 : Hid (St w noB [] V5):=Lib.hid (S4.out.gr hv6)
  clear S4
  clear hv6
  refine ⟨rfl,hK _ _ ?_⟩
  clear hK
  go_wp2_with fail
  go_ret
  refine ⟨?_,S7.out.bel⟩
  show Ending.returned (.bool (!(decide (Gm.mtl x)))) = _
  (first | rfl | (rfl))
set_option maxRecDepth 1000000 in
set_option maxHeartbeats 4000000 in
theorem index_any (B : Gm.Bx) (A : Option Addr) (n c : Nat) (l : List Int) (x y z : Int) (w : World) (hG : SL w 1 A n c (ic l)) (hok : Gm.ok B l) (hp : Gm.rp3 x y z) :
    Calls Tryd.prog 56 #[.agg #[B.a, B.b, B.c, B.d, B.e, B.f, .slice A n c], .agg #[x, y, z]] w fun e w'=>e = .returned (.tuple #[(Gm.ixr B x y z), .bool (decide (0 ≤ Gm.ixr B x y z))]) ∧ Below w.heap.size w w':=by
  have HGA:=Lib.hid hG
  have HLEN : Hid (l.length = n):=Lib.hid (by have h_:=hG.len;rw [ic_len] at h_;omega)
  have hnbHGA : n ≤ 9223372036854775807:=Nat.le_trans hG.cap hG.bnd
  clear hG
  have HOK:=Lib.hid hok
  clear hok
  have S1 : Hid (St w noB [] w):=Lib.hid (St.start w)
  go_enter Tryd.func56,Tryd.ntmps56
  go_upto_region 0 with fail
  refine wpG_region_k (fun K hK=>?_)
  refine wpG_val (some 2) rfl (by rfl) (fun W2 hg3=>⟨.pointer (some ⟨W2.heap.size,0,none⟩),W2.alloc (.cells #[B.a, B.b, B.c, B.d, B.e, B.f, .slice A n c] 28),by (first | (go_simp;done) | (go_simp <;> rfl)), ?_⟩)
  simp only [n1,n3,n4]
  obtain ⟨g4,U5,hg_,hu_,hS_⟩:=(S1.out.gr hg3).made [B.a, B.b, B.c, B.d, B.e, B.f, .slice A n c] 28
  rw [← hu_,← hg_]
  have S6 : Hid (St w noB [blk g4 28 [B.a, B.b, B.c, B.d, B.e, B.f, .slice A n c]] U5):=Lib.hid hS_
  clear S1
  clear hg_ hu_ hS_ hg3
  refine wpG_val (some 3) rfl (by rfl) (fun W7 hg8=>⟨.pointer (some ⟨W7.heap.size,0,none⟩),W7.alloc (.cells #[x, y, z] 23),by (first | (go_simp;done) | (go_simp <;> rfl)), ?_⟩)
  simp only [n1,n3,n4]
  obtain ⟨g9,U10,hg_,hu_,hS_⟩:=(S6.out.gr hg8).made [x, y, z] 23
  rw [← hu_,← hg_]
  have S11 : Hid (St w noB [blk g9 23 [x, y, z],blk g4 28 [B.a, B.b, B.c, B.d, B.e, B.f, .slice A n c]] U10):=Lib.hid hS_
  clear S6
  clear hg_ hu_ hS_ hg8
  refine @wpG_p _ _ _ _ _ (some 4) () _ _ rfl (by rfl) (fun _=>rfl) ?_
  simp only [n1,n3,n4]
  refine @wpG_p _ _ _ _ _ (some 5) (.bool false) _ _ rfl (by rfl) (fun _=>rfl) ?_
  simp only [n1,n3,n4]
  refine wpG_done (fun V12 hv13=>?_)
  have S14 : Hid (St w noB [blk g9 23 [x, y, z],blk g4 28 [B.a, B.b, B.c, B.d, B.e, B.f, .slice A n c]] V12):=Lib.hid (S11.out.gr hv13)
  clear S11
  clear hv13
  refine ⟨rfl,hK _ _ ?_⟩
  clear hK
  go_upto_region 1 with fail
  refine wpG_region_k (fun K hK=>?_)
  refine @wpG_p _ _ _ _ _ (some 7) (.pointer (some ⟨g4,0,none⟩)) _ _ rfl (by rfl) (fun W=>by go_simp) ?_
  simp only [n1,n3,n4]
  refine @wpG_tk _ _ _ _ _ (some 8) (.agg #[B.a, B.b, B.c, B.d, B.e, B.f]) _ _ rfl (.load_mid (by rfl) 25 (.tmp 7) rfl g4 0 rfl [B.a, B.b, B.c, B.d, B.e, B.f] _ (fun W hg=>(S14.out.gr hg).range 1 rfl 0 6 rfl) Tryd.underlying25 rfl (by kernel_rfl)) ?_
  simp only [n1,n3,n4]
  refine @wpG_tk _ _ _ _ _ (some 9) (.agg #[x, y, z]) _ _ rfl (.load_mid (by rfl) 23 (.tmp 3) rfl g9 0 rfl [x, y, z] _ (fun W hg=>(S14.out.gr hg).range 0 rfl 0 3 rfl) Tryd.underlying23 rfl (by kernel_rfl)) ?_
  simp only [n1,n3,n4]
  refine @wpG_tk _ _ _ _ _ (some 10) (Gm.ixr B x y z) _ _ rfl (.call (f:=85) (args:=#[.agg #[B.a, B.b, B.c, B.d, B.e, B.f], .agg #[x, y, z]]) (by rfl) (fun W=>by go_simp) (fun W hg=>pindex_b W B x y z HOK.out.rg hp)) ?_
  simp only [n1,n3,n4]
  refine @wpG_p _ _ _ _ _ (some 6) (Gm.ixr B x y z) _ _ rfl (by rfl) (fun _=>rfl) ?_
  simp only [n1,n3,n4]
  refine wpG_done (fun V15 hv16=>?_)
  have S17 : Hid (St w noB [blk g9 23 [x, y, z],blk g4 28 [B.a, B.b, B.c, B.d, B.e, B.f, .slice A n c]] V15):=Lib.hid (S14.out.gr hv16)
  clear S14
  clear hv16
  refine ⟨rfl,hK _ _ ?_⟩
  clear hK
  go_upto_region 2 with fail
  refine wpK_region_k (by kernel_rfl) (fun K hK=>?_)
  refine wpK_ta (i:=0) (some 11) (v:=(Gm.ixr B x y z)) rfl rfl (by kernel_rfl) (fun _ _ _ h=>onN_panic h) (Or.inl ⟨rfl,fun _=>rfl⟩) ?_
  simp only [n1,n3,n4]
  refine wpK_ta (i:=1) (some 12) (v:=(Gm.ixr B x y z)) rfl rfl (by kernel_rfl) (fun _ _ _ h=>onN_panic h) (Or.inl ⟨rfl,fun _=>rfl⟩) ?_
  simp only [n1,n3,n4]
  refine wpK_ta (i:=2) (some 13) (v:=.bool (decide (Gm.ixr B x y z ≥ 0))) rfl rfl (by kernel_rfl) (fun _ _ _ h=>onN_panic h) (Or.inl ⟨by rfl,fun W=>by exact op_int_geq W (Gm.ixr B x y z) 0 rfl rfl rfl Tryd.underlying3⟩) ?_
  simp only [n1,n3,n4]
  refine wpK_ta (i:=3) (some 14) (v:=.bool (decide (Gm.ixr B x y z ≥ 0))) rfl rfl (by kernel_rfl) (fun _ _ _ h=>onN_panic h) (Or.inl ⟨rfl,fun _=>rfl⟩) ?_
  simp only [n1,n3,n4]
  obtain ⟨c18,hc18⟩ : ∃ q_,q_ = (decide (Gm.ixr B x y z ≥ 0)):=⟨_,rfl⟩
  rw [← hc18]
  have Hc18:=Lib.hid hc18
  clear hc18
  cases c18 with
  | true =>
    have f19:=of_decide_eq_true Hc18.out.symm
    refine wpK_ta (i:=4) (some 15) (v:=(Gm.ixr B x y z)) rfl rfl (by kernel_rfl) (fun _ _ _ h=>onN_panic h) (Or.inl ⟨rfl,fun _=>rfl⟩) ?_
    simp only [n1,n3,n4]
    refine wpK_ta (i:=5) (some 16) (v:=.pointer (some ⟨g4,6,none⟩)) rfl rfl (by kernel_rfl) (fun _ _ _ h=>onN_panic h) (Or.inl ⟨by rfl,fun W=>by go_simp⟩) ?_
    simp only [n1,n3,n4]
    refine wpK_ta (i:=10) (some 4) (v:=(Gm.ixr B x y z)) rfl rfl (by kernel_rfl) (fun _ _ _ h=>onN_panic h) (Or.inl ⟨rfl,fun _=>rfl⟩) ?_
    simp only [n1,n3,n4]
    refine wpK_tk (i:=6) (some 17) (v:=.slice A n c) rfl rfl (by kernel_rfl) (fun _ _ _ h=>onN_panic h) (.val (by rfl) (fun W hg=>by have c:=(S17.out.gr (Gr.un hg)).cell 1 rfl 6 rfl;go_simp)) ?_
    simp only [n1,n3,n4]
    refine wpK_ta (i:=7) (some 18) (v:=(n : Int)) rfl rfl (by kernel_rfl) (fun _ _ _ h=>onN_panic h) (Or.inl ⟨by rfl,fun W=>by go_simp⟩) ?_
    simp only [n1,n3,n4]
    refine wpK_ta (i:=8) (some 19) (v:=.bool (decide (Gm.ixr B x y z < (n : Int)))) rfl rfl (by kernel_rfl) (fun _ _ _ h=>onN_panic h) (Or.inl ⟨by rfl,fun W=>by exact op_int_lss W (Gm.ixr B x y z) (n : Int) rfl rfl rfl Tryd.underlying3⟩) ?_
    simp only [n1,n3,n4]
    refine wpK_ta (i:=9) (some 20) (v:=.bool (decide (Gm.ixr B x y z < (n : Int)))) rfl rfl (by kernel_rfl) (fun _ _ _ h=>onN_panic h) (Or.inl ⟨by rfl,fun W=>by go_simp⟩) ?_
    simp only [n1,n3,n4]
    refine wpK_ta (i:=11) (some 5) (v:=.bool (decide (Gm.ixr B x y z < (n : Int)))) rfl rfl (by kernel_rfl) (fun _ _ _ h=>onN_panic h) (Or.inl ⟨rfl,fun _=>rfl⟩) ?_
    simp only [n1,n3,n4]
    refine wpK_done (by kernel_rfl) (fun V20 hv21=>?_) _
    have S22 : Hid (St w noB [blk g9 23 [x, y, z],blk g4 28 [B.a, B.b, B.c, B.d, B.e, B.f, .slice A n c]] V20):=Lib.hid (S17.out.gr (Gr.un hv21))
    clear S17
    clear hv21
    refine ⟨rfl,hK _ _ ?_⟩
    clear hK
    go_wp2_with fail
    go_ret2
    obtain ⟨c23,hc23⟩ : ∃ q_,q_ = (decide (Gm.ixr B x y z < (n : Int))):=⟨_,rfl⟩
    rw [← hc23]
    have Hc23:=Lib.hid hc23
    clear hc23
    cases c23 with
    | true =>
      have f24:=of_decide_eq_true Hc23.out.symm
      refine ⟨?_,S22.out.bel⟩
      show Ending.returned (.tuple #[(Gm.ixr B x y z), .bool true]) = _
      (first | rfl | (rw [show decide (0 ≤ Gm.ixr B x y z) = true from decide_eq_true (by omega)]))
    | false =>
      have f25:=of_decide_eq_false Hc23.out.symm
      refine ⟨?_,S22.out.bel⟩
      show Ending.returned (.tuple #[(Gm.ixr B x y z), .bool false]) = _
      (first | rfl | (rw [show decide (0 ≤ Gm.ixr B x y z) = false from decide_eq_false (fun h_=>by have a1:=Gm.ixr_pos (B:=B) (x:=x) (y:=y) (z:=z) (by omega);have a3:=HOK.out.vol;have a4:=HLEN.out;omega)]))
  | false =>
    have f26:=of_decide_eq_false Hc18.out.symm
    refine wpK_ta (i:=4) (some 15) rfl rfl (by kernel_rfl) (fun _ _ _ h=>onN_panic h) (Or.inr ⟨by rfl,rfl⟩) ?_
    simp only [n1,n3,n4]
    refine wpK_ta (i:=5) (some 16) rfl rfl (by kernel_rfl) (fun _ _ _ h=>onN_panic h) (Or.inr ⟨by rfl,rfl⟩) ?_
    simp only [n1,n3,n4]
    refine wpK_ta (i:=6) (some 17) rfl rfl (by kernel_rfl) (fun _ _ _ h=>onN_panic h) (Or.inr ⟨by rfl,rfl⟩) ?_
    simp only [n1,n3,n4]
    refine wpK_ta (i:=7) (some 18) rfl rfl (by kernel_rfl) (fun _ _ _ h=>onN_panic h) (Or.inr ⟨by rfl,rfl⟩) ?_
    simp only [n1,n3,n4]
    refine wpK_ta (i:=8) (some 19) rfl rfl (by kernel_rfl) (fun _ _ _ h=>onN_panic h) (Or.inr ⟨by rfl,rfl⟩) ?_
    simp only [n1,n3,n4]
    refine wpK_ta (i:=9) (some 20) (v:=.bool false) rfl rfl (by kernel_rfl) (fun _ _ _ h=>onN_panic h) (Or.inl ⟨by rfl,fun W=>by go_simp⟩) ?_
    simp only [n1,n3,n4]
    refine wpK_ta (i:=10) (some 4) (v:=(Gm.ixr B x y z)) rfl rfl (by kernel_rfl) (fun _ _ _ h=>onN_panic h) (Or.inl ⟨rfl,fun _=>rfl⟩) ?_
    simp only [n1,n3,n4]
    refine wpK_ta (i:=11) (some 5) (v:=.bool false) rfl rfl (by kernel_rfl) (fun _ _ _ h=>onN_panic h) (Or.inl ⟨rfl,fun _=>rfl⟩) ?_
    simp only [n1,n3,n4]
    refine wpK_done (by kernel_rfl) (fun V27 hv28=>?_) _
    have S29 : Hid (St w noB [blk g9 23 [x, y, z],blk g4 28 [B.a, B.b, B.c, B.d, B.e, B.f, .slice A n c]] V27):=Lib.hid (S17.out.gr (Gr.un hv28))
    clear S17
    clear hv28
    refine ⟨rfl,hK _ _ ?_⟩
    clear hK
    go_wp2_with fail
    go_ret2
    refine ⟨?_,S29.out.bel⟩
    show Ending.returned (.tuple #[(Gm.ixr B x y z), .bool false]) = _
    (first | rfl | (rw [show decide (0 ≤ Gm.ixr B x y z) = false from decide_eq_false (fun h_=>by have a1:=Gm.ixr_pos (B:=B) (x:=x) (y:=y) (z:=z) (by omega);have a3:=HOK.out.vol;have a4:=HLEN.out;omega)]))
set_option maxRecDepth 1000000 in
set_option maxHeartbeats 4000000 in
theorem get_any (B : Gm.Bx) (A : Option Addr) (n c : Nat) (l : List Int) (x y z : Int) (w : World) (hG : SL w 1 A n c (ic l)) (hok : Gm.ok B l) (hp : Gm.rp3 x y z) :
    Calls Tryd.prog 21 #[.agg #[B.a, B.b, B.c, B.d, B.e, B.f, .slice A n c], .agg #[x, y, z]] w fun e w'=>e = .returned (Gm.get B l x y z) ∧ Below w.heap.size w w':=by
  have HGA:=Lib.hid hG
  have HLEN : Hid (l.length = n):=Lib.hid (by have h_:=hG.len;rw [ic_len] at h_;omega)
  have hnbHGA : n ≤ 9223372036854775807:=Nat.le_trans hG.cap hG.bnd
  clear hG
  have HOK:=Lib.hid hok
  clear hok
  have S1 : Hid (St w noB [] w):=Lib.hid (St.start w)
  go_enter Tryd.func21,Tryd.ntmps21
  go_upto_region 0 with fail
  refine wpG_region_k (fun K hK=>?_)
  refine wpG_val (some 2) rfl (by rfl) (fun W2 hg3=>⟨.pointer (some ⟨W2.heap.size,0,none⟩),W2.alloc (.cells #[B.a, B.b, B.c, B.d, B.e, B.f, .slice A n c] 28),by (first | (go_simp;done) | (go_simp <;> rfl)), ?_⟩)
  simp only [n1,n3,n4]
  obtain ⟨g4,U5,hg_,hu_,hS_⟩:=(S1.out.gr hg3).made [B.a, B.b, B.c, B.d, B.e, B.f, .slice A n c] 28
  rw [← hu_,← hg_]
  have S6 : Hid (St w noB [blk g4 28 [B.a, B.b, B.c, B.d, B.e, B.f, .slice A n c]] U5):=Lib.hid hS_
  clear S1
  clear hg_ hu_ hS_ hg3
  refine wpG_val (some 3) rfl (by rfl) (fun W7 hg8=>⟨.pointer (some ⟨W7.heap.size,0,none⟩),W7.alloc (.cells #[x, y, z] 23),by (first | (go_simp;done) | (go_simp <;> rfl)), ?_⟩)
  simp only [n1,n3,n4]
  obtain ⟨g9,U10,hg_,hu_,hS_⟩:=(S6.out.gr hg8).made [x, y, z] 23
  rw [← hu_,← hg_]
  have S11 : Hid (St w noB [blk g9 23 [x, y, z],blk g4 28 [B.a, B.b, B.c, B.d, B.e, B.f, .slice A n c]] U10):=Lib.hid hS_
  clear S6
  clear hg_ hu_ hS_ hg8
  refine @wpG_p _ _ _ _ _ (some 4) () _ _ rfl (by rfl) (fun _=>rfl) ?_
  simp only [n1,n3,n4]
  refine wpG_done (fun V12 hv13=>?_)
  have S14 : Hid (St w noB [blk g9 23 [x, y, z],blk g4 28 [B.a, B.b, B.c, B.d, B.e, B.f, .slice A n c]] V12):=Lib.hid (S11.out.gr hv13)
  clear S11
  clear hv13
  refine ⟨rfl,hK _ _ ?_⟩
  clear hK
  go_upto_region 1 with fail
  refine wpG_region_k (fun K hK=>?_)
  refine @wpG_tk _ _ _ _ _ (some 8) (.agg #[B.a, B.b, B.c, B.d, B.e, B.f, .slice A n c]) _ _ rfl (.load_mid (by rfl) 28 (.tmp 2) rfl g4 0 rfl [B.a, B.b, B.c, B.d, B.e, B.f, .slice A n c] _ (fun W hg=>(S14.out.gr hg).range 1 rfl 0 7 rfl) Tryd.underlying28 rfl (by kernel_rfl)) ?_
  simp only [n1,n3,n4]
  refine @wpG_tk _ _ _ _ _ (some 9) (.agg #[x, y, z]) _ _ rfl (.load_mid (by rfl) 23 (.tmp 3) rfl g9 0 rfl [x, y, z] _ (fun W hg=>(S14.out.gr hg).range 0 rfl 0 3 rfl) Tryd.underlying23 rfl (by kernel_rfl)) ?_
  simp only [n1,n3,n4]
  refine @wpG_tk _ _ _ _ _ (some 10) (.tuple #[(Gm.ixr B x y z), .bool (decide (0 ≤ Gm.ixr B x y z))]) _ _ rfl (.call (f:=56) (args:=#[.agg #[B.a, B.b, B.c, B.d, B.e, B.f, .slice A n c], .agg #[x, y, z]]) (by rfl) (fun W=>by go_simp) (fun W hg=>index_any B _ _ _ l x y z W (HGA.out.gr (S14.out.gr hg).bel) HOK.out hp)) ?_
  simp only [n1,n3,n4]
  refine @wpG_p _ _ _ _ _ (some 7) (.tuple #[(Gm.ixr B x y z), .bool (decide (0 ≤ Gm.ixr B x y z))]) _ _ rfl (by rfl) (fun _=>rfl) ?_
  simp only [n1,n3,n4]
  refine @wpG_p _ _ _ _ _ (some 11) (Gm.ixr B x y z) _ _ rfl (by rfl) (fun W=>by go_simp) ?_
  simp only [n1,n3,n4]
  refine @wpG_p _ _ _ _ _ (some 12) (.bool (decide (0 ≤ Gm.ixr B x y z))) _ _ rfl (by rfl) (fun W=>by go_simp) ?_
  simp only [n1,n3,n4]
  refine @wpG_p _ _ _ _ _ (some 5) (Gm.ixr B x y z) _ _ rfl (by rfl) (fun _=>rfl) ?_
  simp only [n1,n3,n4]
  refine @wpG_p _ _ _ _ _ (some 6) (.bool (decide (0 ≤ Gm.ixr B x y z))) _ _ rfl (by rfl) (fun _=>rfl) ?_
  simp only [n1,n3,n4]
  refine wpG_done (fun V15 hv16=>?_)
  have S17 : Hid (St w noB [blk g9 23 [x, y, z],blk g4 28 [B.a, B.b, B.c, B.d, B.e, B.f, .slice A n c]] V15):=Lib.hid (S14.out.gr hv16)
  clear S14
  clear hv16
  refine ⟨rfl,hK _ _ ?_⟩
  clear hK
  go_upto_region 2 with fail
  refine wpG_region_k (fun K hK=>?_)
  refine @wpG_p _ _ _ _ _ (some 13) (.bool (decide (0 ≤ Gm.ixr B x y z))) _ _ rfl (by rfl) (fun _=>rfl) ?_
  simp only [n1,n3,n4]
  refine wpG_done (fun V18 hv19=>?_)
  have S20 : Hid (St w noB [blk g9 23 [x, y, z],blk g4 28 [B.a, B.b, B.c, B.d, B.e, B.f, .slice A n c]] V18):=Lib.hid (S17.out.gr hv19)
  clear S17
  clear hv19
  refine ⟨rfl,hK _ _ ?_⟩
  clear hK
  obtain ⟨c21,hc21⟩ : ∃ q_,q_ = (decide (0 ≤ Gm.ixr B x y z)):=⟨_,rfl⟩
  rw [← hc21]
  have Hc21:=Lib.hid hc21
  clear hc21
  cases c21 with
  | true =>
    have f22:=of_decide_eq_true Hc21.out.symm
    go_upto_region 3 with fail
    refine wpG_region_k (fun K hK=>?_)
    refine @wpG_p _ _ _ _ _ (some 14) (.pointer (some ⟨g4,6,none⟩)) _ _ rfl (by rfl) (fun W=>by go_simp) ?_
    simp only [n1,n3,n4]
    refine @wpG_r _ _ _ _ _ (some 15) (.slice A n c) _ _ rfl (by rfl) (fun W hg=>by have c:=(S20.out.gr hg).cell 1 rfl 6 rfl;go_simp) ?_
    simp only [n1,n3,n4]
    refine @wpG_p _ _ _ _ _ (some 16) (Gm.ixr B x y z) _ _ rfl (by rfl) (fun _=>rfl) ?_
    simp only [n1,n3,n4]
    obtain ⟨q23,hq_⟩ : ∃ q_ : Nat,Gm.ixr B x y z = (q_ : Int):=⟨(Gm.ixr B x y z).toNat,by omega⟩
    rw [hq_]
    have HQq23:=Lib.hid hq_
    clear hq_
    have hqn_ : q23 < n:=by have a2:=HQq23.out;have a1:=Gm.ixr_pos (B:=B) (x:=x) (y:=y) (z:=z) (by omega);have a3:=HOK.out.vol;have a4:=HLEN.out;omega
    obtain ⟨b24,o24,rfl⟩:=HGA.out.addr (by decide) (by omega)
    refine @wpG_p _ _ _ _ _ (some 17) (.pointer (some ⟨b24,o24 + q23,none⟩)) _ _ rfl (by rfl) (fun W=>by (go_simp <;> first | rfl | omega | (simp;omega))) ?_
    simp only [n1,n3,n4]
    refine @wpG_r _ _ _ _ _ (some 18) (l.getD q23 0:Int) _ _ rfl (by rfl) (fun W hg=>by have c:=(((HGA.out.gr ((S20.out.gr hg)).bel).int (l:=l) q23 (by (have:=HLEN.out;omega)))) 0 _ rfl;(try simp only [Nat.add_zero,Nat.zero_add] at c);go_simp) ?_
    simp only [n1,n3,n4]
    refine @wpG_p _ _ _ _ _ (some 4) (l.getD q23 0:Int) _ _ rfl (by rfl) (fun _=>rfl) ?_
    simp only [n1,n3,n4]
    refine wpG_done (fun V25 hv26=>?_)
    have S27 : Hid (St w noB [blk g9 23 [x, y, z],blk g4 28 [B.a, B.b, B.c, B.d, B.e, B.f, .slice (some ⟨b24,o24,none⟩) n c]] V25):=Lib.hid (S20.out.gr hv26)
    clear S20
    clear hv26
    refine ⟨rfl,hK _ _ ?_⟩
    clear hK
    go_wp2_with fail
    go_ret
    refine ⟨?_,S27.out.bel⟩
    show Ending.returned (l.getD q23 0:Int) = _
    (first | rfl | (obtain ⟨hi_,he_,_,_⟩:=Gm.ixr_pos (B:=B) (x:=x) (y:=y) (z:=z) (by have:=HQq23.out;omega);rw [Gm.get_in hi_ (he_.symm.trans HQq23.out)]))
  | false =>
    have f28:=of_decide_eq_false Hc21.out.symm
    go_upto_region 4 with fail
    refine wpG_region_k (fun K hK=>?_)
    refine @wpG_p _ _ _ _ _ (some 4) () _ _ rfl (by rfl) (fun _=>rfl) ?_
    simp only [n1,n3,n4]
    refine wpG_done (fun V29 hv30=>?_)
    have S31 : Hid (St w noB [blk g9 23 [x, y, z],blk g4 28 [B.a, B.b, B.c, B.d, B.e, B.f, .slice A n c]] V29):=Lib.hid (S20.out.gr hv30)
    clear S20
    clear hv30
    refine ⟨rfl,hK _ _ ?_⟩
    clear hK
    go_wp2_with fail
    go_ret
    refine ⟨?_,S31.out.bel⟩
    show Ending.returned () = _
    (first | rfl | (rw [Gm.ixr_neg (by omega)]))

end Go.Proofs.YtpapbbolefnkmaaDoor
