/-
  Contracts of the specification: validity, equality, counting, new grids.
-/
import Derived.Test.YtpapbbolefnkmaaDoorZB00
import Derived.Test.YtpapbbolefnkmaaDoorZB26
import Derived.Handy
namespace Go.Proofs.YtpapbbolefnkmaaDoor
open Go Go.RowKit
set_option linter.unusedVariables false
set_option linter.unusedSimpArgs false
open Ff (ff ff_step ff_hit ff_end al_yes al_no)
set_option maxRecDepth 1000000 in
set_option maxHeartbeats 4000000 in
theorem rvalid_any (B : Gm.Bx) (A : Option Addr) (n c : Nat) (l : List Int) (w : World) (hG : SL w 1 A n c (ic l)) :
    Calls Tryd.prog 13 #[.agg #[B.a, B.b, B.c, B.d, B.e, B.f, .slice A n c]] w fun e w'=>e = .returned (.bool (decide (Gm.vld B l))) ∧ Below w.heap.size w w':=by
  have HGA:=Lib.hid hG
  have HLEN : Hid (l.length = n):=Lib.hid (by have h_:=hG.len;rw [ic_len] at h_;omega)
  have hnbHGA : n ≤ 9223372036854775807:=Nat.le_trans hG.cap hG.bnd
  clear hG
  have S1 : Hid (St w noB [] w):=Lib.hid (St.start w)
  go_enter Tryd.func13,Tryd.ntmps13
  go_upto_region 0 with fail
  refine wpG_region_k (fun K hK=>?_)
  refine wpG_val (some 1) rfl (by rfl) (fun W2 hg3=>⟨.pointer (some ⟨W2.heap.size,0,none⟩),W2.alloc (.cells #[B.a, B.b, B.c, B.d, B.e, B.f, .slice A n c] 28),by (first | (go_simp;done) | (go_simp <;> rfl)), ?_⟩)
  simp only [n1,n3,n4]
  obtain ⟨g4,U5,hg_,hu_,hS_⟩:=(S1.out.gr hg3).made [B.a, B.b, B.c, B.d, B.e, B.f, .slice A n c] 28
  rw [← hu_,← hg_]
  have S6 : Hid (St w noB [blk g4 28 [B.a, B.b, B.c, B.d, B.e, B.f, .slice A n c]] U5):=Lib.hid hS_
  clear S1
  clear hg_ hu_ hS_ hg3
  refine @wpG_p _ _ _ _ _ (some 2) (.bool false) _ _ rfl (by rfl) (fun _=>rfl) ?_
  simp only [n1,n3,n4]
  refine wpG_done (fun V7 hv8=>?_)
  have S9 : Hid (St w noB [blk g4 28 [B.a, B.b, B.c, B.d, B.e, B.f, .slice A n c]] V7):=Lib.hid (S6.out.gr hv8)
  clear S6
  clear hv8
  refine ⟨rfl,hK _ _ ?_⟩
  clear hK
  go_upto_region 1 with fail
  refine wpG_region_k (fun K hK=>?_)
  refine @wpG_p _ _ _ _ _ (some 8) (.pointer (some ⟨g4,0,none⟩)) _ _ rfl (by rfl) (fun W=>by go_simp) ?_
  simp only [n1,n3,n4]
  refine @wpG_p _ _ _ _ _ (some 9) (.pointer (some ⟨g4,0,none⟩)) _ _ rfl (by rfl) (fun W=>by go_simp) ?_
  simp only [n1,n3,n4]
  refine @wpG_tk _ _ _ _ _ (some 10) (.agg #[B.a, B.b, B.c]) _ _ rfl (.load_mid (by rfl) 23 (.tmp 9) rfl g4 0 rfl [B.a, B.b, B.c] _ (fun W hg=>(S9.out.gr hg).range 0 rfl 0 3 rfl) Tryd.underlying23 rfl (by kernel_rfl)) ?_
  simp only [n1,n3,n4]
  refine @wpG_tk _ _ _ _ _ (some 11) (.bool (decide (Gm.rp3 B.a B.b B.c))) _ _ rfl (.call (f:=9) (args:=#[.agg #[B.a, B.b, B.c]]) (by rfl) (fun W=>by go_simp) (fun W hg=>ranged_any B.a B.b B.c W)) ?_
  simp only [n1,n3,n4]
  refine @wpG_p _ _ _ _ _ (some 3) (.bool (decide (Gm.rp3 B.a B.b B.c))) _ _ rfl (by rfl) (fun _=>rfl) ?_
  simp only [n1,n3,n4]
  refine wpG_done (fun V10 hv11=>?_)
  have S12 : Hid (St w noB [blk g4 28 [B.a, B.b, B.c, B.d, B.e, B.f, .slice A n c]] V10):=Lib.hid (S9.out.gr hv11)
  clear S9
  clear hv11
  refine ⟨rfl,hK _ _ ?_⟩
  clear hK
  go_upto_region 2 with fail
  refine wpG_region_k (fun K hK=>?_)
  refine @wpG_p _ _ _ _ _ (some 12) (.pointer (some ⟨g4,0,none⟩)) _ _ rfl (by rfl) (fun W=>by go_simp) ?_
  simp only [n1,n3,n4]
  refine @wpG_p _ _ _ _ _ (some 13) (.pointer (some ⟨g4,3,none⟩)) _ _ rfl (by rfl) (fun W=>by go_simp) ?_
  simp only [n1,n3,n4]
  refine @wpG_tk _ _ _ _ _ (some 14) (.agg #[B.d, B.e, B.f]) _ _ rfl (.load_mid (by rfl) 23 (.tmp 13) rfl g4 3 rfl [B.d, B.e, B.f] _ (fun W hg=>(S12.out.gr hg).range 0 rfl 3 3 rfl) Tryd.underlying23 rfl (by kernel_rfl)) ?_
  simp only [n1,n3,n4]
  refine @wpG_tk _ _ _ _ _ (some 15) (.bool (decide (Gm.rp3 B.d B.e B.f))) _ _ rfl (.call (f:=9) (args:=#[.agg #[B.d, B.e, B.f]]) (by rfl) (fun W=>by go_simp) (fun W hg=>ranged_any B.d B.e B.f W)) ?_
  simp only [n1,n3,n4]
  refine @wpG_p _ _ _ _ _ (some 4) (.bool (decide (Gm.rp3 B.d B.e B.f))) _ _ rfl (by rfl) (fun _=>rfl) ?_
  simp only [n1,n3,n4]
  refine wpG_done (fun V13 hv14=>?_)
  have S15 : Hid (St w noB [blk g4 28 [B.a, B.b, B.c, B.d, B.e, B.f, .slice A n c]] V13):=Lib.hid (S12.out.gr hv14)
  clear S12
  clear hv14
  refine ⟨rfl,hK _ _ ?_⟩
  clear hK
  go_upto_region 3 with fail
  refine wpG_region_k (fun K hK=>?_)
  refine @wpG_p _ _ _ _ _ (some 16) (.bool (decide (Gm.rp3 B.a B.b B.c))) _ _ rfl (by rfl) (fun _=>rfl) ?_
  simp only [n1,n3,n4]
  refine @wpG_p _ _ _ _ _ (some 17) (.bool (!(decide (Gm.rp3 B.a B.b B.c)))) _ _ rfl (by rfl) (fun W=>by go_simp) ?_
  simp only [n1,n3,n4]
  refine @wpG_p _ _ _ _ _ (some 18) (.bool (!(decide (Gm.rp3 B.a B.b B.c)))) _ _ rfl (by rfl) (fun _=>rfl) ?_
  simp only [n1,n3,n4]
  obtain ⟨c16,hc16⟩ : ∃ q_,q_ = (!(decide (Gm.rp3 B.a B.b B.c))):=⟨_,rfl⟩
  rw [← hc16]
  have Hc16:=Lib.hid hc16
  clear hc16
  cases c16 with
  | true =>
    have f17:=Lib.hid (of_decide_eq_false (bnt Hc16.out))
    refine @wpG_no _ _ _ _ _ (some 19) _ _ rfl (by rfl) ?_
    simp only [n1,n3,n4]
    refine @wpG_no _ _ _ _ _ (some 20) _ _ rfl (by rfl) ?_
    simp only [n1,n3,n4]
    refine @wpG_p _ _ _ _ _ (some 21) (.bool true) _ _ rfl (by rfl) (fun W=>by go_simp) ?_
    simp only [n1,n3,n4]
    refine wpG_done (fun V18 hv19=>?_)
    have S20 : Hid (St w noB [blk g4 28 [B.a, B.b, B.c, B.d, B.e, B.f, .slice A n c]] V18):=Lib.hid (S15.out.gr hv19)
    clear S15
    clear hv19
    refine ⟨rfl,hK _ _ ?_⟩
    clear hK
    go_upto_region 4 with fail
    refine wpG_region_k (fun K hK=>?_)
    refine @wpG_p _ _ _ _ _ (some 2) (.bool false) _ _ rfl (by rfl) (fun _=>rfl) ?_
    simp only [n1,n3,n4]
    refine wpG_done (fun V21 hv22=>?_)
    have S23 : Hid (St w noB [blk g4 28 [B.a, B.b, B.c, B.d, B.e, B.f, .slice A n c]] V21):=Lib.hid (S20.out.gr hv22)
    clear S20
    clear hv22
    refine ⟨rfl,hK _ _ ?_⟩
    clear hK
    go_wp2_with fail
    go_ret
    refine ⟨?_,S23.out.bel⟩
    show Ending.returned (.bool false) = _
    (first | rfl | (have e_f17:=f17.out;refine rb_f (decide_eq_false (fun hv=>?_));exact e_f17 hv.1.1))
  | false =>
    have f24:=Lib.hid (of_decide_eq_true (bnf Hc16.out))
    refine @wpG_p _ _ _ _ _ (some 19) (.bool (decide (Gm.rp3 B.d B.e B.f))) _ _ rfl (by rfl) (fun _=>rfl) ?_
    simp only [n1,n3,n4]
    refine @wpG_p _ _ _ _ _ (some 20) (.bool (!(decide (Gm.rp3 B.d B.e B.f)))) _ _ rfl (by rfl) (fun W=>by go_simp) ?_
    simp only [n1,n3,n4]
    refine @wpG_p _ _ _ _ _ (some 21) (.bool (!(decide (Gm.rp3 B.d B.e B.f)))) _ _ rfl (by rfl) (fun W=>by go_simp) ?_
    simp only [n1,n3,n4]
    refine wpG_done (fun V25 hv26=>?_)
    have S27 : Hid (St w noB [blk g4 28 [B.a, B.b, B.c, B.d, B.e, B.f, .slice A n c]] V25):=Lib.hid (S15.out.gr hv26)
    clear S15
    clear hv26
    refine ⟨rfl,hK _ _ ?_⟩
    clear hK
    obtain ⟨c28,hc28⟩ : ∃ q_,q_ = (!(decide (Gm.rp3 B.d B.e B.f))):=⟨_,rfl⟩
    rw [← hc28]
    have Hc28:=Lib.hid hc28
    clear hc28
    cases c28 with
    | true =>
      have f29:=Lib.hid (of_decide_eq_false (bnt Hc28.out))
      go_upto_region 4 with fail
      refine wpG_region_k (fun K hK=>?_)
      refine @wpG_p _ _ _ _ _ (some 2) (.bool false) _ _ rfl (by rfl) (fun _=>rfl) ?_
      simp only [n1,n3,n4]
      refine wpG_done (fun V30 hv31=>?_)
      have S32 : Hid (St w noB [blk g4 28 [B.a, B.b, B.c, B.d, B.e, B.f, .slice A n c]] V30):=Lib.hid (S27.out.gr hv31)
      clear S27
      clear hv31
      refine ⟨rfl,hK _ _ ?_⟩
      clear hK
      go_wp2_with fail
      go_ret
      refine ⟨?_,S32.out.bel⟩
      show Ending.returned (.bool false) = _
      (first | rfl | (have e_f24:=f24.out;have e_f29:=f29.out;refine rb_f (decide_eq_false (fun hv=>?_));exact e_f29 hv.1.2))
    | false =>
      have f33:=Lib.hid (of_decide_eq_true (bnf Hc28.out))
      go_upto_region 5 with fail
      refine wpG_region_k (fun K hK=>?_)
      refine @wpG_p _ _ _ _ _ (some 22) (.pointer (some ⟨g4,0,none⟩)) _ _ rfl (by rfl) (fun W=>by go_simp) ?_
      simp only [n1,n3,n4]
      refine @wpG_tk _ _ _ _ _ (some 23) (.agg #[B.a, B.b, B.c, B.d, B.e, B.f]) _ _ rfl (.load_mid (by rfl) 25 (.tmp 22) rfl g4 0 rfl [B.a, B.b, B.c, B.d, B.e, B.f] _ (fun W hg=>(S27.out.gr hg).range 0 rfl 0 6 rfl) Tryd.underlying25 rfl (by kernel_rfl)) ?_
      simp only [n1,n3,n4]
      refine @wpG_tk _ _ _ _ _ (some 24) B.vol _ _ rfl (.call (f:=10) (args:=#[.agg #[B.a, B.b, B.c, B.d, B.e, B.f]]) (by rfl) (fun W=>by go_simp) (fun W hg=>vol_b W B (by have e_f24:=f24.out;have e_f33:=f33.out;exact ⟨e_f24,e_f33⟩))) ?_
      simp only [n1,n3,n4]
      refine @wpG_p _ _ _ _ _ (some 5) B.vol _ _ rfl (by rfl) (fun _=>rfl) ?_
      simp only [n1,n3,n4]
      refine wpG_done (fun V34 hv35=>?_)
      have S36 : Hid (St w noB [blk g4 28 [B.a, B.b, B.c, B.d, B.e, B.f, .slice A n c]] V34):=Lib.hid (S27.out.gr hv35)
      clear S27
      clear hv35
      refine ⟨rfl,hK _ _ ?_⟩
      clear hK
      go_upto_region 6 with fail
      refine wpG_region_k (fun K hK=>?_)
      refine @wpG_p _ _ _ _ _ (some 25) B.vol _ _ rfl (by rfl) (fun _=>rfl) ?_
      simp only [n1,n3,n4]
      refine @wpG_p _ _ _ _ _ (some 26) (.bool (decide (B.vol = 0))) _ _ rfl (by rfl) (fun W=>op_int_eql W B.vol 0 rfl rfl rfl Tryd.underlying3) ?_
      simp only [n1,n3,n4]
      refine @wpG_p _ _ _ _ _ (some 27) (.bool (decide (B.vol = 0))) _ _ rfl (by rfl) (fun _=>rfl) ?_
      simp only [n1,n3,n4]
      obtain ⟨c37,hc37⟩ : ∃ q_,q_ = (decide (B.vol = 0)):=⟨_,rfl⟩
      rw [← hc37]
      have Hc37:=Lib.hid hc37
      clear hc37
      cases c37 with
      | true =>
        have f38:=Lib.hid (of_decide_eq_true Hc37.out.symm)
        have f38a:=Int.le_of_eq f38.out
        have f38b:=Int.le_of_eq f38.out.symm
        refine @wpG_p _ _ _ _ _ (some 28) (.pointer (some ⟨g4,0,none⟩)) _ _ rfl (by rfl) (fun W=>by go_simp) ?_
        simp only [n1,n3,n4]
        refine @wpG_tk _ _ _ _ _ (some 29) (.agg #[B.a, B.b, B.c, B.d, B.e, B.f]) _ _ rfl (.load_mid (by rfl) 25 (.tmp 28) rfl g4 0 rfl [B.a, B.b, B.c, B.d, B.e, B.f] _ (fun W hg=>(S36.out.gr hg).range 0 rfl 0 6 rfl) Tryd.underlying25 rfl (by kernel_rfl)) ?_
        simp only [n1,n3,n4]
        refine @wpG_p _ _ _ _ _ (some 30) (.agg #[(), (), (), (), (), ()]) _ _ rfl (by rfl) (fun W=>by go_simp) ?_
        simp only [n1,n3,n4]
        refine @wpG_p _ _ _ _ _ (some 31) (.bool (decide (¬ (B.a = 0 ∧ B.b = 0 ∧ B.c = 0 ∧ B.d = 0 ∧ B.e = 0 ∧ B.f = 0)))) _ _ rfl (by rfl) (fun W=>op_bx_neq W B.a B.b B.c B.d B.e B.f 0 0 0 0 0 0 rfl rfl rfl) ?_
        simp only [n1,n3,n4]
        refine @wpG_p _ _ _ _ _ (some 32) (.bool (decide (¬ (B.a = 0 ∧ B.b = 0 ∧ B.c = 0 ∧ B.d = 0 ∧ B.e = 0 ∧ B.f = 0)))) _ _ rfl (by rfl) (fun W=>by go_simp) ?_
        simp only [n1,n3,n4]
        refine @wpG_p _ _ _ _ _ (some 33) (.bool (decide (¬ (B.a = 0 ∧ B.b = 0 ∧ B.c = 0 ∧ B.d = 0 ∧ B.e = 0 ∧ B.f = 0)))) _ _ rfl (by rfl) (fun _=>rfl) ?_
        simp only [n1,n3,n4]
        obtain ⟨c39,hc39⟩ : ∃ q_,q_ = (decide (¬ (B.a = 0 ∧ B.b = 0 ∧ B.c = 0 ∧ B.d = 0 ∧ B.e = 0 ∧ B.f = 0))):=⟨_,rfl⟩
        rw [← hc39]
        have Hc39:=Lib.hid hc39
        clear hc39
        cases c39 with
        | true =>
          have f40:=Lib.hid (of_decide_eq_true Hc39.out.symm)
          refine @wpG_no _ _ _ _ _ (some 34) _ _ rfl (by rfl) ?_
          simp only [n1,n3,n4]
          refine @wpG_no _ _ _ _ _ (some 35) _ _ rfl (by rfl) ?_
          simp only [n1,n3,n4]
          refine @wpG_p _ _ _ _ _ (some 36) (.bool true) _ _ rfl (by rfl) (fun W=>by go_simp) ?_
          simp only [n1,n3,n4]
          refine @wpG_p _ _ _ _ _ (some 37) (.bool true) _ _ rfl (by rfl) (fun _=>rfl) ?_
          simp only [n1,n3,n4]
          refine @wpG_no _ _ _ _ _ (some 38) _ _ rfl (by rfl) ?_
          simp only [n1,n3,n4]
          refine @wpG_no _ _ _ _ _ (some 39) _ _ rfl (by rfl) ?_
          simp only [n1,n3,n4]
          refine @wpG_no _ _ _ _ _ (some 40) _ _ rfl (by rfl) ?_
          simp only [n1,n3,n4]
          refine @wpG_no _ _ _ _ _ (some 41) _ _ rfl (by rfl) ?_
          simp only [n1,n3,n4]
          refine @wpG_no _ _ _ _ _ (some 42) _ _ rfl (by rfl) ?_
          simp only [n1,n3,n4]
          refine @wpG_p _ _ _ _ _ (some 43) (.bool true) _ _ rfl (by rfl) (fun W=>by go_simp) ?_
          simp only [n1,n3,n4]
          refine wpG_done (fun V41 hv42=>?_)
          have S43 : Hid (St w noB [blk g4 28 [B.a, B.b, B.c, B.d, B.e, B.f, .slice A n c]] V41):=Lib.hid (S36.out.gr hv42)
          clear S36
          clear hv42
          refine ⟨rfl,hK _ _ ?_⟩
          clear hK
          go_upto_region 7 with fail
          refine wpG_region_k (fun K hK=>?_)
          refine @wpG_p _ _ _ _ _ (some 2) (.bool false) _ _ rfl (by rfl) (fun _=>rfl) ?_
          simp only [n1,n3,n4]
          refine wpG_done (fun V44 hv45=>?_)
          have S46 : Hid (St w noB [blk g4 28 [B.a, B.b, B.c, B.d, B.e, B.f, .slice A n c]] V44):=Lib.hid (S43.out.gr hv45)
          clear S43
          clear hv45
          refine ⟨rfl,hK _ _ ?_⟩
          clear hK
          go_wp2_with fail
          go_ret
          refine ⟨?_,S46.out.bel⟩
          show Ending.returned (.bool false) = _
          (first | rfl | (have e_f24:=f24.out;have e_f33:=f33.out;have e_f38:=f38.out;have e_f40:=f40.out;have hlen_:=HLEN.out;refine rb_f (decide_eq_false (fun hv=>?_));obtain ⟨h1_,h2_,h3_,h4_,_⟩:=hv;first | omega | exact h2_ ⟨by omega,fun hz=>e_f40 (Gm.bx_eq.1 hz)⟩))
        | false =>
          have f47:=of_decide_eq_false Hc39.out.symm
          refine @wpG_p _ _ _ _ _ (some 34) B.vol _ _ rfl (by rfl) (fun _=>rfl) ?_
          simp only [n1,n3,n4]
          refine @wpG_p _ _ _ _ _ (some 35) (.bool (decide (B.vol > 2097152))) _ _ rfl (by rfl) (fun W=>op_int_gtr W B.vol 2097152 rfl rfl rfl Tryd.underlying3) ?_
          simp only [n1,n3,n4]
          refine @wpG_p _ _ _ _ _ (some 36) (.bool (decide (B.vol > 2097152))) _ _ rfl (by rfl) (fun W=>by go_simp) ?_
          simp only [n1,n3,n4]
          refine @wpG_p _ _ _ _ _ (some 37) (.bool (decide (B.vol > 2097152))) _ _ rfl (by rfl) (fun _=>rfl) ?_
          simp only [n1,n3,n4]
          obtain ⟨c48,hc48⟩ : ∃ q_,q_ = (decide (B.vol > 2097152)):=⟨_,rfl⟩
          rw [← hc48]
          have Hc48:=Lib.hid hc48
          clear hc48
          cases c48 with
          | true =>
            have f49:=of_decide_eq_true Hc48.out.symm
            refine @wpG_no _ _ _ _ _ (some 38) _ _ rfl (by rfl) ?_
            simp only [n1,n3,n4]
            refine @wpG_no _ _ _ _ _ (some 39) _ _ rfl (by rfl) ?_
            simp only [n1,n3,n4]
            refine @wpG_no _ _ _ _ _ (some 40) _ _ rfl (by rfl) ?_
            simp only [n1,n3,n4]
            refine @wpG_no _ _ _ _ _ (some 41) _ _ rfl (by rfl) ?_
            simp only [n1,n3,n4]
            refine @wpG_no _ _ _ _ _ (some 42) _ _ rfl (by rfl) ?_
            simp only [n1,n3,n4]
            refine @wpG_p _ _ _ _ _ (some 43) (.bool true) _ _ rfl (by rfl) (fun W=>by go_simp) ?_
            simp only [n1,n3,n4]
            refine wpG_done (fun V50 hv51=>?_)
            have S52 : Hid (St w noB [blk g4 28 [B.a, B.b, B.c, B.d, B.e, B.f, .slice A n c]] V50):=Lib.hid (S36.out.gr hv51)
            clear S36
            clear hv51
            refine ⟨rfl,hK _ _ ?_⟩
            clear hK
            go_upto_region 7 with fail
            refine wpG_region_k (fun K hK=>?_)
            refine @wpG_p _ _ _ _ _ (some 2) (.bool false) _ _ rfl (by rfl) (fun _=>rfl) ?_
            simp only [n1,n3,n4]
            refine wpG_done (fun V53 hv54=>?_)
            have S55 : Hid (St w noB [blk g4 28 [B.a, B.b, B.c, B.d, B.e, B.f, .slice A n c]] V53):=Lib.hid (S52.out.gr hv54)
            clear S52
            clear hv54
            refine ⟨rfl,hK _ _ ?_⟩
            clear hK
            go_wp2_with fail
            go_ret
            refine ⟨?_,S55.out.bel⟩
            show Ending.returned (.bool false) = _
            (first | rfl | (have e_f24:=f24.out;have e_f33:=f33.out;have e_f38:=f38.out;have hlen_:=HLEN.out;refine rb_f (decide_eq_false (fun hv=>?_));obtain ⟨h1_,h2_,h3_,h4_,_⟩:=hv;first | omega | exact h2_ ⟨by omega,fun hz=>f47 (Gm.bx_eq.1 hz)⟩))
          | false =>
            have f56:=of_decide_eq_false Hc48.out.symm
            refine @wpG_p _ _ _ _ _ (some 38) (.pointer (some ⟨g4,6,none⟩)) _ _ rfl (by rfl) (fun W=>by go_simp) ?_
            simp only [n1,n3,n4]
            refine @wpG_r _ _ _ _ _ (some 39) (.slice A n c) _ _ rfl (by rfl) (fun W hg=>by have c:=(S36.out.gr hg).cell 0 rfl 6 rfl;go_simp) ?_
            simp only [n1,n3,n4]
            refine @wpG_p _ _ _ _ _ (some 40) (n : Int) _ _ rfl (by rfl) (fun W=>by go_simp) ?_
            simp only [n1,n3,n4]
            refine @wpG_p _ _ _ _ _ (some 41) B.vol _ _ rfl (by rfl) (fun _=>rfl) ?_
            simp only [n1,n3,n4]
            refine @wpG_p _ _ _ _ _ (some 42) (.bool (decide ((n : Int) ≠ B.vol))) _ _ rfl (by rfl) (fun W=>op_int_neq W (n : Int) B.vol rfl rfl rfl Tryd.underlying3) ?_
            simp only [n1,n3,n4]
            refine @wpG_p _ _ _ _ _ (some 43) (.bool (decide ((n : Int) ≠ B.vol))) _ _ rfl (by rfl) (fun W=>by go_simp) ?_
            simp only [n1,n3,n4]
            refine wpG_done (fun V57 hv58=>?_)
            have S59 : Hid (St w noB [blk g4 28 [B.a, B.b, B.c, B.d, B.e, B.f, .slice A n c]] V57):=Lib.hid (S36.out.gr hv58)
            clear S36
            clear hv58
            refine ⟨rfl,hK _ _ ?_⟩
            clear hK
            obtain ⟨c60,hc60⟩ : ∃ q_,q_ = (decide ((n : Int) ≠ B.vol)):=⟨_,rfl⟩
            rw [← hc60]
            have Hc60:=Lib.hid hc60
            clear hc60
            cases c60 with
            | true =>
              have f61:=of_decide_eq_true Hc60.out.symm
              go_upto_region 7 with fail
              refine wpG_region_k (fun K hK=>?_)
              refine @wpG_p _ _ _ _ _ (some 2) (.bool false) _ _ rfl (by rfl) (fun _=>rfl) ?_
              simp only [n1,n3,n4]
              refine wpG_done (fun V62 hv63=>?_)
              have S64 : Hid (St w noB [blk g4 28 [B.a, B.b, B.c, B.d, B.e, B.f, .slice A n c]] V62):=Lib.hid (S59.out.gr hv63)
              clear S59
              clear hv63
              refine ⟨rfl,hK _ _ ?_⟩
              clear hK
              go_wp2_with fail
              go_ret
              refine ⟨?_,S64.out.bel⟩
              show Ending.returned (.bool false) = _
              (first | rfl | (have e_f24:=f24.out;have e_f33:=f33.out;have e_f38:=f38.out;have hlen_:=HLEN.out;refine rb_f (decide_eq_false (fun hv=>?_));obtain ⟨h1_,h2_,h3_,h4_,_⟩:=hv;first | omega | exact h2_ ⟨by omega,fun hz=>f47 (Gm.bx_eq.1 hz)⟩))
            | false =>
              have f65:=Lib.hid (Decidable.not_not.1 (of_decide_eq_false Hc60.out.symm))
              have f65a:=Int.le_of_eq f65.out
              have f65b:=Int.le_of_eq f65.out.symm
              go_upto_region 8 with fail
              refine wpG_region_k (fun K hK=>?_)
              refine @wpG_p _ _ _ _ _ (some 6) () _ _ rfl (by rfl) (fun _=>rfl) ?_
              simp only [n1,n3,n4]
              refine wpG_done (fun V66 hv67=>?_)
              have S68 : Hid (St w noB [blk g4 28 [B.a, B.b, B.c, B.d, B.e, B.f, .slice A n c]] V66):=Lib.hid (S59.out.gr hv67)
              clear S59
              clear hv67
              refine ⟨rfl,hK _ _ ?_⟩
              clear hK
              go_wp2_with fail
              go_loopw [6] (fun v6 wr=>∃ (k : Nat),v6 = .int .i64 (k : Int) ∧ k ≤ ff (fun k=>decide (Gm.mtl (l.getD k 0))) l.length ∧ k ≤ n ∧ St w noB [blk g4 28 [B.a, B.b, B.c, B.d, B.e, B.f, .slice A n c]] wr) (fun i _=>B.vol.toNat - (intOf i).toNat)
              case atStart=>exact ⟨0,rfl,Nat.zero_le _,Nat.zero_le _,S68.out⟩
              case round =>
                obtain ⟨k,rfl,hk_,hkn,hS⟩:=hrel
                have HK_:=Lib.hid hk_
                clear hk_
                have SL:=Lib.hid hS
                clear S68 hS
                have S69:=SL
                clear SL
                go_upto_region 9 with fail
                refine wpG_region_k (fun K hK=>?_)
                refine @wpG_p _ _ _ _ _ (some 44) (k : Int) _ _ rfl (by rfl) (fun _=>rfl) ?_
                simp only [n1,n3,n4]
                refine @wpG_p _ _ _ _ _ (some 45) B.vol _ _ rfl (by rfl) (fun _=>rfl) ?_
                simp only [n1,n3,n4]
                refine @wpG_p _ _ _ _ _ (some 46) (.bool (decide ((k : Int) < B.vol))) _ _ rfl (by rfl) (fun W=>op_int_lss W (k : Int) B.vol rfl rfl rfl Tryd.underlying3) ?_
                simp only [n1,n3,n4]
                refine wpG_done (fun V70 hv71=>?_)
                have S72 : Hid (St w noB [blk g4 28 [B.a, B.b, B.c, B.d, B.e, B.f, .slice A n c]] V70):=Lib.hid (S69.out.gr hv71)
                clear S69
                clear hv71
                refine ⟨rfl,hK _ _ ?_⟩
                clear hK
                obtain ⟨c73,hc73⟩ : ∃ q_,q_ = (decide ((k : Int) < B.vol)):=⟨_,rfl⟩
                rw [← hc73]
                have Hc73:=Lib.hid hc73
                clear hc73
                cases c73 with
                | true =>
                  have f74:=of_decide_eq_true Hc73.out.symm
                  go_upto_region 11 with fail
                  refine wpG_region_k (fun K hK=>?_)
                  refine @wpG_p _ _ _ _ _ (some 49) (.pointer (some ⟨g4,6,none⟩)) _ _ rfl (by rfl) (fun W=>by go_simp) ?_
                  simp only [n1,n3,n4]
                  refine @wpG_r _ _ _ _ _ (some 50) (.slice A n c) _ _ rfl (by rfl) (fun W hg=>by have c:=(S72.out.gr hg).cell 0 rfl 6 rfl;go_simp) ?_
                  simp only [n1,n3,n4]
                  refine @wpG_p _ _ _ _ _ (some 51) (k : Int) _ _ rfl (by rfl) (fun _=>rfl) ?_
                  simp only [n1,n3,n4]
                  obtain ⟨b75,o75,rfl⟩:=HGA.out.addr (by decide) (by omega)
                  refine @wpG_p _ _ _ _ _ (some 52) (.pointer (some ⟨b75,o75 + k,none⟩)) _ _ rfl (by rfl) (fun W=>by (go_simp <;> first | rfl | omega | (simp;omega))) ?_
                  simp only [n1,n3,n4]
                  refine @wpG_r _ _ _ _ _ (some 53) (l.getD k 0:Int) _ _ rfl (by rfl) (fun W hg=>by have c:=(((HGA.out.gr ((S72.out.gr hg)).bel).int (l:=l) k (by (have:=HLEN.out;omega)))) 0 _ rfl;(try simp only [Nat.add_zero,Nat.zero_add] at c);go_simp) ?_
                  simp only [n1,n3,n4]
                  refine @wpG_tk _ _ _ _ _ (some 54) (.bool (decide (Gm.mtl (l.getD k 0)))) _ _ rfl (.call (f:=52) (args:=#[(l.getD k 0:Int)]) (by rfl) (fun W=>by go_simp) (fun W hg=>rmat_any (l.getD k 0) W)) ?_
                  simp only [n1,n3,n4]
                  refine @wpG_p _ _ _ _ _ (some 7) (.bool (decide (Gm.mtl (l.getD k 0)))) _ _ rfl (by rfl) (fun _=>rfl) ?_
                  simp only [n1,n3,n4]
                  refine wpG_done (fun V76 hv77=>?_)
                  have S78 : Hid (St w noB [blk g4 28 [B.a, B.b, B.c, B.d, B.e, B.f, .slice (some ⟨b75,o75,none⟩) n c]] V76):=Lib.hid (S72.out.gr hv77)
                  clear S72
                  clear hv77
                  refine ⟨rfl,hK _ _ ?_⟩
                  clear hK
                  go_upto_region 12 with fail
                  refine wpG_region_k (fun K hK=>?_)
                  refine @wpG_p _ _ _ _ _ (some 55) (.bool (decide (Gm.mtl (l.getD k 0)))) _ _ rfl (by rfl) (fun _=>rfl) ?_
                  simp only [n1,n3,n4]
                  refine @wpG_p _ _ _ _ _ (some 56) (.bool (!(decide (Gm.mtl (l.getD k 0))))) _ _ rfl (by rfl) (fun W=>by go_simp) ?_
                  simp only [n1,n3,n4]
                  refine wpG_done (fun V79 hv80=>?_)
                  have S81 : Hid (St w noB [blk g4 28 [B.a, B.b, B.c, B.d, B.e, B.f, .slice (some ⟨b75,o75,none⟩) n c]] V79):=Lib.hid (S78.out.gr hv80)
                  clear S78
                  clear hv80
                  refine ⟨rfl,hK _ _ ?_⟩
                  clear hK
                  obtain ⟨c82,hc82⟩ : ∃ q_,q_ = (!(decide (Gm.mtl (l.getD k 0)))):=⟨_,rfl⟩
                  rw [← hc82]
                  have Hc82:=Lib.hid hc82
                  clear hc82
                  cases c82 with
                  | true =>
                    have f83:=Lib.hid (of_decide_eq_false (bnt Hc82.out))
                    go_upto_region 13 with fail
                    refine wpG_region_k (fun K hK=>?_)
                    refine @wpG_p _ _ _ _ _ (some 2) (.bool false) _ _ rfl (by rfl) (fun _=>rfl) ?_
                    simp only [n1,n3,n4]
                    refine wpG_done (fun V84 hv85=>?_)
                    have S86 : Hid (St w noB [blk g4 28 [B.a, B.b, B.c, B.d, B.e, B.f, .slice (some ⟨b75,o75,none⟩) n c]] V84):=Lib.hid (S81.out.gr hv85)
                    clear S81
                    clear hv85
                    refine ⟨rfl,hK _ _ ?_⟩
                    clear hK
                    go_wp2_with fail
                    go_ret
                    refine ⟨?_,S86.out.bel⟩
                    show Ending.returned (.bool false) = _
                    (first | rfl | (have e_f24:=f24.out;have e_f33:=f33.out;have e_f38:=f38.out;have e_f65:=f65.out;have e_f83:=f83.out;have hlen_:=HLEN.out;refine rb_f (decide_eq_false (fun hv=>?_));have h5_:=hv.mat (k:=k) (by omega);exact e_f83 h5_))
                  | false =>
                    have f87:=Lib.hid (of_decide_eq_true (bnf Hc82.out))
                    go_upto_region 10 with fail
                    refine wpG_region_k (fun K hK=>?_)
                    refine @wpG_p _ _ _ _ _ (some 47) (k : Int) _ _ rfl (by rfl) (fun _=>rfl) ?_
                    simp only [n1,n3,n4]
                    refine @wpG_p _ _ _ _ _ (some 48) ((k : Int) + 1:Int) _ _ rfl (by rfl) (fun W=>op_i_add W (k : Int) 1 (by omega) rfl rfl rfl Tryd.underlying3) ?_
                    simp only [n1,n3,n4]
                    refine @wpG_p _ _ _ _ _ (some 6) ((k : Int) + 1:Int) _ _ rfl (by rfl) (fun _=>rfl) ?_
                    simp only [n1,n3,n4]
                    refine wpG_done (fun V88 hv89=>?_)
                    have S90 : Hid (St w noB [blk g4 28 [B.a, B.b, B.c, B.d, B.e, B.f, .slice (some ⟨b75,o75,none⟩) n c]] V88):=Lib.hid (S81.out.gr hv89)
                    clear S81
                    clear hv89
                    refine ⟨rfl,hK _ _ ?_⟩
                    clear hK
                    go_wp2_with fail
                    go_roundw
                    case rel=>exact ⟨k + 1,(by first | rfl | go_num),(by have e_f24:=f24.out;have e_f33:=f33.out;have e_f38:=f38.out;have e_f65:=f65.out;have e_f87:=f87.out;exact ff_step HK_.out (by have:=HLEN.out;omega) (decide_eq_true e_f87)),(by omega),S90.out⟩
                    case measure=>first | (simp only [intOf];omega) | (simp [intOf];done) | (simp [intOf];omega) | omega
                | false =>
                  have f91:=of_decide_eq_false Hc73.out.symm
                  go_upto_region 14 with fail
                  refine wpG_region_k (fun K hK=>?_)
                  refine @wpG_p _ _ _ _ _ (some 2) (.bool true) _ _ rfl (by rfl) (fun _=>rfl) ?_
                  simp only [n1,n3,n4]
                  refine wpG_done (fun V92 hv93=>?_)
                  have S94 : Hid (St w noB [blk g4 28 [B.a, B.b, B.c, B.d, B.e, B.f, .slice A n c]] V92):=Lib.hid (S72.out.gr hv93)
                  clear S72
                  clear hv93
                  refine ⟨rfl,hK _ _ ?_⟩
                  clear hK
                  go_wp2_with fail
                  go_ret
                  refine ⟨?_,S94.out.bel⟩
                  show Ending.returned (.bool true) = _
                  (first | rfl | (have e_f24:=f24.out;have e_f33:=f33.out;have e_f38:=f38.out;have e_f65:=f65.out;have hlen_:=HLEN.out;refine rb_t (decide_eq_true ⟨⟨e_f24,e_f33⟩, ?_,by omega,by omega,al_yes (by have h_:=HK_.out;have e_ : k = l.length:=(by omega);rw [e_] at h_;exact h_)⟩);rintro ⟨q1_,q2_⟩;first | omega | exact q2_ (Gm.bx_eq.2 (by first | exact f47 | exact Decidable.not_not.1 f47))))
      | false =>
        have f95:=of_decide_eq_false Hc37.out.symm
        refine @wpG_no _ _ _ _ _ (some 28) _ _ rfl (by rfl) ?_
        simp only [n1,n3,n4]
        refine @wpG_no _ _ _ _ _ (some 29) _ _ rfl (by rfl) ?_
        simp only [n1,n3,n4]
        refine @wpG_no _ _ _ _ _ (some 30) _ _ rfl (by rfl) ?_
        simp only [n1,n3,n4]
        refine @wpG_no _ _ _ _ _ (some 31) _ _ rfl (by rfl) ?_
        simp only [n1,n3,n4]
        refine @wpG_p _ _ _ _ _ (some 32) (.bool false) _ _ rfl (by rfl) (fun W=>by go_simp) ?_
        simp only [n1,n3,n4]
        refine @wpG_p _ _ _ _ _ (some 33) (.bool false) _ _ rfl (by rfl) (fun _=>rfl) ?_
        simp only [n1,n3,n4]
        refine @wpG_p _ _ _ _ _ (some 34) B.vol _ _ rfl (by rfl) (fun _=>rfl) ?_
        simp only [n1,n3,n4]
        refine @wpG_p _ _ _ _ _ (some 35) (.bool (decide (B.vol > 2097152))) _ _ rfl (by rfl) (fun W=>op_int_gtr W B.vol 2097152 rfl rfl rfl Tryd.underlying3) ?_
        simp only [n1,n3,n4]
        refine @wpG_p _ _ _ _ _ (some 36) (.bool (decide (B.vol > 2097152))) _ _ rfl (by rfl) (fun W=>by go_simp) ?_
        simp only [n1,n3,n4]
        refine @wpG_p _ _ _ _ _ (some 37) (.bool (decide (B.vol > 2097152))) _ _ rfl (by rfl) (fun _=>rfl) ?_
        simp only [n1,n3,n4]
        obtain ⟨c96,hc96⟩ : ∃ q_,q_ = (decide (B.vol > 2097152)):=⟨_,rfl⟩
        rw [← hc96]
        have Hc96:=Lib.hid hc96
        clear hc96
        cases c96 with
        | true =>
          have f97:=of_decide_eq_true Hc96.out.symm
          refine @wpG_no _ _ _ _ _ (some 38) _ _ rfl (by rfl) ?_
          simp only [n1,n3,n4]
          refine @wpG_no _ _ _ _ _ (some 39) _ _ rfl (by rfl) ?_
          simp only [n1,n3,n4]
          refine @wpG_no _ _ _ _ _ (some 40) _ _ rfl (by rfl) ?_
          simp only [n1,n3,n4]
          refine @wpG_no _ _ _ _ _ (some 41) _ _ rfl (by rfl) ?_
          simp only [n1,n3,n4]
          refine @wpG_no _ _ _ _ _ (some 42) _ _ rfl (by rfl) ?_
          simp only [n1,n3,n4]
          refine @wpG_p _ _ _ _ _ (some 43) (.bool true) _ _ rfl (by rfl) (fun W=>by go_simp) ?_
          simp only [n1,n3,n4]
          refine wpG_done (fun V98 hv99=>?_)
          have S100 : Hid (St w noB [blk g4 28 [B.a, B.b, B.c, B.d, B.e, B.f, .slice A n c]] V98):=Lib.hid (S36.out.gr hv99)
          clear S36
          clear hv99
          refine ⟨rfl,hK _ _ ?_⟩
          clear hK
          go_upto_region 7 with fail
          refine wpG_region_k (fun K hK=>?_)
          refine @wpG_p _ _ _ _ _ (some 2) (.bool false) _ _ rfl (by rfl) (fun _=>rfl) ?_
          simp only [n1,n3,n4]
          refine wpG_done (fun V101 hv102=>?_)
          have S103 : Hid (St w noB [blk g4 28 [B.a, B.b, B.c, B.d, B.e, B.f, .slice A n c]] V101):=Lib.hid (S100.out.gr hv102)
          clear S100
          clear hv102
          refine ⟨rfl,hK _ _ ?_⟩
          clear hK
          go_wp2_with fail
          go_ret
          refine ⟨?_,S103.out.bel⟩
          show Ending.returned (.bool false) = _
          (first | rfl | (have e_f24:=f24.out;have e_f33:=f33.out;have hlen_:=HLEN.out;refine rb_f (decide_eq_false (fun hv=>?_));obtain ⟨h1_,h2_,h3_,h4_,_⟩:=hv;first | omega | exact h2_ ⟨by omega,fun hz=>rfl (Gm.bx_eq.1 hz)⟩))
        | false =>
          have f104:=of_decide_eq_false Hc96.out.symm
          refine @wpG_p _ _ _ _ _ (some 38) (.pointer (some ⟨g4,6,none⟩)) _ _ rfl (by rfl) (fun W=>by go_simp) ?_
          simp only [n1,n3,n4]
          refine @wpG_r _ _ _ _ _ (some 39) (.slice A n c) _ _ rfl (by rfl) (fun W hg=>by have c:=(S36.out.gr hg).cell 0 rfl 6 rfl;go_simp) ?_
          simp only [n1,n3,n4]
          refine @wpG_p _ _ _ _ _ (some 40) (n : Int) _ _ rfl (by rfl) (fun W=>by go_simp) ?_
          simp only [n1,n3,n4]
          refine @wpG_p _ _ _ _ _ (some 41) B.vol _ _ rfl (by rfl) (fun _=>rfl) ?_
          simp only [n1,n3,n4]
          refine @wpG_p _ _ _ _ _ (some 42) (.bool (decide ((n : Int) ≠ B.vol))) _ _ rfl (by rfl) (fun W=>op_int_neq W (n : Int) B.vol rfl rfl rfl Tryd.underlying3) ?_
          simp only [n1,n3,n4]
          refine @wpG_p _ _ _ _ _ (some 43) (.bool (decide ((n : Int) ≠ B.vol))) _ _ rfl (by rfl) (fun W=>by go_simp) ?_
          simp only [n1,n3,n4]
          refine wpG_done (fun V105 hv106=>?_)
          have S107 : Hid (St w noB [blk g4 28 [B.a, B.b, B.c, B.d, B.e, B.f, .slice A n c]] V105):=Lib.hid (S36.out.gr hv106)
          clear S36
          clear hv106
          refine ⟨rfl,hK _ _ ?_⟩
          clear hK
          obtain ⟨c108,hc108⟩ : ∃ q_,q_ = (decide ((n : Int) ≠ B.vol)):=⟨_,rfl⟩
          rw [← hc108]
          have Hc108:=Lib.hid hc108
          clear hc108
          cases c108 with
          | true =>
            have f109:=of_decide_eq_true Hc108.out.symm
            go_upto_region 7 with fail
            refine wpG_region_k (fun K hK=>?_)
            refine @wpG_p _ _ _ _ _ (some 2) (.bool false) _ _ rfl (by rfl) (fun _=>rfl) ?_
            simp only [n1,n3,n4]
            refine wpG_done (fun V110 hv111=>?_)
            have S112 : Hid (St w noB [blk g4 28 [B.a, B.b, B.c, B.d, B.e, B.f, .slice A n c]] V110):=Lib.hid (S107.out.gr hv111)
            clear S107
            clear hv111
            refine ⟨rfl,hK _ _ ?_⟩
            clear hK
            go_wp2_with fail
            go_ret
            refine ⟨?_,S112.out.bel⟩
            show Ending.returned (.bool false) = _
            (first | rfl | (have e_f24:=f24.out;have e_f33:=f33.out;have hlen_:=HLEN.out;refine rb_f (decide_eq_false (fun hv=>?_));obtain ⟨h1_,h2_,h3_,h4_,_⟩:=hv;first | omega | exact h2_ ⟨by omega,fun hz=>rfl (Gm.bx_eq.1 hz)⟩))
          | false =>
            have f113:=Lib.hid (Decidable.not_not.1 (of_decide_eq_false Hc108.out.symm))
            have f113a:=Int.le_of_eq f113.out
            have f113b:=Int.le_of_eq f113.out.symm
            go_upto_region 8 with fail
            refine wpG_region_k (fun K hK=>?_)
            refine @wpG_p _ _ _ _ _ (some 6) () _ _ rfl (by rfl) (fun _=>rfl) ?_
            simp only [n1,n3,n4]
            refine wpG_done (fun V114 hv115=>?_)
            have S116 : Hid (St w noB [blk g4 28 [B.a, B.b, B.c, B.d, B.e, B.f, .slice A n c]] V114):=Lib.hid (S107.out.gr hv115)
            clear S107
            clear hv115
            refine ⟨rfl,hK _ _ ?_⟩
            clear hK
            go_wp2_with fail
            go_loopw [6] (fun v6 wr=>∃ (k : Nat),v6 = .int .i64 (k : Int) ∧ k ≤ ff (fun k=>decide (Gm.mtl (l.getD k 0))) l.length ∧ k ≤ n ∧ St w noB [blk g4 28 [B.a, B.b, B.c, B.d, B.e, B.f, .slice A n c]] wr) (fun i _=>B.vol.toNat - (intOf i).toNat)
            case atStart=>exact ⟨0,rfl,Nat.zero_le _,Nat.zero_le _,S116.out⟩
            case round =>
              obtain ⟨k,rfl,hk_,hkn,hS⟩:=hrel
              have HK_:=Lib.hid hk_
              clear hk_
              have SL:=Lib.hid hS
              clear S116 hS
              have S117:=SL
              clear SL
              go_upto_region 9 with fail
              refine wpG_region_k (fun K hK=>?_)
              refine @wpG_p _ _ _ _ _ (some 44) (k : Int) _ _ rfl (by rfl) (fun _=>rfl) ?_
              simp only [n1,n3,n4]
              refine @wpG_p _ _ _ _ _ (some 45) B.vol _ _ rfl (by rfl) (fun _=>rfl) ?_
              simp only [n1,n3,n4]
              refine @wpG_p _ _ _ _ _ (some 46) (.bool (decide ((k : Int) < B.vol))) _ _ rfl (by rfl) (fun W=>op_int_lss W (k : Int) B.vol rfl rfl rfl Tryd.underlying3) ?_
              simp only [n1,n3,n4]
              refine wpG_done (fun V118 hv119=>?_)
              have S120 : Hid (St w noB [blk g4 28 [B.a, B.b, B.c, B.d, B.e, B.f, .slice A n c]] V118):=Lib.hid (S117.out.gr hv119)
              clear S117
              clear hv119
              refine ⟨rfl,hK _ _ ?_⟩
              clear hK
              obtain ⟨c121,hc121⟩ : ∃ q_,q_ = (decide ((k : Int) < B.vol)):=⟨_,rfl⟩
              rw [← hc121]
              have Hc121:=Lib.hid hc121
              clear hc121
              cases c121 with
              | true =>
                have f122:=of_decide_eq_true Hc121.out.symm
                go_upto_region 11 with fail
                refine wpG_region_k (fun K hK=>?_)
                refine @wpG_p _ _ _ _ _ (some 49) (.pointer (some ⟨g4,6,none⟩)) _ _ rfl (by rfl) (fun W=>by go_simp) ?_
                simp only [n1,n3,n4]
                refine @wpG_r _ _ _ _ _ (some 50) (.slice A n c) _ _ rfl (by rfl) (fun W hg=>by have c:=(S120.out.gr hg).cell 0 rfl 6 rfl;go_simp) ?_
                simp only [n1,n3,n4]
                refine @wpG_p _ _ _ _ _ (some 51) (k : Int) _ _ rfl (by rfl) (fun _=>rfl) ?_
                simp only [n1,n3,n4]
                obtain ⟨b123,o123,rfl⟩:=HGA.out.addr (by decide) (by omega)
                refine @wpG_p _ _ _ _ _ (some 52) (.pointer (some ⟨b123,o123 + k,none⟩)) _ _ rfl (by rfl) (fun W=>by (go_simp <;> first | rfl | omega | (simp;omega))) ?_
                simp only [n1,n3,n4]
                refine @wpG_r _ _ _ _ _ (some 53) (l.getD k 0:Int) _ _ rfl (by rfl) (fun W hg=>by have c:=(((HGA.out.gr ((S120.out.gr hg)).bel).int (l:=l) k (by (have:=HLEN.out;omega)))) 0 _ rfl;(try simp only [Nat.add_zero,Nat.zero_add] at c);go_simp) ?_
                simp only [n1,n3,n4]
                refine @wpG_tk _ _ _ _ _ (some 54) (.bool (decide (Gm.mtl (l.getD k 0)))) _ _ rfl (.call (f:=52) (args:=#[(l.getD k 0:Int)]) (by rfl) (fun W=>by go_simp) (fun W hg=>rmat_any (l.getD k 0) W)) ?_
                simp only [n1,n3,n4]
                refine @wpG_p _ _ _ _ _ (some 7) (.bool (decide (Gm.mtl (l.getD k 0)))) _ _ rfl (by rfl) (fun _=>rfl) ?_
                simp only [n1,n3,n4]
                refine wpG_done (fun V124 hv125=>?_)
                have S126 : Hid (St w noB [blk g4 28 [B.a, B.b, B.c, B.d, B.e, B.f, .slice (some ⟨b123,o123,none⟩) n c]] V124):=Lib.hid (S120.out.gr hv125)
                clear S120
                clear hv125
                refine ⟨rfl,hK _ _ ?_⟩
                clear hK
                go_upto_region 12 with fail
                refine wpG_region_k (fun K hK=>?_)
                refine @wpG_p _ _ _ _ _ (some 55) (.bool (decide (Gm.mtl (l.getD k 0)))) _ _ rfl (by rfl) (fun _=>rfl) ?_
                simp only [n1,n3,n4]
                refine @wpG_p _ _ _ _ _ (some 56) (.bool (!(decide (Gm.mtl (l.getD k 0))))) _ _ rfl (by rfl) (fun W=>by go_simp) ?_
                simp only [n1,n3,n4]
                refine wpG_done (fun V127 hv128=>?_)
                have S129 : Hid (St w noB [blk g4 28 [B.a, B.b, B.c, B.d, B.e, B.f, .slice (some ⟨b123,o123,none⟩) n c]] V127):=Lib.hid (S126.out.gr hv128)
                clear S126
                clear hv128
                refine ⟨rfl,hK _ _ ?_⟩
                clear hK
                obtain ⟨c130,hc130⟩ : ∃ q_,q_ = (!(decide (Gm.mtl (l.getD k 0)))):=⟨_,rfl⟩
                rw [← hc130]
                have Hc130:=Lib.hid hc130
                clear hc130
                cases c130 with
                | true =>
                  have f131:=Lib.hid (of_decide_eq_false (bnt Hc130.out))
                  go_upto_region 13 with fail
                  refine wpG_region_k (fun K hK=>?_)
                  refine @wpG_p _ _ _ _ _ (some 2) (.bool false) _ _ rfl (by rfl) (fun _=>rfl) ?_
                  simp only [n1,n3,n4]
                  refine wpG_done (fun V132 hv133=>?_)
                  have S134 : Hid (St w noB [blk g4 28 [B.a, B.b, B.c, B.d, B.e, B.f, .slice (some ⟨b123,o123,none⟩) n c]] V132):=Lib.hid (S129.out.gr hv133)
                  clear S129
                  clear hv133
                  refine ⟨rfl,hK _ _ ?_⟩
                  clear hK
                  go_wp2_with fail
                  go_ret
                  refine ⟨?_,S134.out.bel⟩
                  show Ending.returned (.bool false) = _
                  (first | rfl | (have e_f24:=f24.out;have e_f33:=f33.out;have e_f113:=f113.out;have e_f131:=f131.out;have hlen_:=HLEN.out;refine rb_f (decide_eq_false (fun hv=>?_));have h5_:=hv.mat (k:=k) (by omega);exact e_f131 h5_))
                | false =>
                  have f135:=Lib.hid (of_decide_eq_true (bnf Hc130.out))
                  go_upto_region 10 with fail
                  refine wpG_region_k (fun K hK=>?_)
                  refine @wpG_p _ _ _ _ _ (some 47) (k : Int) _ _ rfl (by rfl) (fun _=>rfl) ?_
                  simp only [n1,n3,n4]
                  refine @wpG_p _ _ _ _ _ (some 48) ((k : Int) + 1:Int) _ _ rfl (by rfl) (fun W=>op_i_add W (k : Int) 1 (by omega) rfl rfl rfl Tryd.underlying3) ?_
                  simp only [n1,n3,n4]
                  refine @wpG_p _ _ _ _ _ (some 6) ((k : Int) + 1:Int) _ _ rfl (by rfl) (fun _=>rfl) ?_
                  simp only [n1,n3,n4]
                  refine wpG_done (fun V136 hv137=>?_)
                  have S138 : Hid (St w noB [blk g4 28 [B.a, B.b, B.c, B.d, B.e, B.f, .slice (some ⟨b123,o123,none⟩) n c]] V136):=Lib.hid (S129.out.gr hv137)
                  clear S129
                  clear hv137
                  refine ⟨rfl,hK _ _ ?_⟩
                  clear hK
                  go_wp2_with fail
                  go_roundw
                  case rel=>exact ⟨k + 1,(by first | rfl | go_num),(by have e_f24:=f24.out;have e_f33:=f33.out;have e_f113:=f113.out;have e_f135:=f135.out;exact ff_step HK_.out (by have:=HLEN.out;omega) (decide_eq_true e_f135)),(by omega),S138.out⟩
                  case measure=>first | (simp only [intOf];omega) | (simp [intOf];done) | (simp [intOf];omega) | omega
              | false =>
                have f139:=of_decide_eq_false Hc121.out.symm
                go_upto_region 14 with fail
                refine wpG_region_k (fun K hK=>?_)
                refine @wpG_p _ _ _ _ _ (some 2) (.bool true) _ _ rfl (by rfl) (fun _=>rfl) ?_
                simp only [n1,n3,n4]
                refine wpG_done (fun V140 hv141=>?_)
                have S142 : Hid (St w noB [blk g4 28 [B.a, B.b, B.c, B.d, B.e, B.f, .slice A n c]] V140):=Lib.hid (S120.out.gr hv141)
                clear S120
                clear hv141
                refine ⟨rfl,hK _ _ ?_⟩
                clear hK
                go_wp2_with fail
                go_ret
                refine ⟨?_,S142.out.bel⟩
                show Ending.returned (.bool true) = _
                (first | rfl | (have e_f24:=f24.out;have e_f33:=f33.out;have e_f113:=f113.out;have hlen_:=HLEN.out;refine rb_t (decide_eq_true ⟨⟨e_f24,e_f33⟩, ?_,by omega,by omega,al_yes (by have h_:=HK_.out;have e_ : k = l.length:=(by omega);rw [e_] at h_;exact h_)⟩);rintro ⟨q1_,q2_⟩;first | omega | exact q2_ (Gm.bx_eq.2 (by first | exact rfl | exact Decidable.not_not.1 rfl))))
set_option maxRecDepth 1000000 in
set_option maxHeartbeats 4000000 in
theorem requal_any (B : Gm.Bx) (A : Option Addr) (n c : Nat) (l : List Int) (B2 : Gm.Bx) (A2 : Option Addr) (n2 c2 : Nat) (l2 : List Int) (w : World) (hG : SL w 1 A n c (ic l)) (hG2 : SL w 1 A2 n2 c2 (ic l2)) :
    Calls Tryd.prog 16 #[.agg #[B.a, B.b, B.c, B.d, B.e, B.f, .slice A n c], .agg #[B2.a, B2.b, B2.c, B2.d, B2.e, B2.f, .slice A2 n2 c2]] w fun e w'=>e = .returned (.bool (Gm.same B l B2 l2)) ∧ Below w.heap.size w w':=by
  have HGA:=Lib.hid hG
  have HLEN : Hid (l.length = n):=Lib.hid (by have h_:=hG.len;rw [ic_len] at h_;omega)
  have hnbHGA : n ≤ 9223372036854775807:=Nat.le_trans hG.cap hG.bnd
  clear hG
  have HGB:=Lib.hid hG2
  have HLEN2 : Hid (l2.length = n2):=Lib.hid (by have h_:=hG2.len;rw [ic_len] at h_;omega)
  have hnbHGB : n2 ≤ 9223372036854775807:=Nat.le_trans hG2.cap hG2.bnd
  clear hG2
  have S1 : Hid (St w noB [] w):=Lib.hid (St.start w)
  go_enter Tryd.func16,Tryd.ntmps16
  go_upto_region 0 with fail
  refine wpG_region_k (fun K hK=>?_)
  refine wpG_val (some 2) rfl (by rfl) (fun W2 hg3=>⟨.pointer (some ⟨W2.heap.size,0,none⟩),W2.alloc (.cells #[B.a, B.b, B.c, B.d, B.e, B.f, .slice A n c] 28),by (first | (go_simp;done) | (go_simp <;> rfl)), ?_⟩)
  simp only [n1,n3,n4]
  obtain ⟨g4,U5,hg_,hu_,hS_⟩:=(S1.out.gr hg3).made [B.a, B.b, B.c, B.d, B.e, B.f, .slice A n c] 28
  rw [← hu_,← hg_]
  have S6 : Hid (St w noB [blk g4 28 [B.a, B.b, B.c, B.d, B.e, B.f, .slice A n c]] U5):=Lib.hid hS_
  clear S1
  clear hg_ hu_ hS_ hg3
  refine wpG_val (some 3) rfl (by rfl) (fun W7 hg8=>⟨.pointer (some ⟨W7.heap.size,0,none⟩),W7.alloc (.cells #[B2.a, B2.b, B2.c, B2.d, B2.e, B2.f, .slice A2 n2 c2] 28),by (first | (go_simp;done) | (go_simp <;> rfl)), ?_⟩)
  simp only [n1,n3,n4]
  obtain ⟨g9,U10,hg_,hu_,hS_⟩:=(S6.out.gr hg8).made [B2.a, B2.b, B2.c, B2.d, B2.e, B2.f, .slice A2 n2 c2] 28
  rw [← hu_,← hg_]
  have S11 : Hid (St w noB [blk g9 28 [B2.a, B2.b, B2.c, B2.d, B2.e, B2.f, .slice A2 n2 c2],blk g4 28 [B.a, B.b, B.c, B.d, B.e, B.f, .slice A n c]] U10):=Lib.hid hS_
  clear S6
  clear hg_ hu_ hS_ hg8
  refine @wpG_p _ _ _ _ _ (some 4) (.bool false) _ _ rfl (by rfl) (fun _=>rfl) ?_
  simp only [n1,n3,n4]
  refine wpG_done (fun V12 hv13=>?_)
  have S14 : Hid (St w noB [blk g9 28 [B2.a, B2.b, B2.c, B2.d, B2.e, B2.f, .slice A2 n2 c2],blk g4 28 [B.a, B.b, B.c, B.d, B.e, B.f, .slice A n c]] V12):=Lib.hid (S11.out.gr hv13)
  clear S11
  clear hv13
  refine ⟨rfl,hK _ _ ?_⟩
  clear hK
  go_upto_region 1 with fail
  refine wpG_region_k (fun K hK=>?_)
  refine @wpG_p _ _ _ _ _ (some 6) (.pointer (some ⟨g4,0,none⟩)) _ _ rfl (by rfl) (fun W=>by go_simp) ?_
  simp only [n1,n3,n4]
  refine @wpG_tk _ _ _ _ _ (some 7) (.agg #[B.a, B.b, B.c, B.d, B.e, B.f]) _ _ rfl (.load_mid (by rfl) 25 (.tmp 6) rfl g4 0 rfl [B.a, B.b, B.c, B.d, B.e, B.f] _ (fun W hg=>(S14.out.gr hg).range 1 rfl 0 6 rfl) Tryd.underlying25 rfl (by kernel_rfl)) ?_
  simp only [n1,n3,n4]
  refine @wpG_p _ _ _ _ _ (some 8) (.pointer (some ⟨g9,0,none⟩)) _ _ rfl (by rfl) (fun W=>by go_simp) ?_
  simp only [n1,n3,n4]
  refine @wpG_tk _ _ _ _ _ (some 9) (.agg #[B2.a, B2.b, B2.c, B2.d, B2.e, B2.f]) _ _ rfl (.load_mid (by rfl) 25 (.tmp 8) rfl g9 0 rfl [B2.a, B2.b, B2.c, B2.d, B2.e, B2.f] _ (fun W hg=>(S14.out.gr hg).range 0 rfl 0 6 rfl) Tryd.underlying25 rfl (by kernel_rfl)) ?_
  simp only [n1,n3,n4]
  refine @wpG_p _ _ _ _ _ (some 10) (.bool (decide (¬ (B.a = B2.a ∧ B.b = B2.b ∧ B.c = B2.c ∧ B.d = B2.d ∧ B.e = B2.e ∧ B.f = B2.f)))) _ _ rfl (by rfl) (fun W=>op_bx_neq W B.a B.b B.c B.d B.e B.f B2.a B2.b B2.c B2.d B2.e B2.f rfl rfl rfl) ?_
  simp only [n1,n3,n4]
  refine @wpG_p _ _ _ _ _ (some 11) (.bool (decide (¬ (B.a = B2.a ∧ B.b = B2.b ∧ B.c = B2.c ∧ B.d = B2.d ∧ B.e = B2.e ∧ B.f = B2.f)))) _ _ rfl (by rfl) (fun _=>rfl) ?_
  simp only [n1,n3,n4]
  obtain ⟨c15,hc15⟩ : ∃ q_,q_ = (decide (¬ (B.a = B2.a ∧ B.b = B2.b ∧ B.c = B2.c ∧ B.d = B2.d ∧ B.e = B2.e ∧ B.f = B2.f))):=⟨_,rfl⟩
  rw [← hc15]
  have Hc15:=Lib.hid hc15
  clear hc15
  cases c15 with
  | true =>
    have f16:=Lib.hid (of_decide_eq_true Hc15.out.symm)
    refine @wpG_no _ _ _ _ _ (some 12) _ _ rfl (by rfl) ?_
    simp only [n1,n3,n4]
    refine @wpG_no _ _ _ _ _ (some 13) _ _ rfl (by rfl) ?_
    simp only [n1,n3,n4]
    refine @wpG_no _ _ _ _ _ (some 14) _ _ rfl (by rfl) ?_
    simp only [n1,n3,n4]
    refine @wpG_no _ _ _ _ _ (some 15) _ _ rfl (by rfl) ?_
    simp only [n1,n3,n4]
    refine @wpG_no _ _ _ _ _ (some 16) _ _ rfl (by rfl) ?_
    simp only [n1,n3,n4]
    refine @wpG_no _ _ _ _ _ (some 17) _ _ rfl (by rfl) ?_
    simp only [n1,n3,n4]
    refine @wpG_no _ _ _ _ _ (some 18) _ _ rfl (by rfl) ?_
    simp only [n1,n3,n4]
    refine @wpG_p _ _ _ _ _ (some 19) (.bool true) _ _ rfl (by rfl) (fun W=>by go_simp) ?_
    simp only [n1,n3,n4]
    refine wpG_done (fun V17 hv18=>?_)
    have S19 : Hid (St w noB [blk g9 28 [B2.a, B2.b, B2.c, B2.d, B2.e, B2.f, .slice A2 n2 c2],blk g4 28 [B.a, B.b, B.c, B.d, B.e, B.f, .slice A n c]] V17):=Lib.hid (S14.out.gr hv18)
    clear S14
    clear hv18
    refine ⟨rfl,hK _ _ ?_⟩
    clear hK
    go_upto_region 2 with fail
    refine wpG_region_k (fun K hK=>?_)
    refine @wpG_p _ _ _ _ _ (some 4) (.bool false) _ _ rfl (by rfl) (fun _=>rfl) ?_
    simp only [n1,n3,n4]
    refine wpG_done (fun V20 hv21=>?_)
    have S22 : Hid (St w noB [blk g9 28 [B2.a, B2.b, B2.c, B2.d, B2.e, B2.f, .slice A2 n2 c2],blk g4 28 [B.a, B.b, B.c, B.d, B.e, B.f, .slice A n c]] V20):=Lib.hid (S19.out.gr hv21)
    clear S19
    clear hv21
    refine ⟨rfl,hK _ _ ?_⟩
    clear hK
    go_wp2_with fail
    go_ret
    refine ⟨?_,S22.out.bel⟩
    show Ending.returned (.bool false) = _
    (first | rfl | (have e_f16:=f16.out;exact rb_f (Gm.same_box e_f16)))
  | false =>
    have f23:=of_decide_eq_false Hc15.out.symm
    refine @wpG_p _ _ _ _ _ (some 12) (.pointer (some ⟨g4,6,none⟩)) _ _ rfl (by rfl) (fun W=>by go_simp) ?_
    simp only [n1,n3,n4]
    refine @wpG_r _ _ _ _ _ (some 13) (.slice A n c) _ _ rfl (by rfl) (fun W hg=>by have c:=(S14.out.gr hg).cell 1 rfl 6 rfl;go_simp) ?_
    simp only [n1,n3,n4]
    refine @wpG_p _ _ _ _ _ (some 14) (n : Int) _ _ rfl (by rfl) (fun W=>by go_simp) ?_
    simp only [n1,n3,n4]
    refine @wpG_p _ _ _ _ _ (some 15) (.pointer (some ⟨g9,6,none⟩)) _ _ rfl (by rfl) (fun W=>by go_simp) ?_
    simp only [n1,n3,n4]
    refine @wpG_r _ _ _ _ _ (some 16) (.slice A2 n2 c2) _ _ rfl (by rfl) (fun W hg=>by have c:=(S14.out.gr hg).cell 0 rfl 6 rfl;go_simp) ?_
    simp only [n1,n3,n4]
    refine @wpG_p _ _ _ _ _ (some 17) (n2 : Int) _ _ rfl (by rfl) (fun W=>by go_simp) ?_
    simp only [n1,n3,n4]
    refine @wpG_p _ _ _ _ _ (some 18) (.bool (decide ((n : Int) ≠ (n2 : Int)))) _ _ rfl (by rfl) (fun W=>op_int_neq W (n : Int) (n2 : Int) rfl rfl rfl Tryd.underlying3) ?_
    simp only [n1,n3,n4]
    refine @wpG_p _ _ _ _ _ (some 19) (.bool (decide ((n : Int) ≠ (n2 : Int)))) _ _ rfl (by rfl) (fun W=>by go_simp) ?_
    simp only [n1,n3,n4]
    refine wpG_done (fun V24 hv25=>?_)
    have S26 : Hid (St w noB [blk g9 28 [B2.a, B2.b, B2.c, B2.d, B2.e, B2.f, .slice A2 n2 c2],blk g4 28 [B.a, B.b, B.c, B.d, B.e, B.f, .slice A n c]] V24):=Lib.hid (S14.out.gr hv25)
    clear S14
    clear hv25
    refine ⟨rfl,hK _ _ ?_⟩
    clear hK
    obtain ⟨c27,hc27⟩ : ∃ q_,q_ = (decide ((n : Int) ≠ (n2 : Int))):=⟨_,rfl⟩
    rw [← hc27]
    have Hc27:=Lib.hid hc27
    clear hc27
    cases c27 with
    | true =>
      have f28:=of_decide_eq_true Hc27.out.symm
      go_upto_region 2 with fail
      refine wpG_region_k (fun K hK=>?_)
      refine @wpG_p _ _ _ _ _ (some 4) (.bool false) _ _ rfl (by rfl) (fun _=>rfl) ?_
      simp only [n1,n3,n4]
      refine wpG_done (fun V29 hv30=>?_)
      have S31 : Hid (St w noB [blk g9 28 [B2.a, B2.b, B2.c, B2.d, B2.e, B2.f, .slice A2 n2 c2],blk g4 28 [B.a, B.b, B.c, B.d, B.e, B.f, .slice A n c]] V29):=Lib.hid (S26.out.gr hv30)
      clear S26
      clear hv30
      refine ⟨rfl,hK _ _ ?_⟩
      clear hK
      go_wp2_with fail
      go_ret
      refine ⟨?_,S31.out.bel⟩
      show Ending.returned (.bool false) = _
      (first | rfl | (have hlen_:=HLEN.out;have hlen2_:=HLEN2.out;exact rb_f (Gm.same_len (by omega))))
    | false =>
      have f32:=Lib.hid (Decidable.not_not.1 (of_decide_eq_false Hc27.out.symm))
      have f32a:=Int.le_of_eq f32.out
      have f32b:=Int.le_of_eq f32.out.symm
      go_upto_region 3 with fail
      refine wpG_region_k (fun K hK=>?_)
      refine @wpG_p _ _ _ _ _ (some 5) () _ _ rfl (by rfl) (fun _=>rfl) ?_
      simp only [n1,n3,n4]
      refine wpG_done (fun V33 hv34=>?_)
      have S35 : Hid (St w noB [blk g9 28 [B2.a, B2.b, B2.c, B2.d, B2.e, B2.f, .slice A2 n2 c2],blk g4 28 [B.a, B.b, B.c, B.d, B.e, B.f, .slice A n c]] V33):=Lib.hid (S26.out.gr hv34)
      clear S26
      clear hv34
      refine ⟨rfl,hK _ _ ?_⟩
      clear hK
      go_wp2_with fail
      go_loopw [5] (fun v5 wr=>∃ (k : Nat),v5 = .int .i64 (k : Int) ∧ k ≤ ff (Gm.eqk l l2) l.length ∧ k ≤ n ∧ St w noB [blk g9 28 [B2.a, B2.b, B2.c, B2.d, B2.e, B2.f, .slice A2 n2 c2],blk g4 28 [B.a, B.b, B.c, B.d, B.e, B.f, .slice A n c]] wr) (fun i _=>n - (intOf i).toNat)
      case atStart=>exact ⟨0,rfl,Nat.zero_le _,Nat.zero_le _,S35.out⟩
      case round =>
        obtain ⟨k,rfl,hk_,hkn,hS⟩:=hrel
        have HK_:=Lib.hid hk_
        clear hk_
        have SL:=Lib.hid hS
        clear S35 hS
        have S36:=SL
        clear SL
        go_upto_region 4 with fail
        refine wpG_region_k (fun K hK=>?_)
        refine @wpG_p _ _ _ _ _ (some 20) (k : Int) _ _ rfl (by rfl) (fun _=>rfl) ?_
        simp only [n1,n3,n4]
        refine @wpG_p _ _ _ _ _ (some 21) (.pointer (some ⟨g4,6,none⟩)) _ _ rfl (by rfl) (fun W=>by go_simp) ?_
        simp only [n1,n3,n4]
        refine @wpG_r _ _ _ _ _ (some 22) (.slice A n c) _ _ rfl (by rfl) (fun W hg=>by have c:=(S36.out.gr hg).cell 1 rfl 6 rfl;go_simp) ?_
        simp only [n1,n3,n4]
        refine @wpG_p _ _ _ _ _ (some 23) (n : Int) _ _ rfl (by rfl) (fun W=>by go_simp) ?_
        simp only [n1,n3,n4]
        refine @wpG_p _ _ _ _ _ (some 24) (.bool (decide ((k : Int) < (n : Int)))) _ _ rfl (by rfl) (fun W=>op_int_lss W (k : Int) (n : Int) rfl rfl rfl Tryd.underlying3) ?_
        simp only [n1,n3,n4]
        refine wpG_done (fun V37 hv38=>?_)
        have S39 : Hid (St w noB [blk g9 28 [B2.a, B2.b, B2.c, B2.d, B2.e, B2.f, .slice A2 n2 c2],blk g4 28 [B.a, B.b, B.c, B.d, B.e, B.f, .slice A n c]] V37):=Lib.hid (S36.out.gr hv38)
        clear S36
        clear hv38
        refine ⟨rfl,hK _ _ ?_⟩
        clear hK
        obtain ⟨c40,hc40⟩ : ∃ q_,q_ = (decide ((k : Int) < (n : Int))):=⟨_,rfl⟩
        rw [← hc40]
        have Hc40:=Lib.hid hc40
        clear hc40
        cases c40 with
        | true =>
          have f41:=of_decide_eq_true Hc40.out.symm
          go_upto_region 6 with fail
          refine wpK_region_k (by kernel_rfl) (fun K hK=>?_)
          refine wpK_ta (i:=0) (some 27) (v:=.pointer (some ⟨g4,6,none⟩)) rfl rfl (by kernel_rfl) (fun _ _ _ h=>onN_panic h) (Or.inl ⟨by rfl,fun W=>by go_simp⟩) ?_
          simp only [n1,n3,n4]
          refine wpK_ta (i:=2) (some 29) (v:=(k : Int)) rfl rfl (by kernel_rfl) (fun _ _ _ h=>onN_panic h) (Or.inl ⟨rfl,fun _=>rfl⟩) ?_
          simp only [n1,n3,n4]
          refine wpK_ta (i:=5) (some 32) (v:=.pointer (some ⟨g9,6,none⟩)) rfl rfl (by kernel_rfl) (fun _ _ _ h=>onN_panic h) (Or.inl ⟨by rfl,fun W=>by go_simp⟩) ?_
          simp only [n1,n3,n4]
          refine wpK_ta (i:=7) (some 34) (v:=(k : Int)) rfl rfl (by kernel_rfl) (fun _ _ _ h=>onN_panic h) (Or.inl ⟨rfl,fun _=>rfl⟩) ?_
          simp only [n1,n3,n4]
          refine wpK_tk (i:=1) (some 28) (v:=.slice A n c) rfl rfl (by kernel_rfl) (fun _ _ _ h=>onN_panic h) (.val (by rfl) (fun W hg=>by have c:=(S39.out.gr (Gr.un hg)).cell 1 rfl 6 rfl;go_simp)) ?_
          simp only [n1,n3,n4]
          obtain ⟨b42,o42,rfl⟩:=HGA.out.addr (by decide) (by omega)
          refine wpK_ta (i:=3) (some 30) (v:=.pointer (some ⟨b42,o42 + k,none⟩)) rfl rfl (by kernel_rfl) (fun _ _ _ h=>onN_panic h) (Or.inl ⟨by rfl,fun W=>by (go_simp <;> first | rfl | omega | (simp;omega))⟩) ?_
          simp only [n1,n3,n4]
          refine wpK_tk (i:=4) (some 31) (v:=(l.getD k 0:Int)) rfl rfl (by kernel_rfl) (fun _ _ _ h=>onN_panic h) (.val (by rfl) (fun W hg=>by have c:=(((HGA.out.gr ((S39.out.gr (Gr.un hg))).bel).int (l:=l) k (by (have:=HLEN.out;have:=HLEN2.out;omega)))) 0 _ rfl;(try simp only [Nat.add_zero,Nat.zero_add] at c);go_simp)) ?_
          simp only [n1,n3,n4]
          refine wpK_tk (i:=6) (some 33) (v:=.slice A2 n2 c2) rfl rfl (by kernel_rfl) (fun _ _ _ h=>onN_panic h) (.val (by rfl) (fun W hg=>by have c:=(S39.out.gr (Gr.un hg)).cell 0 rfl 6 rfl;go_simp)) ?_
          simp only [n1,n3,n4]
          obtain ⟨b43,o43,rfl⟩:=HGB.out.addr (by decide) (by omega)
          refine wpK_ta (i:=8) (some 35) (v:=.pointer (some ⟨b43,o43 + k,none⟩)) rfl rfl (by kernel_rfl) (fun _ _ _ h=>onN_panic h) (Or.inl ⟨by rfl,fun W=>by (go_simp <;> first | rfl | omega | (simp;omega))⟩) ?_
          simp only [n1,n3,n4]
          refine wpK_tk (i:=9) (some 36) (v:=(l2.getD k 0:Int)) rfl rfl (by kernel_rfl) (fun _ _ _ h=>onN_panic h) (.val (by rfl) (fun W hg=>by have c:=(((HGB.out.gr ((S39.out.gr (Gr.un hg))).bel).int (l:=l2) k (by (have:=HLEN.out;have:=HLEN2.out;omega)))) 0 _ rfl;(try simp only [Nat.add_zero,Nat.zero_add] at c);go_simp)) ?_
          simp only [n1,n3,n4]
          refine wpK_ta (i:=10) (some 37) (v:=.bool (decide ((l.getD k 0) ≠ (l2.getD k 0)))) rfl rfl (by kernel_rfl) (fun _ _ _ h=>onN_panic h) (Or.inl ⟨by rfl,fun W=>by exact op_int_neq W (l.getD k 0) (l2.getD k 0) rfl rfl rfl Tryd.underlying3⟩) ?_
          simp only [n1,n3,n4]
          refine wpK_done (by kernel_rfl) (fun V44 hv45=>?_) _
          have S46 : Hid (St w noB [blk g9 28 [B2.a, B2.b, B2.c, B2.d, B2.e, B2.f, .slice (some ⟨b43,o43,none⟩) n2 c2],blk g4 28 [B.a, B.b, B.c, B.d, B.e, B.f, .slice (some ⟨b42,o42,none⟩) n c]] V44):=Lib.hid (S39.out.gr (Gr.un hv45))
          clear S39
          clear hv45
          refine ⟨rfl,hK _ _ ?_⟩
          clear hK
          obtain ⟨c47,hc47⟩ : ∃ q_,q_ = (decide ((l.getD k 0) ≠ (l2.getD k 0))):=⟨_,rfl⟩
          rw [← hc47]
          have Hc47:=Lib.hid hc47
          clear hc47
          cases c47 with
          | true =>
            have f48:=of_decide_eq_true Hc47.out.symm
            go_upto_region 7 with fail
            refine wpG_region_k (fun K hK=>?_)
            refine @wpG_p _ _ _ _ _ (some 4) (.bool false) _ _ rfl (by rfl) (fun _=>rfl) ?_
            simp only [n1,n3,n4]
            refine wpG_done (fun V49 hv50=>?_)
            have S51 : Hid (St w noB [blk g9 28 [B2.a, B2.b, B2.c, B2.d, B2.e, B2.f, .slice (some ⟨b43,o43,none⟩) n2 c2],blk g4 28 [B.a, B.b, B.c, B.d, B.e, B.f, .slice (some ⟨b42,o42,none⟩) n c]] V49):=Lib.hid (S46.out.gr hv50)
            clear S46
            clear hv50
            refine ⟨rfl,hK _ _ ?_⟩
            clear hK
            go_wp2_with fail
            go_ret
            refine ⟨?_,S51.out.bel⟩
            show Ending.returned (.bool false) = _
            (first | rfl | (have e_f32:=f32.out;exact rb_f (Gm.same_cell f48)))
          | false =>
            have f52:=Lib.hid (Decidable.not_not.1 (of_decide_eq_false Hc47.out.symm))
            have f52a:=Int.le_of_eq f52.out
            have f52b:=Int.le_of_eq f52.out.symm
            go_upto_region 5 with fail
            refine wpG_region_k (fun K hK=>?_)
            refine @wpG_p _ _ _ _ _ (some 25) (k : Int) _ _ rfl (by rfl) (fun _=>rfl) ?_
            simp only [n1,n3,n4]
            refine @wpG_p _ _ _ _ _ (some 26) ((k : Int) + 1:Int) _ _ rfl (by rfl) (fun W=>op_i_add W (k : Int) 1 (by omega) rfl rfl rfl Tryd.underlying3) ?_
            simp only [n1,n3,n4]
            refine @wpG_p _ _ _ _ _ (some 5) ((k : Int) + 1:Int) _ _ rfl (by rfl) (fun _=>rfl) ?_
            simp only [n1,n3,n4]
            refine wpG_done (fun V53 hv54=>?_)
            have S55 : Hid (St w noB [blk g9 28 [B2.a, B2.b, B2.c, B2.d, B2.e, B2.f, .slice (some ⟨b43,o43,none⟩) n2 c2],blk g4 28 [B.a, B.b, B.c, B.d, B.e, B.f, .slice (some ⟨b42,o42,none⟩) n c]] V53):=Lib.hid (S46.out.gr hv54)
            clear S46
            clear hv54
            refine ⟨rfl,hK _ _ ?_⟩
            clear hK
            go_wp2_with fail
            go_roundw
            case rel=>exact ⟨k + 1,(by first | rfl | go_num),(by have e_f32:=f32.out;have e_f52:=f52.out;exact ff_step HK_.out (by have:=HLEN.out;omega) (decide_eq_true e_f52)),(by omega),S55.out⟩
            case measure=>first | (simp only [intOf];omega) | (simp [intOf];done) | (simp [intOf];omega) | omega
        | false =>
          have f56:=of_decide_eq_false Hc40.out.symm
          go_upto_region 8 with fail
          refine wpG_region_k (fun K hK=>?_)
          refine @wpG_p _ _ _ _ _ (some 4) (.bool true) _ _ rfl (by rfl) (fun _=>rfl) ?_
          simp only [n1,n3,n4]
          refine wpG_done (fun V57 hv58=>?_)
          have S59 : Hid (St w noB [blk g9 28 [B2.a, B2.b, B2.c, B2.d, B2.e, B2.f, .slice A2 n2 c2],blk g4 28 [B.a, B.b, B.c, B.d, B.e, B.f, .slice A n c]] V57):=Lib.hid (S39.out.gr hv58)
          clear S39
          clear hv58
          refine ⟨rfl,hK _ _ ?_⟩
          clear hK
          go_wp2_with fail
          go_ret
          refine ⟨?_,S59.out.bel⟩
          show Ending.returned (.bool true) = _
          (first | rfl | (have e_f32:=f32.out;have hlen_:=HLEN.out;have hlen2_:=HLEN2.out;exact rb_t (Gm.same_yes (by first | exact f23 | exact Decidable.not_not.1 f23) (by omega) (by have h_:=HK_.out;have e_ : k = l.length:=(by omega);rw [e_] at h_;exact h_))))
end Go.Proofs.YtpapbbolefnkmaaDoor
