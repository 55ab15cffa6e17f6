/-
  GridMakes: the walk.
-/
import Derived.Test.YtpapbbolefnkmaaDoorZB00
import Derived.Test.YtpapbbolefnkmaaDoorZB32
import Derived.Test.YtpapbbolefnkmaaDoorZB33
import Derived.Test.YtpapbbolefnkmaaDoorZB47
import Derived.Test.YtpapbbolefnkmaaDoorZB48
import Derived.Test.YtpapbbolefnkmaaDoorZB49
import Derived.Test.YtpapbbolefnkmaaDoorZB46
import Derived.Test.YtpapbbolefnkmaaDoorZB40
import Derived.Test.YtpapbbolefnkmaaDoorZB24
import Derived.Handy
namespace Go.Proofs.YtpapbbolefnkmaaDoor
open Go Go.RowKit
set_option linter.unusedVariables false
set_option linter.unusedSimpArgs false
set_option maxRecDepth 1000000 in
set_option maxHeartbeats 4000000 in
theorem law_gl2 (B : Gm.Bx) (A : Option Addr) (n c : Nat) (l : List Int) (F : Gm.Bx) (m : Int) (w : World) (hG : SL w 1 A n c (ic l)) (hSan : ∀ W,Gr w W → Calls Tryd.prog 11 #[] W fun e w'=>e = .returned (.bool true) ∧ Below W.heap.size W w') :
    Calls Tryd.prog 3 #[.agg #[B.a, B.b, B.c, B.d, B.e, B.f, .slice A n c], .agg #[F.a, F.b, F.c, F.d, F.e, F.f], m] w fun e w'=>e = .returned (.bool true) ∧ Below w.heap.size w w':=by
  have HGA:=Lib.hid hG
  have HLEN : Hid (l.length = n):=Lib.hid (by have h_:=hG.len;rw [ic_len] at h_;omega)
  have hnbHGA : n ≤ 9223372036854775807:=Nat.le_trans hG.cap hG.bnd
  clear hG
  have HSAN:=Lib.hid hSan
  clear hSan
  have S1 : Hid (St w noB [] w):=Lib.hid (St.start w)
  go_enter Tryd.func3,Tryd.ntmps3
  go_upto_region 0 with fail
  refine wpG_region_k (fun K hK=>?_)
  refine wpG_val (some 3) rfl (by rfl) (fun W2 hg3=>⟨.pointer (some ⟨W2.heap.size,0,none⟩),W2.alloc (.cells #[B.a, B.b, B.c, B.d, B.e, B.f, .slice A n c] 28),by (first | (go_simp;done) | (go_simp <;> rfl)), ?_⟩)
  simp only [n1,n3,n4]
  obtain ⟨g4,U5,hg_,hu_,hS_⟩:=(S1.out.gr hg3).made [B.a, B.b, B.c, B.d, B.e, B.f, .slice A n c] 28
  rw [← hu_,← hg_]
  have S6 : Hid (St w noB [blk g4 28 [B.a, B.b, B.c, B.d, B.e, B.f, .slice A n c]] U5):=Lib.hid hS_
  clear S1
  clear hg_ hu_ hS_ hg3
  refine wpG_val (some 4) rfl (by rfl) (fun W7 hg8=>⟨.pointer (some ⟨W7.heap.size,0,none⟩),W7.alloc (.cells #[F.a, F.b, F.c, F.d, F.e, F.f] 25),by (first | (go_simp;done) | (go_simp <;> rfl)), ?_⟩)
  simp only [n1,n3,n4]
  obtain ⟨g9,U10,hg_,hu_,hS_⟩:=(S6.out.gr hg8).made [F.a, F.b, F.c, F.d, F.e, F.f] 25
  rw [← hu_,← hg_]
  have S11 : Hid (St w noB [blk g9 25 [F.a, F.b, F.c, F.d, F.e, F.f],blk g4 28 [B.a, B.b, B.c, B.d, B.e, B.f, .slice A n c]] U10):=Lib.hid hS_
  clear S6
  clear hg_ hu_ hS_ hg8
  refine @wpG_p _ _ _ _ _ (some 6) (.bool false) _ _ rfl (by rfl) (fun _=>rfl) ?_
  simp only [n1,n3,n4]
  refine wpG_done (fun V12 hv13=>?_)
  have S14 : Hid (St w noB [blk g9 25 [F.a, F.b, F.c, F.d, F.e, F.f],blk g4 28 [B.a, B.b, B.c, B.d, B.e, B.f, .slice A n c]] V12):=Lib.hid (S11.out.gr hv13)
  clear S11
  clear hv13
  refine ⟨rfl,hK _ _ ?_⟩
  clear hK
  go_upto_region 1 with fail
  refine wpG_region_k (fun K hK=>?_)
  refine @wpG_p _ _ _ _ _ (some 17) (.pointer (some ⟨g9,0,none⟩)) _ _ rfl (by rfl) (fun W=>by go_simp) ?_
  simp only [n1,n3,n4]
  refine @wpG_tk _ _ _ _ _ (some 18) (.agg #[F.a, F.b, F.c]) _ _ rfl (.load_mid (by rfl) 23 (.tmp 17) rfl g9 0 rfl [F.a, F.b, F.c] _ (fun W hg=>(S14.out.gr hg).range 0 rfl 0 3 rfl) Tryd.underlying23 rfl (by kernel_rfl)) ?_
  simp only [n1,n3,n4]
  refine @wpG_tk _ _ _ _ _ (some 19) (.bool (decide (Gm.rp3 F.a F.b F.c))) _ _ rfl (.call (f:=9) (args:=#[.agg #[F.a, F.b, F.c]]) (by rfl) (fun W=>by go_simp) (fun W hg=>ranged_any F.a F.b F.c W)) ?_
  simp only [n1,n3,n4]
  refine @wpG_p _ _ _ _ _ (some 20) (.bool (decide (Gm.rp3 F.a F.b F.c))) _ _ rfl (by rfl) (fun _=>rfl) ?_
  simp only [n1,n3,n4]
  obtain ⟨c15,hc15⟩ : ∃ q_,q_ = (decide (Gm.rp3 F.a F.b F.c)):=⟨_,rfl⟩
  rw [← hc15]
  have Hc15:=Lib.hid hc15
  clear hc15
  cases c15 with
  | true =>
    have f16:=Lib.hid (of_decide_eq_true Hc15.out.symm)
    refine @wpG_p _ _ _ _ _ (some 21) (.pointer (some ⟨g9,3,none⟩)) _ _ rfl (by rfl) (fun W=>by go_simp) ?_
    simp only [n1,n3,n4]
    refine @wpG_tk _ _ _ _ _ (some 22) (.agg #[F.d, F.e, F.f]) _ _ rfl (.load_mid (by rfl) 23 (.tmp 21) rfl g9 3 rfl [F.d, F.e, F.f] _ (fun W hg=>(S14.out.gr hg).range 0 rfl 3 3 rfl) Tryd.underlying23 rfl (by kernel_rfl)) ?_
    simp only [n1,n3,n4]
    refine @wpG_tk _ _ _ _ _ (some 23) (.bool (decide (Gm.rp3 F.d F.e F.f))) _ _ rfl (.call (f:=9) (args:=#[.agg #[F.d, F.e, F.f]]) (by rfl) (fun W=>by go_simp) (fun W hg=>ranged_any F.d F.e F.f W)) ?_
    simp only [n1,n3,n4]
    refine @wpG_p _ _ _ _ _ (some 24) (.bool (decide (Gm.rp3 F.d F.e F.f))) _ _ rfl (by rfl) (fun W=>by go_simp) ?_
    simp only [n1,n3,n4]
    refine @wpG_p _ _ _ _ _ (some 7) (.bool (decide (Gm.rp3 F.d F.e F.f))) _ _ rfl (by rfl) (fun _=>rfl) ?_
    simp only [n1,n3,n4]
    refine wpG_done (fun V17 hv18=>?_)
    have S19 : Hid (St w noB [blk g9 25 [F.a, F.b, F.c, F.d, F.e, F.f],blk g4 28 [B.a, B.b, B.c, B.d, B.e, B.f, .slice A n c]] V17):=Lib.hid (S14.out.gr hv18)
    clear S14
    clear hv18
    refine ⟨rfl,hK _ _ ?_⟩
    clear hK
    go_upto_region 2 with fail
    refine wpG_region_k (fun K hK=>?_)
    refine @wpG_tk _ _ _ _ _ (some 25) (.agg #[F.a, F.b, F.c, F.d, F.e, F.f]) _ _ rfl (.load_mid (by rfl) 25 (.tmp 4) rfl g9 0 rfl [F.a, F.b, F.c, F.d, F.e, F.f] _ (fun W hg=>(S19.out.gr hg).range 0 rfl 0 6 rfl) Tryd.underlying25 rfl (by kernel_rfl)) ?_
    simp only [n1,n3,n4]
    refine @wpG_tk _ _ _ _ _ (some 26) (Gm.volw F) _ _ rfl (.call (f:=10) (args:=#[.agg #[F.a, F.b, F.c, F.d, F.e, F.f]]) (by rfl) (fun W=>by go_simp) (fun W hg=>volw_b F W)) ?_
    simp only [n1,n3,n4]
    refine @wpG_p _ _ _ _ _ (some 8) (Gm.volw F) _ _ rfl (by rfl) (fun _=>rfl) ?_
    simp only [n1,n3,n4]
    refine wpG_done (fun V20 hv21=>?_)
    have S22 : Hid (St w noB [blk g9 25 [F.a, F.b, F.c, F.d, F.e, F.f],blk g4 28 [B.a, B.b, B.c, B.d, B.e, B.f, .slice A n c]] V20):=Lib.hid (S19.out.gr hv21)
    clear S19
    clear hv21
    refine ⟨rfl,hK _ _ ?_⟩
    clear hK
    go_upto_region 3 with fail
    refine wpG_region_k (fun K hK=>?_)
    refine @wpG_p _ _ _ _ _ (some 27) (.pointer (some ⟨g4,6,none⟩)) _ _ rfl (by rfl) (fun W=>by go_simp) ?_
    simp only [n1,n3,n4]
    refine @wpG_r _ _ _ _ _ (some 28) (.slice A n c) _ _ rfl (by rfl) (fun W hg=>by have c:=(S22.out.gr hg).cell 1 rfl 6 rfl;go_simp) ?_
    simp only [n1,n3,n4]
    refine @wpG_p _ _ _ _ _ (some 29) (n : Int) _ _ rfl (by rfl) (fun W=>by go_simp) ?_
    simp only [n1,n3,n4]
    refine @wpG_p _ _ _ _ _ (some 30) (.bool (decide ((n : Int) > 1000))) _ _ rfl (by rfl) (fun W=>op_int_gtr W (n : Int) 1000 rfl rfl rfl Tryd.underlying3) ?_
    simp only [n1,n3,n4]
    refine @wpG_p _ _ _ _ _ (some 31) (.bool (decide ((n : Int) > 1000))) _ _ rfl (by rfl) (fun _=>rfl) ?_
    simp only [n1,n3,n4]
    obtain ⟨c23,hc23⟩ : ∃ q_,q_ = (decide ((n : Int) > 1000)):=⟨_,rfl⟩
    rw [← hc23]
    have Hc23:=Lib.hid hc23
    clear hc23
    cases c23 with
    | true =>
      have f24:=of_decide_eq_true Hc23.out.symm
      refine @wpG_no _ _ _ _ _ (some 32) _ _ rfl (by rfl) ?_
      simp only [n1,n3,n4]
      refine @wpG_no _ _ _ _ _ (some 33) _ _ rfl (by rfl) ?_
      simp only [n1,n3,n4]
      refine @wpG_no _ _ _ _ _ (some 34) _ _ rfl (by rfl) ?_
      simp only [n1,n3,n4]
      refine @wpG_no _ _ _ _ _ (some 35) _ _ rfl (by rfl) ?_
      simp only [n1,n3,n4]
      refine @wpG_no _ _ _ _ _ (some 36) _ _ rfl (by rfl) ?_
      simp only [n1,n3,n4]
      refine @wpG_no _ _ _ _ _ (some 37) _ _ rfl (by rfl) ?_
      simp only [n1,n3,n4]
      refine @wpG_no _ _ _ _ _ (some 38) _ _ rfl (by rfl) ?_
      simp only [n1,n3,n4]
      refine @wpG_no _ _ _ _ _ (some 39) _ _ rfl (by rfl) ?_
      simp only [n1,n3,n4]
      refine @wpG_no _ _ _ _ _ (some 40) _ _ rfl (by rfl) ?_
      simp only [n1,n3,n4]
      refine @wpG_p _ _ _ _ _ (some 41) (.bool true) _ _ rfl (by rfl) (fun W=>by go_simp) ?_
      simp only [n1,n3,n4]
      refine wpG_done (fun V25 hv26=>?_)
      have S27 : Hid (St w noB [blk g9 25 [F.a, F.b, F.c, F.d, F.e, F.f],blk g4 28 [B.a, B.b, B.c, B.d, B.e, B.f, .slice A n c]] V25):=Lib.hid (S22.out.gr hv26)
      clear S22
      clear hv26
      refine ⟨rfl,hK _ _ ?_⟩
      clear hK
      go_upto_region 4 with fail
      refine wpG_region_k (fun K hK=>?_)
      refine @wpG_tk _ _ _ _ _ (some 42) (.bool true) _ _ rfl (.call (f:=11) (args:=#[]) (by rfl) (fun W=>by go_simp) (fun W hg=>(HSAN.out W (S27.out.gr hg).bel))) ?_
      simp only [n1,n3,n4]
      refine @wpG_p _ _ _ _ _ (some 6) (.bool true) _ _ rfl (by rfl) (fun _=>rfl) ?_
      simp only [n1,n3,n4]
      refine wpG_done (fun V28 hv29=>?_)
      have S30 : Hid (St w noB [blk g9 25 [F.a, F.b, F.c, F.d, F.e, F.f],blk g4 28 [B.a, B.b, B.c, B.d, B.e, B.f, .slice A n c]] V28):=Lib.hid (S27.out.gr hv29)
      clear S27
      clear hv29
      refine ⟨rfl,hK _ _ ?_⟩
      clear hK
      go_wp2_with fail
      go_ret
      refine ⟨?_,S30.out.bel⟩
      show Ending.returned (.bool true) = _
      (first | rfl | (have e_f16:=f16.out;rfl))
    | false =>
      have f31:=of_decide_eq_false Hc23.out.symm
      refine @wpG_p _ _ _ _ _ (some 32) (.bool (decide (Gm.rp3 F.d F.e F.f))) _ _ rfl (by rfl) (fun _=>rfl) ?_
      simp only [n1,n3,n4]
      refine @wpG_p _ _ _ _ _ (some 33) (.bool (decide (Gm.rp3 F.d F.e F.f))) _ _ rfl (by rfl) (fun _=>rfl) ?_
      simp only [n1,n3,n4]
      obtain ⟨c32,hc32⟩ : ∃ q_,q_ = (decide (Gm.rp3 F.d F.e F.f)):=⟨_,rfl⟩
      rw [← hc32]
      have Hc32:=Lib.hid hc32
      clear hc32
      cases c32 with
      | true =>
        have f33:=Lib.hid (of_decide_eq_true Hc32.out.symm)
        refine @wpG_p _ _ _ _ _ (some 34) (Gm.volw F) _ _ rfl (by rfl) (fun _=>rfl) ?_
        simp only [n1,n3,n4]
        refine @wpG_p _ _ _ _ _ (some 35) (.bool (decide (Gm.volw F > 5000))) _ _ rfl (by rfl) (fun W=>op_int_gtr W (Gm.volw F) 5000 rfl rfl rfl Tryd.underlying3) ?_
        simp only [n1,n3,n4]
        refine @wpG_p _ _ _ _ _ (some 36) (.bool (decide (Gm.volw F > 5000))) _ _ rfl (by rfl) (fun W=>by go_simp) ?_
        simp only [n1,n3,n4]
        refine @wpG_p _ _ _ _ _ (some 37) (.bool (decide (Gm.volw F > 5000))) _ _ rfl (by rfl) (fun _=>rfl) ?_
        simp only [n1,n3,n4]
        obtain ⟨c34,hc34⟩ : ∃ q_,q_ = (decide (Gm.volw F > 5000)):=⟨_,rfl⟩
        rw [← hc34]
        have Hc34:=Lib.hid hc34
        clear hc34
        cases c34 with
        | true =>
          have f35:=of_decide_eq_true Hc34.out.symm
          refine @wpG_p _ _ _ _ _ (some 38) (Gm.volw F) _ _ rfl (by rfl) (fun _=>rfl) ?_
          simp only [n1,n3,n4]
          refine @wpG_p _ _ _ _ _ (some 39) (.bool (decide (Gm.volw F ≤ 2097152))) _ _ rfl (by rfl) (fun W=>op_int_leq W (Gm.volw F) 2097152 rfl rfl rfl Tryd.underlying3) ?_
          simp only [n1,n3,n4]
          refine @wpG_p _ _ _ _ _ (some 40) (.bool (decide (Gm.volw F ≤ 2097152))) _ _ rfl (by rfl) (fun W=>by go_simp) ?_
          simp only [n1,n3,n4]
          refine @wpG_p _ _ _ _ _ (some 41) (.bool (decide (Gm.volw F ≤ 2097152))) _ _ rfl (by rfl) (fun W=>by go_simp) ?_
          simp only [n1,n3,n4]
          refine wpG_done (fun V36 hv37=>?_)
          have S38 : Hid (St w noB [blk g9 25 [F.a, F.b, F.c, F.d, F.e, F.f],blk g4 28 [B.a, B.b, B.c, B.d, B.e, B.f, .slice A n c]] V36):=Lib.hid (S22.out.gr hv37)
          clear S22
          clear hv37
          refine ⟨rfl,hK _ _ ?_⟩
          clear hK
          obtain ⟨c39,hc39⟩ : ∃ q_,q_ = (decide (Gm.volw F ≤ 2097152)):=⟨_,rfl⟩
          rw [← hc39]
          have Hc39:=Lib.hid hc39
          clear hc39
          cases c39 with
          | true =>
            have f40:=of_decide_eq_true Hc39.out.symm
            go_upto_region 4 with fail
            refine wpG_region_k (fun K hK=>?_)
            refine @wpG_tk _ _ _ _ _ (some 42) (.bool true) _ _ rfl (.call (f:=11) (args:=#[]) (by rfl) (fun W=>by go_simp) (fun W hg=>(HSAN.out W (S38.out.gr hg).bel))) ?_
            simp only [n1,n3,n4]
            refine @wpG_p _ _ _ _ _ (some 6) (.bool true) _ _ rfl (by rfl) (fun _=>rfl) ?_
            simp only [n1,n3,n4]
            refine wpG_done (fun V41 hv42=>?_)
            have S43 : Hid (St w noB [blk g9 25 [F.a, F.b, F.c, F.d, F.e, F.f],blk g4 28 [B.a, B.b, B.c, B.d, B.e, B.f, .slice A n c]] V41):=Lib.hid (S38.out.gr hv42)
            clear S38
            clear hv42
            refine ⟨rfl,hK _ _ ?_⟩
            clear hK
            go_wp2_with fail
            go_ret
            refine ⟨?_,S43.out.bel⟩
            show Ending.returned (.bool true) = _
            (first | rfl | (have e_f16:=f16.out;have e_f33:=f33.out;rfl))
          | false =>
            have f44:=of_decide_eq_false Hc39.out.symm
            go_upto_region 5 with fail
            refine wpK_region_k (by kernel_rfl) (fun K hK=>?_)
            refine wpK_tk (i:=0) (some 43) (v:=.agg #[B.a, B.b, B.c, B.d, B.e, B.f, .slice A n c]) rfl rfl (by kernel_rfl) (fun _ _ _ h=>onN_panic h) (.load_mid (by rfl) 28 (.tmp 3) rfl g4 0 rfl [B.a, B.b, B.c, B.d, B.e, B.f, .slice A n c] _ (fun W hg=>(S38.out.gr (Gr.un hg)).range 1 rfl 0 7 rfl) Tryd.underlying28 rfl (by kernel_rfl)) ?_
            simp only [n1,n3,n4]
            refine wpK_tk (i:=1) (some 44) (v:=.bool (decide (Gm.vld B l))) rfl rfl (by kernel_rfl) (fun _ _ _ h=>onN_panic h) (.call (f:=12) (args:=#[.agg #[B.a, B.b, B.c, B.d, B.e, B.f, .slice A n c]]) (by rfl) (fun W=>by go_simp) (fun W hg=>valid_any B _ _ _ l W (HGA.out.gr (S38.out.gr (Gr.un hg)).bel))) ?_
            simp only [n1,n3,n4]
            refine wpK_tk (i:=2) (some 45) (v:=.agg #[B.a, B.b, B.c, B.d, B.e, B.f, .slice A n c]) rfl rfl (by kernel_rfl) (fun _ _ _ h=>onN_panic h) (.load_mid (by rfl) 28 (.tmp 3) rfl g4 0 rfl [B.a, B.b, B.c, B.d, B.e, B.f, .slice A n c] _ (fun W hg=>(S38.out.gr (Gr.un hg)).range 1 rfl 0 7 rfl) Tryd.underlying28 rfl (by kernel_rfl)) ?_
            simp only [n1,n3,n4]
            refine wpK_tk (i:=3) (some 46) (v:=.bool (decide (Gm.vld B l))) rfl rfl (by kernel_rfl) (fun _ _ _ h=>onN_panic h) (.call (f:=13) (args:=#[.agg #[B.a, B.b, B.c, B.d, B.e, B.f, .slice A n c]]) (by rfl) (fun W=>by go_simp) (fun W hg=>rvalid_any B _ _ _ l W (HGA.out.gr (S38.out.gr (Gr.un hg)).bel))) ?_
            simp only [n1,n3,n4]
            refine wpK_ta (i:=4) (some 47) (v:=.bool false) rfl rfl (by kernel_rfl) (fun _ _ _ h=>onN_panic h) (Or.inl ⟨by rfl,fun W=>by first | (go_simp;done) | (skip <;> rfl) | (skip <;> go_simp)⟩) ?_
            simp only [n1,n3,n4]
            refine wpK_done (by kernel_rfl) (fun V45 hv46=>?_) _
            have S47 : Hid (St w noB [blk g9 25 [F.a, F.b, F.c, F.d, F.e, F.f],blk g4 28 [B.a, B.b, B.c, B.d, B.e, B.f, .slice A n c]] V45):=Lib.hid (S38.out.gr (Gr.un hv46))
            clear S38
            clear hv46
            refine ⟨rfl,hK _ _ ?_⟩
            clear hK
            go_upto_region 7 with fail
            refine wpG_region_k (fun K hK=>?_)
            refine @wpG_tk _ _ _ _ _ (some 49) (.agg #[F.a, F.b, F.c, F.d, F.e, F.f]) _ _ rfl (.load_mid (by rfl) 25 (.tmp 4) rfl g9 0 rfl [F.a, F.b, F.c, F.d, F.e, F.f] _ (fun W hg=>(S47.out.gr hg).range 0 rfl 0 6 rfl) Tryd.underlying25 rfl (by kernel_rfl)) ?_
            simp only [n1,n3,n4]
            refine @wpG_p _ _ _ _ _ (some 50) m _ _ rfl (by rfl) (fun _=>rfl) ?_
            simp only [n1,n3,n4]
            refine wpG_call (some 51) 14 #[.agg #[F.a, F.b, F.c, F.d, F.e, F.f], m] rfl (by rfl) (fun W=>by go_simp) (fun W51 hg52=>?_)
            refine (new_any F m W51).mono ?_
            rintro e w53 ⟨A48,n49,c50,rfl,hS_⟩
            refine ⟨_,rfl, ?_⟩
            have hT_:=(S47.out.gr hg52).got hS_
            simp only [n1,n3,n4]
            have S54 : Hid (St w noB [own (.slice A48 n49 c50) 3 1 n49 (ic (Gm.nL F m)),blk g9 25 [F.a, F.b, F.c, F.d, F.e, F.f],blk g4 28 [B.a, B.b, B.c, B.d, B.e, B.f, .slice A n c]] w53):=Lib.hid hT_
            clear S47
            clear hT_ hS_ hg52
            refine @wpG_p _ _ _ _ _ (some 48) (.tuple #[.agg #[((Gm.nB F m).a:Int), ((Gm.nB F m).b:Int), ((Gm.nB F m).c:Int), ((Gm.nB F m).d:Int), ((Gm.nB F m).e:Int), ((Gm.nB F m).f:Int), .slice A48 n49 c50], (Gm.nE F m)]) _ _ rfl (by rfl) (fun _=>rfl) ?_
            simp only [n1,n3,n4]
            refine @wpG_p _ _ _ _ _ (some 52) (.agg #[((Gm.nB F m).a:Int), ((Gm.nB F m).b:Int), ((Gm.nB F m).c:Int), ((Gm.nB F m).d:Int), ((Gm.nB F m).e:Int), ((Gm.nB F m).f:Int), .slice A48 n49 c50]) _ _ rfl (by rfl) (fun W=>by go_simp) ?_
            simp only [n1,n3,n4]
            refine @wpG_p _ _ _ _ _ (some 53) (Gm.nE F m) _ _ rfl (by rfl) (fun W=>by go_simp) ?_
            simp only [n1,n3,n4]
            refine wpG_val (some 9) rfl (by rfl) (fun W55 hg56=>⟨.pointer (some ⟨W55.heap.size,0,none⟩),W55.alloc (.cells #[(), (), (), (), (), (), .slice none 0 0] 28),by (first | (go_simp;done) | (go_simp <;> rfl)), ?_⟩)
            simp only [n1,n3,n4]
            obtain ⟨g57,U58,hg_,hu_,hS_⟩:=(S54.out.gr hg56).made [(), (), (), (), (), (), .slice none 0 0] 28
            rw [← hu_,← hg_]
            have S59 : Hid (St w noB [blk g57 28 [(), (), (), (), (), (), .slice none 0 0],own (.slice A48 n49 c50) 3 1 n49 (ic (Gm.nL F m)),blk g9 25 [F.a, F.b, F.c, F.d, F.e, F.f],blk g4 28 [B.a, B.b, B.c, B.d, B.e, B.f, .slice A n c]] U58):=Lib.hid hS_
            clear S54
            clear hg_ hu_ hS_ hg56
            refine wpG_store (none) rfl (by rfl) (fun W60 hg61=>⟨_,run_store_mid 28 (.tmp 9) (.tmp 52) rfl g57 0 #[((Gm.nB F m).a:Int), ((Gm.nB F m).b:Int), ((Gm.nB F m).c:Int), ((Gm.nB F m).d:Int), ((Gm.nB F m).e:Int), ((Gm.nB F m).f:Int), .slice A48 n49 c50] rfl rfl ((S59.out.gr hg61).room 0 rfl 0 7 (by simp)) (by kernel_rfl) (by kernel_rfl), ?_⟩)
            simp only [n2]
            obtain ⟨U62,hu_,hS_⟩:=((S59.out.gr hg61).put 0 rfl 0 (#[((Gm.nB F m).a:Int), ((Gm.nB F m).b:Int), ((Gm.nB F m).c:Int), ((Gm.nB F m).d:Int), ((Gm.nB F m).e:Int), ((Gm.nB F m).f:Int), .slice A48 n49 c50] : Array Value).toList (ds:=[((Gm.nB F m).a:Int), ((Gm.nB F m).b:Int), ((Gm.nB F m).c:Int), ((Gm.nB F m).d:Int), ((Gm.nB F m).e:Int), ((Gm.nB F m).f:Int), .slice A48 n49 c50]) rfl).named
            rw [← hu_]
            have S63 : Hid (St w noB [blk g57 28 [((Gm.nB F m).a:Int), ((Gm.nB F m).b:Int), ((Gm.nB F m).c:Int), ((Gm.nB F m).d:Int), ((Gm.nB F m).e:Int), ((Gm.nB F m).f:Int), .slice A48 n49 c50],own (.slice A48 n49 c50) 3 1 n49 (ic (Gm.nL F m)),blk g9 25 [F.a, F.b, F.c, F.d, F.e, F.f],blk g4 28 [B.a, B.b, B.c, B.d, B.e, B.f, .slice A n c]] U62):=Lib.hid hS_
            clear S59
            clear hu_ hS_ hg61
            refine @wpG_p _ _ _ _ _ (some 10) (Gm.nE F m) _ _ rfl (by rfl) (fun _=>rfl) ?_
            simp only [n1,n3,n4]
            refine wpG_done (fun V64 hv65=>?_)
            have S66 : Hid (St w noB [blk g57 28 [((Gm.nB F m).a:Int), ((Gm.nB F m).b:Int), ((Gm.nB F m).c:Int), ((Gm.nB F m).d:Int), ((Gm.nB F m).e:Int), ((Gm.nB F m).f:Int), .slice A48 n49 c50],own (.slice A48 n49 c50) 3 1 n49 (ic (Gm.nL F m)),blk g9 25 [F.a, F.b, F.c, F.d, F.e, F.f],blk g4 28 [B.a, B.b, B.c, B.d, B.e, B.f, .slice A n c]] V64):=Lib.hid (S63.out.gr hv65)
            clear S63
            clear hv65
            refine ⟨rfl,hK _ _ ?_⟩
            clear hK
            go_upto_region 8 with fail
            refine wpG_region_k (fun K hK=>?_)
            refine @wpG_tk _ _ _ _ _ (some 55) (.agg #[F.a, F.b, F.c, F.d, F.e, F.f]) _ _ rfl (.load_mid (by rfl) 25 (.tmp 4) rfl g9 0 rfl [F.a, F.b, F.c, F.d, F.e, F.f] _ (fun W hg=>(S66.out.gr hg).range 2 rfl 0 6 rfl) Tryd.underlying25 rfl (by kernel_rfl)) ?_
            simp only [n1,n3,n4]
            refine @wpG_p _ _ _ _ _ (some 56) m _ _ rfl (by rfl) (fun _=>rfl) ?_
            simp only [n1,n3,n4]
            refine wpG_call (some 57) 15 #[.agg #[F.a, F.b, F.c, F.d, F.e, F.f], m] rfl (by rfl) (fun W=>by go_simp) (fun W70 hg71=>?_)
            refine (rnew_any F m W70).mono ?_
            rintro e w72 ⟨A67,n68,c69,rfl,hS_⟩
            refine ⟨_,rfl, ?_⟩
            have hT_:=(S66.out.gr hg71).got hS_
            simp only [n1,n3,n4]
            have S73 : Hid (St w noB [own (.slice A67 n68 c69) 3 1 n68 (ic (Gm.nL F m)),blk g57 28 [((Gm.nB F m).a:Int), ((Gm.nB F m).b:Int), ((Gm.nB F m).c:Int), ((Gm.nB F m).d:Int), ((Gm.nB F m).e:Int), ((Gm.nB F m).f:Int), .slice A48 n49 c50],own (.slice A48 n49 c50) 3 1 n49 (ic (Gm.nL F m)),blk g9 25 [F.a, F.b, F.c, F.d, F.e, F.f],blk g4 28 [B.a, B.b, B.c, B.d, B.e, B.f, .slice A n c]] w72):=Lib.hid hT_
            clear S66
            clear hT_ hS_ hg71
            refine @wpG_p _ _ _ _ _ (some 54) (.tuple #[.agg #[((Gm.nB F m).a:Int), ((Gm.nB F m).b:Int), ((Gm.nB F m).c:Int), ((Gm.nB F m).d:Int), ((Gm.nB F m).e:Int), ((Gm.nB F m).f:Int), .slice A67 n68 c69], (Gm.nE F m)]) _ _ rfl (by rfl) (fun _=>rfl) ?_
            simp only [n1,n3,n4]
            refine @wpG_p _ _ _ _ _ (some 58) (.agg #[((Gm.nB F m).a:Int), ((Gm.nB F m).b:Int), ((Gm.nB F m).c:Int), ((Gm.nB F m).d:Int), ((Gm.nB F m).e:Int), ((Gm.nB F m).f:Int), .slice A67 n68 c69]) _ _ rfl (by rfl) (fun W=>by go_simp) ?_
            simp only [n1,n3,n4]
            refine @wpG_p _ _ _ _ _ (some 59) (Gm.nE F m) _ _ rfl (by rfl) (fun W=>by go_simp) ?_
            simp only [n1,n3,n4]
            refine wpG_val (some 11) rfl (by rfl) (fun W74 hg75=>⟨.pointer (some ⟨W74.heap.size,0,none⟩),W74.alloc (.cells #[(), (), (), (), (), (), .slice none 0 0] 28),by (first | (go_simp;done) | (go_simp <;> rfl)), ?_⟩)
            simp only [n1,n3,n4]
            obtain ⟨g76,U77,hg_,hu_,hS_⟩:=(S73.out.gr hg75).made [(), (), (), (), (), (), .slice none 0 0] 28
            rw [← hu_,← hg_]
            have S78 : Hid (St w noB [blk g76 28 [(), (), (), (), (), (), .slice none 0 0],own (.slice A67 n68 c69) 3 1 n68 (ic (Gm.nL F m)),blk g57 28 [((Gm.nB F m).a:Int), ((Gm.nB F m).b:Int), ((Gm.nB F m).c:Int), ((Gm.nB F m).d:Int), ((Gm.nB F m).e:Int), ((Gm.nB F m).f:Int), .slice A48 n49 c50],own (.slice A48 n49 c50) 3 1 n49 (ic (Gm.nL F m)),blk g9 25 [F.a, F.b, F.c, F.d, F.e, F.f],blk g4 28 [B.a, B.b, B.c, B.d, B.e, B.f, .slice A n c]] U77):=Lib.hid hS_
            clear S73
            clear hg_ hu_ hS_ hg75
            refine wpG_store (none) rfl (by rfl) (fun W79 hg80=>⟨_,run_store_mid 28 (.tmp 11) (.tmp 58) rfl g76 0 #[((Gm.nB F m).a:Int), ((Gm.nB F m).b:Int), ((Gm.nB F m).c:Int), ((Gm.nB F m).d:Int), ((Gm.nB F m).e:Int), ((Gm.nB F m).f:Int), .slice A67 n68 c69] rfl rfl ((S78.out.gr hg80).room 0 rfl 0 7 (by simp)) (by kernel_rfl) (by kernel_rfl), ?_⟩)
            simp only [n2]
            obtain ⟨U81,hu_,hS_⟩:=((S78.out.gr hg80).put 0 rfl 0 (#[((Gm.nB F m).a:Int), ((Gm.nB F m).b:Int), ((Gm.nB F m).c:Int), ((Gm.nB F m).d:Int), ((Gm.nB F m).e:Int), ((Gm.nB F m).f:Int), .slice A67 n68 c69] : Array Value).toList (ds:=[((Gm.nB F m).a:Int), ((Gm.nB F m).b:Int), ((Gm.nB F m).c:Int), ((Gm.nB F m).d:Int), ((Gm.nB F m).e:Int), ((Gm.nB F m).f:Int), .slice A67 n68 c69]) rfl).named
            rw [← hu_]
            have S82 : Hid (St w noB [blk g76 28 [((Gm.nB F m).a:Int), ((Gm.nB F m).b:Int), ((Gm.nB F m).c:Int), ((Gm.nB F m).d:Int), ((Gm.nB F m).e:Int), ((Gm.nB F m).f:Int), .slice A67 n68 c69],own (.slice A67 n68 c69) 3 1 n68 (ic (Gm.nL F m)),blk g57 28 [((Gm.nB F m).a:Int), ((Gm.nB F m).b:Int), ((Gm.nB F m).c:Int), ((Gm.nB F m).d:Int), ((Gm.nB F m).e:Int), ((Gm.nB F m).f:Int), .slice A48 n49 c50],own (.slice A48 n49 c50) 3 1 n49 (ic (Gm.nL F m)),blk g9 25 [F.a, F.b, F.c, F.d, F.e, F.f],blk g4 28 [B.a, B.b, B.c, B.d, B.e, B.f, .slice A n c]] U81):=Lib.hid hS_
            clear S78
            clear hu_ hS_ hg80
            refine @wpG_p _ _ _ _ _ (some 12) (Gm.nE F m) _ _ rfl (by rfl) (fun _=>rfl) ?_
            simp only [n1,n3,n4]
            refine wpG_done (fun V83 hv84=>?_)
            have S85 : Hid (St w noB [blk g76 28 [((Gm.nB F m).a:Int), ((Gm.nB F m).b:Int), ((Gm.nB F m).c:Int), ((Gm.nB F m).d:Int), ((Gm.nB F m).e:Int), ((Gm.nB F m).f:Int), .slice A67 n68 c69],own (.slice A67 n68 c69) 3 1 n68 (ic (Gm.nL F m)),blk g57 28 [((Gm.nB F m).a:Int), ((Gm.nB F m).b:Int), ((Gm.nB F m).c:Int), ((Gm.nB F m).d:Int), ((Gm.nB F m).e:Int), ((Gm.nB F m).f:Int), .slice A48 n49 c50],own (.slice A48 n49 c50) 3 1 n49 (ic (Gm.nL F m)),blk g9 25 [F.a, F.b, F.c, F.d, F.e, F.f],blk g4 28 [B.a, B.b, B.c, B.d, B.e, B.f, .slice A n c]] V83):=Lib.hid (S82.out.gr hv84)
            clear S82
            clear hv84
            refine ⟨rfl,hK _ _ ?_⟩
            clear hK
            go_upto_region 9 with fail
            refine wpG_region_k (fun K hK=>?_)
            refine @wpG_tk _ _ _ _ _ (some 60) (.agg #[((Gm.nB F m).a:Int), ((Gm.nB F m).b:Int), ((Gm.nB F m).c:Int), ((Gm.nB F m).d:Int), ((Gm.nB F m).e:Int), ((Gm.nB F m).f:Int), .slice A48 n49 c50]) _ _ rfl (.load_mid (by rfl) 28 (.tmp 9) rfl g57 0 rfl [((Gm.nB F m).a:Int), ((Gm.nB F m).b:Int), ((Gm.nB F m).c:Int), ((Gm.nB F m).d:Int), ((Gm.nB F m).e:Int), ((Gm.nB F m).f:Int), .slice A48 n49 c50] _ (fun W hg=>(S85.out.gr hg).range 2 rfl 0 7 rfl) Tryd.underlying28 rfl (by kernel_rfl)) ?_
            simp only [n1,n3,n4]
            refine @wpG_tk _ _ _ _ _ (some 61) (.agg #[((Gm.nB F m).a:Int), ((Gm.nB F m).b:Int), ((Gm.nB F m).c:Int), ((Gm.nB F m).d:Int), ((Gm.nB F m).e:Int), ((Gm.nB F m).f:Int), .slice A67 n68 c69]) _ _ rfl (.load_mid (by rfl) 28 (.tmp 11) rfl g76 0 rfl [((Gm.nB F m).a:Int), ((Gm.nB F m).b:Int), ((Gm.nB F m).c:Int), ((Gm.nB F m).d:Int), ((Gm.nB F m).e:Int), ((Gm.nB F m).f:Int), .slice A67 n68 c69] _ (fun W hg=>(S85.out.gr hg).range 0 rfl 0 7 rfl) Tryd.underlying28 rfl (by kernel_rfl)) ?_
            simp only [n1,n3,n4]
            refine @wpG_tk _ _ _ _ _ (some 62) (.bool true) _ _ rfl (.call (f:=16) (args:=#[.agg #[((Gm.nB F m).a:Int), ((Gm.nB F m).b:Int), ((Gm.nB F m).c:Int), ((Gm.nB F m).d:Int), ((Gm.nB F m).e:Int), ((Gm.nB F m).f:Int), .slice A48 n49 c50], .agg #[((Gm.nB F m).a:Int), ((Gm.nB F m).b:Int), ((Gm.nB F m).c:Int), ((Gm.nB F m).d:Int), ((Gm.nB F m).e:Int), ((Gm.nB F m).f:Int), .slice A67 n68 c69]]) (by rfl) (fun W=>by go_simp) (fun W hg=>((requal_any (Gm.nB F m) _ _ _ (Gm.nL F m) (Gm.nB F m) _ _ _ (Gm.nL F m) W (SL.ofOwn ((S85.out.gr hg).ownr 3 rfl)) (SL.ofOwn ((S85.out.gr hg).ownr 1 rfl))).mono (fun e w' h=>⟨h.1.trans (by rw [Gm.same_iff.2 ⟨rfl,rfl⟩]),h.2⟩)))) ?_
            simp only [n1,n3,n4]
            refine @wpG_p _ _ _ _ _ (some 63) (.bool false) _ _ rfl (by rfl) (fun W=>by first | (go_simp;done) | (cases true <;> rfl)) ?_
            simp only [n1,n3,n4]
            refine @wpG_p _ _ _ _ _ (some 64) (.bool false) _ _ rfl (by rfl) (fun _=>rfl) ?_
            simp only [n1,n3,n4]
            refine @wpG_p _ _ _ _ _ (some 65) (Gm.nE F m) _ _ rfl (by rfl) (fun _=>rfl) ?_
            simp only [n1,n3,n4]
            refine @wpG_p _ _ _ _ _ (some 66) (Gm.nE F m) _ _ rfl (by rfl) (fun _=>rfl) ?_
            simp only [n1,n3,n4]
            refine @wpG_p _ _ _ _ _ (some 67) (.bool false) _ _ rfl (by rfl) (fun W=>by go_simp) ?_
            simp only [n1,n3,n4]
            refine @wpG_p _ _ _ _ _ (some 68) (.bool false) _ _ rfl (by rfl) (fun W=>by go_simp) ?_
            simp only [n1,n3,n4]
            refine wpG_done (fun V86 hv87=>?_)
            have S88 : Hid (St w noB [blk g76 28 [((Gm.nB F m).a:Int), ((Gm.nB F m).b:Int), ((Gm.nB F m).c:Int), ((Gm.nB F m).d:Int), ((Gm.nB F m).e:Int), ((Gm.nB F m).f:Int), .slice A67 n68 c69],own (.slice A67 n68 c69) 3 1 n68 (ic (Gm.nL F m)),blk g57 28 [((Gm.nB F m).a:Int), ((Gm.nB F m).b:Int), ((Gm.nB F m).c:Int), ((Gm.nB F m).d:Int), ((Gm.nB F m).e:Int), ((Gm.nB F m).f:Int), .slice A48 n49 c50],own (.slice A48 n49 c50) 3 1 n49 (ic (Gm.nL F m)),blk g9 25 [F.a, F.b, F.c, F.d, F.e, F.f],blk g4 28 [B.a, B.b, B.c, B.d, B.e, B.f, .slice A n c]] V86):=Lib.hid (S85.out.gr hv87)
            clear S85
            clear hv87
            refine ⟨rfl,hK _ _ ?_⟩
            clear hK
            go_upto_region 11 with fail
            refine wpG_region_k (fun K hK=>?_)
            refine @wpG_tk _ _ _ _ _ (some 69) (.agg #[B.a, B.b, B.c, B.d, B.e, B.f, .slice A n c]) _ _ rfl (.load_mid (by rfl) 28 (.tmp 3) rfl g4 0 rfl [B.a, B.b, B.c, B.d, B.e, B.f, .slice A n c] _ (fun W hg=>(S88.out.gr hg).range 5 rfl 0 7 rfl) Tryd.underlying28 rfl (by kernel_rfl)) ?_
            simp only [n1,n3,n4]
            refine @wpG_tk _ _ _ _ _ (some 70) (.bool (decide (Gm.vld B l))) _ _ rfl (.call (f:=13) (args:=#[.agg #[B.a, B.b, B.c, B.d, B.e, B.f, .slice A n c]]) (by rfl) (fun W=>by go_simp) (fun W hg=>rvalid_any B _ _ _ l W (HGA.out.gr (S88.out.gr hg).bel))) ?_
            simp only [n1,n3,n4]
            refine @wpG_p _ _ _ _ _ (some 71) (.bool (!(decide (Gm.vld B l)))) _ _ rfl (by rfl) (fun W=>by go_simp) ?_
            simp only [n1,n3,n4]
            refine wpG_done (fun V89 hv90=>?_)
            have S91 : Hid (St w noB [blk g76 28 [((Gm.nB F m).a:Int), ((Gm.nB F m).b:Int), ((Gm.nB F m).c:Int), ((Gm.nB F m).d:Int), ((Gm.nB F m).e:Int), ((Gm.nB F m).f:Int), .slice A67 n68 c69],own (.slice A67 n68 c69) 3 1 n68 (ic (Gm.nL F m)),blk g57 28 [((Gm.nB F m).a:Int), ((Gm.nB F m).b:Int), ((Gm.nB F m).c:Int), ((Gm.nB F m).d:Int), ((Gm.nB F m).e:Int), ((Gm.nB F m).f:Int), .slice A48 n49 c50],own (.slice A48 n49 c50) 3 1 n49 (ic (Gm.nL F m)),blk g9 25 [F.a, F.b, F.c, F.d, F.e, F.f],blk g4 28 [B.a, B.b, B.c, B.d, B.e, B.f, .slice A n c]] V89):=Lib.hid (S88.out.gr hv90)
            clear S88
            clear hv90
            refine ⟨rfl,hK _ _ ?_⟩
            clear hK
            obtain ⟨c92,hc92⟩ : ∃ q_,q_ = (!(decide (Gm.vld B l))):=⟨_,rfl⟩
            rw [← hc92]
            have Hc92:=Lib.hid hc92
            clear hc92
            cases c92 with
            | true =>
              have f93:=Lib.hid (of_decide_eq_false (bnt Hc92.out))
              go_upto_region 12 with fail
              refine wpG_region_k (fun K hK=>?_)
              refine @wpG_tk _ _ _ _ _ (some 72) (.bool true) _ _ rfl (.call (f:=11) (args:=#[]) (by rfl) (fun W=>by go_simp) (fun W hg=>(HSAN.out W (S91.out.gr hg).bel))) ?_
              simp only [n1,n3,n4]
              refine @wpG_p _ _ _ _ _ (some 6) (.bool true) _ _ rfl (by rfl) (fun _=>rfl) ?_
              simp only [n1,n3,n4]
              refine wpG_done (fun V94 hv95=>?_)
              have S96 : Hid (St w noB [blk g76 28 [((Gm.nB F m).a:Int), ((Gm.nB F m).b:Int), ((Gm.nB F m).c:Int), ((Gm.nB F m).d:Int), ((Gm.nB F m).e:Int), ((Gm.nB F m).f:Int), .slice A67 n68 c69],own (.slice A67 n68 c69) 3 1 n68 (ic (Gm.nL F m)),blk g57 28 [((Gm.nB F m).a:Int), ((Gm.nB F m).b:Int), ((Gm.nB F m).c:Int), ((Gm.nB F m).d:Int), ((Gm.nB F m).e:Int), ((Gm.nB F m).f:Int), .slice A48 n49 c50],own (.slice A48 n49 c50) 3 1 n49 (ic (Gm.nL F m)),blk g9 25 [F.a, F.b, F.c, F.d, F.e, F.f],blk g4 28 [B.a, B.b, B.c, B.d, B.e, B.f, .slice A n c]] V94):=Lib.hid (S91.out.gr hv95)
              clear S91
              clear hv95
              refine ⟨rfl,hK _ _ ?_⟩
              clear hK
              go_wp2_with fail
              go_ret
              refine ⟨?_,S96.out.bel⟩
              show Ending.returned (.bool true) = _
              (first | rfl | (have e_f16:=f16.out;have e_f33:=f33.out;have e_f93:=f93.out;rfl))
            | false =>
              have f97:=Lib.hid (of_decide_eq_true (bnf Hc92.out))
              go_upto_region 13 with fail
              refine wpG_region_k (fun K hK=>?_)
              refine @wpG_tk _ _ _ _ _ (some 74) (.agg #[B.a, B.b, B.c, B.d, B.e, B.f, .slice A n c]) _ _ rfl (.load_mid (by rfl) 28 (.tmp 3) rfl g4 0 rfl [B.a, B.b, B.c, B.d, B.e, B.f, .slice A n c] _ (fun W hg=>(S91.out.gr hg).range 5 rfl 0 7 rfl) Tryd.underlying28 rfl (by kernel_rfl)) ?_
              simp only [n1,n3,n4]
              refine @wpG_tk _ _ _ _ _ (some 75) (.agg #[F.a, F.b, F.c, F.d, F.e, F.f]) _ _ rfl (.load_mid (by rfl) 25 (.tmp 4) rfl g9 0 rfl [F.a, F.b, F.c, F.d, F.e, F.f] _ (fun W hg=>(S91.out.gr hg).range 4 rfl 0 6 rfl) Tryd.underlying25 rfl (by kernel_rfl)) ?_
              simp only [n1,n3,n4]
              refine wpG_call (some 76) 17 #[.agg #[B.a, B.b, B.c, B.d, B.e, B.f, .slice A n c], .agg #[F.a, F.b, F.c, F.d, F.e, F.f]] rfl (by rfl) (fun W=>by go_simp) (fun W101 hg102=>?_)
              refine (crop_any B _ _ _ l F W101 (HGA.out.gr (S91.out.gr hg102).bel) (by have e_f16:=f16.out;have e_f33:=f33.out;have e_f97:=f97.out;exact (show Gm.vld B l by have h_:=e_f97;simpa using h_).ok)).mono ?_
              rintro e w103 ⟨A98,n99,c100,rfl,hS_⟩
              refine ⟨_,rfl, ?_⟩
              have hT_:=(S91.out.gr hg102).got hS_
              simp only [n1,n3,n4]
              have S104 : Hid (St w noB [own (.slice A98 n99 c100) 3 1 n99 (ic (Gm.paste (Gm.nB F 0) (Gm.nL F 0) B l)),blk g76 28 [((Gm.nB F m).a:Int), ((Gm.nB F m).b:Int), ((Gm.nB F m).c:Int), ((Gm.nB F m).d:Int), ((Gm.nB F m).e:Int), ((Gm.nB F m).f:Int), .slice A67 n68 c69],own (.slice A67 n68 c69) 3 1 n68 (ic (Gm.nL F m)),blk g57 28 [((Gm.nB F m).a:Int), ((Gm.nB F m).b:Int), ((Gm.nB F m).c:Int), ((Gm.nB F m).d:Int), ((Gm.nB F m).e:Int), ((Gm.nB F m).f:Int), .slice A48 n49 c50],own (.slice A48 n49 c50) 3 1 n49 (ic (Gm.nL F m)),blk g9 25 [F.a, F.b, F.c, F.d, F.e, F.f],blk g4 28 [B.a, B.b, B.c, B.d, B.e, B.f, .slice A n c]] w103):=Lib.hid hT_
              clear S91
              clear hT_ hS_ hg102
              refine @wpG_p _ _ _ _ _ (some 73) (.tuple #[.agg #[((Gm.nB F 0).a:Int), ((Gm.nB F 0).b:Int), ((Gm.nB F 0).c:Int), ((Gm.nB F 0).d:Int), ((Gm.nB F 0).e:Int), ((Gm.nB F 0).f:Int), .slice A98 n99 c100], (Gm.nE F 0)]) _ _ rfl (by rfl) (fun _=>rfl) ?_
              simp only [n1,n3,n4]
              refine @wpG_p _ _ _ _ _ (some 77) (.agg #[((Gm.nB F 0).a:Int), ((Gm.nB F 0).b:Int), ((Gm.nB F 0).c:Int), ((Gm.nB F 0).d:Int), ((Gm.nB F 0).e:Int), ((Gm.nB F 0).f:Int), .slice A98 n99 c100]) _ _ rfl (by rfl) (fun W=>by go_simp) ?_
              simp only [n1,n3,n4]
              refine @wpG_p _ _ _ _ _ (some 78) (Gm.nE F 0) _ _ rfl (by rfl) (fun W=>by go_simp) ?_
              simp only [n1,n3,n4]
              refine wpG_val (some 13) rfl (by rfl) (fun W105 hg106=>⟨.pointer (some ⟨W105.heap.size,0,none⟩),W105.alloc (.cells #[(), (), (), (), (), (), .slice none 0 0] 28),by (first | (go_simp;done) | (go_simp <;> rfl)), ?_⟩)
              simp only [n1,n3,n4]
              obtain ⟨g107,U108,hg_,hu_,hS_⟩:=(S104.out.gr hg106).made [(), (), (), (), (), (), .slice none 0 0] 28
              rw [← hu_,← hg_]
              have S109 : Hid (St w noB [blk g107 28 [(), (), (), (), (), (), .slice none 0 0],own (.slice A98 n99 c100) 3 1 n99 (ic (Gm.paste (Gm.nB F 0) (Gm.nL F 0) B l)),blk g76 28 [((Gm.nB F m).a:Int), ((Gm.nB F m).b:Int), ((Gm.nB F m).c:Int), ((Gm.nB F m).d:Int), ((Gm.nB F m).e:Int), ((Gm.nB F m).f:Int), .slice A67 n68 c69],own (.slice A67 n68 c69) 3 1 n68 (ic (Gm.nL F m)),blk g57 28 [((Gm.nB F m).a:Int), ((Gm.nB F m).b:Int), ((Gm.nB F m).c:Int), ((Gm.nB F m).d:Int), ((Gm.nB F m).e:Int), ((Gm.nB F m).f:Int), .slice A48 n49 c50],own (.slice A48 n49 c50) 3 1 n49 (ic (Gm.nL F m)),blk g9 25 [F.a, F.b, F.c, F.d, F.e, F.f],blk g4 28 [B.a, B.b, B.c, B.d, B.e, B.f, .slice A n c]] U108):=Lib.hid hS_
              clear S104
              clear hg_ hu_ hS_ hg106
              refine wpG_store (none) rfl (by rfl) (fun W110 hg111=>⟨_,run_store_mid 28 (.tmp 13) (.tmp 77) rfl g107 0 #[((Gm.nB F 0).a:Int), ((Gm.nB F 0).b:Int), ((Gm.nB F 0).c:Int), ((Gm.nB F 0).d:Int), ((Gm.nB F 0).e:Int), ((Gm.nB F 0).f:Int), .slice A98 n99 c100] rfl rfl ((S109.out.gr hg111).room 0 rfl 0 7 (by simp)) (by kernel_rfl) (by kernel_rfl), ?_⟩)
              simp only [n2]
              obtain ⟨U112,hu_,hS_⟩:=((S109.out.gr hg111).put 0 rfl 0 (#[((Gm.nB F 0).a:Int), ((Gm.nB F 0).b:Int), ((Gm.nB F 0).c:Int), ((Gm.nB F 0).d:Int), ((Gm.nB F 0).e:Int), ((Gm.nB F 0).f:Int), .slice A98 n99 c100] : Array Value).toList (ds:=[((Gm.nB F 0).a:Int), ((Gm.nB F 0).b:Int), ((Gm.nB F 0).c:Int), ((Gm.nB F 0).d:Int), ((Gm.nB F 0).e:Int), ((Gm.nB F 0).f:Int), .slice A98 n99 c100]) rfl).named
              rw [← hu_]
              have S113 : Hid (St w noB [blk g107 28 [((Gm.nB F 0).a:Int), ((Gm.nB F 0).b:Int), ((Gm.nB F 0).c:Int), ((Gm.nB F 0).d:Int), ((Gm.nB F 0).e:Int), ((Gm.nB F 0).f:Int), .slice A98 n99 c100],own (.slice A98 n99 c100) 3 1 n99 (ic (Gm.paste (Gm.nB F 0) (Gm.nL F 0) B l)),blk g76 28 [((Gm.nB F m).a:Int), ((Gm.nB F m).b:Int), ((Gm.nB F m).c:Int), ((Gm.nB F m).d:Int), ((Gm.nB F m).e:Int), ((Gm.nB F m).f:Int), .slice A67 n68 c69],own (.slice A67 n68 c69) 3 1 n68 (ic (Gm.nL F m)),blk g57 28 [((Gm.nB F m).a:Int), ((Gm.nB F m).b:Int), ((Gm.nB F m).c:Int), ((Gm.nB F m).d:Int), ((Gm.nB F m).e:Int), ((Gm.nB F m).f:Int), .slice A48 n49 c50],own (.slice A48 n49 c50) 3 1 n49 (ic (Gm.nL F m)),blk g9 25 [F.a, F.b, F.c, F.d, F.e, F.f],blk g4 28 [B.a, B.b, B.c, B.d, B.e, B.f, .slice A n c]] U112):=Lib.hid hS_
              clear S109
              clear hu_ hS_ hg111
              refine @wpG_p _ _ _ _ _ (some 14) (Gm.nE F 0) _ _ rfl (by rfl) (fun _=>rfl) ?_
              simp only [n1,n3,n4]
              refine wpG_done (fun V114 hv115=>?_)
              have S116 : Hid (St w noB [blk g107 28 [((Gm.nB F 0).a:Int), ((Gm.nB F 0).b:Int), ((Gm.nB F 0).c:Int), ((Gm.nB F 0).d:Int), ((Gm.nB F 0).e:Int), ((Gm.nB F 0).f:Int), .slice A98 n99 c100],own (.slice A98 n99 c100) 3 1 n99 (ic (Gm.paste (Gm.nB F 0) (Gm.nL F 0) B l)),blk g76 28 [((Gm.nB F m).a:Int), ((Gm.nB F m).b:Int), ((Gm.nB F m).c:Int), ((Gm.nB F m).d:Int), ((Gm.nB F m).e:Int), ((Gm.nB F m).f:Int), .slice A67 n68 c69],own (.slice A67 n68 c69) 3 1 n68 (ic (Gm.nL F m)),blk g57 28 [((Gm.nB F m).a:Int), ((Gm.nB F m).b:Int), ((Gm.nB F m).c:Int), ((Gm.nB F m).d:Int), ((Gm.nB F m).e:Int), ((Gm.nB F m).f:Int), .slice A48 n49 c50],own (.slice A48 n49 c50) 3 1 n49 (ic (Gm.nL F m)),blk g9 25 [F.a, F.b, F.c, F.d, F.e, F.f],blk g4 28 [B.a, B.b, B.c, B.d, B.e, B.f, .slice A n c]] V114):=Lib.hid (S113.out.gr hv115)
              clear S113
              clear hv115
              refine ⟨rfl,hK _ _ ?_⟩
              clear hK
              go_upto_region 14 with fail
              refine wpG_region_k (fun K hK=>?_)
              refine @wpG_tk _ _ _ _ _ (some 80) (.agg #[B.a, B.b, B.c, B.d, B.e, B.f, .slice A n c]) _ _ rfl (.load_mid (by rfl) 28 (.tmp 3) rfl g4 0 rfl [B.a, B.b, B.c, B.d, B.e, B.f, .slice A n c] _ (fun W hg=>(S116.out.gr hg).range 7 rfl 0 7 rfl) Tryd.underlying28 rfl (by kernel_rfl)) ?_
              simp only [n1,n3,n4]
              refine @wpG_tk _ _ _ _ _ (some 81) (.agg #[F.a, F.b, F.c, F.d, F.e, F.f]) _ _ rfl (.load_mid (by rfl) 25 (.tmp 4) rfl g9 0 rfl [F.a, F.b, F.c, F.d, F.e, F.f] _ (fun W hg=>(S116.out.gr hg).range 6 rfl 0 6 rfl) Tryd.underlying25 rfl (by kernel_rfl)) ?_
              simp only [n1,n3,n4]
              refine wpG_call (some 82) 18 #[.agg #[B.a, B.b, B.c, B.d, B.e, B.f, .slice A n c], .agg #[F.a, F.b, F.c, F.d, F.e, F.f]] rfl (by rfl) (fun W=>by go_simp) (fun W120 hg121=>?_)
              refine (rcrop_any B _ _ _ l F W120 (HGA.out.gr (S116.out.gr hg121).bel) (by have e_f16:=f16.out;have e_f33:=f33.out;have e_f97:=f97.out;exact (show Gm.vld B l by have h_:=e_f97;simpa using h_).ok)).mono ?_
              rintro e w122 ⟨A117,n118,c119,rfl,hS_⟩
              refine ⟨_,rfl, ?_⟩
              have hT_:=(S116.out.gr hg121).got hS_
              simp only [n1,n3,n4]
              have S123 : Hid (St w noB [own (.slice A117 n118 c119) 3 1 n118 (ic (Gm.paste (Gm.nB F 0) (Gm.nL F 0) B l)),blk g107 28 [((Gm.nB F 0).a:Int), ((Gm.nB F 0).b:Int), ((Gm.nB F 0).c:Int), ((Gm.nB F 0).d:Int), ((Gm.nB F 0).e:Int), ((Gm.nB F 0).f:Int), .slice A98 n99 c100],own (.slice A98 n99 c100) 3 1 n99 (ic (Gm.paste (Gm.nB F 0) (Gm.nL F 0) B l)),blk g76 28 [((Gm.nB F m).a:Int), ((Gm.nB F m).b:Int), ((Gm.nB F m).c:Int), ((Gm.nB F m).d:Int), ((Gm.nB F m).e:Int), ((Gm.nB F m).f:Int), .slice A67 n68 c69],own (.slice A67 n68 c69) 3 1 n68 (ic (Gm.nL F m)),blk g57 28 [((Gm.nB F m).a:Int), ((Gm.nB F m).b:Int), ((Gm.nB F m).c:Int), ((Gm.nB F m).d:Int), ((Gm.nB F m).e:Int), ((Gm.nB F m).f:Int), .slice A48 n49 c50],own (.slice A48 n49 c50) 3 1 n49 (ic (Gm.nL F m)),blk g9 25 [F.a, F.b, F.c, F.d, F.e, F.f],blk g4 28 [B.a, B.b, B.c, B.d, B.e, B.f, .slice A n c]] w122):=Lib.hid hT_
              clear S116
              clear hT_ hS_ hg121
              refine @wpG_p _ _ _ _ _ (some 79) (.tuple #[.agg #[((Gm.nB F 0).a:Int), ((Gm.nB F 0).b:Int), ((Gm.nB F 0).c:Int), ((Gm.nB F 0).d:Int), ((Gm.nB F 0).e:Int), ((Gm.nB F 0).f:Int), .slice A117 n118 c119], (Gm.nE F 0)]) _ _ rfl (by rfl) (fun _=>rfl) ?_
              simp only [n1,n3,n4]
              refine @wpG_p _ _ _ _ _ (some 83) (.agg #[((Gm.nB F 0).a:Int), ((Gm.nB F 0).b:Int), ((Gm.nB F 0).c:Int), ((Gm.nB F 0).d:Int), ((Gm.nB F 0).e:Int), ((Gm.nB F 0).f:Int), .slice A117 n118 c119]) _ _ rfl (by rfl) (fun W=>by go_simp) ?_
              simp only [n1,n3,n4]
              refine @wpG_p _ _ _ _ _ (some 84) (Gm.nE F 0) _ _ rfl (by rfl) (fun W=>by go_simp) ?_
              simp only [n1,n3,n4]
              refine wpG_val (some 15) rfl (by rfl) (fun W124 hg125=>⟨.pointer (some ⟨W124.heap.size,0,none⟩),W124.alloc (.cells #[(), (), (), (), (), (), .slice none 0 0] 28),by (first | (go_simp;done) | (go_simp <;> rfl)), ?_⟩)
              simp only [n1,n3,n4]
              obtain ⟨g126,U127,hg_,hu_,hS_⟩:=(S123.out.gr hg125).made [(), (), (), (), (), (), .slice none 0 0] 28
              rw [← hu_,← hg_]
              have S128 : Hid (St w noB [blk g126 28 [(), (), (), (), (), (), .slice none 0 0],own (.slice A117 n118 c119) 3 1 n118 (ic (Gm.paste (Gm.nB F 0) (Gm.nL F 0) B l)),blk g107 28 [((Gm.nB F 0).a:Int), ((Gm.nB F 0).b:Int), ((Gm.nB F 0).c:Int), ((Gm.nB F 0).d:Int), ((Gm.nB F 0).e:Int), ((Gm.nB F 0).f:Int), .slice A98 n99 c100],own (.slice A98 n99 c100) 3 1 n99 (ic (Gm.paste (Gm.nB F 0) (Gm.nL F 0) B l)),blk g76 28 [((Gm.nB F m).a:Int), ((Gm.nB F m).b:Int), ((Gm.nB F m).c:Int), ((Gm.nB F m).d:Int), ((Gm.nB F m).e:Int), ((Gm.nB F m).f:Int), .slice A67 n68 c69],own (.slice A67 n68 c69) 3 1 n68 (ic (Gm.nL F m)),blk g57 28 [((Gm.nB F m).a:Int), ((Gm.nB F m).b:Int), ((Gm.nB F m).c:Int), ((Gm.nB F m).d:Int), ((Gm.nB F m).e:Int), ((Gm.nB F m).f:Int), .slice A48 n49 c50],own (.slice A48 n49 c50) 3 1 n49 (ic (Gm.nL F m)),blk g9 25 [F.a, F.b, F.c, F.d, F.e, F.f],blk g4 28 [B.a, B.b, B.c, B.d, B.e, B.f, .slice A n c]] U127):=Lib.hid hS_
              clear S123
              clear hg_ hu_ hS_ hg125
              refine wpG_store (none) rfl (by rfl) (fun W129 hg130=>⟨_,run_store_mid 28 (.tmp 15) (.tmp 83) rfl g126 0 #[((Gm.nB F 0).a:Int), ((Gm.nB F 0).b:Int), ((Gm.nB F 0).c:Int), ((Gm.nB F 0).d:Int), ((Gm.nB F 0).e:Int), ((Gm.nB F 0).f:Int), .slice A117 n118 c119] rfl rfl ((S128.out.gr hg130).room 0 rfl 0 7 (by simp)) (by kernel_rfl) (by kernel_rfl), ?_⟩)
              simp only [n2]
              obtain ⟨U131,hu_,hS_⟩:=((S128.out.gr hg130).put 0 rfl 0 (#[((Gm.nB F 0).a:Int), ((Gm.nB F 0).b:Int), ((Gm.nB F 0).c:Int), ((Gm.nB F 0).d:Int), ((Gm.nB F 0).e:Int), ((Gm.nB F 0).f:Int), .slice A117 n118 c119] : Array Value).toList (ds:=[((Gm.nB F 0).a:Int), ((Gm.nB F 0).b:Int), ((Gm.nB F 0).c:Int), ((Gm.nB F 0).d:Int), ((Gm.nB F 0).e:Int), ((Gm.nB F 0).f:Int), .slice A117 n118 c119]) rfl).named
              rw [← hu_]
              have S132 : Hid (St w noB [blk g126 28 [((Gm.nB F 0).a:Int), ((Gm.nB F 0).b:Int), ((Gm.nB F 0).c:Int), ((Gm.nB F 0).d:Int), ((Gm.nB F 0).e:Int), ((Gm.nB F 0).f:Int), .slice A117 n118 c119],own (.slice A117 n118 c119) 3 1 n118 (ic (Gm.paste (Gm.nB F 0) (Gm.nL F 0) B l)),blk g107 28 [((Gm.nB F 0).a:Int), ((Gm.nB F 0).b:Int), ((Gm.nB F 0).c:Int), ((Gm.nB F 0).d:Int), ((Gm.nB F 0).e:Int), ((Gm.nB F 0).f:Int), .slice A98 n99 c100],own (.slice A98 n99 c100) 3 1 n99 (ic (Gm.paste (Gm.nB F 0) (Gm.nL F 0) B l)),blk g76 28 [((Gm.nB F m).a:Int), ((Gm.nB F m).b:Int), ((Gm.nB F m).c:Int), ((Gm.nB F m).d:Int), ((Gm.nB F m).e:Int), ((Gm.nB F m).f:Int), .slice A67 n68 c69],own (.slice A67 n68 c69) 3 1 n68 (ic (Gm.nL F m)),blk g57 28 [((Gm.nB F m).a:Int), ((Gm.nB F m).b:Int), ((Gm.nB F m).c:Int), ((Gm.nB F m).d:Int), ((Gm.nB F m).e:Int), ((Gm.nB F m).f:Int), .slice A48 n49 c50],own (.slice A48 n49 c50) 3 1 n49 (ic (Gm.nL F m)),blk g9 25 [F.a, F.b, F.c, F.d, F.e, F.f],blk g4 28 [B.a, B.b, B.c, B.d, B.e, B.f, .slice A n c]] U131):=Lib.hid hS_
              clear S128
              clear hu_ hS_ hg130
              refine @wpG_p _ _ _ _ _ (some 16) (Gm.nE F 0) _ _ rfl (by rfl) (fun _=>rfl) ?_
              simp only [n1,n3,n4]
              refine wpG_done (fun V133 hv134=>?_)
              have S135 : Hid (St w noB [blk g126 28 [((Gm.nB F 0).a:Int), ((Gm.nB F 0).b:Int), ((Gm.nB F 0).c:Int), ((Gm.nB F 0).d:Int), ((Gm.nB F 0).e:Int), ((Gm.nB F 0).f:Int), .slice A117 n118 c119],own (.slice A117 n118 c119) 3 1 n118 (ic (Gm.paste (Gm.nB F 0) (Gm.nL F 0) B l)),blk g107 28 [((Gm.nB F 0).a:Int), ((Gm.nB F 0).b:Int), ((Gm.nB F 0).c:Int), ((Gm.nB F 0).d:Int), ((Gm.nB F 0).e:Int), ((Gm.nB F 0).f:Int), .slice A98 n99 c100],own (.slice A98 n99 c100) 3 1 n99 (ic (Gm.paste (Gm.nB F 0) (Gm.nL F 0) B l)),blk g76 28 [((Gm.nB F m).a:Int), ((Gm.nB F m).b:Int), ((Gm.nB F m).c:Int), ((Gm.nB F m).d:Int), ((Gm.nB F m).e:Int), ((Gm.nB F m).f:Int), .slice A67 n68 c69],own (.slice A67 n68 c69) 3 1 n68 (ic (Gm.nL F m)),blk g57 28 [((Gm.nB F m).a:Int), ((Gm.nB F m).b:Int), ((Gm.nB F m).c:Int), ((Gm.nB F m).d:Int), ((Gm.nB F m).e:Int), ((Gm.nB F m).f:Int), .slice A48 n49 c50],own (.slice A48 n49 c50) 3 1 n49 (ic (Gm.nL F m)),blk g9 25 [F.a, F.b, F.c, F.d, F.e, F.f],blk g4 28 [B.a, B.b, B.c, B.d, B.e, B.f, .slice A n c]] V133):=Lib.hid (S132.out.gr hv134)
              clear S132
              clear hv134
              refine ⟨rfl,hK _ _ ?_⟩
              clear hK
              go_upto_region 15 with fail
              refine wpG_region_k (fun K hK=>?_)
              refine @wpG_tk _ _ _ _ _ (some 85) (.bool true) _ _ rfl (.call (f:=11) (args:=#[]) (by rfl) (fun W=>by go_simp) (fun W hg=>(HSAN.out W (S135.out.gr hg).bel))) ?_
              simp only [n1,n3,n4]
              refine @wpG_p _ _ _ _ _ (some 86) (.bool true) _ _ rfl (by rfl) (fun _=>rfl) ?_
              simp only [n1,n3,n4]
              refine @wpG_tk _ _ _ _ _ (some 87) (.agg #[((Gm.nB F 0).a:Int), ((Gm.nB F 0).b:Int), ((Gm.nB F 0).c:Int), ((Gm.nB F 0).d:Int), ((Gm.nB F 0).e:Int), ((Gm.nB F 0).f:Int), .slice A98 n99 c100]) _ _ rfl (.load_mid (by rfl) 28 (.tmp 13) rfl g107 0 rfl [((Gm.nB F 0).a:Int), ((Gm.nB F 0).b:Int), ((Gm.nB F 0).c:Int), ((Gm.nB F 0).d:Int), ((Gm.nB F 0).e:Int), ((Gm.nB F 0).f:Int), .slice A98 n99 c100] _ (fun W hg=>(S135.out.gr hg).range 2 rfl 0 7 rfl) Tryd.underlying28 rfl (by kernel_rfl)) ?_
              simp only [n1,n3,n4]
              refine @wpG_tk _ _ _ _ _ (some 88) (.agg #[((Gm.nB F 0).a:Int), ((Gm.nB F 0).b:Int), ((Gm.nB F 0).c:Int), ((Gm.nB F 0).d:Int), ((Gm.nB F 0).e:Int), ((Gm.nB F 0).f:Int), .slice A117 n118 c119]) _ _ rfl (.load_mid (by rfl) 28 (.tmp 15) rfl g126 0 rfl [((Gm.nB F 0).a:Int), ((Gm.nB F 0).b:Int), ((Gm.nB F 0).c:Int), ((Gm.nB F 0).d:Int), ((Gm.nB F 0).e:Int), ((Gm.nB F 0).f:Int), .slice A117 n118 c119] _ (fun W hg=>(S135.out.gr hg).range 0 rfl 0 7 rfl) Tryd.underlying28 rfl (by kernel_rfl)) ?_
              simp only [n1,n3,n4]
              refine @wpG_tk _ _ _ _ _ (some 89) (.bool true) _ _ rfl (.call (f:=16) (args:=#[.agg #[((Gm.nB F 0).a:Int), ((Gm.nB F 0).b:Int), ((Gm.nB F 0).c:Int), ((Gm.nB F 0).d:Int), ((Gm.nB F 0).e:Int), ((Gm.nB F 0).f:Int), .slice A98 n99 c100], .agg #[((Gm.nB F 0).a:Int), ((Gm.nB F 0).b:Int), ((Gm.nB F 0).c:Int), ((Gm.nB F 0).d:Int), ((Gm.nB F 0).e:Int), ((Gm.nB F 0).f:Int), .slice A117 n118 c119]]) (by rfl) (fun W=>by go_simp) (fun W hg=>((requal_any (Gm.nB F 0) _ _ _ (Gm.paste (Gm.nB F 0) (Gm.nL F 0) B l) (Gm.nB F 0) _ _ _ (Gm.paste (Gm.nB F 0) (Gm.nL F 0) B l) W (SL.ofOwn ((S135.out.gr hg).ownr 3 rfl)) (SL.ofOwn ((S135.out.gr hg).ownr 1 rfl))).mono (fun e w' h=>⟨h.1.trans (by rw [Gm.same_iff.2 ⟨rfl,rfl⟩]),h.2⟩)))) ?_
              simp only [n1,n3,n4]
              refine @wpG_p _ _ _ _ _ (some 90) (.bool true) _ _ rfl (by rfl) (fun W=>by go_simp) ?_
              simp only [n1,n3,n4]
              refine @wpG_p _ _ _ _ _ (some 91) (.bool true) _ _ rfl (by rfl) (fun _=>rfl) ?_
              simp only [n1,n3,n4]
              refine @wpG_p _ _ _ _ _ (some 92) (Gm.nE F 0) _ _ rfl (by rfl) (fun _=>rfl) ?_
              simp only [n1,n3,n4]
              refine @wpG_p _ _ _ _ _ (some 93) (Gm.nE F 0) _ _ rfl (by rfl) (fun _=>rfl) ?_
              simp only [n1,n3,n4]
              refine @wpG_p _ _ _ _ _ (some 94) (.bool true) _ _ rfl (by rfl) (fun W=>by go_simp) ?_
              simp only [n1,n3,n4]
              refine @wpG_p _ _ _ _ _ (some 95) (.bool true) _ _ rfl (by rfl) (fun W=>by go_simp) ?_
              simp only [n1,n3,n4]
              refine @wpG_p _ _ _ _ _ (some 6) (.bool true) _ _ rfl (by rfl) (fun _=>rfl) ?_
              simp only [n1,n3,n4]
              refine wpG_done (fun V136 hv137=>?_)
              have S138 : Hid (St w noB [blk g126 28 [((Gm.nB F 0).a:Int), ((Gm.nB F 0).b:Int), ((Gm.nB F 0).c:Int), ((Gm.nB F 0).d:Int), ((Gm.nB F 0).e:Int), ((Gm.nB F 0).f:Int), .slice A117 n118 c119],own (.slice A117 n118 c119) 3 1 n118 (ic (Gm.paste (Gm.nB F 0) (Gm.nL F 0) B l)),blk g107 28 [((Gm.nB F 0).a:Int), ((Gm.nB F 0).b:Int), ((Gm.nB F 0).c:Int), ((Gm.nB F 0).d:Int), ((Gm.nB F 0).e:Int), ((Gm.nB F 0).f:Int), .slice A98 n99 c100],own (.slice A98 n99 c100) 3 1 n99 (ic (Gm.paste (Gm.nB F 0) (Gm.nL F 0) B l)),blk g76 28 [((Gm.nB F m).a:Int), ((Gm.nB F m).b:Int), ((Gm.nB F m).c:Int), ((Gm.nB F m).d:Int), ((Gm.nB F m).e:Int), ((Gm.nB F m).f:Int), .slice A67 n68 c69],own (.slice A67 n68 c69) 3 1 n68 (ic (Gm.nL F m)),blk g57 28 [((Gm.nB F m).a:Int), ((Gm.nB F m).b:Int), ((Gm.nB F m).c:Int), ((Gm.nB F m).d:Int), ((Gm.nB F m).e:Int), ((Gm.nB F m).f:Int), .slice A48 n49 c50],own (.slice A48 n49 c50) 3 1 n49 (ic (Gm.nL F m)),blk g9 25 [F.a, F.b, F.c, F.d, F.e, F.f],blk g4 28 [B.a, B.b, B.c, B.d, B.e, B.f, .slice A n c]] V136):=Lib.hid (S135.out.gr hv137)
              clear S135
              clear hv137
              refine ⟨rfl,hK _ _ ?_⟩
              clear hK
              go_wp2_with fail
              go_ret
              refine ⟨?_,S138.out.bel⟩
              show Ending.returned (.bool true) = _
              (first | rfl | (have e_f16:=f16.out;have e_f33:=f33.out;have e_f97:=f97.out;rfl))
        | false =>
          have f139:=of_decide_eq_false Hc34.out.symm
          refine @wpG_no _ _ _ _ _ (some 38) _ _ rfl (by rfl) ?_
          simp only [n1,n3,n4]
          refine @wpG_no _ _ _ _ _ (some 39) _ _ rfl (by rfl) ?_
          simp only [n1,n3,n4]
          refine @wpG_p _ _ _ _ _ (some 40) (.bool false) _ _ rfl (by rfl) (fun W=>by go_simp) ?_
          simp only [n1,n3,n4]
          refine @wpG_p _ _ _ _ _ (some 41) (.bool false) _ _ rfl (by rfl) (fun W=>by go_simp) ?_
          simp only [n1,n3,n4]
          refine wpG_done (fun V140 hv141=>?_)
          have S142 : Hid (St w noB [blk g9 25 [F.a, F.b, F.c, F.d, F.e, F.f],blk g4 28 [B.a, B.b, B.c, B.d, B.e, B.f, .slice A n c]] V140):=Lib.hid (S22.out.gr hv141)
          clear S22
          clear hv141
          refine ⟨rfl,hK _ _ ?_⟩
          clear hK
          go_upto_region 5 with fail
          refine wpK_region_k (by kernel_rfl) (fun K hK=>?_)
          refine wpK_tk (i:=0) (some 43) (v:=.agg #[B.a, B.b, B.c, B.d, B.e, B.f, .slice A n c]) rfl rfl (by kernel_rfl) (fun _ _ _ h=>onN_panic h) (.load_mid (by rfl) 28 (.tmp 3) rfl g4 0 rfl [B.a, B.b, B.c, B.d, B.e, B.f, .slice A n c] _ (fun W hg=>(S142.out.gr (Gr.un hg)).range 1 rfl 0 7 rfl) Tryd.underlying28 rfl (by kernel_rfl)) ?_
          simp only [n1,n3,n4]
          refine wpK_tk (i:=1) (some 44) (v:=.bool (decide (Gm.vld B l))) rfl rfl (by kernel_rfl) (fun _ _ _ h=>onN_panic h) (.call (f:=12) (args:=#[.agg #[B.a, B.b, B.c, B.d, B.e, B.f, .slice A n c]]) (by rfl) (fun W=>by go_simp) (fun W hg=>valid_any B _ _ _ l W (HGA.out.gr (S142.out.gr (Gr.un hg)).bel))) ?_
          simp only [n1,n3,n4]
          refine wpK_tk (i:=2) (some 45) (v:=.agg #[B.a, B.b, B.c, B.d, B.e, B.f, .slice A n c]) rfl rfl (by kernel_rfl) (fun _ _ _ h=>onN_panic h) (.load_mid (by rfl) 28 (.tmp 3) rfl g4 0 rfl [B.a, B.b, B.c, B.d, B.e, B.f, .slice A n c] _ (fun W hg=>(S142.out.gr (Gr.un hg)).range 1 rfl 0 7 rfl) Tryd.underlying28 rfl (by kernel_rfl)) ?_
          simp only [n1,n3,n4]
          refine wpK_tk (i:=3) (some 46) (v:=.bool (decide (Gm.vld B l))) rfl rfl (by kernel_rfl) (fun _ _ _ h=>onN_panic h) (.call (f:=13) (args:=#[.agg #[B.a, B.b, B.c, B.d, B.e, B.f, .slice A n c]]) (by rfl) (fun W=>by go_simp) (fun W hg=>rvalid_any B _ _ _ l W (HGA.out.gr (S142.out.gr (Gr.un hg)).bel))) ?_
          simp only [n1,n3,n4]
          refine wpK_ta (i:=4) (some 47) (v:=.bool false) rfl rfl (by kernel_rfl) (fun _ _ _ h=>onN_panic h) (Or.inl ⟨by rfl,fun W=>by first | (go_simp;done) | (skip <;> rfl) | (skip <;> go_simp)⟩) ?_
          simp only [n1,n3,n4]
          refine wpK_done (by kernel_rfl) (fun V143 hv144=>?_) _
          have S145 : Hid (St w noB [blk g9 25 [F.a, F.b, F.c, F.d, F.e, F.f],blk g4 28 [B.a, B.b, B.c, B.d, B.e, B.f, .slice A n c]] V143):=Lib.hid (S142.out.gr (Gr.un hv144))
          clear S142
          clear hv144
          refine ⟨rfl,hK _ _ ?_⟩
          clear hK
          go_upto_region 7 with fail
          refine wpG_region_k (fun K hK=>?_)
          refine @wpG_tk _ _ _ _ _ (some 49) (.agg #[F.a, F.b, F.c, F.d, F.e, F.f]) _ _ rfl (.load_mid (by rfl) 25 (.tmp 4) rfl g9 0 rfl [F.a, F.b, F.c, F.d, F.e, F.f] _ (fun W hg=>(S145.out.gr hg).range 0 rfl 0 6 rfl) Tryd.underlying25 rfl (by kernel_rfl)) ?_
          simp only [n1,n3,n4]
          refine @wpG_p _ _ _ _ _ (some 50) m _ _ rfl (by rfl) (fun _=>rfl) ?_
          simp only [n1,n3,n4]
          refine wpG_call (some 51) 14 #[.agg #[F.a, F.b, F.c, F.d, F.e, F.f], m] rfl (by rfl) (fun W=>by go_simp) (fun W149 hg150=>?_)
          refine (new_any F m W149).mono ?_
          rintro e w151 ⟨A146,n147,c148,rfl,hS_⟩
          refine ⟨_,rfl, ?_⟩
          have hT_:=(S145.out.gr hg150).got hS_
          simp only [n1,n3,n4]
          have S152 : Hid (St w noB [own (.slice A146 n147 c148) 3 1 n147 (ic (Gm.nL F m)),blk g9 25 [F.a, F.b, F.c, F.d, F.e, F.f],blk g4 28 [B.a, B.b, B.c, B.d, B.e, B.f, .slice A n c]] w151):=Lib.hid hT_
          clear S145
          clear hT_ hS_ hg150
          refine @wpG_p _ _ _ _ _ (some 48) (.tuple #[.agg #[((Gm.nB F m).a:Int), ((Gm.nB F m).b:Int), ((Gm.nB F m).c:Int), ((Gm.nB F m).d:Int), ((Gm.nB F m).e:Int), ((Gm.nB F m).f:Int), .slice A146 n147 c148], (Gm.nE F m)]) _ _ rfl (by rfl) (fun _=>rfl) ?_
          simp only [n1,n3,n4]
          refine @wpG_p _ _ _ _ _ (some 52) (.agg #[((Gm.nB F m).a:Int), ((Gm.nB F m).b:Int), ((Gm.nB F m).c:Int), ((Gm.nB F m).d:Int), ((Gm.nB F m).e:Int), ((Gm.nB F m).f:Int), .slice A146 n147 c148]) _ _ rfl (by rfl) (fun W=>by go_simp) ?_
          simp only [n1,n3,n4]
          refine @wpG_p _ _ _ _ _ (some 53) (Gm.nE F m) _ _ rfl (by rfl) (fun W=>by go_simp) ?_
          simp only [n1,n3,n4]
          refine wpG_val (some 9) rfl (by rfl) (fun W153 hg154=>⟨.pointer (some ⟨W153.heap.size,0,none⟩),W153.alloc (.cells #[(), (), (), (), (), (), .slice none 0 0] 28),by (first | (go_simp;done) | (go_simp <;> rfl)), ?_⟩)
          simp only [n1,n3,n4]
          obtain ⟨g155,U156,hg_,hu_,hS_⟩:=(S152.out.gr hg154).made [(), (), (), (), (), (), .slice none 0 0] 28
          rw [← hu_,← hg_]
          have S157 : Hid (St w noB [blk g155 28 [(), (), (), (), (), (), .slice none 0 0],own (.slice A146 n147 c148) 3 1 n147 (ic (Gm.nL F m)),blk g9 25 [F.a, F.b, F.c, F.d, F.e, F.f],blk g4 28 [B.a, B.b, B.c, B.d, B.e, B.f, .slice A n c]] U156):=Lib.hid hS_
          clear S152
          clear hg_ hu_ hS_ hg154
          refine wpG_store (none) rfl (by rfl) (fun W158 hg159=>⟨_,run_store_mid 28 (.tmp 9) (.tmp 52) rfl g155 0 #[((Gm.nB F m).a:Int), ((Gm.nB F m).b:Int), ((Gm.nB F m).c:Int), ((Gm.nB F m).d:Int), ((Gm.nB F m).e:Int), ((Gm.nB F m).f:Int), .slice A146 n147 c148] rfl rfl ((S157.out.gr hg159).room 0 rfl 0 7 (by simp)) (by kernel_rfl) (by kernel_rfl), ?_⟩)
          simp only [n2]
          obtain ⟨U160,hu_,hS_⟩:=((S157.out.gr hg159).put 0 rfl 0 (#[((Gm.nB F m).a:Int), ((Gm.nB F m).b:Int), ((Gm.nB F m).c:Int), ((Gm.nB F m).d:Int), ((Gm.nB F m).e:Int), ((Gm.nB F m).f:Int), .slice A146 n147 c148] : Array Value).toList (ds:=[((Gm.nB F m).a:Int), ((Gm.nB F m).b:Int), ((Gm.nB F m).c:Int), ((Gm.nB F m).d:Int), ((Gm.nB F m).e:Int), ((Gm.nB F m).f:Int), .slice A146 n147 c148]) rfl).named
          rw [← hu_]
          have S161 : Hid (St w noB [blk g155 28 [((Gm.nB F m).a:Int), ((Gm.nB F m).b:Int), ((Gm.nB F m).c:Int), ((Gm.nB F m).d:Int), ((Gm.nB F m).e:Int), ((Gm.nB F m).f:Int), .slice A146 n147 c148],own (.slice A146 n147 c148) 3 1 n147 (ic (Gm.nL F m)),blk g9 25 [F.a, F.b, F.c, F.d, F.e, F.f],blk g4 28 [B.a, B.b, B.c, B.d, B.e, B.f, .slice A n c]] U160):=Lib.hid hS_
          clear S157
          clear hu_ hS_ hg159
          refine @wpG_p _ _ _ _ _ (some 10) (Gm.nE F m) _ _ rfl (by rfl) (fun _=>rfl) ?_
          simp only [n1,n3,n4]
          refine wpG_done (fun V162 hv163=>?_)
          have S164 : Hid (St w noB [blk g155 28 [((Gm.nB F m).a:Int), ((Gm.nB F m).b:Int), ((Gm.nB F m).c:Int), ((Gm.nB F m).d:Int), ((Gm.nB F m).e:Int), ((Gm.nB F m).f:Int), .slice A146 n147 c148],own (.slice A146 n147 c148) 3 1 n147 (ic (Gm.nL F m)),blk g9 25 [F.a, F.b, F.c, F.d, F.e, F.f],blk g4 28 [B.a, B.b, B.c, B.d, B.e, B.f, .slice A n c]] V162):=Lib.hid (S161.out.gr hv163)
          clear S161
          clear hv163
          refine ⟨rfl,hK _ _ ?_⟩
          clear hK
          go_upto_region 8 with fail
          refine wpG_region_k (fun K hK=>?_)
          refine @wpG_tk _ _ _ _ _ (some 55) (.agg #[F.a, F.b, F.c, F.d, F.e, F.f]) _ _ rfl (.load_mid (by rfl) 25 (.tmp 4) rfl g9 0 rfl [F.a, F.b, F.c, F.d, F.e, F.f] _ (fun W hg=>(S164.out.gr hg).range 2 rfl 0 6 rfl) Tryd.underlying25 rfl (by kernel_rfl)) ?_
          simp only [n1,n3,n4]
          refine @wpG_p _ _ _ _ _ (some 56) m _ _ rfl (by rfl) (fun _=>rfl) ?_
          simp only [n1,n3,n4]
          refine wpG_call (some 57) 15 #[.agg #[F.a, F.b, F.c, F.d, F.e, F.f], m] rfl (by rfl) (fun W=>by go_simp) (fun W168 hg169=>?_)
          refine (rnew_any F m W168).mono ?_
          rintro e w170 ⟨A165,n166,c167,rfl,hS_⟩
          refine ⟨_,rfl, ?_⟩
          have hT_:=(S164.out.gr hg169).got hS_
          simp only [n1,n3,n4]
          have S171 : Hid (St w noB [own (.slice A165 n166 c167) 3 1 n166 (ic (Gm.nL F m)),blk g155 28 [((Gm.nB F m).a:Int), ((Gm.nB F m).b:Int), ((Gm.nB F m).c:Int), ((Gm.nB F m).d:Int), ((Gm.nB F m).e:Int), ((Gm.nB F m).f:Int), .slice A146 n147 c148],own (.slice A146 n147 c148) 3 1 n147 (ic (Gm.nL F m)),blk g9 25 [F.a, F.b, F.c, F.d, F.e, F.f],blk g4 28 [B.a, B.b, B.c, B.d, B.e, B.f, .slice A n c]] w170):=Lib.hid hT_
          clear S164
          clear hT_ hS_ hg169
          refine @wpG_p _ _ _ _ _ (some 54) (.tuple #[.agg #[((Gm.nB F m).a:Int), ((Gm.nB F m).b:Int), ((Gm.nB F m).c:Int), ((Gm.nB F m).d:Int), ((Gm.nB F m).e:Int), ((Gm.nB F m).f:Int), .slice A165 n166 c167], (Gm.nE F m)]) _ _ rfl (by rfl) (fun _=>rfl) ?_
          simp only [n1,n3,n4]
          refine @wpG_p _ _ _ _ _ (some 58) (.agg #[((Gm.nB F m).a:Int), ((Gm.nB F m).b:Int), ((Gm.nB F m).c:Int), ((Gm.nB F m).d:Int), ((Gm.nB F m).e:Int), ((Gm.nB F m).f:Int), .slice A165 n166 c167]) _ _ rfl (by rfl) (fun W=>by go_simp) ?_
          simp only [n1,n3,n4]
          refine @wpG_p _ _ _ _ _ (some 59) (Gm.nE F m) _ _ rfl (by rfl) (fun W=>by go_simp) ?_
          simp only [n1,n3,n4]
          refine wpG_val (some 11) rfl (by rfl) (fun W172 hg173=>⟨.pointer (some ⟨W172.heap.size,0,none⟩),W172.alloc (.cells #[(), (), (), (), (), (), .slice none 0 0] 28),by (first | (go_simp;done) | (go_simp <;> rfl)), ?_⟩)
          simp only [n1,n3,n4]
          obtain ⟨g174,U175,hg_,hu_,hS_⟩:=(S171.out.gr hg173).made [(), (), (), (), (), (), .slice none 0 0] 28
          rw [← hu_,← hg_]
          have S176 : Hid (St w noB [blk g174 28 [(), (), (), (), (), (), .slice none 0 0],own (.slice A165 n166 c167) 3 1 n166 (ic (Gm.nL F m)),blk g155 28 [((Gm.nB F m).a:Int), ((Gm.nB F m).b:Int), ((Gm.nB F m).c:Int), ((Gm.nB F m).d:Int), ((Gm.nB F m).e:Int), ((Gm.nB F m).f:Int), .slice A146 n147 c148],own (.slice A146 n147 c148) 3 1 n147 (ic (Gm.nL F m)),blk g9 25 [F.a, F.b, F.c, F.d, F.e, F.f],blk g4 28 [B.a, B.b, B.c, B.d, B.e, B.f, .slice A n c]] U175):=Lib.hid hS_
          clear S171
          clear hg_ hu_ hS_ hg173
          refine wpG_store (none) rfl (by rfl) (fun W177 hg178=>⟨_,run_store_mid 28 (.tmp 11) (.tmp 58) rfl g174 0 #[((Gm.nB F m).a:Int), ((Gm.nB F m).b:Int), ((Gm.nB F m).c:Int), ((Gm.nB F m).d:Int), ((Gm.nB F m).e:Int), ((Gm.nB F m).f:Int), .slice A165 n166 c167] rfl rfl ((S176.out.gr hg178).room 0 rfl 0 7 (by simp)) (by kernel_rfl) (by kernel_rfl), ?_⟩)
          simp only [n2]
          obtain ⟨U179,hu_,hS_⟩:=((S176.out.gr hg178).put 0 rfl 0 (#[((Gm.nB F m).a:Int), ((Gm.nB F m).b:Int), ((Gm.nB F m).c:Int), ((Gm.nB F m).d:Int), ((Gm.nB F m).e:Int), ((Gm.nB F m).f:Int), .slice A165 n166 c167] : Array Value).toList (ds:=[((Gm.nB F m).a:Int), ((Gm.nB F m).b:Int), ((Gm.nB F m).c:Int), ((Gm.nB F m).d:Int), ((Gm.nB F m).e:Int), ((Gm.nB F m).f:Int), .slice A165 n166 c167]) rfl).named
          rw [← hu_]
          have S180 : Hid (St w noB [blk g174 28 [((Gm.nB F m).a:Int), ((Gm.nB F m).b:Int), ((Gm.nB F m).c:Int), ((Gm.nB F m).d:Int), ((Gm.nB F m).e:Int), ((Gm.nB F m).f:Int), .slice A165 n166 c167],own (.slice A165 n166 c167) 3 1 n166 (ic (Gm.nL F m)),blk g155 28 [((Gm.nB F m).a:Int), ((Gm.nB F m).b:Int), ((Gm.nB F m).c:Int), ((Gm.nB F m).d:Int), ((Gm.nB F m).e:Int), ((Gm.nB F m).f:Int), .slice A146 n147 c148],own (.slice A146 n147 c148) 3 1 n147 (ic (Gm.nL F m)),blk g9 25 [F.a, F.b, F.c, F.d, F.e, F.f],blk g4 28 [B.a, B.b, B.c, B.d, B.e, B.f, .slice A n c]] U179):=Lib.hid hS_
          clear S176
          clear hu_ hS_ hg178
          refine @wpG_p _ _ _ _ _ (some 12) (Gm.nE F m) _ _ rfl (by rfl) (fun _=>rfl) ?_
          simp only [n1,n3,n4]
          refine wpG_done (fun V181 hv182=>?_)
          have S183 : Hid (St w noB [blk g174 28 [((Gm.nB F m).a:Int), ((Gm.nB F m).b:Int), ((Gm.nB F m).c:Int), ((Gm.nB F m).d:Int), ((Gm.nB F m).e:Int), ((Gm.nB F m).f:Int), .slice A165 n166 c167],own (.slice A165 n166 c167) 3 1 n166 (ic (Gm.nL F m)),blk g155 28 [((Gm.nB F m).a:Int), ((Gm.nB F m).b:Int), ((Gm.nB F m).c:Int), ((Gm.nB F m).d:Int), ((Gm.nB F m).e:Int), ((Gm.nB F m).f:Int), .slice A146 n147 c148],own (.slice A146 n147 c148) 3 1 n147 (ic (Gm.nL F m)),blk g9 25 [F.a, F.b, F.c, F.d, F.e, F.f],blk g4 28 [B.a, B.b, B.c, B.d, B.e, B.f, .slice A n c]] V181):=Lib.hid (S180.out.gr hv182)
          clear S180
          clear hv182
          refine ⟨rfl,hK _ _ ?_⟩
          clear hK
          go_upto_region 9 with fail
          refine wpG_region_k (fun K hK=>?_)
          refine @wpG_tk _ _ _ _ _ (some 60) (.agg #[((Gm.nB F m).a:Int), ((Gm.nB F m).b:Int), ((Gm.nB F m).c:Int), ((Gm.nB F m).d:Int), ((Gm.nB F m).e:Int), ((Gm.nB F m).f:Int), .slice A146 n147 c148]) _ _ rfl (.load_mid (by rfl) 28 (.tmp 9) rfl g155 0 rfl [((Gm.nB F m).a:Int), ((Gm.nB F m).b:Int), ((Gm.nB F m).c:Int), ((Gm.nB F m).d:Int), ((Gm.nB F m).e:Int), ((Gm.nB F m).f:Int), .slice A146 n147 c148] _ (fun W hg=>(S183.out.gr hg).range 2 rfl 0 7 rfl) Tryd.underlying28 rfl (by kernel_rfl)) ?_
          simp only [n1,n3,n4]
          refine @wpG_tk _ _ _ _ _ (some 61) (.agg #[((Gm.nB F m).a:Int), ((Gm.nB F m).b:Int), ((Gm.nB F m).c:Int), ((Gm.nB F m).d:Int), ((Gm.nB F m).e:Int), ((Gm.nB F m).f:Int), .slice A165 n166 c167]) _ _ rfl (.load_mid (by rfl) 28 (.tmp 11) rfl g174 0 rfl [((Gm.nB F m).a:Int), ((Gm.nB F m).b:Int), ((Gm.nB F m).c:Int), ((Gm.nB F m).d:Int), ((Gm.nB F m).e:Int), ((Gm.nB F m).f:Int), .slice A165 n166 c167] _ (fun W hg=>(S183.out.gr hg).range 0 rfl 0 7 rfl) Tryd.underlying28 rfl (by kernel_rfl)) ?_
          simp only [n1,n3,n4]
          refine @wpG_tk _ _ _ _ _ (some 62) (.bool true) _ _ rfl (.call (f:=16) (args:=#[.agg #[((Gm.nB F m).a:Int), ((Gm.nB F m).b:Int), ((Gm.nB F m).c:Int), ((Gm.nB F m).d:Int), ((Gm.nB F m).e:Int), ((Gm.nB F m).f:Int), .slice A146 n147 c148], .agg #[((Gm.nB F m).a:Int), ((Gm.nB F m).b:Int), ((Gm.nB F m).c:Int), ((Gm.nB F m).d:Int), ((Gm.nB F m).e:Int), ((Gm.nB F m).f:Int), .slice A165 n166 c167]]) (by rfl) (fun W=>by go_simp) (fun W hg=>((requal_any (Gm.nB F m) _ _ _ (Gm.nL F m) (Gm.nB F m) _ _ _ (Gm.nL F m) W (SL.ofOwn ((S183.out.gr hg).ownr 3 rfl)) (SL.ofOwn ((S183.out.gr hg).ownr 1 rfl))).mono (fun e w' h=>⟨h.1.trans (by rw [Gm.same_iff.2 ⟨rfl,rfl⟩]),h.2⟩)))) ?_
          simp only [n1,n3,n4]
          refine @wpG_p _ _ _ _ _ (some 63) (.bool false) _ _ rfl (by rfl) (fun W=>by first | (go_simp;done) | (cases true <;> rfl)) ?_
          simp only [n1,n3,n4]
          refine @wpG_p _ _ _ _ _ (some 64) (.bool false) _ _ rfl (by rfl) (fun _=>rfl) ?_
          simp only [n1,n3,n4]
          refine @wpG_p _ _ _ _ _ (some 65) (Gm.nE F m) _ _ rfl (by rfl) (fun _=>rfl) ?_
          simp only [n1,n3,n4]
          refine @wpG_p _ _ _ _ _ (some 66) (Gm.nE F m) _ _ rfl (by rfl) (fun _=>rfl) ?_
          simp only [n1,n3,n4]
          refine @wpG_p _ _ _ _ _ (some 67) (.bool false) _ _ rfl (by rfl) (fun W=>by go_simp) ?_
          simp only [n1,n3,n4]
          refine @wpG_p _ _ _ _ _ (some 68) (.bool false) _ _ rfl (by rfl) (fun W=>by go_simp) ?_
          simp only [n1,n3,n4]
          refine wpG_done (fun V184 hv185=>?_)
          have S186 : Hid (St w noB [blk g174 28 [((Gm.nB F m).a:Int), ((Gm.nB F m).b:Int), ((Gm.nB F m).c:Int), ((Gm.nB F m).d:Int), ((Gm.nB F m).e:Int), ((Gm.nB F m).f:Int), .slice A165 n166 c167],own (.slice A165 n166 c167) 3 1 n166 (ic (Gm.nL F m)),blk g155 28 [((Gm.nB F m).a:Int), ((Gm.nB F m).b:Int), ((Gm.nB F m).c:Int), ((Gm.nB F m).d:Int), ((Gm.nB F m).e:Int), ((Gm.nB F m).f:Int), .slice A146 n147 c148],own (.slice A146 n147 c148) 3 1 n147 (ic (Gm.nL F m)),blk g9 25 [F.a, F.b, F.c, F.d, F.e, F.f],blk g4 28 [B.a, B.b, B.c, B.d, B.e, B.f, .slice A n c]] V184):=Lib.hid (S183.out.gr hv185)
          clear S183
          clear hv185
          refine ⟨rfl,hK _ _ ?_⟩
          clear hK
          go_upto_region 11 with fail
          refine wpG_region_k (fun K hK=>?_)
          refine @wpG_tk _ _ _ _ _ (some 69) (.agg #[B.a, B.b, B.c, B.d, B.e, B.f, .slice A n c]) _ _ rfl (.load_mid (by rfl) 28 (.tmp 3) rfl g4 0 rfl [B.a, B.b, B.c, B.d, B.e, B.f, .slice A n c] _ (fun W hg=>(S186.out.gr hg).range 5 rfl 0 7 rfl) Tryd.underlying28 rfl (by kernel_rfl)) ?_
          simp only [n1,n3,n4]
          refine @wpG_tk _ _ _ _ _ (some 70) (.bool (decide (Gm.vld B l))) _ _ rfl (.call (f:=13) (args:=#[.agg #[B.a, B.b, B.c, B.d, B.e, B.f, .slice A n c]]) (by rfl) (fun W=>by go_simp) (fun W hg=>rvalid_any B _ _ _ l W (HGA.out.gr (S186.out.gr hg).bel))) ?_
          simp only [n1,n3,n4]
          refine @wpG_p _ _ _ _ _ (some 71) (.bool (!(decide (Gm.vld B l)))) _ _ rfl (by rfl) (fun W=>by go_simp) ?_
          simp only [n1,n3,n4]
          refine wpG_done (fun V187 hv188=>?_)
          have S189 : Hid (St w noB [blk g174 28 [((Gm.nB F m).a:Int), ((Gm.nB F m).b:Int), ((Gm.nB F m).c:Int), ((Gm.nB F m).d:Int), ((Gm.nB F m).e:Int), ((Gm.nB F m).f:Int), .slice A165 n166 c167],own (.slice A165 n166 c167) 3 1 n166 (ic (Gm.nL F m)),blk g155 28 [((Gm.nB F m).a:Int), ((Gm.nB F m).b:Int), ((Gm.nB F m).c:Int), ((Gm.nB F m).d:Int), ((Gm.nB F m).e:Int), ((Gm.nB F m).f:Int), .slice A146 n147 c148],own (.slice A146 n147 c148) 3 1 n147 (ic (Gm.nL F m)),blk g9 25 [F.a, F.b, F.c, F.d, F.e, F.f],blk g4 28 [B.a, B.b, B.c, B.d, B.e, B.f, .slice A n c]] V187):=Lib.hid (S186.out.gr hv188)
          clear S186
          clear hv188
          refine ⟨rfl,hK _ _ ?_⟩
          clear hK
          obtain ⟨c190,hc190⟩ : ∃ q_,q_ = (!(decide (Gm.vld B l))):=⟨_,rfl⟩
          rw [← hc190]
          have Hc190:=Lib.hid hc190
          clear hc190
          cases c190 with
          | true =>
            have f191:=Lib.hid (of_decide_eq_false (bnt Hc190.out))
            go_upto_region 12 with fail
            refine wpG_region_k (fun K hK=>?_)
            refine @wpG_tk _ _ _ _ _ (some 72) (.bool true) _ _ rfl (.call (f:=11) (args:=#[]) (by rfl) (fun W=>by go_simp) (fun W hg=>(HSAN.out W (S189.out.gr hg).bel))) ?_
            simp only [n1,n3,n4]
            refine @wpG_p _ _ _ _ _ (some 6) (.bool true) _ _ rfl (by rfl) (fun _=>rfl) ?_
            simp only [n1,n3,n4]
            refine wpG_done (fun V192 hv193=>?_)
            have S194 : Hid (St w noB [blk g174 28 [((Gm.nB F m).a:Int), ((Gm.nB F m).b:Int), ((Gm.nB F m).c:Int), ((Gm.nB F m).d:Int), ((Gm.nB F m).e:Int), ((Gm.nB F m).f:Int), .slice A165 n166 c167],own (.slice A165 n166 c167) 3 1 n166 (ic (Gm.nL F m)),blk g155 28 [((Gm.nB F m).a:Int), ((Gm.nB F m).b:Int), ((Gm.nB F m).c:Int), ((Gm.nB F m).d:Int), ((Gm.nB F m).e:Int), ((Gm.nB F m).f:Int), .slice A146 n147 c148],own (.slice A146 n147 c148) 3 1 n147 (ic (Gm.nL F m)),blk g9 25 [F.a, F.b, F.c, F.d, F.e, F.f],blk g4 28 [B.a, B.b, B.c, B.d, B.e, B.f, .slice A n c]] V192):=Lib.hid (S189.out.gr hv193)
            clear S189
            clear hv193
            refine ⟨rfl,hK _ _ ?_⟩
            clear hK
            go_wp2_with fail
            go_ret
            refine ⟨?_,S194.out.bel⟩
            show Ending.returned (.bool true) = _
            (first | rfl | (have e_f16:=f16.out;have e_f33:=f33.out;have e_f191:=f191.out;rfl))
          | false =>
            have f195:=Lib.hid (of_decide_eq_true (bnf Hc190.out))
            go_upto_region 13 with fail
            refine wpG_region_k (fun K hK=>?_)
            refine @wpG_tk _ _ _ _ _ (some 74) (.agg #[B.a, B.b, B.c, B.d, B.e, B.f, .slice A n c]) _ _ rfl (.load_mid (by rfl) 28 (.tmp 3) rfl g4 0 rfl [B.a, B.b, B.c, B.d, B.e, B.f, .slice A n c] _ (fun W hg=>(S189.out.gr hg).range 5 rfl 0 7 rfl) Tryd.underlying28 rfl (by kernel_rfl)) ?_
            simp only [n1,n3,n4]
            refine @wpG_tk _ _ _ _ _ (some 75) (.agg #[F.a, F.b, F.c, F.d, F.e, F.f]) _ _ rfl (.load_mid (by rfl) 25 (.tmp 4) rfl g9 0 rfl [F.a, F.b, F.c, F.d, F.e, F.f] _ (fun W hg=>(S189.out.gr hg).range 4 rfl 0 6 rfl) Tryd.underlying25 rfl (by kernel_rfl)) ?_
            simp only [n1,n3,n4]
            refine wpG_call (some 76) 17 #[.agg #[B.a, B.b, B.c, B.d, B.e, B.f, .slice A n c], .agg #[F.a, F.b, F.c, F.d, F.e, F.f]] rfl (by rfl) (fun W=>by go_simp) (fun W199 hg200=>?_)
            refine (crop_any B _ _ _ l F W199 (HGA.out.gr (S189.out.gr hg200).bel) (by have e_f16:=f16.out;have e_f33:=f33.out;have e_f195:=f195.out;exact (show Gm.vld B l by have h_:=e_f195;simpa using h_).ok)).mono ?_
            rintro e w201 ⟨A196,n197,c198,rfl,hS_⟩
            refine ⟨_,rfl, ?_⟩
            have hT_:=(S189.out.gr hg200).got hS_
            simp only [n1,n3,n4]
            have S202 : Hid (St w noB [own (.slice A196 n197 c198) 3 1 n197 (ic (Gm.paste (Gm.nB F 0) (Gm.nL F 0) B l)),blk g174 28 [((Gm.nB F m).a:Int), ((Gm.nB F m).b:Int), ((Gm.nB F m).c:Int), ((Gm.nB F m).d:Int), ((Gm.nB F m).e:Int), ((Gm.nB F m).f:Int), .slice A165 n166 c167],own (.slice A165 n166 c167) 3 1 n166 (ic (Gm.nL F m)),blk g155 28 [((Gm.nB F m).a:Int), ((Gm.nB F m).b:Int), ((Gm.nB F m).c:Int), ((Gm.nB F m).d:Int), ((Gm.nB F m).e:Int), ((Gm.nB F m).f:Int), .slice A146 n147 c148],own (.slice A146 n147 c148) 3 1 n147 (ic (Gm.nL F m)),blk g9 25 [F.a, F.b, F.c, F.d, F.e, F.f],blk g4 28 [B.a, B.b, B.c, B.d, B.e, B.f, .slice A n c]] w201):=Lib.hid hT_
            clear S189
            clear hT_ hS_ hg200
            refine @wpG_p _ _ _ _ _ (some 73) (.tuple #[.agg #[((Gm.nB F 0).a:Int), ((Gm.nB F 0).b:Int), ((Gm.nB F 0).c:Int), ((Gm.nB F 0).d:Int), ((Gm.nB F 0).e:Int), ((Gm.nB F 0).f:Int), .slice A196 n197 c198], (Gm.nE F 0)]) _ _ rfl (by rfl) (fun _=>rfl) ?_
            simp only [n1,n3,n4]
            refine @wpG_p _ _ _ _ _ (some 77) (.agg #[((Gm.nB F 0).a:Int), ((Gm.nB F 0).b:Int), ((Gm.nB F 0).c:Int), ((Gm.nB F 0).d:Int), ((Gm.nB F 0).e:Int), ((Gm.nB F 0).f:Int), .slice A196 n197 c198]) _ _ rfl (by rfl) (fun W=>by go_simp) ?_
            simp only [n1,n3,n4]
            refine @wpG_p _ _ _ _ _ (some 78) (Gm.nE F 0) _ _ rfl (by rfl) (fun W=>by go_simp) ?_
            simp only [n1,n3,n4]
            refine wpG_val (some 13) rfl (by rfl) (fun W203 hg204=>⟨.pointer (some ⟨W203.heap.size,0,none⟩),W203.alloc (.cells #[(), (), (), (), (), (), .slice none 0 0] 28),by (first | (go_simp;done) | (go_simp <;> rfl)), ?_⟩)
            simp only [n1,n3,n4]
            obtain ⟨g205,U206,hg_,hu_,hS_⟩:=(S202.out.gr hg204).made [(), (), (), (), (), (), .slice none 0 0] 28
            rw [← hu_,← hg_]
            have S207 : Hid (St w noB [blk g205 28 [(), (), (), (), (), (), .slice none 0 0],own (.slice A196 n197 c198) 3 1 n197 (ic (Gm.paste (Gm.nB F 0) (Gm.nL F 0) B l)),blk g174 28 [((Gm.nB F m).a:Int), ((Gm.nB F m).b:Int), ((Gm.nB F m).c:Int), ((Gm.nB F m).d:Int), ((Gm.nB F m).e:Int), ((Gm.nB F m).f:Int), .slice A165 n166 c167],own (.slice A165 n166 c167) 3 1 n166 (ic (Gm.nL F m)),blk g155 28 [((Gm.nB F m).a:Int), ((Gm.nB F m).b:Int), ((Gm.nB F m).c:Int), ((Gm.nB F m).d:Int), ((Gm.nB F m).e:Int), ((Gm.nB F m).f:Int), .slice A146 n147 c148],own (.slice A146 n147 c148) 3 1 n147 (ic (Gm.nL F m)),blk g9 25 [F.a, F.b, F.c, F.d, F.e, F.f],blk g4 28 [B.a, B.b, B.c, B.d, B.e, B.f, .slice A n c]] U206):=Lib.hid hS_
            clear S202
            clear hg_ hu_ hS_ hg204
            refine wpG_store (none) rfl (by rfl) (fun W208 hg209=>⟨_,run_store_mid 28 (.tmp 13) (.tmp 77) rfl g205 0 #[((Gm.nB F 0).a:Int), ((Gm.nB F 0).b:Int), ((Gm.nB F 0).c:Int), ((Gm.nB F 0).d:Int), ((Gm.nB F 0).e:Int), ((Gm.nB F 0).f:Int), .slice A196 n197 c198] rfl rfl ((S207.out.gr hg209).room 0 rfl 0 7 (by simp)) (by kernel_rfl) (by kernel_rfl), ?_⟩)
            simp only [n2]
            obtain ⟨U210,hu_,hS_⟩:=((S207.out.gr hg209).put 0 rfl 0 (#[((Gm.nB F 0).a:Int), ((Gm.nB F 0).b:Int), ((Gm.nB F 0).c:Int), ((Gm.nB F 0).d:Int), ((Gm.nB F 0).e:Int), ((Gm.nB F 0).f:Int), .slice A196 n197 c198] : Array Value).toList (ds:=[((Gm.nB F 0).a:Int), ((Gm.nB F 0).b:Int), ((Gm.nB F 0).c:Int), ((Gm.nB F 0).d:Int), ((Gm.nB F 0).e:Int), ((Gm.nB F 0).f:Int), .slice A196 n197 c198]) rfl).named
            rw [← hu_]
            have S211 : Hid (St w noB [blk g205 28 [((Gm.nB F 0).a:Int), ((Gm.nB F 0).b:Int), ((Gm.nB F 0).c:Int), ((Gm.nB F 0).d:Int), ((Gm.nB F 0).e:Int), ((Gm.nB F 0).f:Int), .slice A196 n197 c198],own (.slice A196 n197 c198) 3 1 n197 (ic (Gm.paste (Gm.nB F 0) (Gm.nL F 0) B l)),blk g174 28 [((Gm.nB F m).a:Int), ((Gm.nB F m).b:Int), ((Gm.nB F m).c:Int), ((Gm.nB F m).d:Int), ((Gm.nB F m).e:Int), ((Gm.nB F m).f:Int), .slice A165 n166 c167],own (.slice A165 n166 c167) 3 1 n166 (ic (Gm.nL F m)),blk g155 28 [((Gm.nB F m).a:Int), ((Gm.nB F m).b:Int), ((Gm.nB F m).c:Int), ((Gm.nB F m).d:Int), ((Gm.nB F m).e:Int), ((Gm.nB F m).f:Int), .slice A146 n147 c148],own (.slice A146 n147 c148) 3 1 n147 (ic (Gm.nL F m)),blk g9 25 [F.a, F.b, F.c, F.d, F.e, F.f],blk g4 28 [B.a, B.b, B.c, B.d, B.e, B.f, .slice A n c]] U210):=Lib.hid hS_
            clear S207
            clear hu_ hS_ hg209
            refine @wpG_p _ _ _ _ _ (some 14) (Gm.nE F 0) _ _ rfl (by rfl) (fun _=>rfl) ?_
            simp only [n1,n3,n4]
            refine wpG_done (fun V212 hv213=>?_)
            have S214 : Hid (St w noB [blk g205 28 [((Gm.nB F 0).a:Int), ((Gm.nB F 0).b:Int), ((Gm.nB F 0).c:Int), ((Gm.nB F 0).d:Int), ((Gm.nB F 0).e:Int), ((Gm.nB F 0).f:Int), .slice A196 n197 c198],own (.slice A196 n197 c198) 3 1 n197 (ic (Gm.paste (Gm.nB F 0) (Gm.nL F 0) B l)),blk g174 28 [((Gm.nB F m).a:Int), ((Gm.nB F m).b:Int), ((Gm.nB F m).c:Int), ((Gm.nB F m).d:Int), ((Gm.nB F m).e:Int), ((Gm.nB F m).f:Int), .slice A165 n166 c167],own (.slice A165 n166 c167) 3 1 n166 (ic (Gm.nL F m)),blk g155 28 [((Gm.nB F m).a:Int), ((Gm.nB F m).b:Int), ((Gm.nB F m).c:Int), ((Gm.nB F m).d:Int), ((Gm.nB F m).e:Int), ((Gm.nB F m).f:Int), .slice A146 n147 c148],own (.slice A146 n147 c148) 3 1 n147 (ic (Gm.nL F m)),blk g9 25 [F.a, F.b, F.c, F.d, F.e, F.f],blk g4 28 [B.a, B.b, B.c, B.d, B.e, B.f, .slice A n c]] V212):=Lib.hid (S211.out.gr hv213)
            clear S211
            clear hv213
            refine ⟨rfl,hK _ _ ?_⟩
            clear hK
            go_upto_region 14 with fail
            refine wpG_region_k (fun K hK=>?_)
            refine @wpG_tk _ _ _ _ _ (some 80) (.agg #[B.a, B.b, B.c, B.d, B.e, B.f, .slice A n c]) _ _ rfl (.load_mid (by rfl) 28 (.tmp 3) rfl g4 0 rfl [B.a, B.b, B.c, B.d, B.e, B.f, .slice A n c] _ (fun W hg=>(S214.out.gr hg).range 7 rfl 0 7 rfl) Tryd.underlying28 rfl (by kernel_rfl)) ?_
            simp only [n1,n3,n4]
            refine @wpG_tk _ _ _ _ _ (some 81) (.agg #[F.a, F.b, F.c, F.d, F.e, F.f]) _ _ rfl (.load_mid (by rfl) 25 (.tmp 4) rfl g9 0 rfl [F.a, F.b, F.c, F.d, F.e, F.f] _ (fun W hg=>(S214.out.gr hg).range 6 rfl 0 6 rfl) Tryd.underlying25 rfl (by kernel_rfl)) ?_
            simp only [n1,n3,n4]
            refine wpG_call (some 82) 18 #[.agg #[B.a, B.b, B.c, B.d, B.e, B.f, .slice A n c], .agg #[F.a, F.b, F.c, F.d, F.e, F.f]] rfl (by rfl) (fun W=>by go_simp) (fun W218 hg219=>?_)
            refine (rcrop_any B _ _ _ l F W218 (HGA.out.gr (S214.out.gr hg219).bel) (by have e_f16:=f16.out;have e_f33:=f33.out;have e_f195:=f195.out;exact (show Gm.vld B l by have h_:=e_f195;simpa using h_).ok)).mono ?_
            rintro e w220 ⟨A215,n216,c217,rfl,hS_⟩
            refine ⟨_,rfl, ?_⟩
            have hT_:=(S214.out.gr hg219).got hS_
            simp only [n1,n3,n4]
            have S221 : Hid (St w noB [own (.slice A215 n216 c217) 3 1 n216 (ic (Gm.paste (Gm.nB F 0) (Gm.nL F 0) B l)),blk g205 28 [((Gm.nB F 0).a:Int), ((Gm.nB F 0).b:Int), ((Gm.nB F 0).c:Int), ((Gm.nB F 0).d:Int), ((Gm.nB F 0).e:Int), ((Gm.nB F 0).f:Int), .slice A196 n197 c198],own (.slice A196 n197 c198) 3 1 n197 (ic (Gm.paste (Gm.nB F 0) (Gm.nL F 0) B l)),blk g174 28 [((Gm.nB F m).a:Int), ((Gm.nB F m).b:Int), ((Gm.nB F m).c:Int), ((Gm.nB F m).d:Int), ((Gm.nB F m).e:Int), ((Gm.nB F m).f:Int), .slice A165 n166 c167],own (.slice A165 n166 c167) 3 1 n166 (ic (Gm.nL F m)),blk g155 28 [((Gm.nB F m).a:Int), ((Gm.nB F m).b:Int), ((Gm.nB F m).c:Int), ((Gm.nB F m).d:Int), ((Gm.nB F m).e:Int), ((Gm.nB F m).f:Int), .slice A146 n147 c148],own (.slice A146 n147 c148) 3 1 n147 (ic (Gm.nL F m)),blk g9 25 [F.a, F.b, F.c, F.d, F.e, F.f],blk g4 28 [B.a, B.b, B.c, B.d, B.e, B.f, .slice A n c]] w220):=Lib.hid hT_
            clear S214
            clear hT_ hS_ hg219
            refine @wpG_p _ _ _ _ _ (some 79) (.tuple #[.agg #[((Gm.nB F 0).a:Int), ((Gm.nB F 0).b:Int), ((Gm.nB F 0).c:Int), ((Gm.nB F 0).d:Int), ((Gm.nB F 0).e:Int), ((Gm.nB F 0).f:Int), .slice A215 n216 c217], (Gm.nE F 0)]) _ _ rfl (by rfl) (fun _=>rfl) ?_
            simp only [n1,n3,n4]
            refine @wpG_p _ _ _ _ _ (some 83) (.agg #[((Gm.nB F 0).a:Int), ((Gm.nB F 0).b:Int), ((Gm.nB F 0).c:Int), ((Gm.nB F 0).d:Int), ((Gm.nB F 0).e:Int), ((Gm.nB F 0).f:Int), .slice A215 n216 c217]) _ _ rfl (by rfl) (fun W=>by go_simp) ?_
            simp only [n1,n3,n4]
            refine @wpG_p _ _ _ _ _ (some 84) (Gm.nE F 0) _ _ rfl (by rfl) (fun W=>by go_simp) ?_
            simp only [n1,n3,n4]
            refine wpG_val (some 15) rfl (by rfl) (fun W222 hg223=>⟨.pointer (some ⟨W222.heap.size,0,none⟩),W222.alloc (.cells #[(), (), (), (), (), (), .slice none 0 0] 28),by (first | (go_simp;done) | (go_simp <;> rfl)), ?_⟩)
            simp only [n1,n3,n4]
            obtain ⟨g224,U225,hg_,hu_,hS_⟩:=(S221.out.gr hg223).made [(), (), (), (), (), (), .slice none 0 0] 28
            rw [← hu_,← hg_]
            have S226 : Hid (St w noB [blk g224 28 [(), (), (), (), (), (), .slice none 0 0],own (.slice A215 n216 c217) 3 1 n216 (ic (Gm.paste (Gm.nB F 0) (Gm.nL F 0) B l)),blk g205 28 [((Gm.nB F 0).a:Int), ((Gm.nB F 0).b:Int), ((Gm.nB F 0).c:Int), ((Gm.nB F 0).d:Int), ((Gm.nB F 0).e:Int), ((Gm.nB F 0).f:Int), .slice A196 n197 c198],own (.slice A196 n197 c198) 3 1 n197 (ic (Gm.paste (Gm.nB F 0) (Gm.nL F 0) B l)),blk g174 28 [((Gm.nB F m).a:Int), ((Gm.nB F m).b:Int), ((Gm.nB F m).c:Int), ((Gm.nB F m).d:Int), ((Gm.nB F m).e:Int), ((Gm.nB F m).f:Int), .slice A165 n166 c167],own (.slice A165 n166 c167) 3 1 n166 (ic (Gm.nL F m)),blk g155 28 [((Gm.nB F m).a:Int), ((Gm.nB F m).b:Int), ((Gm.nB F m).c:Int), ((Gm.nB F m).d:Int), ((Gm.nB F m).e:Int), ((Gm.nB F m).f:Int), .slice A146 n147 c148],own (.slice A146 n147 c148) 3 1 n147 (ic (Gm.nL F m)),blk g9 25 [F.a, F.b, F.c, F.d, F.e, F.f],blk g4 28 [B.a, B.b, B.c, B.d, B.e, B.f, .slice A n c]] U225):=Lib.hid hS_
            clear S221
            clear hg_ hu_ hS_ hg223
            refine wpG_store (none) rfl (by rfl) (fun W227 hg228=>⟨_,run_store_mid 28 (.tmp 15) (.tmp 83) rfl g224 0 #[((Gm.nB F 0).a:Int), ((Gm.nB F 0).b:Int), ((Gm.nB F 0).c:Int), ((Gm.nB F 0).d:Int), ((Gm.nB F 0).e:Int), ((Gm.nB F 0).f:Int), .slice A215 n216 c217] rfl rfl ((S226.out.gr hg228).room 0 rfl 0 7 (by simp)) (by kernel_rfl) (by kernel_rfl), ?_⟩)
            simp only [n2]
            obtain ⟨U229,hu_,hS_⟩:=((S226.out.gr hg228).put 0 rfl 0 (#[((Gm.nB F 0).a:Int), ((Gm.nB F 0).b:Int), ((Gm.nB F 0).c:Int), ((Gm.nB F 0).d:Int), ((Gm.nB F 0).e:Int), ((Gm.nB F 0).f:Int), .slice A215 n216 c217] : Array Value).toList (ds:=[((Gm.nB F 0).a:Int), ((Gm.nB F 0).b:Int), ((Gm.nB F 0).c:Int), ((Gm.nB F 0).d:Int), ((Gm.nB F 0).e:Int), ((Gm.nB F 0).f:Int), .slice A215 n216 c217]) rfl).named
            rw [← hu_]
            have S230 : Hid (St w noB [blk g224 28 [((Gm.nB F 0).a:Int), ((Gm.nB F 0).b:Int), ((Gm.nB F 0).c:Int), ((Gm.nB F 0).d:Int), ((Gm.nB F 0).e:Int), ((Gm.nB F 0).f:Int), .slice A215 n216 c217],own (.slice A215 n216 c217) 3 1 n216 (ic (Gm.paste (Gm.nB F 0) (Gm.nL F 0) B l)),blk g205 28 [((Gm.nB F 0).a:Int), ((Gm.nB F 0).b:Int), ((Gm.nB F 0).c:Int), ((Gm.nB F 0).d:Int), ((Gm.nB F 0).e:Int), ((Gm.nB F 0).f:Int), .slice A196 n197 c198],own (.slice A196 n197 c198) 3 1 n197 (ic (Gm.paste (Gm.nB F 0) (Gm.nL F 0) B l)),blk g174 28 [((Gm.nB F m).a:Int), ((Gm.nB F m).b:Int), ((Gm.nB F m).c:Int), ((Gm.nB F m).d:Int), ((Gm.nB F m).e:Int), ((Gm.nB F m).f:Int), .slice A165 n166 c167],own (.slice A165 n166 c167) 3 1 n166 (ic (Gm.nL F m)),blk g155 28 [((Gm.nB F m).a:Int), ((Gm.nB F m).b:Int), ((Gm.nB F m).c:Int), ((Gm.nB F m).d:Int), ((Gm.nB F m).e:Int), ((Gm.nB F m).f:Int), .slice A146 n147 c148],own (.slice A146 n147 c148) 3 1 n147 (ic (Gm.nL F m)),blk g9 25 [F.a, F.b, F.c, F.d, F.e, F.f],blk g4 28 [B.a, B.b, B.c, B.d, B.e, B.f, .slice A n c]] U229):=Lib.hid hS_
            clear S226
            clear hu_ hS_ hg228
            refine @wpG_p _ _ _ _ _ (some 16) (Gm.nE F 0) _ _ rfl (by rfl) (fun _=>rfl) ?_
            simp only [n1,n3,n4]
            refine wpG_done (fun V231 hv232=>?_)
            have S233 : Hid (St w noB [blk g224 28 [((Gm.nB F 0).a:Int), ((Gm.nB F 0).b:Int), ((Gm.nB F 0).c:Int), ((Gm.nB F 0).d:Int), ((Gm.nB F 0).e:Int), ((Gm.nB F 0).f:Int), .slice A215 n216 c217],own (.slice A215 n216 c217) 3 1 n216 (ic (Gm.paste (Gm.nB F 0) (Gm.nL F 0) B l)),blk g205 28 [((Gm.nB F 0).a:Int), ((Gm.nB F 0).b:Int), ((Gm.nB F 0).c:Int), ((Gm.nB F 0).d:Int), ((Gm.nB F 0).e:Int), ((Gm.nB F 0).f:Int), .slice A196 n197 c198],own (.slice A196 n197 c198) 3 1 n197 (ic (Gm.paste (Gm.nB F 0) (Gm.nL F 0) B l)),blk g174 28 [((Gm.nB F m).a:Int), ((Gm.nB F m).b:Int), ((Gm.nB F m).c:Int), ((Gm.nB F m).d:Int), ((Gm.nB F m).e:Int), ((Gm.nB F m).f:Int), .slice A165 n166 c167],own (.slice A165 n166 c167) 3 1 n166 (ic (Gm.nL F m)),blk g155 28 [((Gm.nB F m).a:Int), ((Gm.nB F m).b:Int), ((Gm.nB F m).c:Int), ((Gm.nB F m).d:Int), ((Gm.nB F m).e:Int), ((Gm.nB F m).f:Int), .slice A146 n147 c148],own (.slice A146 n147 c148) 3 1 n147 (ic (Gm.nL F m)),blk g9 25 [F.a, F.b, F.c, F.d, F.e, F.f],blk g4 28 [B.a, B.b, B.c, B.d, B.e, B.f, .slice A n c]] V231):=Lib.hid (S230.out.gr hv232)
            clear S230
            clear hv232
            refine ⟨rfl,hK _ _ ?_⟩
            clear hK
            go_upto_region 15 with fail
            refine wpG_region_k (fun K hK=>?_)
            refine @wpG_tk _ _ _ _ _ (some 85) (.bool true) _ _ rfl (.call (f:=11) (args:=#[]) (by rfl) (fun W=>by go_simp) (fun W hg=>(HSAN.out W (S233.out.gr hg).bel))) ?_
            simp only [n1,n3,n4]
            refine @wpG_p _ _ _ _ _ (some 86) (.bool true) _ _ rfl (by rfl) (fun _=>rfl) ?_
            simp only [n1,n3,n4]
            refine @wpG_tk _ _ _ _ _ (some 87) (.agg #[((Gm.nB F 0).a:Int), ((Gm.nB F 0).b:Int), ((Gm.nB F 0).c:Int), ((Gm.nB F 0).d:Int), ((Gm.nB F 0).e:Int), ((Gm.nB F 0).f:Int), .slice A196 n197 c198]) _ _ rfl (.load_mid (by rfl) 28 (.tmp 13) rfl g205 0 rfl [((Gm.nB F 0).a:Int), ((Gm.nB F 0).b:Int), ((Gm.nB F 0).c:Int), ((Gm.nB F 0).d:Int), ((Gm.nB F 0).e:Int), ((Gm.nB F 0).f:Int), .slice A196 n197 c198] _ (fun W hg=>(S233.out.gr hg).range 2 rfl 0 7 rfl) Tryd.underlying28 rfl (by kernel_rfl)) ?_
            simp only [n1,n3,n4]
            refine @wpG_tk _ _ _ _ _ (some 88) (.agg #[((Gm.nB F 0).a:Int), ((Gm.nB F 0).b:Int), ((Gm.nB F 0).c:Int), ((Gm.nB F 0).d:Int), ((Gm.nB F 0).e:Int), ((Gm.nB F 0).f:Int), .slice A215 n216 c217]) _ _ rfl (.load_mid (by rfl) 28 (.tmp 15) rfl g224 0 rfl [((Gm.nB F 0).a:Int), ((Gm.nB F 0).b:Int), ((Gm.nB F 0).c:Int), ((Gm.nB F 0).d:Int), ((Gm.nB F 0).e:Int), ((Gm.nB F 0).f:Int), .slice A215 n216 c217] _ (fun W hg=>(S233.out.gr hg).range 0 rfl 0 7 rfl) Tryd.underlying28 rfl (by kernel_rfl)) ?_
            simp only [n1,n3,n4]
            refine @wpG_tk _ _ _ _ _ (some 89) (.bool true) _ _ rfl (.call (f:=16) (args:=#[.agg #[((Gm.nB F 0).a:Int), ((Gm.nB F 0).b:Int), ((Gm.nB F 0).c:Int), ((Gm.nB F 0).d:Int), ((Gm.nB F 0).e:Int), ((Gm.nB F 0).f:Int), .slice A196 n197 c198], .agg #[((Gm.nB F 0).a:Int), ((Gm.nB F 0).b:Int), ((Gm.nB F 0).c:Int), ((Gm.nB F 0).d:Int), ((Gm.nB F 0).e:Int), ((Gm.nB F 0).f:Int), .slice A215 n216 c217]]) (by rfl) (fun W=>by go_simp) (fun W hg=>((requal_any (Gm.nB F 0) _ _ _ (Gm.paste (Gm.nB F 0) (Gm.nL F 0) B l) (Gm.nB F 0) _ _ _ (Gm.paste (Gm.nB F 0) (Gm.nL F 0) B l) W (SL.ofOwn ((S233.out.gr hg).ownr 3 rfl)) (SL.ofOwn ((S233.out.gr hg).ownr 1 rfl))).mono (fun e w' h=>⟨h.1.trans (by rw [Gm.same_iff.2 ⟨rfl,rfl⟩]),h.2⟩)))) ?_
            simp only [n1,n3,n4]
            refine @wpG_p _ _ _ _ _ (some 90) (.bool true) _ _ rfl (by rfl) (fun W=>by go_simp) ?_
            simp only [n1,n3,n4]
            refine @wpG_p _ _ _ _ _ (some 91) (.bool true) _ _ rfl (by rfl) (fun _=>rfl) ?_
            simp only [n1,n3,n4]
            refine @wpG_p _ _ _ _ _ (some 92) (Gm.nE F 0) _ _ rfl (by rfl) (fun _=>rfl) ?_
            simp only [n1,n3,n4]
            refine @wpG_p _ _ _ _ _ (some 93) (Gm.nE F 0) _ _ rfl (by rfl) (fun _=>rfl) ?_
            simp only [n1,n3,n4]
            refine @wpG_p _ _ _ _ _ (some 94) (.bool true) _ _ rfl (by rfl) (fun W=>by go_simp) ?_
            simp only [n1,n3,n4]
            refine @wpG_p _ _ _ _ _ (some 95) (.bool true) _ _ rfl (by rfl) (fun W=>by go_simp) ?_
            simp only [n1,n3,n4]
            refine @wpG_p _ _ _ _ _ (some 6) (.bool true) _ _ rfl (by rfl) (fun _=>rfl) ?_
            simp only [n1,n3,n4]
            refine wpG_done (fun V234 hv235=>?_)
            have S236 : Hid (St w noB [blk g224 28 [((Gm.nB F 0).a:Int), ((Gm.nB F 0).b:Int), ((Gm.nB F 0).c:Int), ((Gm.nB F 0).d:Int), ((Gm.nB F 0).e:Int), ((Gm.nB F 0).f:Int), .slice A215 n216 c217],own (.slice A215 n216 c217) 3 1 n216 (ic (Gm.paste (Gm.nB F 0) (Gm.nL F 0) B l)),blk g205 28 [((Gm.nB F 0).a:Int), ((Gm.nB F 0).b:Int), ((Gm.nB F 0).c:Int), ((Gm.nB F 0).d:Int), ((Gm.nB F 0).e:Int), ((Gm.nB F 0).f:Int), .slice A196 n197 c198],own (.slice A196 n197 c198) 3 1 n197 (ic (Gm.paste (Gm.nB F 0) (Gm.nL F 0) B l)),blk g174 28 [((Gm.nB F m).a:Int), ((Gm.nB F m).b:Int), ((Gm.nB F m).c:Int), ((Gm.nB F m).d:Int), ((Gm.nB F m).e:Int), ((Gm.nB F m).f:Int), .slice A165 n166 c167],own (.slice A165 n166 c167) 3 1 n166 (ic (Gm.nL F m)),blk g155 28 [((Gm.nB F m).a:Int), ((Gm.nB F m).b:Int), ((Gm.nB F m).c:Int), ((Gm.nB F m).d:Int), ((Gm.nB F m).e:Int), ((Gm.nB F m).f:Int), .slice A146 n147 c148],own (.slice A146 n147 c148) 3 1 n147 (ic (Gm.nL F m)),blk g9 25 [F.a, F.b, F.c, F.d, F.e, F.f],blk g4 28 [B.a, B.b, B.c, B.d, B.e, B.f, .slice A n c]] V234):=Lib.hid (S233.out.gr hv235)
            clear S233
            clear hv235
            refine ⟨rfl,hK _ _ ?_⟩
            clear hK
            go_wp2_with fail
            go_ret
            refine ⟨?_,S236.out.bel⟩
            show Ending.returned (.bool true) = _
            (first | rfl | (have e_f16:=f16.out;have e_f33:=f33.out;have e_f195:=f195.out;rfl))
      | false =>
        have f237:=Lib.hid (of_decide_eq_false Hc32.out.symm)
        refine @wpG_no _ _ _ _ _ (some 34) _ _ rfl (by rfl) ?_
        simp only [n1,n3,n4]
        refine @wpG_no _ _ _ _ _ (some 35) _ _ rfl (by rfl) ?_
        simp only [n1,n3,n4]
        refine @wpG_p _ _ _ _ _ (some 36) (.bool false) _ _ rfl (by rfl) (fun W=>by go_simp) ?_
        simp only [n1,n3,n4]
        refine @wpG_p _ _ _ _ _ (some 37) (.bool false) _ _ rfl (by rfl) (fun _=>rfl) ?_
        simp only [n1,n3,n4]
        refine @wpG_no _ _ _ _ _ (some 38) _ _ rfl (by rfl) ?_
        simp only [n1,n3,n4]
        refine @wpG_no _ _ _ _ _ (some 39) _ _ rfl (by rfl) ?_
        simp only [n1,n3,n4]
        refine @wpG_p _ _ _ _ _ (some 40) (.bool false) _ _ rfl (by rfl) (fun W=>by go_simp) ?_
        simp only [n1,n3,n4]
        refine @wpG_p _ _ _ _ _ (some 41) (.bool false) _ _ rfl (by rfl) (fun W=>by go_simp) ?_
        simp only [n1,n3,n4]
        refine wpG_done (fun V238 hv239=>?_)
        have S240 : Hid (St w noB [blk g9 25 [F.a, F.b, F.c, F.d, F.e, F.f],blk g4 28 [B.a, B.b, B.c, B.d, B.e, B.f, .slice A n c]] V238):=Lib.hid (S22.out.gr hv239)
        clear S22
        clear hv239
        refine ⟨rfl,hK _ _ ?_⟩
        clear hK
        go_upto_region 5 with fail
        refine wpK_region_k (by kernel_rfl) (fun K hK=>?_)
        refine wpK_tk (i:=0) (some 43) (v:=.agg #[B.a, B.b, B.c, B.d, B.e, B.f, .slice A n c]) rfl rfl (by kernel_rfl) (fun _ _ _ h=>onN_panic h) (.load_mid (by rfl) 28 (.tmp 3) rfl g4 0 rfl [B.a, B.b, B.c, B.d, B.e, B.f, .slice A n c] _ (fun W hg=>(S240.out.gr (Gr.un hg)).range 1 rfl 0 7 rfl) Tryd.underlying28 rfl (by kernel_rfl)) ?_
        simp only [n1,n3,n4]
        refine wpK_tk (i:=1) (some 44) (v:=.bool (decide (Gm.vld B l))) rfl rfl (by kernel_rfl) (fun _ _ _ h=>onN_panic h) (.call (f:=12) (args:=#[.agg #[B.a, B.b, B.c, B.d, B.e, B.f, .slice A n c]]) (by rfl) (fun W=>by go_simp) (fun W hg=>valid_any B _ _ _ l W (HGA.out.gr (S240.out.gr (Gr.un hg)).bel))) ?_
        simp only [n1,n3,n4]
        refine wpK_tk (i:=2) (some 45) (v:=.agg #[B.a, B.b, B.c, B.d, B.e, B.f, .slice A n c]) rfl rfl (by kernel_rfl) (fun _ _ _ h=>onN_panic h) (.load_mid (by rfl) 28 (.tmp 3) rfl g4 0 rfl [B.a, B.b, B.c, B.d, B.e, B.f, .slice A n c] _ (fun W hg=>(S240.out.gr (Gr.un hg)).range 1 rfl 0 7 rfl) Tryd.underlying28 rfl (by kernel_rfl)) ?_
        simp only [n1,n3,n4]
        refine wpK_tk (i:=3) (some 46) (v:=.bool (decide (Gm.vld B l))) rfl rfl (by kernel_rfl) (fun _ _ _ h=>onN_panic h) (.call (f:=13) (args:=#[.agg #[B.a, B.b, B.c, B.d, B.e, B.f, .slice A n c]]) (by rfl) (fun W=>by go_simp) (fun W hg=>rvalid_any B _ _ _ l W (HGA.out.gr (S240.out.gr (Gr.un hg)).bel))) ?_
        simp only [n1,n3,n4]
        refine wpK_ta (i:=4) (some 47) (v:=.bool false) rfl rfl (by kernel_rfl) (fun _ _ _ h=>onN_panic h) (Or.inl ⟨by rfl,fun W=>by first | (go_simp;done) | (skip <;> rfl) | (skip <;> go_simp)⟩) ?_
        simp only [n1,n3,n4]
        refine wpK_done (by kernel_rfl) (fun V241 hv242=>?_) _
        have S243 : Hid (St w noB [blk g9 25 [F.a, F.b, F.c, F.d, F.e, F.f],blk g4 28 [B.a, B.b, B.c, B.d, B.e, B.f, .slice A n c]] V241):=Lib.hid (S240.out.gr (Gr.un hv242))
        clear S240
        clear hv242
        refine ⟨rfl,hK _ _ ?_⟩
        clear hK
        go_upto_region 7 with fail
        refine wpG_region_k (fun K hK=>?_)
        refine @wpG_tk _ _ _ _ _ (some 49) (.agg #[F.a, F.b, F.c, F.d, F.e, F.f]) _ _ rfl (.load_mid (by rfl) 25 (.tmp 4) rfl g9 0 rfl [F.a, F.b, F.c, F.d, F.e, F.f] _ (fun W hg=>(S243.out.gr hg).range 0 rfl 0 6 rfl) Tryd.underlying25 rfl (by kernel_rfl)) ?_
        simp only [n1,n3,n4]
        refine @wpG_p _ _ _ _ _ (some 50) m _ _ rfl (by rfl) (fun _=>rfl) ?_
        simp only [n1,n3,n4]
        refine wpG_call (some 51) 14 #[.agg #[F.a, F.b, F.c, F.d, F.e, F.f], m] rfl (by rfl) (fun W=>by go_simp) (fun W247 hg248=>?_)
        refine (new_any F m W247).mono ?_
        rintro e w249 ⟨A244,n245,c246,rfl,hS_⟩
        refine ⟨_,rfl, ?_⟩
        have hT_:=(S243.out.gr hg248).got hS_
        simp only [n1,n3,n4]
        have S250 : Hid (St w noB [own (.slice A244 n245 c246) 3 1 n245 (ic (Gm.nL F m)),blk g9 25 [F.a, F.b, F.c, F.d, F.e, F.f],blk g4 28 [B.a, B.b, B.c, B.d, B.e, B.f, .slice A n c]] w249):=Lib.hid hT_
        clear S243
        clear hT_ hS_ hg248
        refine @wpG_p _ _ _ _ _ (some 48) (.tuple #[.agg #[((Gm.nB F m).a:Int), ((Gm.nB F m).b:Int), ((Gm.nB F m).c:Int), ((Gm.nB F m).d:Int), ((Gm.nB F m).e:Int), ((Gm.nB F m).f:Int), .slice A244 n245 c246], (Gm.nE F m)]) _ _ rfl (by rfl) (fun _=>rfl) ?_
        simp only [n1,n3,n4]
        refine @wpG_p _ _ _ _ _ (some 52) (.agg #[((Gm.nB F m).a:Int), ((Gm.nB F m).b:Int), ((Gm.nB F m).c:Int), ((Gm.nB F m).d:Int), ((Gm.nB F m).e:Int), ((Gm.nB F m).f:Int), .slice A244 n245 c246]) _ _ rfl (by rfl) (fun W=>by go_simp) ?_
        simp only [n1,n3,n4]
        refine @wpG_p _ _ _ _ _ (some 53) (Gm.nE F m) _ _ rfl (by rfl) (fun W=>by go_simp) ?_
        simp only [n1,n3,n4]
        refine wpG_val (some 9) rfl (by rfl) (fun W251 hg252=>⟨.pointer (some ⟨W251.heap.size,0,none⟩),W251.alloc (.cells #[(), (), (), (), (), (), .slice none 0 0] 28),by (first | (go_simp;done) | (go_simp <;> rfl)), ?_⟩)
        simp only [n1,n3,n4]
        obtain ⟨g253,U254,hg_,hu_,hS_⟩:=(S250.out.gr hg252).made [(), (), (), (), (), (), .slice none 0 0] 28
        rw [← hu_,← hg_]
        have S255 : Hid (St w noB [blk g253 28 [(), (), (), (), (), (), .slice none 0 0],own (.slice A244 n245 c246) 3 1 n245 (ic (Gm.nL F m)),blk g9 25 [F.a, F.b, F.c, F.d, F.e, F.f],blk g4 28 [B.a, B.b, B.c, B.d, B.e, B.f, .slice A n c]] U254):=Lib.hid hS_
        clear S250
        clear hg_ hu_ hS_ hg252
        refine wpG_store (none) rfl (by rfl) (fun W256 hg257=>⟨_,run_store_mid 28 (.tmp 9) (.tmp 52) rfl g253 0 #[((Gm.nB F m).a:Int), ((Gm.nB F m).b:Int), ((Gm.nB F m).c:Int), ((Gm.nB F m).d:Int), ((Gm.nB F m).e:Int), ((Gm.nB F m).f:Int), .slice A244 n245 c246] rfl rfl ((S255.out.gr hg257).room 0 rfl 0 7 (by simp)) (by kernel_rfl) (by kernel_rfl), ?_⟩)
        simp only [n2]
        obtain ⟨U258,hu_,hS_⟩:=((S255.out.gr hg257).put 0 rfl 0 (#[((Gm.nB F m).a:Int), ((Gm.nB F m).b:Int), ((Gm.nB F m).c:Int), ((Gm.nB F m).d:Int), ((Gm.nB F m).e:Int), ((Gm.nB F m).f:Int), .slice A244 n245 c246] : Array Value).toList (ds:=[((Gm.nB F m).a:Int), ((Gm.nB F m).b:Int), ((Gm.nB F m).c:Int), ((Gm.nB F m).d:Int), ((Gm.nB F m).e:Int), ((Gm.nB F m).f:Int), .slice A244 n245 c246]) rfl).named
        rw [← hu_]
        have S259 : Hid (St w noB [blk g253 28 [((Gm.nB F m).a:Int), ((Gm.nB F m).b:Int), ((Gm.nB F m).c:Int), ((Gm.nB F m).d:Int), ((Gm.nB F m).e:Int), ((Gm.nB F m).f:Int), .slice A244 n245 c246],own (.slice A244 n245 c246) 3 1 n245 (ic (Gm.nL F m)),blk g9 25 [F.a, F.b, F.c, F.d, F.e, F.f],blk g4 28 [B.a, B.b, B.c, B.d, B.e, B.f, .slice A n c]] U258):=Lib.hid hS_
        clear S255
        clear hu_ hS_ hg257
        refine @wpG_p _ _ _ _ _ (some 10) (Gm.nE F m) _ _ rfl (by rfl) (fun _=>rfl) ?_
        simp only [n1,n3,n4]
        refine wpG_done (fun V260 hv261=>?_)
        have S262 : Hid (St w noB [blk g253 28 [((Gm.nB F m).a:Int), ((Gm.nB F m).b:Int), ((Gm.nB F m).c:Int), ((Gm.nB F m).d:Int), ((Gm.nB F m).e:Int), ((Gm.nB F m).f:Int), .slice A244 n245 c246],own (.slice A244 n245 c246) 3 1 n245 (ic (Gm.nL F m)),blk g9 25 [F.a, F.b, F.c, F.d, F.e, F.f],blk g4 28 [B.a, B.b, B.c, B.d, B.e, B.f, .slice A n c]] V260):=Lib.hid (S259.out.gr hv261)
        clear S259
        clear hv261
        refine ⟨rfl,hK _ _ ?_⟩
        clear hK
        go_upto_region 8 with fail
        refine wpG_region_k (fun K hK=>?_)
        refine @wpG_tk _ _ _ _ _ (some 55) (.agg #[F.a, F.b, F.c, F.d, F.e, F.f]) _ _ rfl (.load_mid (by rfl) 25 (.tmp 4) rfl g9 0 rfl [F.a, F.b, F.c, F.d, F.e, F.f] _ (fun W hg=>(S262.out.gr hg).range 2 rfl 0 6 rfl) Tryd.underlying25 rfl (by kernel_rfl)) ?_
        simp only [n1,n3,n4]
        refine @wpG_p _ _ _ _ _ (some 56) m _ _ rfl (by rfl) (fun _=>rfl) ?_
        simp only [n1,n3,n4]
        refine wpG_call (some 57) 15 #[.agg #[F.a, F.b, F.c, F.d, F.e, F.f], m] rfl (by rfl) (fun W=>by go_simp) (fun W266 hg267=>?_)
        refine (rnew_any F m W266).mono ?_
        rintro e w268 ⟨A263,n264,c265,rfl,hS_⟩
        refine ⟨_,rfl, ?_⟩
        have hT_:=(S262.out.gr hg267).got hS_
        simp only [n1,n3,n4]
        have S269 : Hid (St w noB [own (.slice A263 n264 c265) 3 1 n264 (ic (Gm.nL F m)),blk g253 28 [((Gm.nB F m).a:Int), ((Gm.nB F m).b:Int), ((Gm.nB F m).c:Int), ((Gm.nB F m).d:Int), ((Gm.nB F m).e:Int), ((Gm.nB F m).f:Int), .slice A244 n245 c246],own (.slice A244 n245 c246) 3 1 n245 (ic (Gm.nL F m)),blk g9 25 [F.a, F.b, F.c, F.d, F.e, F.f],blk g4 28 [B.a, B.b, B.c, B.d, B.e, B.f, .slice A n c]] w268):=Lib.hid hT_
        clear S262
        clear hT_ hS_ hg267
        refine @wpG_p _ _ _ _ _ (some 54) (.tuple #[.agg #[((Gm.nB F m).a:Int), ((Gm.nB F m).b:Int), ((Gm.nB F m).c:Int), ((Gm.nB F m).d:Int), ((Gm.nB F m).e:Int), ((Gm.nB F m).f:Int), .slice A263 n264 c265], (Gm.nE F m)]) _ _ rfl (by rfl) (fun _=>rfl) ?_
        simp only [n1,n3,n4]
        refine @wpG_p _ _ _ _ _ (some 58) (.agg #[((Gm.nB F m).a:Int), ((Gm.nB F m).b:Int), ((Gm.nB F m).c:Int), ((Gm.nB F m).d:Int), ((Gm.nB F m).e:Int), ((Gm.nB F m).f:Int), .slice A263 n264 c265]) _ _ rfl (by rfl) (fun W=>by go_simp) ?_
        simp only [n1,n3,n4]
        refine @wpG_p _ _ _ _ _ (some 59) (Gm.nE F m) _ _ rfl (by rfl) (fun W=>by go_simp) ?_
        simp only [n1,n3,n4]
        refine wpG_val (some 11) rfl (by rfl) (fun W270 hg271=>⟨.pointer (some ⟨W270.heap.size,0,none⟩),W270.alloc (.cells #[(), (), (), (), (), (), .slice none 0 0] 28),by (first | (go_simp;done) | (go_simp <;> rfl)), ?_⟩)
        simp only [n1,n3,n4]
        obtain ⟨g272,U273,hg_,hu_,hS_⟩:=(S269.out.gr hg271).made [(), (), (), (), (), (), .slice none 0 0] 28
        rw [← hu_,← hg_]
        have S274 : Hid (St w noB [blk g272 28 [(), (), (), (), (), (), .slice none 0 0],own (.slice A263 n264 c265) 3 1 n264 (ic (Gm.nL F m)),blk g253 28 [((Gm.nB F m).a:Int), ((Gm.nB F m).b:Int), ((Gm.nB F m).c:Int), ((Gm.nB F m).d:Int), ((Gm.nB F m).e:Int), ((Gm.nB F m).f:Int), .slice A244 n245 c246],own (.slice A244 n245 c246) 3 1 n245 (ic (Gm.nL F m)),blk g9 25 [F.a, F.b, F.c, F.d, F.e, F.f],blk g4 28 [B.a, B.b, B.c, B.d, B.e, B.f, .slice A n c]] U273):=Lib.hid hS_
        clear S269
        clear hg_ hu_ hS_ hg271
        refine wpG_store (none) rfl (by rfl) (fun W275 hg276=>⟨_,run_store_mid 28 (.tmp 11) (.tmp 58) rfl g272 0 #[((Gm.nB F m).a:Int), ((Gm.nB F m).b:Int), ((Gm.nB F m).c:Int), ((Gm.nB F m).d:Int), ((Gm.nB F m).e:Int), ((Gm.nB F m).f:Int), .slice A263 n264 c265] rfl rfl ((S274.out.gr hg276).room 0 rfl 0 7 (by simp)) (by kernel_rfl) (by kernel_rfl), ?_⟩)
        simp only [n2]
        obtain ⟨U277,hu_,hS_⟩:=((S274.out.gr hg276).put 0 rfl 0 (#[((Gm.nB F m).a:Int), ((Gm.nB F m).b:Int), ((Gm.nB F m).c:Int), ((Gm.nB F m).d:Int), ((Gm.nB F m).e:Int), ((Gm.nB F m).f:Int), .slice A263 n264 c265] : Array Value).toList (ds:=[((Gm.nB F m).a:Int), ((Gm.nB F m).b:Int), ((Gm.nB F m).c:Int), ((Gm.nB F m).d:Int), ((Gm.nB F m).e:Int), ((Gm.nB F m).f:Int), .slice A263 n264 c265]) rfl).named
        rw [← hu_]
        have S278 : Hid (St w noB [blk g272 28 [((Gm.nB F m).a:Int), ((Gm.nB F m).b:Int), ((Gm.nB F m).c:Int), ((Gm.nB F m).d:Int), ((Gm.nB F m).e:Int), ((Gm.nB F m).f:Int), .slice A263 n264 c265],own (.slice A263 n264 c265) 3 1 n264 (ic (Gm.nL F m)),blk g253 28 [((Gm.nB F m).a:Int), ((Gm.nB F m).b:Int), ((Gm.nB F m).c:Int), ((Gm.nB F m).d:Int), ((Gm.nB F m).e:Int), ((Gm.nB F m).f:Int), .slice A244 n245 c246],own (.slice A244 n245 c246) 3 1 n245 (ic (Gm.nL F m)),blk g9 25 [F.a, F.b, F.c, F.d, F.e, F.f],blk g4 28 [B.a, B.b, B.c, B.d, B.e, B.f, .slice A n c]] U277):=Lib.hid hS_
        clear S274
        clear hu_ hS_ hg276
        refine @wpG_p _ _ _ _ _ (some 12) (Gm.nE F m) _ _ rfl (by rfl) (fun _=>rfl) ?_
        simp only [n1,n3,n4]
        refine wpG_done (fun V279 hv280=>?_)
        have S281 : Hid (St w noB [blk g272 28 [((Gm.nB F m).a:Int), ((Gm.nB F m).b:Int), ((Gm.nB F m).c:Int), ((Gm.nB F m).d:Int), ((Gm.nB F m).e:Int), ((Gm.nB F m).f:Int), .slice A263 n264 c265],own (.slice A263 n264 c265) 3 1 n264 (ic (Gm.nL F m)),blk g253 28 [((Gm.nB F m).a:Int), ((Gm.nB F m).b:Int), ((Gm.nB F m).c:Int), ((Gm.nB F m).d:Int), ((Gm.nB F m).e:Int), ((Gm.nB F m).f:Int), .slice A244 n245 c246],own (.slice A244 n245 c246) 3 1 n245 (ic (Gm.nL F m)),blk g9 25 [F.a, F.b, F.c, F.d, F.e, F.f],blk g4 28 [B.a, B.b, B.c, B.d, B.e, B.f, .slice A n c]] V279):=Lib.hid (S278.out.gr hv280)
        clear S278
        clear hv280
        refine ⟨rfl,hK _ _ ?_⟩
        clear hK
        go_upto_region 9 with fail
        refine wpG_region_k (fun K hK=>?_)
        refine @wpG_tk _ _ _ _ _ (some 60) (.agg #[((Gm.nB F m).a:Int), ((Gm.nB F m).b:Int), ((Gm.nB F m).c:Int), ((Gm.nB F m).d:Int), ((Gm.nB F m).e:Int), ((Gm.nB F m).f:Int), .slice A244 n245 c246]) _ _ rfl (.load_mid (by rfl) 28 (.tmp 9) rfl g253 0 rfl [((Gm.nB F m).a:Int), ((Gm.nB F m).b:Int), ((Gm.nB F m).c:Int), ((Gm.nB F m).d:Int), ((Gm.nB F m).e:Int), ((Gm.nB F m).f:Int), .slice A244 n245 c246] _ (fun W hg=>(S281.out.gr hg).range 2 rfl 0 7 rfl) Tryd.underlying28 rfl (by kernel_rfl)) ?_
        simp only [n1,n3,n4]
        refine @wpG_tk _ _ _ _ _ (some 61) (.agg #[((Gm.nB F m).a:Int), ((Gm.nB F m).b:Int), ((Gm.nB F m).c:Int), ((Gm.nB F m).d:Int), ((Gm.nB F m).e:Int), ((Gm.nB F m).f:Int), .slice A263 n264 c265]) _ _ rfl (.load_mid (by rfl) 28 (.tmp 11) rfl g272 0 rfl [((Gm.nB F m).a:Int), ((Gm.nB F m).b:Int), ((Gm.nB F m).c:Int), ((Gm.nB F m).d:Int), ((Gm.nB F m).e:Int), ((Gm.nB F m).f:Int), .slice A263 n264 c265] _ (fun W hg=>(S281.out.gr hg).range 0 rfl 0 7 rfl) Tryd.underlying28 rfl (by kernel_rfl)) ?_
        simp only [n1,n3,n4]
        refine @wpG_tk _ _ _ _ _ (some 62) (.bool true) _ _ rfl (.call (f:=16) (args:=#[.agg #[((Gm.nB F m).a:Int), ((Gm.nB F m).b:Int), ((Gm.nB F m).c:Int), ((Gm.nB F m).d:Int), ((Gm.nB F m).e:Int), ((Gm.nB F m).f:Int), .slice A244 n245 c246], .agg #[((Gm.nB F m).a:Int), ((Gm.nB F m).b:Int), ((Gm.nB F m).c:Int), ((Gm.nB F m).d:Int), ((Gm.nB F m).e:Int), ((Gm.nB F m).f:Int), .slice A263 n264 c265]]) (by rfl) (fun W=>by go_simp) (fun W hg=>((requal_any (Gm.nB F m) _ _ _ (Gm.nL F m) (Gm.nB F m) _ _ _ (Gm.nL F m) W (SL.ofOwn ((S281.out.gr hg).ownr 3 rfl)) (SL.ofOwn ((S281.out.gr hg).ownr 1 rfl))).mono (fun e w' h=>⟨h.1.trans (by rw [Gm.same_iff.2 ⟨rfl,rfl⟩]),h.2⟩)))) ?_
        simp only [n1,n3,n4]
        refine @wpG_p _ _ _ _ _ (some 63) (.bool false) _ _ rfl (by rfl) (fun W=>by first | (go_simp;done) | (cases true <;> rfl)) ?_
        simp only [n1,n3,n4]
        refine @wpG_p _ _ _ _ _ (some 64) (.bool false) _ _ rfl (by rfl) (fun _=>rfl) ?_
        simp only [n1,n3,n4]
        refine @wpG_p _ _ _ _ _ (some 65) (Gm.nE F m) _ _ rfl (by rfl) (fun _=>rfl) ?_
        simp only [n1,n3,n4]
        refine @wpG_p _ _ _ _ _ (some 66) (Gm.nE F m) _ _ rfl (by rfl) (fun _=>rfl) ?_
        simp only [n1,n3,n4]
        refine @wpG_p _ _ _ _ _ (some 67) (.bool false) _ _ rfl (by rfl) (fun W=>by go_simp) ?_
        simp only [n1,n3,n4]
        refine @wpG_p _ _ _ _ _ (some 68) (.bool false) _ _ rfl (by rfl) (fun W=>by go_simp) ?_
        simp only [n1,n3,n4]
        refine wpG_done (fun V282 hv283=>?_)
        have S284 : Hid (St w noB [blk g272 28 [((Gm.nB F m).a:Int), ((Gm.nB F m).b:Int), ((Gm.nB F m).c:Int), ((Gm.nB F m).d:Int), ((Gm.nB F m).e:Int), ((Gm.nB F m).f:Int), .slice A263 n264 c265],own (.slice A263 n264 c265) 3 1 n264 (ic (Gm.nL F m)),blk g253 28 [((Gm.nB F m).a:Int), ((Gm.nB F m).b:Int), ((Gm.nB F m).c:Int), ((Gm.nB F m).d:Int), ((Gm.nB F m).e:Int), ((Gm.nB F m).f:Int), .slice A244 n245 c246],own (.slice A244 n245 c246) 3 1 n245 (ic (Gm.nL F m)),blk g9 25 [F.a, F.b, F.c, F.d, F.e, F.f],blk g4 28 [B.a, B.b, B.c, B.d, B.e, B.f, .slice A n c]] V282):=Lib.hid (S281.out.gr hv283)
        clear S281
        clear hv283
        refine ⟨rfl,hK _ _ ?_⟩
        clear hK
        go_upto_region 11 with fail
        refine wpG_region_k (fun K hK=>?_)
        refine @wpG_tk _ _ _ _ _ (some 69) (.agg #[B.a, B.b, B.c, B.d, B.e, B.f, .slice A n c]) _ _ rfl (.load_mid (by rfl) 28 (.tmp 3) rfl g4 0 rfl [B.a, B.b, B.c, B.d, B.e, B.f, .slice A n c] _ (fun W hg=>(S284.out.gr hg).range 5 rfl 0 7 rfl) Tryd.underlying28 rfl (by kernel_rfl)) ?_
        simp only [n1,n3,n4]
        refine @wpG_tk _ _ _ _ _ (some 70) (.bool (decide (Gm.vld B l))) _ _ rfl (.call (f:=13) (args:=#[.agg #[B.a, B.b, B.c, B.d, B.e, B.f, .slice A n c]]) (by rfl) (fun W=>by go_simp) (fun W hg=>rvalid_any B _ _ _ l W (HGA.out.gr (S284.out.gr hg).bel))) ?_
        simp only [n1,n3,n4]
        refine @wpG_p _ _ _ _ _ (some 71) (.bool (!(decide (Gm.vld B l)))) _ _ rfl (by rfl) (fun W=>by go_simp) ?_
        simp only [n1,n3,n4]
        refine wpG_done (fun V285 hv286=>?_)
        have S287 : Hid (St w noB [blk g272 28 [((Gm.nB F m).a:Int), ((Gm.nB F m).b:Int), ((Gm.nB F m).c:Int), ((Gm.nB F m).d:Int), ((Gm.nB F m).e:Int), ((Gm.nB F m).f:Int), .slice A263 n264 c265],own (.slice A263 n264 c265) 3 1 n264 (ic (Gm.nL F m)),blk g253 28 [((Gm.nB F m).a:Int), ((Gm.nB F m).b:Int), ((Gm.nB F m).c:Int), ((Gm.nB F m).d:Int), ((Gm.nB F m).e:Int), ((Gm.nB F m).f:Int), .slice A244 n245 c246],own (.slice A244 n245 c246) 3 1 n245 (ic (Gm.nL F m)),blk g9 25 [F.a, F.b, F.c, F.d, F.e, F.f],blk g4 28 [B.a, B.b, B.c, B.d, B.e, B.f, .slice A n c]] V285):=Lib.hid (S284.out.gr hv286)
        clear S284
        clear hv286
        refine ⟨rfl,hK _ _ ?_⟩
        clear hK
        obtain ⟨c288,hc288⟩ : ∃ q_,q_ = (!(decide (Gm.vld B l))):=⟨_,rfl⟩
        rw [← hc288]
        have Hc288:=Lib.hid hc288
        clear hc288
        cases c288 with
        | true =>
          have f289:=Lib.hid (of_decide_eq_false (bnt Hc288.out))
          go_upto_region 12 with fail
          refine wpG_region_k (fun K hK=>?_)
          refine @wpG_tk _ _ _ _ _ (some 72) (.bool true) _ _ rfl (.call (f:=11) (args:=#[]) (by rfl) (fun W=>by go_simp) (fun W hg=>(HSAN.out W (S287.out.gr hg).bel))) ?_
          simp only [n1,n3,n4]
          refine @wpG_p _ _ _ _ _ (some 6) (.bool true) _ _ rfl (by rfl) (fun _=>rfl) ?_
          simp only [n1,n3,n4]
          refine wpG_done (fun V290 hv291=>?_)
          have S292 : Hid (St w noB [blk g272 28 [((Gm.nB F m).a:Int), ((Gm.nB F m).b:Int), ((Gm.nB F m).c:Int), ((Gm.nB F m).d:Int), ((Gm.nB F m).e:Int), ((Gm.nB F m).f:Int), .slice A263 n264 c265],own (.slice A263 n264 c265) 3 1 n264 (ic (Gm.nL F m)),blk g253 28 [((Gm.nB F m).a:Int), ((Gm.nB F m).b:Int), ((Gm.nB F m).c:Int), ((Gm.nB F m).d:Int), ((Gm.nB F m).e:Int), ((Gm.nB F m).f:Int), .slice A244 n245 c246],own (.slice A244 n245 c246) 3 1 n245 (ic (Gm.nL F m)),blk g9 25 [F.a, F.b, F.c, F.d, F.e, F.f],blk g4 28 [B.a, B.b, B.c, B.d, B.e, B.f, .slice A n c]] V290):=Lib.hid (S287.out.gr hv291)
          clear S287
          clear hv291
          refine ⟨rfl,hK _ _ ?_⟩
          clear hK
          go_wp2_with fail
          go_ret
          refine ⟨?_,S292.out.bel⟩
          show Ending.returned (.bool true) = _
          (first | rfl | (have e_f16:=f16.out;have e_f237:=f237.out;have e_f289:=f289.out;rfl))
        | false =>
          have f293:=Lib.hid (of_decide_eq_true (bnf Hc288.out))
          go_upto_region 13 with fail
          refine wpG_region_k (fun K hK=>?_)
          refine @wpG_tk _ _ _ _ _ (some 74) (.agg #[B.a, B.b, B.c, B.d, B.e, B.f, .slice A n c]) _ _ rfl (.load_mid (by rfl) 28 (.tmp 3) rfl g4 0 rfl [B.a, B.b, B.c, B.d, B.e, B.f, .slice A n c] _ (fun W hg=>(S287.out.gr hg).range 5 rfl 0 7 rfl) Tryd.underlying28 rfl (by kernel_rfl)) ?_
          simp only [n1,n3,n4]
          refine @wpG_tk _ _ _ _ _ (some 75) (.agg #[F.a, F.b, F.c, F.d, F.e, F.f]) _ _ rfl (.load_mid (by rfl) 25 (.tmp 4) rfl g9 0 rfl [F.a, F.b, F.c, F.d, F.e, F.f] _ (fun W hg=>(S287.out.gr hg).range 4 rfl 0 6 rfl) Tryd.underlying25 rfl (by kernel_rfl)) ?_
          simp only [n1,n3,n4]
          refine wpG_call (some 76) 17 #[.agg #[B.a, B.b, B.c, B.d, B.e, B.f, .slice A n c], .agg #[F.a, F.b, F.c, F.d, F.e, F.f]] rfl (by rfl) (fun W=>by go_simp) (fun W297 hg298=>?_)
          refine (crop_any B _ _ _ l F W297 (HGA.out.gr (S287.out.gr hg298).bel) (by have e_f16:=f16.out;have e_f237:=f237.out;have e_f293:=f293.out;exact (show Gm.vld B l by have h_:=e_f293;simpa using h_).ok)).mono ?_
          rintro e w299 ⟨A294,n295,c296,rfl,hS_⟩
          refine ⟨_,rfl, ?_⟩
          have hT_:=(S287.out.gr hg298).got hS_
          simp only [n1,n3,n4]
          have S300 : Hid (St w noB [own (.slice A294 n295 c296) 3 1 n295 (ic (Gm.paste (Gm.nB F 0) (Gm.nL F 0) B l)),blk g272 28 [((Gm.nB F m).a:Int), ((Gm.nB F m).b:Int), ((Gm.nB F m).c:Int), ((Gm.nB F m).d:Int), ((Gm.nB F m).e:Int), ((Gm.nB F m).f:Int), .slice A263 n264 c265],own (.slice A263 n264 c265) 3 1 n264 (ic (Gm.nL F m)),blk g253 28 [((Gm.nB F m).a:Int), ((Gm.nB F m).b:Int), ((Gm.nB F m).c:Int), ((Gm.nB F m).d:Int), ((Gm.nB F m).e:Int), ((Gm.nB F m).f:Int), .slice A244 n245 c246],own (.slice A244 n245 c246) 3 1 n245 (ic (Gm.nL F m)),blk g9 25 [F.a, F.b, F.c, F.d, F.e, F.f],blk g4 28 [B.a, B.b, B.c, B.d, B.e, B.f, .slice A n c]] w299):=Lib.hid hT_
          clear S287
          clear hT_ hS_ hg298
          refine @wpG_p _ _ _ _ _ (some 73) (.tuple #[.agg #[((Gm.nB F 0).a:Int), ((Gm.nB F 0).b:Int), ((Gm.nB F 0).c:Int), ((Gm.nB F 0).d:Int), ((Gm.nB F 0).e:Int), ((Gm.nB F 0).f:Int), .slice A294 n295 c296], (Gm.nE F 0)]) _ _ rfl (by rfl) (fun _=>rfl) ?_
          simp only [n1,n3,n4]
          refine @wpG_p _ _ _ _ _ (some 77) (.agg #[((Gm.nB F 0).a:Int), ((Gm.nB F 0).b:Int), ((Gm.nB F 0).c:Int), ((Gm.nB F 0).d:Int), ((Gm.nB F 0).e:Int), ((Gm.nB F 0).f:Int), .slice A294 n295 c296]) _ _ rfl (by rfl) (fun W=>by go_simp) ?_
          simp only [n1,n3,n4]
          refine @wpG_p _ _ _ _ _ (some 78) (Gm.nE F 0) _ _ rfl (by rfl) (fun W=>by go_simp) ?_
          simp only [n1,n3,n4]
          refine wpG_val (some 13) rfl (by rfl) (fun W301 hg302=>⟨.pointer (some ⟨W301.heap.size,0,none⟩),W301.alloc (.cells #[(), (), (), (), (), (), .slice none 0 0] 28),by (first | (go_simp;done) | (go_simp <;> rfl)), ?_⟩)
          simp only [n1,n3,n4]
          obtain ⟨g303,U304,hg_,hu_,hS_⟩:=(S300.out.gr hg302).made [(), (), (), (), (), (), .slice none 0 0] 28
          rw [← hu_,← hg_]
          have S305 : Hid (St w noB [blk g303 28 [(), (), (), (), (), (), .slice none 0 0],own (.slice A294 n295 c296) 3 1 n295 (ic (Gm.paste (Gm.nB F 0) (Gm.nL F 0) B l)),blk g272 28 [((Gm.nB F m).a:Int), ((Gm.nB F m).b:Int), ((Gm.nB F m).c:Int), ((Gm.nB F m).d:Int), ((Gm.nB F m).e:Int), ((Gm.nB F m).f:Int), .slice A263 n264 c265],own (.slice A263 n264 c265) 3 1 n264 (ic (Gm.nL F m)),blk g253 28 [((Gm.nB F m).a:Int), ((Gm.nB F m).b:Int), ((Gm.nB F m).c:Int), ((Gm.nB F m).d:Int), ((Gm.nB F m).e:Int), ((Gm.nB F m).f:Int), .slice A244 n245 c246],own (.slice A244 n245 c246) 3 1 n245 (ic (Gm.nL F m)),blk g9 25 [F.a, F.b, F.c, F.d, F.e, F.f],blk g4 28 [B.a, B.b, B.c, B.d, B.e, B.f, .slice A n c]] U304):=Lib.hid hS_
          clear S300
          clear hg_ hu_ hS_ hg302
          refine wpG_store (none) rfl (by rfl) (fun W306 hg307=>⟨_,run_store_mid 28 (.tmp 13) (.tmp 77) rfl g303 0 #[((Gm.nB F 0).a:Int), ((Gm.nB F 0).b:Int), ((Gm.nB F 0).c:Int), ((Gm.nB F 0).d:Int), ((Gm.nB F 0).e:Int), ((Gm.nB F 0).f:Int), .slice A294 n295 c296] rfl rfl ((S305.out.gr hg307).room 0 rfl 0 7 (by simp)) (by kernel_rfl) (by kernel_rfl), ?_⟩)
          simp only [n2]
          obtain ⟨U308,hu_,hS_⟩:=((S305.out.gr hg307).put 0 rfl 0 (#[((Gm.nB F 0).a:Int), ((Gm.nB F 0).b:Int), ((Gm.nB F 0).c:Int), ((Gm.nB F 0).d:Int), ((Gm.nB F 0).e:Int), ((Gm.nB F 0).f:Int), .slice A294 n295 c296] : Array Value).toList (ds:=[((Gm.nB F 0).a:Int), ((Gm.nB F 0).b:Int), ((Gm.nB F 0).c:Int), ((Gm.nB F 0).d:Int), ((Gm.nB F 0).e:Int), ((Gm.nB F 0).f:Int), .slice A294 n295 c296]) rfl).named
          rw [← hu_]
          have S309 : Hid (St w noB [blk g303 28 [((Gm.nB F 0).a:Int), ((Gm.nB F 0).b:Int), ((Gm.nB F 0).c:Int), ((Gm.nB F 0).d:Int), ((Gm.nB F 0).e:Int), ((Gm.nB F 0).f:Int), .slice A294 n295 c296],own (.slice A294 n295 c296) 3 1 n295 (ic (Gm.paste (Gm.nB F 0) (Gm.nL F 0) B l)),blk g272 28 [((Gm.nB F m).a:Int), ((Gm.nB F m).b:Int), ((Gm.nB F m).c:Int), ((Gm.nB F m).d:Int), ((Gm.nB F m).e:Int), ((Gm.nB F m).f:Int), .slice A263 n264 c265],own (.slice A263 n264 c265) 3 1 n264 (ic (Gm.nL F m)),blk g253 28 [((Gm.nB F m).a:Int), ((Gm.nB F m).b:Int), ((Gm.nB F m).c:Int), ((Gm.nB F m).d:Int), ((Gm.nB F m).e:Int), ((Gm.nB F m).f:Int), .slice A244 n245 c246],own (.slice A244 n245 c246) 3 1 n245 (ic (Gm.nL F m)),blk g9 25 [F.a, F.b, F.c, F.d, F.e, F.f],blk g4 28 [B.a, B.b, B.c, B.d, B.e, B.f, .slice A n c]] U308):=Lib.hid hS_
          clear S305
          clear hu_ hS_ hg307
          refine @wpG_p _ _ _ _ _ (some 14) (Gm.nE F 0) _ _ rfl (by rfl) (fun _=>rfl) ?_
          simp only [n1,n3,n4]
          refine wpG_done (fun V310 hv311=>?_)
          have S312 : Hid (St w noB [blk g303 28 [((Gm.nB F 0).a:Int), ((Gm.nB F 0).b:Int), ((Gm.nB F 0).c:Int), ((Gm.nB F 0).d:Int), ((Gm.nB F 0).e:Int), ((Gm.nB F 0).f:Int), .slice A294 n295 c296],own (.slice A294 n295 c296) 3 1 n295 (ic (Gm.paste (Gm.nB F 0) (Gm.nL F 0) B l)),blk g272 28 [((Gm.nB F m).a:Int), ((Gm.nB F m).b:Int), ((Gm.nB F m).c:Int), ((Gm.nB F m).d:Int), ((Gm.nB F m).e:Int), ((Gm.nB F m).f:Int), .slice A263 n264 c265],own (.slice A263 n264 c265) 3 1 n264 (ic (Gm.nL F m)),blk g253 28 [((Gm.nB F m).a:Int), ((Gm.nB F m).b:Int), ((Gm.nB F m).c:Int), ((Gm.nB F m).d:Int), ((Gm.nB F m).e:Int), ((Gm.nB F m).f:Int), .slice A244 n245 c246],own (.slice A244 n245 c246) 3 1 n245 (ic (Gm.nL F m)),blk g9 25 [F.a, F.b, F.c, F.d, F.e, F.f],blk g4 28 [B.a, B.b, B.c, B.d, B.e, B.f, .slice A n c]] V310):=Lib.hid (S309.out.gr hv311)
          clear S309
          clear hv311
          refine ⟨rfl,hK _ _ ?_⟩
          clear hK
          go_upto_region 14 with fail
          refine wpG_region_k (fun K hK=>?_)
          refine @wpG_tk _ _ _ _ _ (some 80) (.agg #[B.a, B.b, B.c, B.d, B.e, B.f, .slice A n c]) _ _ rfl (.load_mid (by rfl) 28 (.tmp 3) rfl g4 0 rfl [B.a, B.b, B.c, B.d, B.e, B.f, .slice A n c] _ (fun W hg=>(S312.out.gr hg).range 7 rfl 0 7 rfl) Tryd.underlying28 rfl (by kernel_rfl)) ?_
          simp only [n1,n3,n4]
          refine @wpG_tk _ _ _ _ _ (some 81) (.agg #[F.a, F.b, F.c, F.d, F.e, F.f]) _ _ rfl (.load_mid (by rfl) 25 (.tmp 4) rfl g9 0 rfl [F.a, F.b, F.c, F.d, F.e, F.f] _ (fun W hg=>(S312.out.gr hg).range 6 rfl 0 6 rfl) Tryd.underlying25 rfl (by kernel_rfl)) ?_
          simp only [n1,n3,n4]
          refine wpG_call (some 82) 18 #[.agg #[B.a, B.b, B.c, B.d, B.e, B.f, .slice A n c], .agg #[F.a, F.b, F.c, F.d, F.e, F.f]] rfl (by rfl) (fun W=>by go_simp) (fun W316 hg317=>?_)
          refine (rcrop_any B _ _ _ l F W316 (HGA.out.gr (S312.out.gr hg317).bel) (by have e_f16:=f16.out;have e_f237:=f237.out;have e_f293:=f293.out;exact (show Gm.vld B l by have h_:=e_f293;simpa using h_).ok)).mono ?_
          rintro e w318 ⟨A313,n314,c315,rfl,hS_⟩
          refine ⟨_,rfl, ?_⟩
          have hT_:=(S312.out.gr hg317).got hS_
          simp only [n1,n3,n4]
          have S319 : Hid (St w noB [own (.slice A313 n314 c315) 3 1 n314 (ic (Gm.paste (Gm.nB F 0) (Gm.nL F 0) B l)),blk g303 28 [((Gm.nB F 0).a:Int), ((Gm.nB F 0).b:Int), ((Gm.nB F 0).c:Int), ((Gm.nB F 0).d:Int), ((Gm.nB F 0).e:Int), ((Gm.nB F 0).f:Int), .slice A294 n295 c296],own (.slice A294 n295 c296) 3 1 n295 (ic (Gm.paste (Gm.nB F 0) (Gm.nL F 0) B l)),blk g272 28 [((Gm.nB F m).a:Int), ((Gm.nB F m).b:Int), ((Gm.nB F m).c:Int), ((Gm.nB F m).d:Int), ((Gm.nB F m).e:Int), ((Gm.nB F m).f:Int), .slice A263 n264 c265],own (.slice A263 n264 c265) 3 1 n264 (ic (Gm.nL F m)),blk g253 28 [((Gm.nB F m).a:Int), ((Gm.nB F m).b:Int), ((Gm.nB F m).c:Int), ((Gm.nB F m).d:Int), ((Gm.nB F m).e:Int), ((Gm.nB F m).f:Int), .slice A244 n245 c246],own (.slice A244 n245 c246) 3 1 n245 (ic (Gm.nL F m)),blk g9 25 [F.a, F.b, F.c, F.d, F.e, F.f],blk g4 28 [B.a, B.b, B.c, B.d, B.e, B.f, .slice A n c]] w318):=Lib.hid hT_
          clear S312
          clear hT_ hS_ hg317
          refine @wpG_p _ _ _ _ _ (some 79) (.tuple #[.agg #[((Gm.nB F 0).a:Int), ((Gm.nB F 0).b:Int), ((Gm.nB F 0).c:Int), ((Gm.nB F 0).d:Int), ((Gm.nB F 0).e:Int), ((Gm.nB F 0).f:Int), .slice A313 n314 c315], (Gm.nE F 0)]) _ _ rfl (by rfl) (fun _=>rfl) ?_
          simp only [n1,n3,n4]
          refine @wpG_p _ _ _ _ _ (some 83) (.agg #[((Gm.nB F 0).a:Int), ((Gm.nB F 0).b:Int), ((Gm.nB F 0).c:Int), ((Gm.nB F 0).d:Int), ((Gm.nB F 0).e:Int), ((Gm.nB F 0).f:Int), .slice A313 n314 c315]) _ _ rfl (by rfl) (fun W=>by go_simp) ?_
          simp only [n1,n3,n4]
          refine @wpG_p _ _ _ _ _ (some 84) (Gm.nE F 0) _ _ rfl (by rfl) (fun W=>by go_simp) ?_
          simp only [n1,n3,n4]
          refine wpG_val (some 15) rfl (by rfl) (fun W320 hg321=>⟨.pointer (some ⟨W320.heap.size,0,none⟩),W320.alloc (.cells #[(), (), (), (), (), (), .slice none 0 0] 28),by (first | (go_simp;done) | (go_simp <;> rfl)), ?_⟩)
          simp only [n1,n3,n4]
          obtain ⟨g322,U323,hg_,hu_,hS_⟩:=(S319.out.gr hg321).made [(), (), (), (), (), (), .slice none 0 0] 28
          rw [← hu_,← hg_]
          have S324 : Hid (St w noB [blk g322 28 [(), (), (), (), (), (), .slice none 0 0],own (.slice A313 n314 c315) 3 1 n314 (ic (Gm.paste (Gm.nB F 0) (Gm.nL F 0) B l)),blk g303 28 [((Gm.nB F 0).a:Int), ((Gm.nB F 0).b:Int), ((Gm.nB F 0).c:Int), ((Gm.nB F 0).d:Int), ((Gm.nB F 0).e:Int), ((Gm.nB F 0).f:Int), .slice A294 n295 c296],own (.slice A294 n295 c296) 3 1 n295 (ic (Gm.paste (Gm.nB F 0) (Gm.nL F 0) B l)),blk g272 28 [((Gm.nB F m).a:Int), ((Gm.nB F m).b:Int), ((Gm.nB F m).c:Int), ((Gm.nB F m).d:Int), ((Gm.nB F m).e:Int), ((Gm.nB F m).f:Int), .slice A263 n264 c265],own (.slice A263 n264 c265) 3 1 n264 (ic (Gm.nL F m)),blk g253 28 [((Gm.nB F m).a:Int), ((Gm.nB F m).b:Int), ((Gm.nB F m).c:Int), ((Gm.nB F m).d:Int), ((Gm.nB F m).e:Int), ((Gm.nB F m).f:Int), .slice A244 n245 c246],own (.slice A244 n245 c246) 3 1 n245 (ic (Gm.nL F m)),blk g9 25 [F.a, F.b, F.c, F.d, F.e, F.f],blk g4 28 [B.a, B.b, B.c, B.d, B.e, B.f, .slice A n c]] U323):=Lib.hid hS_
          clear S319
          clear hg_ hu_ hS_ hg321
          refine wpG_store (none) rfl (by rfl) (fun W325 hg326=>⟨_,run_store_mid 28 (.tmp 15) (.tmp 83) rfl g322 0 #[((Gm.nB F 0).a:Int), ((Gm.nB F 0).b:Int), ((Gm.nB F 0).c:Int), ((Gm.nB F 0).d:Int), ((Gm.nB F 0).e:Int), ((Gm.nB F 0).f:Int), .slice A313 n314 c315] rfl rfl ((S324.out.gr hg326).room 0 rfl 0 7 (by simp)) (by kernel_rfl) (by kernel_rfl), ?_⟩)
          simp only [n2]
          obtain ⟨U327,hu_,hS_⟩:=((S324.out.gr hg326).put 0 rfl 0 (#[((Gm.nB F 0).a:Int), ((Gm.nB F 0).b:Int), ((Gm.nB F 0).c:Int), ((Gm.nB F 0).d:Int), ((Gm.nB F 0).e:Int), ((Gm.nB F 0).f:Int), .slice A313 n314 c315] : Array Value).toList (ds:=[((Gm.nB F 0).a:Int), ((Gm.nB F 0).b:Int), ((Gm.nB F 0).c:Int), ((Gm.nB F 0).d:Int), ((Gm.nB F 0).e:Int), ((Gm.nB F 0).f:Int), .slice A313 n314 c315]) rfl).named
          rw [← hu_]
          have S328 : Hid (St w noB [blk g322 28 [((Gm.nB F 0).a:Int), ((Gm.nB F 0).b:Int), ((Gm.nB F 0).c:Int), ((Gm.nB F 0).d:Int), ((Gm.nB F 0).e:Int), ((Gm.nB F 0).f:Int), .slice A313 n314 c315],own (.slice A313 n314 c315) 3 1 n314 (ic (Gm.paste (Gm.nB F 0) (Gm.nL F 0) B l)),blk g303 28 [((Gm.nB F 0).a:Int), ((Gm.nB F 0).b:Int), ((Gm.nB F 0).c:Int), ((Gm.nB F 0).d:Int), ((Gm.nB F 0).e:Int), ((Gm.nB F 0).f:Int), .slice A294 n295 c296],own (.slice A294 n295 c296) 3 1 n295 (ic (Gm.paste (Gm.nB F 0) (Gm.nL F 0) B l)),blk g272 28 [((Gm.nB F m).a:Int), ((Gm.nB F m).b:Int), ((Gm.nB F m).c:Int), ((Gm.nB F m).d:Int), ((Gm.nB F m).e:Int), ((Gm.nB F m).f:Int), .slice A263 n264 c265],own (.slice A263 n264 c265) 3 1 n264 (ic (Gm.nL F m)),blk g253 28 [((Gm.nB F m).a:Int), ((Gm.nB F m).b:Int), ((Gm.nB F m).c:Int), ((Gm.nB F m).d:Int), ((Gm.nB F m).e:Int), ((Gm.nB F m).f:Int), .slice A244 n245 c246],own (.slice A244 n245 c246) 3 1 n245 (ic (Gm.nL F m)),blk g9 25 [F.a, F.b, F.c, F.d, F.e, F.f],blk g4 28 [B.a, B.b, B.c, B.d, B.e, B.f, .slice A n c]] U327):=Lib.hid hS_
          clear S324
          clear hu_ hS_ hg326
          refine @wpG_p _ _ _ _ _ (some 16) (Gm.nE F 0) _ _ rfl (by rfl) (fun _=>rfl) ?_
          simp only [n1,n3,n4]
          refine wpG_done (fun V329 hv330=>?_)
          have S331 : Hid (St w noB [blk g322 28 [((Gm.nB F 0).a:Int), ((Gm.nB F 0).b:Int), ((Gm.nB F 0).c:Int), ((Gm.nB F 0).d:Int), ((Gm.nB F 0).e:Int), ((Gm.nB F 0).f:Int), .slice A313 n314 c315],own (.slice A313 n314 c315) 3 1 n314 (ic (Gm.paste (Gm.nB F 0) (Gm.nL F 0) B l)),blk g303 28 [((Gm.nB F 0).a:Int), ((Gm.nB F 0).b:Int), ((Gm.nB F 0).c:Int), ((Gm.nB F 0).d:Int), ((Gm.nB F 0).e:Int), ((Gm.nB F 0).f:Int), .slice A294 n295 c296],own (.slice A294 n295 c296) 3 1 n295 (ic (Gm.paste (Gm.nB F 0) (Gm.nL F 0) B l)),blk g272 28 [((Gm.nB F m).a:Int), ((Gm.nB F m).b:Int), ((Gm.nB F m).c:Int), ((Gm.nB F m).d:Int), ((Gm.nB F m).e:Int), ((Gm.nB F m).f:Int), .slice A263 n264 c265],own (.slice A263 n264 c265) 3 1 n264 (ic (Gm.nL F m)),blk g253 28 [((Gm.nB F m).a:Int), ((Gm.nB F m).b:Int), ((Gm.nB F m).c:Int), ((Gm.nB F m).d:Int), ((Gm.nB F m).e:Int), ((Gm.nB F m).f:Int), .slice A244 n245 c246],own (.slice A244 n245 c246) 3 1 n245 (ic (Gm.nL F m)),blk g9 25 [F.a, F.b, F.c, F.d, F.e, F.f],blk g4 28 [B.a, B.b, B.c, B.d, B.e, B.f, .slice A n c]] V329):=Lib.hid (S328.out.gr hv330)
          clear S328
          clear hv330
          refine ⟨rfl,hK _ _ ?_⟩
          clear hK
          go_upto_region 15 with fail
          refine wpG_region_k (fun K hK=>?_)
          refine @wpG_tk _ _ _ _ _ (some 85) (.bool true) _ _ rfl (.call (f:=11) (args:=#[]) (by rfl) (fun W=>by go_simp) (fun W hg=>(HSAN.out W (S331.out.gr hg).bel))) ?_
          simp only [n1,n3,n4]
          refine @wpG_p _ _ _ _ _ (some 86) (.bool true) _ _ rfl (by rfl) (fun _=>rfl) ?_
          simp only [n1,n3,n4]
          refine @wpG_tk _ _ _ _ _ (some 87) (.agg #[((Gm.nB F 0).a:Int), ((Gm.nB F 0).b:Int), ((Gm.nB F 0).c:Int), ((Gm.nB F 0).d:Int), ((Gm.nB F 0).e:Int), ((Gm.nB F 0).f:Int), .slice A294 n295 c296]) _ _ rfl (.load_mid (by rfl) 28 (.tmp 13) rfl g303 0 rfl [((Gm.nB F 0).a:Int), ((Gm.nB F 0).b:Int), ((Gm.nB F 0).c:Int), ((Gm.nB F 0).d:Int), ((Gm.nB F 0).e:Int), ((Gm.nB F 0).f:Int), .slice A294 n295 c296] _ (fun W hg=>(S331.out.gr hg).range 2 rfl 0 7 rfl) Tryd.underlying28 rfl (by kernel_rfl)) ?_
          simp only [n1,n3,n4]
          refine @wpG_tk _ _ _ _ _ (some 88) (.agg #[((Gm.nB F 0).a:Int), ((Gm.nB F 0).b:Int), ((Gm.nB F 0).c:Int), ((Gm.nB F 0).d:Int), ((Gm.nB F 0).e:Int), ((Gm.nB F 0).f:Int), .slice A313 n314 c315]) _ _ rfl (.load_mid (by rfl) 28 (.tmp 15) rfl g322 0 rfl [((Gm.nB F 0).a:Int), ((Gm.nB F 0).b:Int), ((Gm.nB F 0).c:Int), ((Gm.nB F 0).d:Int), ((Gm.nB F 0).e:Int), ((Gm.nB F 0).f:Int), .slice A313 n314 c315] _ (fun W hg=>(S331.out.gr hg).range 0 rfl 0 7 rfl) Tryd.underlying28 rfl (by kernel_rfl)) ?_
          simp only [n1,n3,n4]
          refine @wpG_tk _ _ _ _ _ (some 89) (.bool true) _ _ rfl (.call (f:=16) (args:=#[.agg #[((Gm.nB F 0).a:Int), ((Gm.nB F 0).b:Int), ((Gm.nB F 0).c:Int), ((Gm.nB F 0).d:Int), ((Gm.nB F 0).e:Int), ((Gm.nB F 0).f:Int), .slice A294 n295 c296], .agg #[((Gm.nB F 0).a:Int), ((Gm.nB F 0).b:Int), ((Gm.nB F 0).c:Int), ((Gm.nB F 0).d:Int), ((Gm.nB F 0).e:Int), ((Gm.nB F 0).f:Int), .slice A313 n314 c315]]) (by rfl) (fun W=>by go_simp) (fun W hg=>((requal_any (Gm.nB F 0) _ _ _ (Gm.paste (Gm.nB F 0) (Gm.nL F 0) B l) (Gm.nB F 0) _ _ _ (Gm.paste (Gm.nB F 0) (Gm.nL F 0) B l) W (SL.ofOwn ((S331.out.gr hg).ownr 3 rfl)) (SL.ofOwn ((S331.out.gr hg).ownr 1 rfl))).mono (fun e w' h=>⟨h.1.trans (by rw [Gm.same_iff.2 ⟨rfl,rfl⟩]),h.2⟩)))) ?_
          simp only [n1,n3,n4]
          refine @wpG_p _ _ _ _ _ (some 90) (.bool true) _ _ rfl (by rfl) (fun W=>by go_simp) ?_
          simp only [n1,n3,n4]
          refine @wpG_p _ _ _ _ _ (some 91) (.bool true) _ _ rfl (by rfl) (fun _=>rfl) ?_
          simp only [n1,n3,n4]
          refine @wpG_p _ _ _ _ _ (some 92) (Gm.nE F 0) _ _ rfl (by rfl) (fun _=>rfl) ?_
          simp only [n1,n3,n4]
          refine @wpG_p _ _ _ _ _ (some 93) (Gm.nE F 0) _ _ rfl (by rfl) (fun _=>rfl) ?_
          simp only [n1,n3,n4]
          refine @wpG_p _ _ _ _ _ (some 94) (.bool true) _ _ rfl (by rfl) (fun W=>by go_simp) ?_
          simp only [n1,n3,n4]
          refine @wpG_p _ _ _ _ _ (some 95) (.bool true) _ _ rfl (by rfl) (fun W=>by go_simp) ?_
          simp only [n1,n3,n4]
          refine @wpG_p _ _ _ _ _ (some 6) (.bool true) _ _ rfl (by rfl) (fun _=>rfl) ?_
          simp only [n1,n3,n4]
          refine wpG_done (fun V332 hv333=>?_)
          have S334 : Hid (St w noB [blk g322 28 [((Gm.nB F 0).a:Int), ((Gm.nB F 0).b:Int), ((Gm.nB F 0).c:Int), ((Gm.nB F 0).d:Int), ((Gm.nB F 0).e:Int), ((Gm.nB F 0).f:Int), .slice A313 n314 c315],own (.slice A313 n314 c315) 3 1 n314 (ic (Gm.paste (Gm.nB F 0) (Gm.nL F 0) B l)),blk g303 28 [((Gm.nB F 0).a:Int), ((Gm.nB F 0).b:Int), ((Gm.nB F 0).c:Int), ((Gm.nB F 0).d:Int), ((Gm.nB F 0).e:Int), ((Gm.nB F 0).f:Int), .slice A294 n295 c296],own (.slice A294 n295 c296) 3 1 n295 (ic (Gm.paste (Gm.nB F 0) (Gm.nL F 0) B l)),blk g272 28 [((Gm.nB F m).a:Int), ((Gm.nB F m).b:Int), ((Gm.nB F m).c:Int), ((Gm.nB F m).d:Int), ((Gm.nB F m).e:Int), ((Gm.nB F m).f:Int), .slice A263 n264 c265],own (.slice A263 n264 c265) 3 1 n264 (ic (Gm.nL F m)),blk g253 28 [((Gm.nB F m).a:Int), ((Gm.nB F m).b:Int), ((Gm.nB F m).c:Int), ((Gm.nB F m).d:Int), ((Gm.nB F m).e:Int), ((Gm.nB F m).f:Int), .slice A244 n245 c246],own (.slice A244 n245 c246) 3 1 n245 (ic (Gm.nL F m)),blk g9 25 [F.a, F.b, F.c, F.d, F.e, F.f],blk g4 28 [B.a, B.b, B.c, B.d, B.e, B.f, .slice A n c]] V332):=Lib.hid (S331.out.gr hv333)
          clear S331
          clear hv333
          refine ⟨rfl,hK _ _ ?_⟩
          clear hK
          go_wp2_with fail
          go_ret
          refine ⟨?_,S334.out.bel⟩
          show Ending.returned (.bool true) = _
          (first | rfl | (have e_f16:=f16.out;have e_f237:=f237.out;have e_f293:=f293.out;rfl))
  | false =>
    have f335:=Lib.hid (of_decide_eq_false Hc15.out.symm)
    refine @wpG_no _ _ _ _ _ (some 21) _ _ rfl (by rfl) ?_
    simp only [n1,n3,n4]
    refine @wpG_no _ _ _ _ _ (some 22) _ _ rfl (by rfl) ?_
    simp only [n1,n3,n4]
    refine @wpG_no _ _ _ _ _ (some 23) _ _ rfl (by rfl) ?_
    simp only [n1,n3,n4]
    refine @wpG_p _ _ _ _ _ (some 24) (.bool false) _ _ rfl (by rfl) (fun W=>by go_simp) ?_
    simp only [n1,n3,n4]
    refine @wpG_p _ _ _ _ _ (some 7) (.bool false) _ _ rfl (by rfl) (fun _=>rfl) ?_
    simp only [n1,n3,n4]
    refine wpG_done (fun V336 hv337=>?_)
    have S338 : Hid (St w noB [blk g9 25 [F.a, F.b, F.c, F.d, F.e, F.f],blk g4 28 [B.a, B.b, B.c, B.d, B.e, B.f, .slice A n c]] V336):=Lib.hid (S14.out.gr hv337)
    clear S14
    clear hv337
    refine ⟨rfl,hK _ _ ?_⟩
    clear hK
    go_upto_region 2 with fail
    refine wpG_region_k (fun K hK=>?_)
    refine @wpG_tk _ _ _ _ _ (some 25) (.agg #[F.a, F.b, F.c, F.d, F.e, F.f]) _ _ rfl (.load_mid (by rfl) 25 (.tmp 4) rfl g9 0 rfl [F.a, F.b, F.c, F.d, F.e, F.f] _ (fun W hg=>(S338.out.gr hg).range 0 rfl 0 6 rfl) Tryd.underlying25 rfl (by kernel_rfl)) ?_
    simp only [n1,n3,n4]
    refine @wpG_tk _ _ _ _ _ (some 26) (Gm.volw F) _ _ rfl (.call (f:=10) (args:=#[.agg #[F.a, F.b, F.c, F.d, F.e, F.f]]) (by rfl) (fun W=>by go_simp) (fun W hg=>volw_b F W)) ?_
    simp only [n1,n3,n4]
    refine @wpG_p _ _ _ _ _ (some 8) (Gm.volw F) _ _ rfl (by rfl) (fun _=>rfl) ?_
    simp only [n1,n3,n4]
    refine wpG_done (fun V339 hv340=>?_)
    have S341 : Hid (St w noB [blk g9 25 [F.a, F.b, F.c, F.d, F.e, F.f],blk g4 28 [B.a, B.b, B.c, B.d, B.e, B.f, .slice A n c]] V339):=Lib.hid (S338.out.gr hv340)
    clear S338
    clear hv340
    refine ⟨rfl,hK _ _ ?_⟩
    clear hK
    go_upto_region 3 with fail
    refine wpG_region_k (fun K hK=>?_)
    refine @wpG_p _ _ _ _ _ (some 27) (.pointer (some ⟨g4,6,none⟩)) _ _ rfl (by rfl) (fun W=>by go_simp) ?_
    simp only [n1,n3,n4]
    refine @wpG_r _ _ _ _ _ (some 28) (.slice A n c) _ _ rfl (by rfl) (fun W hg=>by have c:=(S341.out.gr hg).cell 1 rfl 6 rfl;go_simp) ?_
    simp only [n1,n3,n4]
    refine @wpG_p _ _ _ _ _ (some 29) (n : Int) _ _ rfl (by rfl) (fun W=>by go_simp) ?_
    simp only [n1,n3,n4]
    refine @wpG_p _ _ _ _ _ (some 30) (.bool (decide ((n : Int) > 1000))) _ _ rfl (by rfl) (fun W=>op_int_gtr W (n : Int) 1000 rfl rfl rfl Tryd.underlying3) ?_
    simp only [n1,n3,n4]
    refine @wpG_p _ _ _ _ _ (some 31) (.bool (decide ((n : Int) > 1000))) _ _ rfl (by rfl) (fun _=>rfl) ?_
    simp only [n1,n3,n4]
    obtain ⟨c342,hc342⟩ : ∃ q_,q_ = (decide ((n : Int) > 1000)):=⟨_,rfl⟩
    rw [← hc342]
    have Hc342:=Lib.hid hc342
    clear hc342
    cases c342 with
    | true =>
      have f343:=of_decide_eq_true Hc342.out.symm
      refine @wpG_no _ _ _ _ _ (some 32) _ _ rfl (by rfl) ?_
      simp only [n1,n3,n4]
      refine @wpG_no _ _ _ _ _ (some 33) _ _ rfl (by rfl) ?_
      simp only [n1,n3,n4]
      refine @wpG_no _ _ _ _ _ (some 34) _ _ rfl (by rfl) ?_
      simp only [n1,n3,n4]
      refine @wpG_no _ _ _ _ _ (some 35) _ _ rfl (by rfl) ?_
      simp only [n1,n3,n4]
      refine @wpG_no _ _ _ _ _ (some 36) _ _ rfl (by rfl) ?_
      simp only [n1,n3,n4]
      refine @wpG_no _ _ _ _ _ (some 37) _ _ rfl (by rfl) ?_
      simp only [n1,n3,n4]
      refine @wpG_no _ _ _ _ _ (some 38) _ _ rfl (by rfl) ?_
      simp only [n1,n3,n4]
      refine @wpG_no _ _ _ _ _ (some 39) _ _ rfl (by rfl) ?_
      simp only [n1,n3,n4]
      refine @wpG_no _ _ _ _ _ (some 40) _ _ rfl (by rfl) ?_
      simp only [n1,n3,n4]
      refine @wpG_p _ _ _ _ _ (some 41) (.bool true) _ _ rfl (by rfl) (fun W=>by go_simp) ?_
      simp only [n1,n3,n4]
      refine wpG_done (fun V344 hv345=>?_)
      have S346 : Hid (St w noB [blk g9 25 [F.a, F.b, F.c, F.d, F.e, F.f],blk g4 28 [B.a, B.b, B.c, B.d, B.e, B.f, .slice A n c]] V344):=Lib.hid (S341.out.gr hv345)
      clear S341
      clear hv345
      refine ⟨rfl,hK _ _ ?_⟩
      clear hK
      go_upto_region 4 with fail
      refine wpG_region_k (fun K hK=>?_)
      refine @wpG_tk _ _ _ _ _ (some 42) (.bool true) _ _ rfl (.call (f:=11) (args:=#[]) (by rfl) (fun W=>by go_simp) (fun W hg=>(HSAN.out W (S346.out.gr hg).bel))) ?_
      simp only [n1,n3,n4]
      refine @wpG_p _ _ _ _ _ (some 6) (.bool true) _ _ rfl (by rfl) (fun _=>rfl) ?_
      simp only [n1,n3,n4]
      refine wpG_done (fun V347 hv348=>?_)
      have S349 : Hid (St w noB [blk g9 25 [F.a, F.b, F.c, F.d, F.e, F.f],blk g4 28 [B.a, B.b, B.c, B.d, B.e, B.f, .slice A n c]] V347):=Lib.hid (S346.out.gr hv348)
      clear S346
      clear hv348
      refine ⟨rfl,hK _ _ ?_⟩
      clear hK
      go_wp2_with fail
      go_ret
      refine ⟨?_,S349.out.bel⟩
      show Ending.returned (.bool true) = _
      (first | rfl | (have e_f335:=f335.out;rfl))
    | false =>
      have f350:=of_decide_eq_false Hc342.out.symm
      refine @wpG_p _ _ _ _ _ (some 32) (.bool false) _ _ rfl (by rfl) (fun _=>rfl) ?_
      simp only [n1,n3,n4]
      refine @wpG_p _ _ _ _ _ (some 33) (.bool false) _ _ rfl (by rfl) (fun _=>rfl) ?_
      simp only [n1,n3,n4]
      refine @wpG_no _ _ _ _ _ (some 34) _ _ rfl (by rfl) ?_
      simp only [n1,n3,n4]
      refine @wpG_no _ _ _ _ _ (some 35) _ _ rfl (by rfl) ?_
      simp only [n1,n3,n4]
      refine @wpG_p _ _ _ _ _ (some 36) (.bool false) _ _ rfl (by rfl) (fun W=>by go_simp) ?_
      simp only [n1,n3,n4]
      refine @wpG_p _ _ _ _ _ (some 37) (.bool false) _ _ rfl (by rfl) (fun _=>rfl) ?_
      simp only [n1,n3,n4]
      refine @wpG_no _ _ _ _ _ (some 38) _ _ rfl (by rfl) ?_
      simp only [n1,n3,n4]
      refine @wpG_no _ _ _ _ _ (some 39) _ _ rfl (by rfl) ?_
      simp only [n1,n3,n4]
      refine @wpG_p _ _ _ _ _ (some 40) (.bool false) _ _ rfl (by rfl) (fun W=>by go_simp) ?_
      simp only [n1,n3,n4]
      refine @wpG_p _ _ _ _ _ (some 41) (.bool false) _ _ rfl (by rfl) (fun W=>by go_simp) ?_
      simp only [n1,n3,n4]
      refine wpG_done (fun V351 hv352=>?_)
      have S353 : Hid (St w noB [blk g9 25 [F.a, F.b, F.c, F.d, F.e, F.f],blk g4 28 [B.a, B.b, B.c, B.d, B.e, B.f, .slice A n c]] V351):=Lib.hid (S341.out.gr hv352)
      clear S341
      clear hv352
      refine ⟨rfl,hK _ _ ?_⟩
      clear hK
      go_upto_region 5 with fail
      refine wpK_region_k (by kernel_rfl) (fun K hK=>?_)
      refine wpK_tk (i:=0) (some 43) (v:=.agg #[B.a, B.b, B.c, B.d, B.e, B.f, .slice A n c]) rfl rfl (by kernel_rfl) (fun _ _ _ h=>onN_panic h) (.load_mid (by rfl) 28 (.tmp 3) rfl g4 0 rfl [B.a, B.b, B.c, B.d, B.e, B.f, .slice A n c] _ (fun W hg=>(S353.out.gr (Gr.un hg)).range 1 rfl 0 7 rfl) Tryd.underlying28 rfl (by kernel_rfl)) ?_
      simp only [n1,n3,n4]
      refine wpK_tk (i:=1) (some 44) (v:=.bool (decide (Gm.vld B l))) rfl rfl (by kernel_rfl) (fun _ _ _ h=>onN_panic h) (.call (f:=12) (args:=#[.agg #[B.a, B.b, B.c, B.d, B.e, B.f, .slice A n c]]) (by rfl) (fun W=>by go_simp) (fun W hg=>valid_any B _ _ _ l W (HGA.out.gr (S353.out.gr (Gr.un hg)).bel))) ?_
      simp only [n1,n3,n4]
      refine wpK_tk (i:=2) (some 45) (v:=.agg #[B.a, B.b, B.c, B.d, B.e, B.f, .slice A n c]) rfl rfl (by kernel_rfl) (fun _ _ _ h=>onN_panic h) (.load_mid (by rfl) 28 (.tmp 3) rfl g4 0 rfl [B.a, B.b, B.c, B.d, B.e, B.f, .slice A n c] _ (fun W hg=>(S353.out.gr (Gr.un hg)).range 1 rfl 0 7 rfl) Tryd.underlying28 rfl (by kernel_rfl)) ?_
      simp only [n1,n3,n4]
      refine wpK_tk (i:=3) (some 46) (v:=.bool (decide (Gm.vld B l))) rfl rfl (by kernel_rfl) (fun _ _ _ h=>onN_panic h) (.call (f:=13) (args:=#[.agg #[B.a, B.b, B.c, B.d, B.e, B.f, .slice A n c]]) (by rfl) (fun W=>by go_simp) (fun W hg=>rvalid_any B _ _ _ l W (HGA.out.gr (S353.out.gr (Gr.un hg)).bel))) ?_
      simp only [n1,n3,n4]
      refine wpK_ta (i:=4) (some 47) (v:=.bool false) rfl rfl (by kernel_rfl) (fun _ _ _ h=>onN_panic h) (Or.inl ⟨by rfl,fun W=>by first | (go_simp;done) | (skip <;> rfl) | (skip <;> go_simp)⟩) ?_
      simp only [n1,n3,n4]
      refine wpK_done (by kernel_rfl) (fun V354 hv355=>?_) _
      have S356 : Hid (St w noB [blk g9 25 [F.a, F.b, F.c, F.d, F.e, F.f],blk g4 28 [B.a, B.b, B.c, B.d, B.e, B.f, .slice A n c]] V354):=Lib.hid (S353.out.gr (Gr.un hv355))
      clear S353
      clear hv355
      refine ⟨rfl,hK _ _ ?_⟩
      clear hK
      go_upto_region 7 with fail
      refine wpG_region_k (fun K hK=>?_)
      refine @wpG_tk _ _ _ _ _ (some 49) (.agg #[F.a, F.b, F.c, F.d, F.e, F.f]) _ _ rfl (.load_mid (by rfl) 25 (.tmp 4) rfl g9 0 rfl [F.a, F.b, F.c, F.d, F.e, F.f] _ (fun W hg=>(S356.out.gr hg).range 0 rfl 0 6 rfl) Tryd.underlying25 rfl (by kernel_rfl)) ?_
      simp only [n1,n3,n4]
      refine @wpG_p _ _ _ _ _ (some 50) m _ _ rfl (by rfl) (fun _=>rfl) ?_
      simp only [n1,n3,n4]
      refine wpG_call (some 51) 14 #[.agg #[F.a, F.b, F.c, F.d, F.e, F.f], m] rfl (by rfl) (fun W=>by go_simp) (fun W360 hg361=>?_)
      refine (new_any F m W360).mono ?_
      rintro e w362 ⟨A357,n358,c359,rfl,hS_⟩
      refine ⟨_,rfl, ?_⟩
      have hT_:=(S356.out.gr hg361).got hS_
      simp only [n1,n3,n4]
      have S363 : Hid (St w noB [own (.slice A357 n358 c359) 3 1 n358 (ic (Gm.nL F m)),blk g9 25 [F.a, F.b, F.c, F.d, F.e, F.f],blk g4 28 [B.a, B.b, B.c, B.d, B.e, B.f, .slice A n c]] w362):=Lib.hid hT_
      clear S356
      clear hT_ hS_ hg361
      refine @wpG_p _ _ _ _ _ (some 48) (.tuple #[.agg #[((Gm.nB F m).a:Int), ((Gm.nB F m).b:Int), ((Gm.nB F m).c:Int), ((Gm.nB F m).d:Int), ((Gm.nB F m).e:Int), ((Gm.nB F m).f:Int), .slice A357 n358 c359], (Gm.nE F m)]) _ _ rfl (by rfl) (fun _=>rfl) ?_
      simp only [n1,n3,n4]
      refine @wpG_p _ _ _ _ _ (some 52) (.agg #[((Gm.nB F m).a:Int), ((Gm.nB F m).b:Int), ((Gm.nB F m).c:Int), ((Gm.nB F m).d:Int), ((Gm.nB F m).e:Int), ((Gm.nB F m).f:Int), .slice A357 n358 c359]) _ _ rfl (by rfl) (fun W=>by go_simp) ?_
      simp only [n1,n3,n4]
      refine @wpG_p _ _ _ _ _ (some 53) (Gm.nE F m) _ _ rfl (by rfl) (fun W=>by go_simp) ?_
      simp only [n1,n3,n4]
      refine wpG_val (some 9) rfl (by rfl) (fun W364 hg365=>⟨.pointer (some ⟨W364.heap.size,0,none⟩),W364.alloc (.cells #[(), (), (), (), (), (), .slice none 0 0] 28),by (first | (go_simp;done) | (go_simp <;> rfl)), ?_⟩)
      simp only [n1,n3,n4]
      obtain ⟨g366,U367,hg_,hu_,hS_⟩:=(S363.out.gr hg365).made [(), (), (), (), (), (), .slice none 0 0] 28
      rw [← hu_,← hg_]
      have S368 : Hid (St w noB [blk g366 28 [(), (), (), (), (), (), .slice none 0 0],own (.slice A357 n358 c359) 3 1 n358 (ic (Gm.nL F m)),blk g9 25 [F.a, F.b, F.c, F.d, F.e, F.f],blk g4 28 [B.a, B.b, B.c, B.d, B.e, B.f, .slice A n c]] U367):=Lib.hid hS_
      clear S363
      clear hg_ hu_ hS_ hg365
      refine wpG_store (none) rfl (by rfl) (fun W369 hg370=>⟨_,run_store_mid 28 (.tmp 9) (.tmp 52) rfl g366 0 #[((Gm.nB F m).a:Int), ((Gm.nB F m).b:Int), ((Gm.nB F m).c:Int), ((Gm.nB F m).d:Int), ((Gm.nB F m).e:Int), ((Gm.nB F m).f:Int), .slice A357 n358 c359] rfl rfl ((S368.out.gr hg370).room 0 rfl 0 7 (by simp)) (by kernel_rfl) (by kernel_rfl), ?_⟩)
      simp only [n2]
      obtain ⟨U371,hu_,hS_⟩:=((S368.out.gr hg370).put 0 rfl 0 (#[((Gm.nB F m).a:Int), ((Gm.nB F m).b:Int), ((Gm.nB F m).c:Int), ((Gm.nB F m).d:Int), ((Gm.nB F m).e:Int), ((Gm.nB F m).f:Int), .slice A357 n358 c359] : Array Value).toList (ds:=[((Gm.nB F m).a:Int), ((Gm.nB F m).b:Int), ((Gm.nB F m).c:Int), ((Gm.nB F m).d:Int), ((Gm.nB F m).e:Int), ((Gm.nB F m).f:Int), .slice A357 n358 c359]) rfl).named
      rw [← hu_]
      have S372 : Hid (St w noB [blk g366 28 [((Gm.nB F m).a:Int), ((Gm.nB F m).b:Int), ((Gm.nB F m).c:Int), ((Gm.nB F m).d:Int), ((Gm.nB F m).e:Int), ((Gm.nB F m).f:Int), .slice A357 n358 c359],own (.slice A357 n358 c359) 3 1 n358 (ic (Gm.nL F m)),blk g9 25 [F.a, F.b, F.c, F.d, F.e, F.f],blk g4 28 [B.a, B.b, B.c, B.d, B.e, B.f, .slice A n c]] U371):=Lib.hid hS_
      clear S368
      clear hu_ hS_ hg370
      refine @wpG_p _ _ _ _ _ (some 10) (Gm.nE F m) _ _ rfl (by rfl) (fun _=>rfl) ?_
      simp only [n1,n3,n4]
      refine wpG_done (fun V373 hv374=>?_)
      have S375 : Hid (St w noB [blk g366 28 [((Gm.nB F m).a:Int), ((Gm.nB F m).b:Int), ((Gm.nB F m).c:Int), ((Gm.nB F m).d:Int), ((Gm.nB F m).e:Int), ((Gm.nB F m).f:Int), .slice A357 n358 c359],own (.slice A357 n358 c359) 3 1 n358 (ic (Gm.nL F m)),blk g9 25 [F.a, F.b, F.c, F.d, F.e, F.f],blk g4 28 [B.a, B.b, B.c, B.d, B.e, B.f, .slice A n c]] V373):=Lib.hid (S372.out.gr hv374)
      clear S372
      clear hv374
      refine ⟨rfl,hK _ _ ?_⟩
      clear hK
      go_upto_region 8 with fail
      refine wpG_region_k (fun K hK=>?_)
      refine @wpG_tk _ _ _ _ _ (some 55) (.agg #[F.a, F.b, F.c, F.d, F.e, F.f]) _ _ rfl (.load_mid (by rfl) 25 (.tmp 4) rfl g9 0 rfl [F.a, F.b, F.c, F.d, F.e, F.f] _ (fun W hg=>(S375.out.gr hg).range 2 rfl 0 6 rfl) Tryd.underlying25 rfl (by kernel_rfl)) ?_
      simp only [n1,n3,n4]
      refine @wpG_p _ _ _ _ _ (some 56) m _ _ rfl (by rfl) (fun _=>rfl) ?_
      simp only [n1,n3,n4]
      refine wpG_call (some 57) 15 #[.agg #[F.a, F.b, F.c, F.d, F.e, F.f], m] rfl (by rfl) (fun W=>by go_simp) (fun W379 hg380=>?_)
      refine (rnew_any F m W379).mono ?_
      rintro e w381 ⟨A376,n377,c378,rfl,hS_⟩
      refine ⟨_,rfl, ?_⟩
      have hT_:=(S375.out.gr hg380).got hS_
      simp only [n1,n3,n4]
      have S382 : Hid (St w noB [own (.slice A376 n377 c378) 3 1 n377 (ic (Gm.nL F m)),blk g366 28 [((Gm.nB F m).a:Int), ((Gm.nB F m).b:Int), ((Gm.nB F m).c:Int), ((Gm.nB F m).d:Int), ((Gm.nB F m).e:Int), ((Gm.nB F m).f:Int), .slice A357 n358 c359],own (.slice A357 n358 c359) 3 1 n358 (ic (Gm.nL F m)),blk g9 25 [F.a, F.b, F.c, F.d, F.e, F.f],blk g4 28 [B.a, B.b, B.c, B.d, B.e, B.f, .slice A n c]] w381):=Lib.hid hT_
      clear S375
      clear hT_ hS_ hg380
      refine @wpG_p _ _ _ _ _ (some 54) (.tuple #[.agg #[((Gm.nB F m).a:Int), ((Gm.nB F m).b:Int), ((Gm.nB F m).c:Int), ((Gm.nB F m).d:Int), ((Gm.nB F m).e:Int), ((Gm.nB F m).f:Int), .slice A376 n377 c378], (Gm.nE F m)]) _ _ rfl (by rfl) (fun _=>rfl) ?_
      simp only [n1,n3,n4]
      refine @wpG_p _ _ _ _ _ (some 58) (.agg #[((Gm.nB F m).a:Int), ((Gm.nB F m).b:Int), ((Gm.nB F m).c:Int), ((Gm.nB F m).d:Int), ((Gm.nB F m).e:Int), ((Gm.nB F m).f:Int), .slice A376 n377 c378]) _ _ rfl (by rfl) (fun W=>by go_simp) ?_
      simp only [n1,n3,n4]
      refine @wpG_p _ _ _ _ _ (some 59) (Gm.nE F m) _ _ rfl (by rfl) (fun W=>by go_simp) ?_
      simp only [n1,n3,n4]
      refine wpG_val (some 11) rfl (by rfl) (fun W383 hg384=>⟨.pointer (some ⟨W383.heap.size,0,none⟩),W383.alloc (.cells #[(), (), (), (), (), (), .slice none 0 0] 28),by (first | (go_simp;done) | (go_simp <;> rfl)), ?_⟩)
      simp only [n1,n3,n4]
      obtain ⟨g385,U386,hg_,hu_,hS_⟩:=(S382.out.gr hg384).made [(), (), (), (), (), (), .slice none 0 0] 28
      rw [← hu_,← hg_]
      have S387 : Hid (St w noB [blk g385 28 [(), (), (), (), (), (), .slice none 0 0],own (.slice A376 n377 c378) 3 1 n377 (ic (Gm.nL F m)),blk g366 28 [((Gm.nB F m).a:Int), ((Gm.nB F m).b:Int), ((Gm.nB F m).c:Int), ((Gm.nB F m).d:Int), ((Gm.nB F m).e:Int), ((Gm.nB F m).f:Int), .slice A357 n358 c359],own (.slice A357 n358 c359) 3 1 n358 (ic (Gm.nL F m)),blk g9 25 [F.a, F.b, F.c, F.d, F.e, F.f],blk g4 28 [B.a, B.b, B.c, B.d, B.e, B.f, .slice A n c]] U386):=Lib.hid hS_
      clear S382
      clear hg_ hu_ hS_ hg384
      refine wpG_store (none) rfl (by rfl) (fun W388 hg389=>⟨_,run_store_mid 28 (.tmp 11) (.tmp 58) rfl g385 0 #[((Gm.nB F m).a:Int), ((Gm.nB F m).b:Int), ((Gm.nB F m).c:Int), ((Gm.nB F m).d:Int), ((Gm.nB F m).e:Int), ((Gm.nB F m).f:Int), .slice A376 n377 c378] rfl rfl ((S387.out.gr hg389).room 0 rfl 0 7 (by simp)) (by kernel_rfl) (by kernel_rfl), ?_⟩)
      simp only [n2]
      obtain ⟨U390,hu_,hS_⟩:=((S387.out.gr hg389).put 0 rfl 0 (#[((Gm.nB F m).a:Int), ((Gm.nB F m).b:Int), ((Gm.nB F m).c:Int), ((Gm.nB F m).d:Int), ((Gm.nB F m).e:Int), ((Gm.nB F m).f:Int), .slice A376 n377 c378] : Array Value).toList (ds:=[((Gm.nB F m).a:Int), ((Gm.nB F m).b:Int), ((Gm.nB F m).c:Int), ((Gm.nB F m).d:Int), ((Gm.nB F m).e:Int), ((Gm.nB F m).f:Int), .slice A376 n377 c378]) rfl).named
      rw [← hu_]
      have S391 : Hid (St w noB [blk g385 28 [((Gm.nB F m).a:Int), ((Gm.nB F m).b:Int), ((Gm.nB F m).c:Int), ((Gm.nB F m).d:Int), ((Gm.nB F m).e:Int), ((Gm.nB F m).f:Int), .slice A376 n377 c378],own (.slice A376 n377 c378) 3 1 n377 (ic (Gm.nL F m)),blk g366 28 [((Gm.nB F m).a:Int), ((Gm.nB F m).b:Int), ((Gm.nB F m).c:Int), ((Gm.nB F m).d:Int), ((Gm.nB F m).e:Int), ((Gm.nB F m).f:Int), .slice A357 n358 c359],own (.slice A357 n358 c359) 3 1 n358 (ic (Gm.nL F m)),blk g9 25 [F.a, F.b, F.c, F.d, F.e, F.f],blk g4 28 [B.a, B.b, B.c, B.d, B.e, B.f, .slice A n c]] U390):=Lib.hid hS_
      clear S387
      clear hu_ hS_ hg389
      refine @wpG_p _ _ _ _ _ (some 12) (Gm.nE F m) _ _ rfl (by rfl) (fun _=>rfl) ?_
      simp only [n1,n3,n4]
      refine wpG_done (fun V392 hv393=>?_)
      have S394 : Hid (St w noB [blk g385 28 [((Gm.nB F m).a:Int), ((Gm.nB F m).b:Int), ((Gm.nB F m).c:Int), ((Gm.nB F m).d:Int), ((Gm.nB F m).e:Int), ((Gm.nB F m).f:Int), .slice A376 n377 c378],own (.slice A376 n377 c378) 3 1 n377 (ic (Gm.nL F m)),blk g366 28 [((Gm.nB F m).a:Int), ((Gm.nB F m).b:Int), ((Gm.nB F m).c:Int), ((Gm.nB F m).d:Int), ((Gm.nB F m).e:Int), ((Gm.nB F m).f:Int), .slice A357 n358 c359],own (.slice A357 n358 c359) 3 1 n358 (ic (Gm.nL F m)),blk g9 25 [F.a, F.b, F.c, F.d, F.e, F.f],blk g4 28 [B.a, B.b, B.c, B.d, B.e, B.f, .slice A n c]] V392):=Lib.hid (S391.out.gr hv393)
      clear S391
      clear hv393
      refine ⟨rfl,hK _ _ ?_⟩
      clear hK
      go_upto_region 9 with fail
      refine wpG_region_k (fun K hK=>?_)
      refine @wpG_tk _ _ _ _ _ (some 60) (.agg #[((Gm.nB F m).a:Int), ((Gm.nB F m).b:Int), ((Gm.nB F m).c:Int), ((Gm.nB F m).d:Int), ((Gm.nB F m).e:Int), ((Gm.nB F m).f:Int), .slice A357 n358 c359]) _ _ rfl (.load_mid (by rfl) 28 (.tmp 9) rfl g366 0 rfl [((Gm.nB F m).a:Int), ((Gm.nB F m).b:Int), ((Gm.nB F m).c:Int), ((Gm.nB F m).d:Int), ((Gm.nB F m).e:Int), ((Gm.nB F m).f:Int), .slice A357 n358 c359] _ (fun W hg=>(S394.out.gr hg).range 2 rfl 0 7 rfl) Tryd.underlying28 rfl (by kernel_rfl)) ?_
      simp only [n1,n3,n4]
      refine @wpG_tk _ _ _ _ _ (some 61) (.agg #[((Gm.nB F m).a:Int), ((Gm.nB F m).b:Int), ((Gm.nB F m).c:Int), ((Gm.nB F m).d:Int), ((Gm.nB F m).e:Int), ((Gm.nB F m).f:Int), .slice A376 n377 c378]) _ _ rfl (.load_mid (by rfl) 28 (.tmp 11) rfl g385 0 rfl [((Gm.nB F m).a:Int), ((Gm.nB F m).b:Int), ((Gm.nB F m).c:Int), ((Gm.nB F m).d:Int), ((Gm.nB F m).e:Int), ((Gm.nB F m).f:Int), .slice A376 n377 c378] _ (fun W hg=>(S394.out.gr hg).range 0 rfl 0 7 rfl) Tryd.underlying28 rfl (by kernel_rfl)) ?_
      simp only [n1,n3,n4]
      refine @wpG_tk _ _ _ _ _ (some 62) (.bool true) _ _ rfl (.call (f:=16) (args:=#[.agg #[((Gm.nB F m).a:Int), ((Gm.nB F m).b:Int), ((Gm.nB F m).c:Int), ((Gm.nB F m).d:Int), ((Gm.nB F m).e:Int), ((Gm.nB F m).f:Int), .slice A357 n358 c359], .agg #[((Gm.nB F m).a:Int), ((Gm.nB F m).b:Int), ((Gm.nB F m).c:Int), ((Gm.nB F m).d:Int), ((Gm.nB F m).e:Int), ((Gm.nB F m).f:Int), .slice A376 n377 c378]]) (by rfl) (fun W=>by go_simp) (fun W hg=>((requal_any (Gm.nB F m) _ _ _ (Gm.nL F m) (Gm.nB F m) _ _ _ (Gm.nL F m) W (SL.ofOwn ((S394.out.gr hg).ownr 3 rfl)) (SL.ofOwn ((S394.out.gr hg).ownr 1 rfl))).mono (fun e w' h=>⟨h.1.trans (by rw [Gm.same_iff.2 ⟨rfl,rfl⟩]),h.2⟩)))) ?_
      simp only [n1,n3,n4]
      refine @wpG_p _ _ _ _ _ (some 63) (.bool false) _ _ rfl (by rfl) (fun W=>by first | (go_simp;done) | (cases true <;> rfl)) ?_
      simp only [n1,n3,n4]
      refine @wpG_p _ _ _ _ _ (some 64) (.bool false) _ _ rfl (by rfl) (fun _=>rfl) ?_
      simp only [n1,n3,n4]
      refine @wpG_p _ _ _ _ _ (some 65) (Gm.nE F m) _ _ rfl (by rfl) (fun _=>rfl) ?_
      simp only [n1,n3,n4]
      refine @wpG_p _ _ _ _ _ (some 66) (Gm.nE F m) _ _ rfl (by rfl) (fun _=>rfl) ?_
      simp only [n1,n3,n4]
      refine @wpG_p _ _ _ _ _ (some 67) (.bool false) _ _ rfl (by rfl) (fun W=>by go_simp) ?_
      simp only [n1,n3,n4]
      refine @wpG_p _ _ _ _ _ (some 68) (.bool false) _ _ rfl (by rfl) (fun W=>by go_simp) ?_
      simp only [n1,n3,n4]
      refine wpG_done (fun V395 hv396=>?_)
      have S397 : Hid (St w noB [blk g385 28 [((Gm.nB F m).a:Int), ((Gm.nB F m).b:Int), ((Gm.nB F m).c:Int), ((Gm.nB F m).d:Int), ((Gm.nB F m).e:Int), ((Gm.nB F m).f:Int), .slice A376 n377 c378],own (.slice A376 n377 c378) 3 1 n377 (ic (Gm.nL F m)),blk g366 28 [((Gm.nB F m).a:Int), ((Gm.nB F m).b:Int), ((Gm.nB F m).c:Int), ((Gm.nB F m).d:Int), ((Gm.nB F m).e:Int), ((Gm.nB F m).f:Int), .slice A357 n358 c359],own (.slice A357 n358 c359) 3 1 n358 (ic (Gm.nL F m)),blk g9 25 [F.a, F.b, F.c, F.d, F.e, F.f],blk g4 28 [B.a, B.b, B.c, B.d, B.e, B.f, .slice A n c]] V395):=Lib.hid (S394.out.gr hv396)
      clear S394
      clear hv396
      refine ⟨rfl,hK _ _ ?_⟩
      clear hK
      go_upto_region 11 with fail
      refine wpG_region_k (fun K hK=>?_)
      refine @wpG_tk _ _ _ _ _ (some 69) (.agg #[B.a, B.b, B.c, B.d, B.e, B.f, .slice A n c]) _ _ rfl (.load_mid (by rfl) 28 (.tmp 3) rfl g4 0 rfl [B.a, B.b, B.c, B.d, B.e, B.f, .slice A n c] _ (fun W hg=>(S397.out.gr hg).range 5 rfl 0 7 rfl) Tryd.underlying28 rfl (by kernel_rfl)) ?_
      simp only [n1,n3,n4]
      refine @wpG_tk _ _ _ _ _ (some 70) (.bool (decide (Gm.vld B l))) _ _ rfl (.call (f:=13) (args:=#[.agg #[B.a, B.b, B.c, B.d, B.e, B.f, .slice A n c]]) (by rfl) (fun W=>by go_simp) (fun W hg=>rvalid_any B _ _ _ l W (HGA.out.gr (S397.out.gr hg).bel))) ?_
      simp only [n1,n3,n4]
      refine @wpG_p _ _ _ _ _ (some 71) (.bool (!(decide (Gm.vld B l)))) _ _ rfl (by rfl) (fun W=>by go_simp) ?_
      simp only [n1,n3,n4]
      refine wpG_done (fun V398 hv399=>?_)
      have S400 : Hid (St w noB [blk g385 28 [((Gm.nB F m).a:Int), ((Gm.nB F m).b:Int), ((Gm.nB F m).c:Int), ((Gm.nB F m).d:Int), ((Gm.nB F m).e:Int), ((Gm.nB F m).f:Int), .slice A376 n377 c378],own (.slice A376 n377 c378) 3 1 n377 (ic (Gm.nL F m)),blk g366 28 [((Gm.nB F m).a:Int), ((Gm.nB F m).b:Int), ((Gm.nB F m).c:Int), ((Gm.nB F m).d:Int), ((Gm.nB F m).e:Int), ((Gm.nB F m).f:Int), .slice A357 n358 c359],own (.slice A357 n358 c359) 3 1 n358 (ic (Gm.nL F m)),blk g9 25 [F.a, F.b, F.c, F.d, F.e, F.f],blk g4 28 [B.a, B.b, B.c, B.d, B.e, B.f, .slice A n c]] V398):=Lib.hid (S397.out.gr hv399)
      clear S397
      clear hv399
      refine ⟨rfl,hK _ _ ?_⟩
      clear hK
      obtain ⟨c401,hc401⟩ : ∃ q_,q_ = (!(decide (Gm.vld B l))):=⟨_,rfl⟩
      rw [← hc401]
      have Hc401:=Lib.hid hc401
      clear hc401
      cases c401 with
      | true =>
        have f402:=Lib.hid (of_decide_eq_false (bnt Hc401.out))
        go_upto_region 12 with fail
        refine wpG_region_k (fun K hK=>?_)
        refine @wpG_tk _ _ _ _ _ (some 72) (.bool true) _ _ rfl (.call (f:=11) (args:=#[]) (by rfl) (fun W=>by go_simp) (fun W hg=>(HSAN.out W (S400.out.gr hg).bel))) ?_
        simp only [n1,n3,n4]
        refine @wpG_p _ _ _ _ _ (some 6) (.bool true) _ _ rfl (by rfl) (fun _=>rfl) ?_
        simp only [n1,n3,n4]
        refine wpG_done (fun V403 hv404=>?_)
        have S405 : Hid (St w noB [blk g385 28 [((Gm.nB F m).a:Int), ((Gm.nB F m).b:Int), ((Gm.nB F m).c:Int), ((Gm.nB F m).d:Int), ((Gm.nB F m).e:Int), ((Gm.nB F m).f:Int), .slice A376 n377 c378],own (.slice A376 n377 c378) 3 1 n377 (ic (Gm.nL F m)),blk g366 28 [((Gm.nB F m).a:Int), ((Gm.nB F m).b:Int), ((Gm.nB F m).c:Int), ((Gm.nB F m).d:Int), ((Gm.nB F m).e:Int), ((Gm.nB F m).f:Int), .slice A357 n358 c359],own (.slice A357 n358 c359) 3 1 n358 (ic (Gm.nL F m)),blk g9 25 [F.a, F.b, F.c, F.d, F.e, F.f],blk g4 28 [B.a, B.b, B.c, B.d, B.e, B.f, .slice A n c]] V403):=Lib.hid (S400.out.gr hv404)
        clear S400
        clear hv404
        refine ⟨rfl,hK _ _ ?_⟩
        clear hK
        go_wp2_with fail
        go_ret
        refine ⟨?_,S405.out.bel⟩
        show Ending.returned (.bool true) = _
        (first | rfl | (have e_f335:=f335.out;have e_f402:=f402.out;rfl))
      | false =>
        have f406:=Lib.hid (of_decide_eq_true (bnf Hc401.out))
        go_upto_region 13 with fail
        refine wpG_region_k (fun K hK=>?_)
        refine @wpG_tk _ _ _ _ _ (some 74) (.agg #[B.a, B.b, B.c, B.d, B.e, B.f, .slice A n c]) _ _ rfl (.load_mid (by rfl) 28 (.tmp 3) rfl g4 0 rfl [B.a, B.b, B.c, B.d, B.e, B.f, .slice A n c] _ (fun W hg=>(S400.out.gr hg).range 5 rfl 0 7 rfl) Tryd.underlying28 rfl (by kernel_rfl)) ?_
        simp only [n1,n3,n4]
        refine @wpG_tk _ _ _ _ _ (some 75) (.agg #[F.a, F.b, F.c, F.d, F.e, F.f]) _ _ rfl (.load_mid (by rfl) 25 (.tmp 4) rfl g9 0 rfl [F.a, F.b, F.c, F.d, F.e, F.f] _ (fun W hg=>(S400.out.gr hg).range 4 rfl 0 6 rfl) Tryd.underlying25 rfl (by kernel_rfl)) ?_
        simp only [n1,n3,n4]
        refine wpG_call (some 76) 17 #[.agg #[B.a, B.b, B.c, B.d, B.e, B.f, .slice A n c], .agg #[F.a, F.b, F.c, F.d, F.e, F.f]] rfl (by rfl) (fun W=>by go_simp) (fun W410 hg411=>?_)
        refine (crop_any B _ _ _ l F W410 (HGA.out.gr (S400.out.gr hg411).bel) (by have e_f335:=f335.out;have e_f406:=f406.out;exact (show Gm.vld B l by have h_:=e_f406;simpa using h_).ok)).mono ?_
        rintro e w412 ⟨A407,n408,c409,rfl,hS_⟩
        refine ⟨_,rfl, ?_⟩
        have hT_:=(S400.out.gr hg411).got hS_
        simp only [n1,n3,n4]
        have S413 : Hid (St w noB [own (.slice A407 n408 c409) 3 1 n408 (ic (Gm.paste (Gm.nB F 0) (Gm.nL F 0) B l)),blk g385 28 [((Gm.nB F m).a:Int), ((Gm.nB F m).b:Int), ((Gm.nB F m).c:Int), ((Gm.nB F m).d:Int), ((Gm.nB F m).e:Int), ((Gm.nB F m).f:Int), .slice A376 n377 c378],own (.slice A376 n377 c378) 3 1 n377 (ic (Gm.nL F m)),blk g366 28 [((Gm.nB F m).a:Int), ((Gm.nB F m).b:Int), ((Gm.nB F m).c:Int), ((Gm.nB F m).d:Int), ((Gm.nB F m).e:Int), ((Gm.nB F m).f:Int), .slice A357 n358 c359],own (.slice A357 n358 c359) 3 1 n358 (ic (Gm.nL F m)),blk g9 25 [F.a, F.b, F.c, F.d, F.e, F.f],blk g4 28 [B.a, B.b, B.c, B.d, B.e, B.f, .slice A n c]] w412):=Lib.hid hT_
        clear S400
        clear hT_ hS_ hg411
        refine @wpG_p _ _ _ _ _ (some 73) (.tuple #[.agg #[((Gm.nB F 0).a:Int), ((Gm.nB F 0).b:Int), ((Gm.nB F 0).c:Int), ((Gm.nB F 0).d:Int), ((Gm.nB F 0).e:Int), ((Gm.nB F 0).f:Int), .slice A407 n408 c409], (Gm.nE F 0)]) _ _ rfl (by rfl) (fun _=>rfl) ?_
        simp only [n1,n3,n4]
        refine @wpG_p _ _ _ _ _ (some 77) (.agg #[((Gm.nB F 0).a:Int), ((Gm.nB F 0).b:Int), ((Gm.nB F 0).c:Int), ((Gm.nB F 0).d:Int), ((Gm.nB F 0).e:Int), ((Gm.nB F 0).f:Int), .slice A407 n408 c409]) _ _ rfl (by rfl) (fun W=>by go_simp) ?_
        simp only [n1,n3,n4]
        refine @wpG_p _ _ _ _ _ (some 78) (Gm.nE F 0) _ _ rfl (by rfl) (fun W=>by go_simp) ?_
        simp only [n1,n3,n4]
        refine wpG_val (some 13) rfl (by rfl) (fun W414 hg415=>⟨.pointer (some ⟨W414.heap.size,0,none⟩),W414.alloc (.cells #[(), (), (), (), (), (), .slice none 0 0] 28),by (first | (go_simp;done) | (go_simp <;> rfl)), ?_⟩)
        simp only [n1,n3,n4]
        obtain ⟨g416,U417,hg_,hu_,hS_⟩:=(S413.out.gr hg415).made [(), (), (), (), (), (), .slice none 0 0] 28
        rw [← hu_,← hg_]
        have S418 : Hid (St w noB [blk g416 28 [(), (), (), (), (), (), .slice none 0 0],own (.slice A407 n408 c409) 3 1 n408 (ic (Gm.paste (Gm.nB F 0) (Gm.nL F 0) B l)),blk g385 28 [((Gm.nB F m).a:Int), ((Gm.nB F m).b:Int), ((Gm.nB F m).c:Int), ((Gm.nB F m).d:Int), ((Gm.nB F m).e:Int), ((Gm.nB F m).f:Int), .slice A376 n377 c378],own (.slice A376 n377 c378) 3 1 n377 (ic (Gm.nL F m)),blk g366 28 [((Gm.nB F m).a:Int), ((Gm.nB F m).b:Int), ((Gm.nB F m).c:Int), ((Gm.nB F m).d:Int), ((Gm.nB F m).e:Int), ((Gm.nB F m).f:Int), .slice A357 n358 c359],own (.slice A357 n358 c359) 3 1 n358 (ic (Gm.nL F m)),blk g9 25 [F.a, F.b, F.c, F.d, F.e, F.f],blk g4 28 [B.a, B.b, B.c, B.d, B.e, B.f, .slice A n c]] U417):=Lib.hid hS_
        clear S413
        clear hg_ hu_ hS_ hg415
        refine wpG_store (none) rfl (by rfl) (fun W419 hg420=>⟨_,run_store_mid 28 (.tmp 13) (.tmp 77) rfl g416 0 #[((Gm.nB F 0).a:Int), ((Gm.nB F 0).b:Int), ((Gm.nB F 0).c:Int), ((Gm.nB F 0).d:Int), ((Gm.nB F 0).e:Int), ((Gm.nB F 0).f:Int), .slice A407 n408 c409] rfl rfl ((S418.out.gr hg420).room 0 rfl 0 7 (by simp)) (by kernel_rfl) (by kernel_rfl), ?_⟩)
        simp only [n2]
        obtain ⟨U421,hu_,hS_⟩:=((S418.out.gr hg420).put 0 rfl 0 (#[((Gm.nB F 0).a:Int), ((Gm.nB F 0).b:Int), ((Gm.nB F 0).c:Int), ((Gm.nB F 0).d:Int), ((Gm.nB F 0).e:Int), ((Gm.nB F 0).f:Int), .slice A407 n408 c409] : Array Value).toList (ds:=[((Gm.nB F 0).a:Int), ((Gm.nB F 0).b:Int), ((Gm.nB F 0).c:Int), ((Gm.nB F 0).d:Int), ((Gm.nB F 0).e:Int), ((Gm.nB F 0).f:Int), .slice A407 n408 c409]) rfl).named
        rw [← hu_]
        have S422 : Hid (St w noB [blk g416 28 [((Gm.nB F 0).a:Int), ((Gm.nB F 0).b:Int), ((Gm.nB F 0).c:Int), ((Gm.nB F 0).d:Int), ((Gm.nB F 0).e:Int), ((Gm.nB F 0).f:Int), .slice A407 n408 c409],own (.slice A407 n408 c409) 3 1 n408 (ic (Gm.paste (Gm.nB F 0) (Gm.nL F 0) B l)),blk g385 28 [((Gm.nB F m).a:Int), ((Gm.nB F m).b:Int), ((Gm.nB F m).c:Int), ((Gm.nB F m).d:Int), ((Gm.nB F m).e:Int), ((Gm.nB F m).f:Int), .slice A376 n377 c378],own (.slice A376 n377 c378) 3 1 n377 (ic (Gm.nL F m)),blk g366 28 [((Gm.nB F m).a:Int), ((Gm.nB F m).b:Int), ((Gm.nB F m).c:Int), ((Gm.nB F m).d:Int), ((Gm.nB F m).e:Int), ((Gm.nB F m).f:Int), .slice A357 n358 c359],own (.slice A357 n358 c359) 3 1 n358 (ic (Gm.nL F m)),blk g9 25 [F.a, F.b, F.c, F.d, F.e, F.f],blk g4 28 [B.a, B.b, B.c, B.d, B.e, B.f, .slice A n c]] U421):=Lib.hid hS_
        clear S418
        clear hu_ hS_ hg420
        refine @wpG_p _ _ _ _ _ (some 14) (Gm.nE F 0) _ _ rfl (by rfl) (fun _=>rfl) ?_
        simp only [n1,n3,n4]
        refine wpG_done (fun V423 hv424=>?_)
        have S425 : Hid (St w noB [blk g416 28 [((Gm.nB F 0).a:Int), ((Gm.nB F 0).b:Int), ((Gm.nB F 0).c:Int), ((Gm.nB F 0).d:Int), ((Gm.nB F 0).e:Int), ((Gm.nB F 0).f:Int), .slice A407 n408 c409],own (.slice A407 n408 c409) 3 1 n408 (ic (Gm.paste (Gm.nB F 0) (Gm.nL F 0) B l)),blk g385 28 [((Gm.nB F m).a:Int), ((Gm.nB F m).b:Int), ((Gm.nB F m).c:Int), ((Gm.nB F m).d:Int), ((Gm.nB F m).e:Int), ((Gm.nB F m).f:Int), .slice A376 n377 c378],own (.slice A376 n377 c378) 3 1 n377 (ic (Gm.nL F m)),blk g366 28 [((Gm.nB F m).a:Int), ((Gm.nB F m).b:Int), ((Gm.nB F m).c:Int), ((Gm.nB F m).d:Int), ((Gm.nB F m).e:Int), ((Gm.nB F m).f:Int), .slice A357 n358 c359],own (.slice A357 n358 c359) 3 1 n358 (ic (Gm.nL F m)),blk g9 25 [F.a, F.b, F.c, F.d, F.e, F.f],blk g4 28 [B.a, B.b, B.c, B.d, B.e, B.f, .slice A n c]] V423):=Lib.hid (S422.out.gr hv424)
        clear S422
        clear hv424
        refine ⟨rfl,hK _ _ ?_⟩
        clear hK
        go_upto_region 14 with fail
        refine wpG_region_k (fun K hK=>?_)
        refine @wpG_tk _ _ _ _ _ (some 80) (.agg #[B.a, B.b, B.c, B.d, B.e, B.f, .slice A n c]) _ _ rfl (.load_mid (by rfl) 28 (.tmp 3) rfl g4 0 rfl [B.a, B.b, B.c, B.d, B.e, B.f, .slice A n c] _ (fun W hg=>(S425.out.gr hg).range 7 rfl 0 7 rfl) Tryd.underlying28 rfl (by kernel_rfl)) ?_
        simp only [n1,n3,n4]
        refine @wpG_tk _ _ _ _ _ (some 81) (.agg #[F.a, F.b, F.c, F.d, F.e, F.f]) _ _ rfl (.load_mid (by rfl) 25 (.tmp 4) rfl g9 0 rfl [F.a, F.b, F.c, F.d, F.e, F.f] _ (fun W hg=>(S425.out.gr hg).range 6 rfl 0 6 rfl) Tryd.underlying25 rfl (by kernel_rfl)) ?_
        simp only [n1,n3,n4]
        refine wpG_call (some 82) 18 #[.agg #[B.a, B.b, B.c, B.d, B.e, B.f, .slice A n c], .agg #[F.a, F.b, F.c, F.d, F.e, F.f]] rfl (by rfl) (fun W=>by go_simp) (fun W429 hg430=>?_)
        refine (rcrop_any B _ _ _ l F W429 (HGA.out.gr (S425.out.gr hg430).bel) (by have e_f335:=f335.out;have e_f406:=f406.out;exact (show Gm.vld B l by have h_:=e_f406;simpa using h_).ok)).mono ?_
        rintro e w431 ⟨A426,n427,c428,rfl,hS_⟩
        refine ⟨_,rfl, ?_⟩
        have hT_:=(S425.out.gr hg430).got hS_
        simp only [n1,n3,n4]
        have S432 : Hid (St w noB [own (.slice A426 n427 c428) 3 1 n427 (ic (Gm.paste (Gm.nB F 0) (Gm.nL F 0) B l)),blk g416 28 [((Gm.nB F 0).a:Int), ((Gm.nB F 0).b:Int), ((Gm.nB F 0).c:Int), ((Gm.nB F 0).d:Int), ((Gm.nB F 0).e:Int), ((Gm.nB F 0).f:Int), .slice A407 n408 c409],own (.slice A407 n408 c409) 3 1 n408 (ic (Gm.paste (Gm.nB F 0) (Gm.nL F 0) B l)),blk g385 28 [((Gm.nB F m).a:Int), ((Gm.nB F m).b:Int), ((Gm.nB F m).c:Int), ((Gm.nB F m).d:Int), ((Gm.nB F m).e:Int), ((Gm.nB F m).f:Int), .slice A376 n377 c378],own (.slice A376 n377 c378) 3 1 n377 (ic (Gm.nL F m)),blk g366 28 [((Gm.nB F m).a:Int), ((Gm.nB F m).b:Int), ((Gm.nB F m).c:Int), ((Gm.nB F m).d:Int), ((Gm.nB F m).e:Int), ((Gm.nB F m).f:Int), .slice A357 n358 c359],own (.slice A357 n358 c359) 3 1 n358 (ic (Gm.nL F m)),blk g9 25 [F.a, F.b, F.c, F.d, F.e, F.f],blk g4 28 [B.a, B.b, B.c, B.d, B.e, B.f, .slice A n c]] w431):=Lib.hid hT_
        clear S425
        clear hT_ hS_ hg430
        refine @wpG_p _ _ _ _ _ (some 79) (.tuple #[.agg #[((Gm.nB F 0).a:Int), ((Gm.nB F 0).b:Int), ((Gm.nB F 0).c:Int), ((Gm.nB F 0).d:Int), ((Gm.nB F 0).e:Int), ((Gm.nB F 0).f:Int), .slice A426 n427 c428], (Gm.nE F 0)]) _ _ rfl (by rfl) (fun _=>rfl) ?_
        simp only [n1,n3,n4]
        refine @wpG_p _ _ _ _ _ (some 83) (.agg #[((Gm.nB F 0).a:Int), ((Gm.nB F 0).b:Int), ((Gm.nB F 0).c:Int), ((Gm.nB F 0).d:Int), ((Gm.nB F 0).e:Int), ((Gm.nB F 0).f:Int), .slice A426 n427 c428]) _ _ rfl (by rfl) (fun W=>by go_simp) ?_
        simp only [n1,n3,n4]
        refine @wpG_p _ _ _ _ _ (some 84) (Gm.nE F 0) _ _ rfl (by rfl) (fun W=>by go_simp) ?_
        simp only [n1,n3,n4]
        refine wpG_val (some 15) rfl (by rfl) (fun W433 hg434=>⟨.pointer (some ⟨W433.heap.size,0,none⟩),W433.alloc (.cells #[(), (), (), (), (), (), .slice none 0 0] 28),by (first | (go_simp;done) | (go_simp <;> rfl)), ?_⟩)
        simp only [n1,n3,n4]
        obtain ⟨g435,U436,hg_,hu_,hS_⟩:=(S432.out.gr hg434).made [(), (), (), (), (), (), .slice none 0 0] 28
        rw [← hu_,← hg_]
        have S437 : Hid (St w noB [blk g435 28 [(), (), (), (), (), (), .slice none 0 0],own (.slice A426 n427 c428) 3 1 n427 (ic (Gm.paste (Gm.nB F 0) (Gm.nL F 0) B l)),blk g416 28 [((Gm.nB F 0).a:Int), ((Gm.nB F 0).b:Int), ((Gm.nB F 0).c:Int), ((Gm.nB F 0).d:Int), ((Gm.nB F 0).e:Int), ((Gm.nB F 0).f:Int), .slice A407 n408 c409],own (.slice A407 n408 c409) 3 1 n408 (ic (Gm.paste (Gm.nB F 0) (Gm.nL F 0) B l)),blk g385 28 [((Gm.nB F m).a:Int), ((Gm.nB F m).b:Int), ((Gm.nB F m).c:Int), ((Gm.nB F m).d:Int), ((Gm.nB F m).e:Int), ((Gm.nB F m).f:Int), .slice A376 n377 c378],own (.slice A376 n377 c378) 3 1 n377 (ic (Gm.nL F m)),blk g366 28 [((Gm.nB F m).a:Int), ((Gm.nB F m).b:Int), ((Gm.nB F m).c:Int), ((Gm.nB F m).d:Int), ((Gm.nB F m).e:Int), ((Gm.nB F m).f:Int), .slice A357 n358 c359],own (.slice A357 n358 c359) 3 1 n358 (ic (Gm.nL F m)),blk g9 25 [F.a, F.b, F.c, F.d, F.e, F.f],blk g4 28 [B.a, B.b, B.c, B.d, B.e, B.f, .slice A n c]] U436):=Lib.hid hS_
        clear S432
        clear hg_ hu_ hS_ hg434
        refine wpG_store (none) rfl (by rfl) (fun W438 hg439=>⟨_,run_store_mid 28 (.tmp 15) (.tmp 83) rfl g435 0 #[((Gm.nB F 0).a:Int), ((Gm.nB F 0).b:Int), ((Gm.nB F 0).c:Int), ((Gm.nB F 0).d:Int), ((Gm.nB F 0).e:Int), ((Gm.nB F 0).f:Int), .slice A426 n427 c428] rfl rfl ((S437.out.gr hg439).room 0 rfl 0 7 (by simp)) (by kernel_rfl) (by kernel_rfl), ?_⟩)
        simp only [n2]
        obtain ⟨U440,hu_,hS_⟩:=((S437.out.gr hg439).put 0 rfl 0 (#[((Gm.nB F 0).a:Int), ((Gm.nB F 0).b:Int), ((Gm.nB F 0).c:Int), ((Gm.nB F 0).d:Int), ((Gm.nB F 0).e:Int), ((Gm.nB F 0).f:Int), .slice A426 n427 c428] : Array Value).toList (ds:=[((Gm.nB F 0).a:Int), ((Gm.nB F 0).b:Int), ((Gm.nB F 0).c:Int), ((Gm.nB F 0).d:Int), ((Gm.nB F 0).e:Int), ((Gm.nB F 0).f:Int), .slice A426 n427 c428]) rfl).named
        rw [← hu_]
        have S441 : Hid (St w noB [blk g435 28 [((Gm.nB F 0).a:Int), ((Gm.nB F 0).b:Int), ((Gm.nB F 0).c:Int), ((Gm.nB F 0).d:Int), ((Gm.nB F 0).e:Int), ((Gm.nB F 0).f:Int), .slice A426 n427 c428],own (.slice A426 n427 c428) 3 1 n427 (ic (Gm.paste (Gm.nB F 0) (Gm.nL F 0) B l)),blk g416 28 [((Gm.nB F 0).a:Int), ((Gm.nB F 0).b:Int), ((Gm.nB F 0).c:Int), ((Gm.nB F 0).d:Int), ((Gm.nB F 0).e:Int), ((Gm.nB F 0).f:Int), .slice A407 n408 c409],own (.slice A407 n408 c409) 3 1 n408 (ic (Gm.paste (Gm.nB F 0) (Gm.nL F 0) B l)),blk g385 28 [((Gm.nB F m).a:Int), ((Gm.nB F m).b:Int), ((Gm.nB F m).c:Int), ((Gm.nB F m).d:Int), ((Gm.nB F m).e:Int), ((Gm.nB F m).f:Int), .slice A376 n377 c378],own (.slice A376 n377 c378) 3 1 n377 (ic (Gm.nL F m)),blk g366 28 [((Gm.nB F m).a:Int), ((Gm.nB F m).b:Int), ((Gm.nB F m).c:Int), ((Gm.nB F m).d:Int), ((Gm.nB F m).e:Int), ((Gm.nB F m).f:Int), .slice A357 n358 c359],own (.slice A357 n358 c359) 3 1 n358 (ic (Gm.nL F m)),blk g9 25 [F.a, F.b, F.c, F.d, F.e, F.f],blk g4 28 [B.a, B.b, B.c, B.d, B.e, B.f, .slice A n c]] U440):=Lib.hid hS_
        clear S437
        clear hu_ hS_ hg439
        refine @wpG_p _ _ _ _ _ (some 16) (Gm.nE F 0) _ _ rfl (by rfl) (fun _=>rfl) ?_
        simp only [n1,n3,n4]
        refine wpG_done (fun V442 hv443=>?_)
        have S444 : Hid (St w noB [blk g435 28 [((Gm.nB F 0).a:Int), ((Gm.nB F 0).b:Int), ((Gm.nB F 0).c:Int), ((Gm.nB F 0).d:Int), ((Gm.nB F 0).e:Int), ((Gm.nB F 0).f:Int), .slice A426 n427 c428],own (.slice A426 n427 c428) 3 1 n427 (ic (Gm.paste (Gm.nB F 0) (Gm.nL F 0) B l)),blk g416 28 [((Gm.nB F 0).a:Int), ((Gm.nB F 0).b:Int), ((Gm.nB F 0).c:Int), ((Gm.nB F 0).d:Int), ((Gm.nB F 0).e:Int), ((Gm.nB F 0).f:Int), .slice A407 n408 c409],own (.slice A407 n408 c409) 3 1 n408 (ic (Gm.paste (Gm.nB F 0) (Gm.nL F 0) B l)),blk g385 28 [((Gm.nB F m).a:Int), ((Gm.nB F m).b:Int), ((Gm.nB F m).c:Int), ((Gm.nB F m).d:Int), ((Gm.nB F m).e:Int), ((Gm.nB F m).f:Int), .slice A376 n377 c378],own (.slice A376 n377 c378) 3 1 n377 (ic (Gm.nL F m)),blk g366 28 [((Gm.nB F m).a:Int), ((Gm.nB F m).b:Int), ((Gm.nB F m).c:Int), ((Gm.nB F m).d:Int), ((Gm.nB F m).e:Int), ((Gm.nB F m).f:Int), .slice A357 n358 c359],own (.slice A357 n358 c359) 3 1 n358 (ic (Gm.nL F m)),blk g9 25 [F.a, F.b, F.c, F.d, F.e, F.f],blk g4 28 [B.a, B.b, B.c, B.d, B.e, B.f, .slice A n c]] V442):=Lib.hid (S441.out.gr hv443)
        clear S441
        clear hv443
        refine ⟨rfl,hK _ _ ?_⟩
        clear hK
        go_upto_region 15 with fail
        refine wpG_region_k (fun K hK=>?_)
        refine @wpG_tk _ _ _ _ _ (some 85) (.bool true) _ _ rfl (.call (f:=11) (args:=#[]) (by rfl) (fun W=>by go_simp) (fun W hg=>(HSAN.out W (S444.out.gr hg).bel))) ?_
        simp only [n1,n3,n4]
        refine @wpG_p _ _ _ _ _ (some 86) (.bool true) _ _ rfl (by rfl) (fun _=>rfl) ?_
        simp only [n1,n3,n4]
        refine @wpG_tk _ _ _ _ _ (some 87) (.agg #[((Gm.nB F 0).a:Int), ((Gm.nB F 0).b:Int), ((Gm.nB F 0).c:Int), ((Gm.nB F 0).d:Int), ((Gm.nB F 0).e:Int), ((Gm.nB F 0).f:Int), .slice A407 n408 c409]) _ _ rfl (.load_mid (by rfl) 28 (.tmp 13) rfl g416 0 rfl [((Gm.nB F 0).a:Int), ((Gm.nB F 0).b:Int), ((Gm.nB F 0).c:Int), ((Gm.nB F 0).d:Int), ((Gm.nB F 0).e:Int), ((Gm.nB F 0).f:Int), .slice A407 n408 c409] _ (fun W hg=>(S444.out.gr hg).range 2 rfl 0 7 rfl) Tryd.underlying28 rfl (by kernel_rfl)) ?_
        simp only [n1,n3,n4]
        refine @wpG_tk _ _ _ _ _ (some 88) (.agg #[((Gm.nB F 0).a:Int), ((Gm.nB F 0).b:Int), ((Gm.nB F 0).c:Int), ((Gm.nB F 0).d:Int), ((Gm.nB F 0).e:Int), ((Gm.nB F 0).f:Int), .slice A426 n427 c428]) _ _ rfl (.load_mid (by rfl) 28 (.tmp 15) rfl g435 0 rfl [((Gm.nB F 0).a:Int), ((Gm.nB F 0).b:Int), ((Gm.nB F 0).c:Int), ((Gm.nB F 0).d:Int), ((Gm.nB F 0).e:Int), ((Gm.nB F 0).f:Int), .slice A426 n427 c428] _ (fun W hg=>(S444.out.gr hg).range 0 rfl 0 7 rfl) Tryd.underlying28 rfl (by kernel_rfl)) ?_
        simp only [n1,n3,n4]
        refine @wpG_tk _ _ _ _ _ (some 89) (.bool true) _ _ rfl (.call (f:=16) (args:=#[.agg #[((Gm.nB F 0).a:Int), ((Gm.nB F 0).b:Int), ((Gm.nB F 0).c:Int), ((Gm.nB F 0).d:Int), ((Gm.nB F 0).e:Int), ((Gm.nB F 0).f:Int), .slice A407 n408 c409], .agg #[((Gm.nB F 0).a:Int), ((Gm.nB F 0).b:Int), ((Gm.nB F 0).c:Int), ((Gm.nB F 0).d:Int), ((Gm.nB F 0).e:Int), ((Gm.nB F 0).f:Int), .slice A426 n427 c428]]) (by rfl) (fun W=>by go_simp) (fun W hg=>((requal_any (Gm.nB F 0) _ _ _ (Gm.paste (Gm.nB F 0) (Gm.nL F 0) B l) (Gm.nB F 0) _ _ _ (Gm.paste (Gm.nB F 0) (Gm.nL F 0) B l) W (SL.ofOwn ((S444.out.gr hg).ownr 3 rfl)) (SL.ofOwn ((S444.out.gr hg).ownr 1 rfl))).mono (fun e w' h=>⟨h.1.trans (by rw [Gm.same_iff.2 ⟨rfl,rfl⟩]),h.2⟩)))) ?_
        simp only [n1,n3,n4]
        refine @wpG_p _ _ _ _ _ (some 90) (.bool true) _ _ rfl (by rfl) (fun W=>by go_simp) ?_
        simp only [n1,n3,n4]
        refine @wpG_p _ _ _ _ _ (some 91) (.bool true) _ _ rfl (by rfl) (fun _=>rfl) ?_
        simp only [n1,n3,n4]
        refine @wpG_p _ _ _ _ _ (some 92) (Gm.nE F 0) _ _ rfl (by rfl) (fun _=>rfl) ?_
        simp only [n1,n3,n4]
        refine @wpG_p _ _ _ _ _ (some 93) (Gm.nE F 0) _ _ rfl (by rfl) (fun _=>rfl) ?_
        simp only [n1,n3,n4]
        refine @wpG_p _ _ _ _ _ (some 94) (.bool true) _ _ rfl (by rfl) (fun W=>by go_simp) ?_
        simp only [n1,n3,n4]
        refine @wpG_p _ _ _ _ _ (some 95) (.bool true) _ _ rfl (by rfl) (fun W=>by go_simp) ?_
        simp only [n1,n3,n4]
        refine @wpG_p _ _ _ _ _ (some 6) (.bool true) _ _ rfl (by rfl) (fun _=>rfl) ?_
        simp only [n1,n3,n4]
        refine wpG_done (fun V445 hv446=>?_)
        have S447 : Hid (St w noB [blk g435 28 [((Gm.nB F 0).a:Int), ((Gm.nB F 0).b:Int), ((Gm.nB F 0).c:Int), ((Gm.nB F 0).d:Int), ((Gm.nB F 0).e:Int), ((Gm.nB F 0).f:Int), .slice A426 n427 c428],own (.slice A426 n427 c428) 3 1 n427 (ic (Gm.paste (Gm.nB F 0) (Gm.nL F 0) B l)),blk g416 28 [((Gm.nB F 0).a:Int), ((Gm.nB F 0).b:Int), ((Gm.nB F 0).c:Int), ((Gm.nB F 0).d:Int), ((Gm.nB F 0).e:Int), ((Gm.nB F 0).f:Int), .slice A407 n408 c409],own (.slice A407 n408 c409) 3 1 n408 (ic (Gm.paste (Gm.nB F 0) (Gm.nL F 0) B l)),blk g385 28 [((Gm.nB F m).a:Int), ((Gm.nB F m).b:Int), ((Gm.nB F m).c:Int), ((Gm.nB F m).d:Int), ((Gm.nB F m).e:Int), ((Gm.nB F m).f:Int), .slice A376 n377 c378],own (.slice A376 n377 c378) 3 1 n377 (ic (Gm.nL F m)),blk g366 28 [((Gm.nB F m).a:Int), ((Gm.nB F m).b:Int), ((Gm.nB F m).c:Int), ((Gm.nB F m).d:Int), ((Gm.nB F m).e:Int), ((Gm.nB F m).f:Int), .slice A357 n358 c359],own (.slice A357 n358 c359) 3 1 n358 (ic (Gm.nL F m)),blk g9 25 [F.a, F.b, F.c, F.d, F.e, F.f],blk g4 28 [B.a, B.b, B.c, B.d, B.e, B.f, .slice A n c]] V445):=Lib.hid (S444.out.gr hv446)
        clear S444
        clear hv446
        refine ⟨rfl,hK _ _ ?_⟩
        clear hK
        go_wp2_with fail
        go_ret
        refine ⟨?_,S447.out.bel⟩
        show Ending.returned (.bool true) = _
        (first | rfl | (have e_f335:=f335.out;have e_f406:=f406.out;rfl))

end Go.Proofs.YtpapbbolefnkmaaDoor
