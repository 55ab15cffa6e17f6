/-
  Contracts: the statements' own functions on points and grids.
-/
import Derived.Test.YtjdeaopdbenamaaDoorZF00
import Derived.Test.YtjdeaopdbenamaaDoorZF33
import Derived.Handy
namespace Go.Proofs.YtjdeaopdbenamaaDoor
open Go Go.RowKit
set_option linter.unusedVariables false
set_option linter.unusedSimpArgs false
set_option maxRecDepth 1000000 in
set_option maxHeartbeats 4000000 in
theorem near_any (D : Option Addr) (np cp : Nat) (ps : List Gm.P3) (w : World) (hP : SL w 3 D np cp (pcs ps)) :
    Calls Tryd.prog 20 #[.slice D np cp] w fun e w'=>e = .returned (.bool (Gm.nears ps)) ∧ Below w.heap.size w w':=by
  have HPT:=Lib.hid hP
  have HPL : Hid (ps.length = np):=Lib.hid (by have h_:=hP.len;rw [pcs_len] at h_;omega)
  have hnbp : np ≤ 9223372036854775807:=Nat.le_trans hP.cap hP.bnd
  clear hP
  have S1 : Hid (St w noB [] w):=Lib.hid (St.start w)
  go_enter Tryd.func20,Tryd.ntmps20
  go_upto_region 0 with fail
  refine wpG_region_k (fun K hK=>?_)
  refine @wpG_p _ _ _ _ _ (some 2) (.bool false) _ _ rfl (by rfl) (fun _=>rfl) ?_
  simp only [n1,n3,n4]
  refine wpG_done (fun V2 hv3=>?_)
  have S4 : Hid (St w noB [] V2):=Lib.hid (S1.out.gr hv3)
  clear S1
  clear hv3
  refine ⟨rfl,hK _ _ ?_⟩
  clear hK
  go_upto_region 1 with fail
  refine wpG_region_k (fun K hK=>?_)
  refine @wpG_p _ _ _ _ _ (some 7) (.slice D np cp) _ _ rfl (by rfl) (fun _=>rfl) ?_
  simp only [n1,n3,n4]
  refine @wpG_p _ _ _ _ _ (some 8) (np : Int) _ _ rfl (by rfl) (fun W=>by go_simp) ?_
  simp only [n1,n3,n4]
  refine @wpG_p _ _ _ _ _ (some 9) () _ _ rfl (by rfl) (fun _=>rfl) ?_
  simp only [n1,n3,n4]
  refine wpG_done (fun V5 hv6=>?_)
  have S7 : Hid (St w noB [] V5):=Lib.hid (S4.out.gr hv6)
  clear S4
  clear hv6
  refine ⟨rfl,hK _ _ ?_⟩
  clear hK
  go_wp2_with fail
  go_loopw [9] (fun v9 wr=>∃ (k : Nat),v9 = .int .i64 (k : Int) ∧ k ≤ Ff.ff (fun k=>Gm.near1 (Gm.pat ps k)) ps.length ∧ k ≤ np ∧ St w noB [] wr) (fun i _=>np - (intOf i).toNat)
  case atStart=>exact ⟨0,rfl,Nat.zero_le _,Nat.zero_le _,S7.out⟩
  case round =>
    obtain ⟨k,rfl,hk_,hkn,hS⟩:=hrel
    have HK_:=Lib.hid hk_
    clear hk_
    have SL:=Lib.hid hS
    clear S7 hS
    have S8:=SL
    clear SL
    go_upto_region 2 with fail
    refine wpG_region_k (fun K hK=>?_)
    refine @wpG_p _ _ _ _ _ (some 10) (.bool (decide ((k : Int) < (np : Int)))) _ _ rfl (by rfl) (fun W=>op_int_lss W (k : Int) (np : Int) rfl rfl rfl Tryd.underlying3) ?_
    simp only [n1,n3,n4]
    refine wpG_done (fun V9 hv10=>?_)
    have S11 : Hid (St w noB [] V9):=Lib.hid (S8.out.gr hv10)
    clear S8
    clear hv10
    refine ⟨rfl,hK _ _ ?_⟩
    clear hK
    obtain ⟨c12,hc12⟩ : ∃ q_,q_ = (decide ((k : Int) < (np : Int))):=⟨_,rfl⟩
    rw [← hc12]
    have Hc12:=Lib.hid hc12
    clear hc12
    cases c12 with
    | true =>
      have f13:=of_decide_eq_true Hc12.out.symm
      go_upto_region 3 with fail
      refine wpG_region_k (fun K hK=>?_)
      obtain ⟨b14,o14,rfl⟩:=HPT.out.addr (by decide) (by omega)
      refine @wpG_p _ _ _ _ _ (some 11) (.pointer (some ⟨b14,o14 + k * 3,none⟩)) _ _ rfl (by rfl) (fun W=>by (go_simp <;> first | rfl | omega | (simp;omega))) ?_
      simp only [n1,n3,n4]
      refine @wpG_tk _ _ _ _ _ (some 12) (.agg #[((Gm.pat ps k).1:Int), ((Gm.pat ps k).2.1:Int), ((Gm.pat ps k).2.2:Int)]) _ _ rfl (.load_mid (by rfl) 23 (.tmp 11) rfl b14 (o14 + k * 3) rfl [((Gm.pat ps k).1:Int), ((Gm.pat ps k).2.1:Int), ((Gm.pat ps k).2.2:Int)] _ (fun W hg=>((HPT.out.gr ((S11.out.gr hg)).bel).pnt (l:=ps) k (by (have:=HPL.out;omega)))) Tryd.underlying23 rfl (by kernel_rfl)) ?_
      simp only [n1,n3,n4]
      refine wpG_val (some 4) rfl (by rfl) (fun W15 hg16=>⟨.pointer (some ⟨W15.heap.size,0,none⟩),W15.alloc (.cells #[(), (), ()] 23),by (first | (go_simp;done) | (go_simp <;> rfl)), ?_⟩)
      simp only [n1,n3,n4]
      obtain ⟨g17,U18,hg_,hu_,hS_⟩:=(S11.out.gr hg16).made [(), (), ()] 23
      rw [← hu_,← hg_]
      have S19 : Hid (St w noB [blk g17 23 [(), (), ()]] U18):=Lib.hid hS_
      clear S11
      clear hg_ hu_ hS_ hg16
      refine wpG_store (none) rfl (by rfl) (fun W20 hg21=>⟨_,run_store_mid 23 (.tmp 4) (.tmp 12) rfl g17 0 #[((Gm.pat ps k).1:Int), ((Gm.pat ps k).2.1:Int), ((Gm.pat ps k).2.2:Int)] rfl rfl ((S19.out.gr hg21).room 0 rfl 0 3 (by simp)) (by kernel_rfl) (by kernel_rfl), ?_⟩)
      simp only [n2]
      obtain ⟨U22,hu_,hS_⟩:=((S19.out.gr hg21).put 0 rfl 0 (#[((Gm.pat ps k).1:Int), ((Gm.pat ps k).2.1:Int), ((Gm.pat ps k).2.2:Int)] : Array Value).toList (ds:=[((Gm.pat ps k).1:Int), ((Gm.pat ps k).2.1:Int), ((Gm.pat ps k).2.2:Int)]) rfl).named
      rw [← hu_]
      have S23 : Hid (St w noB [blk g17 23 [((Gm.pat ps k).1:Int), ((Gm.pat ps k).2.1:Int), ((Gm.pat ps k).2.2:Int)]] U22):=Lib.hid hS_
      clear S19
      clear hu_ hS_ hg21
      refine wpG_done (fun V24 hv25=>?_)
      have S26 : Hid (St w noB [blk g17 23 [((Gm.pat ps k).1:Int), ((Gm.pat ps k).2.1:Int), ((Gm.pat ps k).2.2:Int)]] V24):=Lib.hid (S23.out.gr hv25)
      clear S23
      clear hv25
      refine ⟨rfl,hK _ _ ?_⟩
      clear hK
      go_upto_region 4 with fail
      refine wpG_region_k (fun K hK=>?_)
      refine @wpG_p _ _ _ _ _ (some 13) (.pointer (some ⟨g17,0,none⟩)) _ _ rfl (by rfl) (fun W=>by go_simp) ?_
      simp only [n1,n3,n4]
      refine @wpG_r _ _ _ _ _ (some 14) ((Gm.pat ps k).1:Int) _ _ rfl (by rfl) (fun W hg=>by have c:=(S26.out.gr hg).cell 0 rfl 0 rfl;go_simp) ?_
      simp only [n1,n3,n4]
      refine @wpG_p _ _ _ _ _ (some 15) (.pointer (some ⟨g17,1,none⟩)) _ _ rfl (by rfl) (fun W=>by go_simp) ?_
      simp only [n1,n3,n4]
      refine @wpG_r _ _ _ _ _ (some 16) ((Gm.pat ps k).2.1:Int) _ _ rfl (by rfl) (fun W hg=>by have c:=(S26.out.gr hg).cell 0 rfl 1 rfl;go_simp) ?_
      simp only [n1,n3,n4]
      refine @wpG_p _ _ _ _ _ (some 17) (.pointer (some ⟨g17,2,none⟩)) _ _ rfl (by rfl) (fun W=>by go_simp) ?_
      simp only [n1,n3,n4]
      refine @wpG_r _ _ _ _ _ (some 18) ((Gm.pat ps k).2.2:Int) _ _ rfl (by rfl) (fun W hg=>by have c:=(S26.out.gr hg).cell 0 rfl 2 rfl;go_simp) ?_
      simp only [n1,n3,n4]
      refine @wpG_p _ _ _ _ _ (some 19) (.agg #[((Gm.pat ps k).1:Int), ((Gm.pat ps k).2.1:Int), ((Gm.pat ps k).2.2:Int)]) _ _ rfl (by rfl) (fun W=>by go_simp) ?_
      simp only [n1,n3,n4]
      refine @wpG_p _ _ _ _ _ (some 20) () _ _ rfl (by rfl) (fun _=>rfl) ?_
      simp only [n1,n3,n4]
      refine wpG_done (fun V27 hv28=>?_)
      have S29 : Hid (St w noB [blk g17 23 [((Gm.pat ps k).1:Int), ((Gm.pat ps k).2.1:Int), ((Gm.pat ps k).2.2:Int)]] V27):=Lib.hid (S26.out.gr hv28)
      clear S26
      clear hv28
      refine ⟨rfl,hK _ _ ?_⟩
      clear hK
      go_wp2_with fail
      refine wp_loop_rounds 4 ?_
      rw [rounds_succ]
      go_upto_region 5 with fail
      refine wpG_region_k (fun K hK=>?_)
      refine @wpG_p _ _ _ _ _ (some 21) (.bool true) _ _ rfl (by rfl) (fun W=>by go_simp) ?_
      simp only [n1,n3,n4]
      refine wpG_done (fun V30 hv31=>?_)
      have S32 : Hid (St w noB [blk g17 23 [((Gm.pat ps k).1:Int), ((Gm.pat ps k).2.1:Int), ((Gm.pat ps k).2.2:Int)]] V30):=Lib.hid (S29.out.gr hv31)
      clear S29
      clear hv31
      refine ⟨rfl,hK _ _ ?_⟩
      clear hK
      go_upto_region 6 with fail
      refine wpG_region_k (fun K hK=>?_)
      refine @wpG_p _ _ _ _ _ (some 22) ((Gm.pat ps k).1:Int) _ _ rfl (by rfl) (fun W=>by first | kernel_rfl | (go_simp;done) | (go_simp <;> rfl)) ?_
      simp only [n1,n3,n4]
      refine @wpG_p _ _ _ _ _ (some 6) ((Gm.pat ps k).1:Int) _ _ rfl (by rfl) (fun _=>rfl) ?_
      simp only [n1,n3,n4]
      refine wpG_done (fun V33 hv34=>?_)
      have S35 : Hid (St w noB [blk g17 23 [((Gm.pat ps k).1:Int), ((Gm.pat ps k).2.1:Int), ((Gm.pat ps k).2.2:Int)]] V33):=Lib.hid (S32.out.gr hv34)
      clear S32
      clear hv34
      refine ⟨rfl,hK _ _ ?_⟩
      clear hK
      go_upto_region 7 with fail
      refine wpG_region_k (fun K hK=>?_)
      refine @wpG_p _ _ _ _ _ (some 23) ((Gm.pat ps k).1:Int) _ _ rfl (by rfl) (fun _=>rfl) ?_
      simp only [n1,n3,n4]
      refine @wpG_p _ _ _ _ _ (some 24) (.bool (decide ((Gm.pat ps k).1 < (-10000)))) _ _ rfl (by rfl) (fun W=>op_int_lss W ((Gm.pat ps k).1) (-10000) rfl rfl rfl Tryd.underlying3) ?_
      simp only [n1,n3,n4]
      refine @wpG_p _ _ _ _ _ (some 25) (.bool (decide ((Gm.pat ps k).1 < (-10000)))) _ _ rfl (by rfl) (fun _=>rfl) ?_
      simp only [n1,n3,n4]
      obtain ⟨c36,hc36⟩ : ∃ q_,q_ = (decide ((Gm.pat ps k).1 < (-10000))):=⟨_,rfl⟩
      rw [← hc36]
      have Hc36:=Lib.hid hc36
      clear hc36
      cases c36 with
      | true =>
        have f37:=of_decide_eq_true Hc36.out.symm
        refine @wpG_no _ _ _ _ _ (some 26) _ _ rfl (by rfl) ?_
        simp only [n1,n3,n4]
        refine @wpG_no _ _ _ _ _ (some 27) _ _ rfl (by rfl) ?_
        simp only [n1,n3,n4]
        refine @wpG_p _ _ _ _ _ (some 28) (.bool true) _ _ rfl (by rfl) (fun W=>by go_simp) ?_
        simp only [n1,n3,n4]
        refine wpG_done (fun V38 hv39=>?_)
        have S40 : Hid (St w noB [blk g17 23 [((Gm.pat ps k).1:Int), ((Gm.pat ps k).2.1:Int), ((Gm.pat ps k).2.2:Int)]] V38):=Lib.hid (S35.out.gr hv39)
        clear S35
        clear hv39
        refine ⟨rfl,hK _ _ ?_⟩
        clear hK
        go_upto_region 8 with fail
        refine wpG_region_k (fun K hK=>?_)
        refine @wpG_p _ _ _ _ _ (some 2) (.bool false) _ _ rfl (by rfl) (fun _=>rfl) ?_
        simp only [n1,n3,n4]
        refine wpG_done (fun V41 hv42=>?_)
        have S43 : Hid (St w noB [blk g17 23 [((Gm.pat ps k).1:Int), ((Gm.pat ps k).2.1:Int), ((Gm.pat ps k).2.2:Int)]] V41):=Lib.hid (S40.out.gr hv42)
        clear S40
        clear hv42
        refine ⟨rfl,hK _ _ ?_⟩
        clear hK
        go_wp2_with fail
        go_ret
        refine ⟨?_,S43.out.bel⟩
        show Ending.returned (.bool false) = _
        (first | rfl | (exact rb_f (Ff.al_no HK_.out (by have:=HPL.out;omega) (decide_eq_false (fun hn=>by unfold Gm.n1k at hn;omega)))))
      | false =>
        have f44:=of_decide_eq_false Hc36.out.symm
        refine @wpG_p _ _ _ _ _ (some 26) ((Gm.pat ps k).1:Int) _ _ rfl (by rfl) (fun _=>rfl) ?_
        simp only [n1,n3,n4]
        refine @wpG_p _ _ _ _ _ (some 27) (.bool (decide ((Gm.pat ps k).1 > 10000))) _ _ rfl (by rfl) (fun W=>op_int_gtr W ((Gm.pat ps k).1) 10000 rfl rfl rfl Tryd.underlying3) ?_
        simp only [n1,n3,n4]
        refine @wpG_p _ _ _ _ _ (some 28) (.bool (decide ((Gm.pat ps k).1 > 10000))) _ _ rfl (by rfl) (fun W=>by go_simp) ?_
        simp only [n1,n3,n4]
        refine wpG_done (fun V45 hv46=>?_)
        have S47 : Hid (St w noB [blk g17 23 [((Gm.pat ps k).1:Int), ((Gm.pat ps k).2.1:Int), ((Gm.pat ps k).2.2:Int)]] V45):=Lib.hid (S35.out.gr hv46)
        clear S35
        clear hv46
        refine ⟨rfl,hK _ _ ?_⟩
        clear hK
        obtain ⟨c48,hc48⟩ : ∃ q_,q_ = (decide ((Gm.pat ps k).1 > 10000)):=⟨_,rfl⟩
        rw [← hc48]
        have Hc48:=Lib.hid hc48
        clear hc48
        cases c48 with
        | true =>
          have f49:=of_decide_eq_true Hc48.out.symm
          go_upto_region 8 with fail
          refine wpG_region_k (fun K hK=>?_)
          refine @wpG_p _ _ _ _ _ (some 2) (.bool false) _ _ rfl (by rfl) (fun _=>rfl) ?_
          simp only [n1,n3,n4]
          refine wpG_done (fun V50 hv51=>?_)
          have S52 : Hid (St w noB [blk g17 23 [((Gm.pat ps k).1:Int), ((Gm.pat ps k).2.1:Int), ((Gm.pat ps k).2.2:Int)]] V50):=Lib.hid (S47.out.gr hv51)
          clear S47
          clear hv51
          refine ⟨rfl,hK _ _ ?_⟩
          clear hK
          go_wp2_with fail
          go_ret
          refine ⟨?_,S52.out.bel⟩
          show Ending.returned (.bool false) = _
          (first | rfl | (exact rb_f (Ff.al_no HK_.out (by have:=HPL.out;omega) (decide_eq_false (fun hn=>by unfold Gm.n1k at hn;omega)))))
        | false =>
          have f53:=of_decide_eq_false Hc48.out.symm
          go_upto_region 9 with fail
          refine wpG_region_k (fun K hK=>?_)
          refine @wpG_p _ _ _ _ _ (some 29) (.int .i64 1) _ _ rfl (by rfl) (fun W=>by go_simp <;> rfl) ?_
          simp only [n1,n3,n4]
          refine @wpG_p _ _ _ _ _ (some 20) (.int .i64 1) _ _ rfl (by rfl) (fun _=>rfl) ?_
          simp only [n1,n3,n4]
          refine wpG_done (fun V54 hv55=>?_)
          have S56 : Hid (St w noB [blk g17 23 [((Gm.pat ps k).1:Int), ((Gm.pat ps k).2.1:Int), ((Gm.pat ps k).2.2:Int)]] V54):=Lib.hid (S47.out.gr hv55)
          clear S47
          clear hv55
          refine ⟨rfl,hK _ _ ?_⟩
          clear hK
          go_wp2_with fail
          rw [rounds_succ]
          go_upto_region 5 with fail
          refine wpG_region_k (fun K hK=>?_)
          refine @wpG_p _ _ _ _ _ (some 21) (.bool true) _ _ rfl (by rfl) (fun W=>by go_simp) ?_
          simp only [n1,n3,n4]
          refine wpG_done (fun V57 hv58=>?_)
          have S59 : Hid (St w noB [blk g17 23 [((Gm.pat ps k).1:Int), ((Gm.pat ps k).2.1:Int), ((Gm.pat ps k).2.2:Int)]] V57):=Lib.hid (S56.out.gr hv58)
          clear S56
          clear hv58
          refine ⟨rfl,hK _ _ ?_⟩
          clear hK
          go_upto_region 6 with fail
          refine wpG_region_k (fun K hK=>?_)
          refine @wpG_p _ _ _ _ _ (some 22) ((Gm.pat ps k).2.1:Int) _ _ rfl (by rfl) (fun W=>by first | kernel_rfl | (go_simp;done) | (go_simp <;> rfl)) ?_
          simp only [n1,n3,n4]
          refine @wpG_p _ _ _ _ _ (some 6) ((Gm.pat ps k).2.1:Int) _ _ rfl (by rfl) (fun _=>rfl) ?_
          simp only [n1,n3,n4]
          refine wpG_done (fun V60 hv61=>?_)
          have S62 : Hid (St w noB [blk g17 23 [((Gm.pat ps k).1:Int), ((Gm.pat ps k).2.1:Int), ((Gm.pat ps k).2.2:Int)]] V60):=Lib.hid (S59.out.gr hv61)
          clear S59
          clear hv61
          refine ⟨rfl,hK _ _ ?_⟩
          clear hK
          go_upto_region 7 with fail
          refine wpG_region_k (fun K hK=>?_)
          refine @wpG_p _ _ _ _ _ (some 23) ((Gm.pat ps k).2.1:Int) _ _ rfl (by rfl) (fun _=>rfl) ?_
          simp only [n1,n3,n4]
          refine @wpG_p _ _ _ _ _ (some 24) (.bool (decide ((Gm.pat ps k).2.1 < (-10000)))) _ _ rfl (by rfl) (fun W=>op_int_lss W ((Gm.pat ps k).2.1) (-10000) rfl rfl rfl Tryd.underlying3) ?_
          simp only [n1,n3,n4]
          refine @wpG_p _ _ _ _ _ (some 25) (.bool (decide ((Gm.pat ps k).2.1 < (-10000)))) _ _ rfl (by rfl) (fun _=>rfl) ?_
          simp only [n1,n3,n4]
          obtain ⟨c63,hc63⟩ : ∃ q_,q_ = (decide ((Gm.pat ps k).2.1 < (-10000))):=⟨_,rfl⟩
          rw [← hc63]
          have Hc63:=Lib.hid hc63
          clear hc63
          cases c63 with
          | true =>
            have f64:=of_decide_eq_true Hc63.out.symm
            refine @wpG_no _ _ _ _ _ (some 26) _ _ rfl (by rfl) ?_
            simp only [n1,n3,n4]
            refine @wpG_no _ _ _ _ _ (some 27) _ _ rfl (by rfl) ?_
            simp only [n1,n3,n4]
            refine @wpG_p _ _ _ _ _ (some 28) (.bool true) _ _ rfl (by rfl) (fun W=>by go_simp) ?_
            simp only [n1,n3,n4]
            refine wpG_done (fun V65 hv66=>?_)
            have S67 : Hid (St w noB [blk g17 23 [((Gm.pat ps k).1:Int), ((Gm.pat ps k).2.1:Int), ((Gm.pat ps k).2.2:Int)]] V65):=Lib.hid (S62.out.gr hv66)
            clear S62
            clear hv66
            refine ⟨rfl,hK _ _ ?_⟩
            clear hK
            go_upto_region 8 with fail
            refine wpG_region_k (fun K hK=>?_)
            refine @wpG_p _ _ _ _ _ (some 2) (.bool false) _ _ rfl (by rfl) (fun _=>rfl) ?_
            simp only [n1,n3,n4]
            refine wpG_done (fun V68 hv69=>?_)
            have S70 : Hid (St w noB [blk g17 23 [((Gm.pat ps k).1:Int), ((Gm.pat ps k).2.1:Int), ((Gm.pat ps k).2.2:Int)]] V68):=Lib.hid (S67.out.gr hv69)
            clear S67
            clear hv69
            refine ⟨rfl,hK _ _ ?_⟩
            clear hK
            go_wp2_with fail
            go_ret
            refine ⟨?_,S70.out.bel⟩
            show Ending.returned (.bool false) = _
            (first | rfl | (exact rb_f (Ff.al_no HK_.out (by have:=HPL.out;omega) (decide_eq_false (fun hn=>by unfold Gm.n1k at hn;omega)))))
          | false =>
            have f71:=of_decide_eq_false Hc63.out.symm
            refine @wpG_p _ _ _ _ _ (some 26) ((Gm.pat ps k).2.1:Int) _ _ rfl (by rfl) (fun _=>rfl) ?_
            simp only [n1,n3,n4]
            refine @wpG_p _ _ _ _ _ (some 27) (.bool (decide ((Gm.pat ps k).2.1 > 10000))) _ _ rfl (by rfl) (fun W=>op_int_gtr W ((Gm.pat ps k).2.1) 10000 rfl rfl rfl Tryd.underlying3) ?_
            simp only [n1,n3,n4]
            refine @wpG_p _ _ _ _ _ (some 28) (.bool (decide ((Gm.pat ps k).2.1 > 10000))) _ _ rfl (by rfl) (fun W=>by go_simp) ?_
            simp only [n1,n3,n4]
            refine wpG_done (fun V72 hv73=>?_)
            have S74 : Hid (St w noB [blk g17 23 [((Gm.pat ps k).1:Int), ((Gm.pat ps k).2.1:Int), ((Gm.pat ps k).2.2:Int)]] V72):=Lib.hid (S62.out.gr hv73)
            clear S62
            clear hv73
            refine ⟨rfl,hK _ _ ?_⟩
            clear hK
            obtain ⟨c75,hc75⟩ : ∃ q_,q_ = (decide ((Gm.pat ps k).2.1 > 10000)):=⟨_,rfl⟩
            rw [← hc75]
            have Hc75:=Lib.hid hc75
            clear hc75
            cases c75 with
            | true =>
              have f76:=of_decide_eq_true Hc75.out.symm
              go_upto_region 8 with fail
              refine wpG_region_k (fun K hK=>?_)
              refine @wpG_p _ _ _ _ _ (some 2) (.bool false) _ _ rfl (by rfl) (fun _=>rfl) ?_
              simp only [n1,n3,n4]
              refine wpG_done (fun V77 hv78=>?_)
              have S79 : Hid (St w noB [blk g17 23 [((Gm.pat ps k).1:Int), ((Gm.pat ps k).2.1:Int), ((Gm.pat ps k).2.2:Int)]] V77):=Lib.hid (S74.out.gr hv78)
              clear S74
              clear hv78
              refine ⟨rfl,hK _ _ ?_⟩
              clear hK
              go_wp2_with fail
              go_ret
              refine ⟨?_,S79.out.bel⟩
              show Ending.returned (.bool false) = _
              (first | rfl | (exact rb_f (Ff.al_no HK_.out (by have:=HPL.out;omega) (decide_eq_false (fun hn=>by unfold Gm.n1k at hn;omega)))))
            | false =>
              have f80:=of_decide_eq_false Hc75.out.symm
              go_upto_region 9 with fail
              refine wpG_region_k (fun K hK=>?_)
              refine @wpG_p _ _ _ _ _ (some 29) (.int .i64 2) _ _ rfl (by rfl) (fun W=>by go_simp <;> rfl) ?_
              simp only [n1,n3,n4]
              refine @wpG_p _ _ _ _ _ (some 20) (.int .i64 2) _ _ rfl (by rfl) (fun _=>rfl) ?_
              simp only [n1,n3,n4]
              refine wpG_done (fun V81 hv82=>?_)
              have S83 : Hid (St w noB [blk g17 23 [((Gm.pat ps k).1:Int), ((Gm.pat ps k).2.1:Int), ((Gm.pat ps k).2.2:Int)]] V81):=Lib.hid (S74.out.gr hv82)
              clear S74
              clear hv82
              refine ⟨rfl,hK _ _ ?_⟩
              clear hK
              go_wp2_with fail
              rw [rounds_succ]
              go_upto_region 5 with fail
              refine wpG_region_k (fun K hK=>?_)
              refine @wpG_p _ _ _ _ _ (some 21) (.bool true) _ _ rfl (by rfl) (fun W=>by go_simp) ?_
              simp only [n1,n3,n4]
              refine wpG_done (fun V84 hv85=>?_)
              have S86 : Hid (St w noB [blk g17 23 [((Gm.pat ps k).1:Int), ((Gm.pat ps k).2.1:Int), ((Gm.pat ps k).2.2:Int)]] V84):=Lib.hid (S83.out.gr hv85)
              clear S83
              clear hv85
              refine ⟨rfl,hK _ _ ?_⟩
              clear hK
              go_upto_region 6 with fail
              refine wpG_region_k (fun K hK=>?_)
              refine @wpG_p _ _ _ _ _ (some 22) ((Gm.pat ps k).2.2:Int) _ _ rfl (by rfl) (fun W=>by first | kernel_rfl | (go_simp;done) | (go_simp <;> rfl)) ?_
              simp only [n1,n3,n4]
              refine @wpG_p _ _ _ _ _ (some 6) ((Gm.pat ps k).2.2:Int) _ _ rfl (by rfl) (fun _=>rfl) ?_
              simp only [n1,n3,n4]
              refine wpG_done (fun V87 hv88=>?_)
              have S89 : Hid (St w noB [blk g17 23 [((Gm.pat ps k).1:Int), ((Gm.pat ps k).2.1:Int), ((Gm.pat ps k).2.2:Int)]] V87):=Lib.hid (S86.out.gr hv88)
              clear S86
              clear hv88
              refine ⟨rfl,hK _ _ ?_⟩
              clear hK
              go_upto_region 7 with fail
              refine wpG_region_k (fun K hK=>?_)
              refine @wpG_p _ _ _ _ _ (some 23) ((Gm.pat ps k).2.2:Int) _ _ rfl (by rfl) (fun _=>rfl) ?_
              simp only [n1,n3,n4]
              refine @wpG_p _ _ _ _ _ (some 24) (.bool (decide ((Gm.pat ps k).2.2 < (-10000)))) _ _ rfl (by rfl) (fun W=>op_int_lss W ((Gm.pat ps k).2.2) (-10000) rfl rfl rfl Tryd.underlying3) ?_
              simp only [n1,n3,n4]
              refine @wpG_p _ _ _ _ _ (some 25) (.bool (decide ((Gm.pat ps k).2.2 < (-10000)))) _ _ rfl (by rfl) (fun _=>rfl) ?_
              simp only [n1,n3,n4]
              obtain ⟨c90,hc90⟩ : ∃ q_,q_ = (decide ((Gm.pat ps k).2.2 < (-10000))):=⟨_,rfl⟩
              rw [← hc90]
              have Hc90:=Lib.hid hc90
              clear hc90
              cases c90 with
              | true =>
                have f91:=of_decide_eq_true Hc90.out.symm
                refine @wpG_no _ _ _ _ _ (some 26) _ _ rfl (by rfl) ?_
                simp only [n1,n3,n4]
                refine @wpG_no _ _ _ _ _ (some 27) _ _ rfl (by rfl) ?_
                simp only [n1,n3,n4]
                refine @wpG_p _ _ _ _ _ (some 28) (.bool true) _ _ rfl (by rfl) (fun W=>by go_simp) ?_
                simp only [n1,n3,n4]
                refine wpG_done (fun V92 hv93=>?_)
                have S94 : Hid (St w noB [blk g17 23 [((Gm.pat ps k).1:Int), ((Gm.pat ps k).2.1:Int), ((Gm.pat ps k).2.2:Int)]] V92):=Lib.hid (S89.out.gr hv93)
                clear S89
                clear hv93
                refine ⟨rfl,hK _ _ ?_⟩
                clear hK
                go_upto_region 8 with fail
                refine wpG_region_k (fun K hK=>?_)
                refine @wpG_p _ _ _ _ _ (some 2) (.bool false) _ _ rfl (by rfl) (fun _=>rfl) ?_
                simp only [n1,n3,n4]
                refine wpG_done (fun V95 hv96=>?_)
                have S97 : Hid (St w noB [blk g17 23 [((Gm.pat ps k).1:Int), ((Gm.pat ps k).2.1:Int), ((Gm.pat ps k).2.2:Int)]] V95):=Lib.hid (S94.out.gr hv96)
                clear S94
                clear hv96
                refine ⟨rfl,hK _ _ ?_⟩
                clear hK
                go_wp2_with fail
                go_ret
                refine ⟨?_,S97.out.bel⟩
                show Ending.returned (.bool false) = _
                (first | rfl | (exact rb_f (Ff.al_no HK_.out (by have:=HPL.out;omega) (decide_eq_false (fun hn=>by unfold Gm.n1k at hn;omega)))))
              | false =>
                have f98:=of_decide_eq_false Hc90.out.symm
                refine @wpG_p _ _ _ _ _ (some 26) ((Gm.pat ps k).2.2:Int) _ _ rfl (by rfl) (fun _=>rfl) ?_
                simp only [n1,n3,n4]
                refine @wpG_p _ _ _ _ _ (some 27) (.bool (decide ((Gm.pat ps k).2.2 > 10000))) _ _ rfl (by rfl) (fun W=>op_int_gtr W ((Gm.pat ps k).2.2) 10000 rfl rfl rfl Tryd.underlying3) ?_
                simp only [n1,n3,n4]
                refine @wpG_p _ _ _ _ _ (some 28) (.bool (decide ((Gm.pat ps k).2.2 > 10000))) _ _ rfl (by rfl) (fun W=>by go_simp) ?_
                simp only [n1,n3,n4]
                refine wpG_done (fun V99 hv100=>?_)
                have S101 : Hid (St w noB [blk g17 23 [((Gm.pat ps k).1:Int), ((Gm.pat ps k).2.1:Int), ((Gm.pat ps k).2.2:Int)]] V99):=Lib.hid (S89.out.gr hv100)
                clear S89
                clear hv100
                refine ⟨rfl,hK _ _ ?_⟩
                clear hK
                obtain ⟨c102,hc102⟩ : ∃ q_,q_ = (decide ((Gm.pat ps k).2.2 > 10000)):=⟨_,rfl⟩
                rw [← hc102]
                have Hc102:=Lib.hid hc102
                clear hc102
                cases c102 with
                | true =>
                  have f103:=of_decide_eq_true Hc102.out.symm
                  go_upto_region 8 with fail
                  refine wpG_region_k (fun K hK=>?_)
                  refine @wpG_p _ _ _ _ _ (some 2) (.bool false) _ _ rfl (by rfl) (fun _=>rfl) ?_
                  simp only [n1,n3,n4]
                  refine wpG_done (fun V104 hv105=>?_)
                  have S106 : Hid (St w noB [blk g17 23 [((Gm.pat ps k).1:Int), ((Gm.pat ps k).2.1:Int), ((Gm.pat ps k).2.2:Int)]] V104):=Lib.hid (S101.out.gr hv105)
                  clear S101
                  clear hv105
                  refine ⟨rfl,hK _ _ ?_⟩
                  clear hK
                  go_wp2_with fail
                  go_ret
                  refine ⟨?_,S106.out.bel⟩
                  show Ending.returned (.bool false) = _
                  (first | rfl | (exact rb_f (Ff.al_no HK_.out (by have:=HPL.out;omega) (decide_eq_false (fun hn=>by unfold Gm.n1k at hn;omega)))))
                | false =>
                  have f107:=of_decide_eq_false Hc102.out.symm
                  go_upto_region 9 with fail
                  refine wpG_region_k (fun K hK=>?_)
                  refine @wpG_p _ _ _ _ _ (some 29) (.int .i64 3) _ _ rfl (by rfl) (fun W=>by go_simp <;> rfl) ?_
                  simp only [n1,n3,n4]
                  refine @wpG_p _ _ _ _ _ (some 20) (.int .i64 3) _ _ rfl (by rfl) (fun _=>rfl) ?_
                  simp only [n1,n3,n4]
                  refine wpG_done (fun V108 hv109=>?_)
                  have S110 : Hid (St w noB [blk g17 23 [((Gm.pat ps k).1:Int), ((Gm.pat ps k).2.1:Int), ((Gm.pat ps k).2.2:Int)]] V108):=Lib.hid (S101.out.gr hv109)
                  clear S101
                  clear hv109
                  refine ⟨rfl,hK _ _ ?_⟩
                  clear hK
                  go_wp2_with fail
                  rw [rounds_succ]
                  go_upto_region 5 with fail
                  refine wpG_region_k (fun K hK=>?_)
                  refine @wpG_p _ _ _ _ _ (some 21) (.bool false) _ _ rfl (by rfl) (fun W=>by go_simp) ?_
                  simp only [n1,n3,n4]
                  refine wpG_done (fun V111 hv112=>?_)
                  have S113 : Hid (St w noB [blk g17 23 [((Gm.pat ps k).1:Int), ((Gm.pat ps k).2.1:Int), ((Gm.pat ps k).2.2:Int)]] V111):=Lib.hid (S110.out.gr hv112)
                  clear S110
                  clear hv112
                  refine ⟨rfl,hK _ _ ?_⟩
                  clear hK
                  go_upto_region 10 with fail
                  refine wpG_region_k (fun K hK=>?_)
                  refine @wpG_p _ _ _ _ _ (some 30) ((k : Int) + 1:Int) _ _ rfl (by rfl) (fun W=>op_i_add W (k : Int) 1 (by omega) rfl rfl rfl Tryd.underlying3) ?_
                  simp only [n1,n3,n4]
                  refine @wpG_p _ _ _ _ _ (some 9) ((k : Int) + 1:Int) _ _ rfl (by rfl) (fun _=>rfl) ?_
                  simp only [n1,n3,n4]
                  refine wpG_done (fun V114 hv115=>?_)
                  have S116 : Hid (St w noB [blk g17 23 [((Gm.pat ps k).1:Int), ((Gm.pat ps k).2.1:Int), ((Gm.pat ps k).2.2:Int)]] V114):=Lib.hid (S113.out.gr hv115)
                  clear S113
                  clear hv115
                  refine ⟨rfl,hK _ _ ?_⟩
                  clear hK
                  go_wp2_with fail
                  go_roundw
                  case rel=>exact ⟨k + 1,(by first | rfl | go_num),(by exact Ff.ff_step HK_.out (by have:=HPL.out;omega) (decide_eq_true ⟨⟨by omega,by omega⟩,⟨by omega,by omega⟩,⟨by omega,by omega⟩⟩)),(by omega),S116.out.sub (.cons _ .slnil)⟩
                  case measure=>first | (simp only [intOf];omega) | (simp [intOf];done) | (simp [intOf];omega) | omega
    | false =>
      have f117:=of_decide_eq_false Hc12.out.symm
      go_upto_region 11 with fail
      refine wpG_region_k (fun K hK=>?_)
      refine @wpG_p _ _ _ _ _ (some 2) (.bool true) _ _ rfl (by rfl) (fun _=>rfl) ?_
      simp only [n1,n3,n4]
      refine wpG_done (fun V118 hv119=>?_)
      have S120 : Hid (St w noB [] V118):=Lib.hid (S11.out.gr hv119)
      clear S11
      clear hv119
      refine ⟨rfl,hK _ _ ?_⟩
      clear hK
      go_wp2_with fail
      go_ret
      refine ⟨?_,S120.out.bel⟩
      show Ending.returned (.bool true) = _
      (first | rfl | (exact rb_t (Ff.al_yes (by have h_:=HK_.out;have:=HPL.out;have e_ : k = ps.length:=(by omega);rw [e_] at h_;exact h_))))
set_option maxRecDepth 1000000 in
set_option maxHeartbeats 4000000 in
theorem few1_any (B : Gm.Bx) (A : Option Addr) (n c : Nat) (l : List Int) (X : Option Addr) (cx : Nat) (w : World) (hX : SL w 7 X 1 cx ([B.a, B.b, B.c, B.d, B.e, B.f, .slice A n c])) (hG : SL w 1 A n c (ic l)) :
    Calls Tryd.prog 19 #[.slice X 1 cx] w fun e w'=>e = .returned (.bool (Gm.fw B l)) ∧ Below w.heap.size w w':=by
  have HGA:=Lib.hid hG
  have HLEN : Hid (l.length = n):=Lib.hid (by have h_:=hG.len;rw [ic_len] at h_;omega)
  have hnbHGA : n ≤ 9223372036854775807:=Nat.le_trans hG.cap hG.bnd
  clear hG
  have HX:=Lib.hid hX
  clear hX
  have S1 : Hid (St w noB [] w):=Lib.hid (St.start w)
  go_enter Tryd.func19,Tryd.ntmps19
  go_upto_region 0 with fail
  refine wpG_region_k (fun K hK=>?_)
  refine @wpG_p _ _ _ _ _ (some 2) (.bool false) _ _ rfl (by rfl) (fun _=>rfl) ?_
  simp only [n1,n3,n4]
  refine wpG_done (fun V2 hv3=>?_)
  have S4 : Hid (St w noB [] V2):=Lib.hid (S1.out.gr hv3)
  clear S1
  clear hv3
  refine ⟨rfl,hK _ _ ?_⟩
  clear hK
  go_upto_region 1 with fail
  refine wpG_region_k (fun K hK=>?_)
  refine @wpG_p _ _ _ _ _ (some 5) (.slice X 1 cx) _ _ rfl (by rfl) (fun _=>rfl) ?_
  simp only [n1,n3,n4]
  refine @wpG_p _ _ _ _ _ (some 6) (.int .i64 1) _ _ rfl (by rfl) (fun W=>by go_simp) ?_
  simp only [n1,n3,n4]
  refine @wpG_p _ _ _ _ _ (some 7) () _ _ rfl (by rfl) (fun _=>rfl) ?_
  simp only [n1,n3,n4]
  refine wpG_done (fun V5 hv6=>?_)
  have S7 : Hid (St w noB [] V5):=Lib.hid (S4.out.gr hv6)
  clear S4
  clear hv6
  refine ⟨rfl,hK _ _ ?_⟩
  clear hK
  go_wp2_with fail
  refine wp_loop_rounds 2 ?_
  rw [rounds_succ]
  go_upto_region 2 with fail
  refine wpG_region_k (fun K hK=>?_)
  refine @wpG_p _ _ _ _ _ (some 8) (.bool true) _ _ rfl (by rfl) (fun W=>by go_simp) ?_
  simp only [n1,n3,n4]
  refine wpG_done (fun V8 hv9=>?_)
  have S10 : Hid (St w noB [] V8):=Lib.hid (S7.out.gr hv9)
  clear S7
  clear hv9
  refine ⟨rfl,hK _ _ ?_⟩
  clear hK
  go_upto_region 3 with fail
  refine wpG_region_k (fun K hK=>?_)
  obtain ⟨b11,o11,rfl⟩:=HX.out.addr (by decide) (by omega)
  refine @wpG_p _ _ _ _ _ (some 9) (.pointer (some ⟨b11,o11 + 0,none⟩)) _ _ rfl (by rfl) (fun W=>by (go_simp <;> first | rfl | omega | (simp;omega))) ?_
  simp only [n1,n3,n4]
  refine @wpG_tk _ _ _ _ _ (some 10) (.agg #[B.a, B.b, B.c, B.d, B.e, B.f, .slice A n c]) _ _ rfl (.load_mid (by rfl) 28 (.tmp 9) rfl b11 (o11 + 0) rfl [B.a, B.b, B.c, B.d, B.e, B.f, .slice A n c] _ (fun W hg=>((HX.out.gr ((S10.out.gr hg)).bel).elem (0 * 7) (ds:=[B.a, B.b, B.c, B.d, B.e, B.f, .slice A n c]) rfl)) Tryd.underlying28 rfl (by kernel_rfl)) ?_
  simp only [n1,n3,n4]
  refine wpG_val (some 4) rfl (by rfl) (fun W12 hg13=>⟨.pointer (some ⟨W12.heap.size,0,none⟩),W12.alloc (.cells #[(), (), (), (), (), (), .slice none 0 0] 28),by (first | (go_simp;done) | (go_simp <;> rfl)), ?_⟩)
  simp only [n1,n3,n4]
  obtain ⟨g14,U15,hg_,hu_,hS_⟩:=(S10.out.gr hg13).made [(), (), (), (), (), (), .slice none 0 0] 28
  rw [← hu_,← hg_]
  have S16 : Hid (St w noB [blk g14 28 [(), (), (), (), (), (), .slice none 0 0]] U15):=Lib.hid hS_
  clear S10
  clear hg_ hu_ hS_ hg13
  refine wpG_store (none) rfl (by rfl) (fun W17 hg18=>⟨_,run_store_mid 28 (.tmp 4) (.tmp 10) rfl g14 0 #[B.a, B.b, B.c, B.d, B.e, B.f, .slice A n c] rfl rfl ((S16.out.gr hg18).room 0 rfl 0 7 (by simp)) (by kernel_rfl) (by kernel_rfl), ?_⟩)
  simp only [n2]
  obtain ⟨U19,hu_,hS_⟩:=((S16.out.gr hg18).put 0 rfl 0 (#[B.a, B.b, B.c, B.d, B.e, B.f, .slice A n c] : Array Value).toList (ds:=[B.a, B.b, B.c, B.d, B.e, B.f, .slice A n c]) rfl).named
  rw [← hu_]
  have S20 : Hid (St w noB [blk g14 28 [B.a, B.b, B.c, B.d, B.e, B.f, .slice A n c]] U19):=Lib.hid hS_
  clear S16
  clear hu_ hS_ hg18
  refine wpG_done (fun V21 hv22=>?_)
  have S23 : Hid (St w noB [blk g14 28 [B.a, B.b, B.c, B.d, B.e, B.f, .slice A n c]] V21):=Lib.hid (S20.out.gr hv22)
  clear S20
  clear hv22
  refine ⟨rfl,hK _ _ ?_⟩
  clear hK
  go_upto_region 4 with fail
  refine wpG_region_k (fun K hK=>?_)
  refine @wpG_p _ _ _ _ _ (some 11) (.pointer (some ⟨g14,6,none⟩)) _ _ rfl (by rfl) (fun W=>by go_simp) ?_
  simp only [n1,n3,n4]
  refine @wpG_r _ _ _ _ _ (some 12) (.slice A n c) _ _ rfl (by rfl) (fun W hg=>by have c:=(S23.out.gr hg).cell 0 rfl 6 rfl;go_simp) ?_
  simp only [n1,n3,n4]
  refine @wpG_p _ _ _ _ _ (some 13) (n : Int) _ _ rfl (by rfl) (fun W=>by go_simp) ?_
  simp only [n1,n3,n4]
  refine @wpG_p _ _ _ _ _ (some 14) (.bool (decide ((n : Int) > 1000))) _ _ rfl (by rfl) (fun W=>op_int_gtr W (n : Int) 1000 rfl rfl rfl Tryd.underlying3) ?_
  simp only [n1,n3,n4]
  refine @wpG_p _ _ _ _ _ (some 15) (.bool (decide ((n : Int) > 1000))) _ _ rfl (by rfl) (fun _=>rfl) ?_
  simp only [n1,n3,n4]
  obtain ⟨c24,hc24⟩ : ∃ q_,q_ = (decide ((n : Int) > 1000)):=⟨_,rfl⟩
  rw [← hc24]
  have Hc24:=Lib.hid hc24
  clear hc24
  cases c24 with
  | true =>
    have f25:=of_decide_eq_true Hc24.out.symm
    refine @wpG_no _ _ _ _ _ (some 16) _ _ rfl (by rfl) ?_
    simp only [n1,n3,n4]
    refine @wpG_no _ _ _ _ _ (some 17) _ _ rfl (by rfl) ?_
    simp only [n1,n3,n4]
    refine @wpG_no _ _ _ _ _ (some 18) _ _ rfl (by rfl) ?_
    simp only [n1,n3,n4]
    refine @wpG_p _ _ _ _ _ (some 19) (.bool true) _ _ rfl (by rfl) (fun W=>by go_simp) ?_
    simp only [n1,n3,n4]
    refine @wpG_p _ _ _ _ _ (some 20) (.bool true) _ _ rfl (by rfl) (fun _=>rfl) ?_
    simp only [n1,n3,n4]
    refine @wpG_no _ _ _ _ _ (some 21) _ _ rfl (by rfl) ?_
    simp only [n1,n3,n4]
    refine @wpG_no _ _ _ _ _ (some 22) _ _ rfl (by rfl) ?_
    simp only [n1,n3,n4]
    refine @wpG_no _ _ _ _ _ (some 23) _ _ rfl (by rfl) ?_
    simp only [n1,n3,n4]
    refine @wpG_no _ _ _ _ _ (some 24) _ _ rfl (by rfl) ?_
    simp only [n1,n3,n4]
    refine @wpG_no _ _ _ _ _ (some 25) _ _ rfl (by rfl) ?_
    simp only [n1,n3,n4]
    refine @wpG_no _ _ _ _ _ (some 26) _ _ rfl (by rfl) ?_
    simp only [n1,n3,n4]
    refine @wpG_no _ _ _ _ _ (some 27) _ _ rfl (by rfl) ?_
    simp only [n1,n3,n4]
    refine @wpG_no _ _ _ _ _ (some 28) _ _ rfl (by rfl) ?_
    simp only [n1,n3,n4]
    refine @wpG_no _ _ _ _ _ (some 29) _ _ rfl (by rfl) ?_
    simp only [n1,n3,n4]
    refine @wpG_p _ _ _ _ _ (some 30) (.bool true) _ _ rfl (by rfl) (fun W=>by go_simp) ?_
    simp only [n1,n3,n4]
    refine wpG_done (fun V26 hv27=>?_)
    have S28 : Hid (St w noB [blk g14 28 [B.a, B.b, B.c, B.d, B.e, B.f, .slice A n c]] V26):=Lib.hid (S23.out.gr hv27)
    clear S23
    clear hv27
    refine ⟨rfl,hK _ _ ?_⟩
    clear hK
    go_upto_region 5 with fail
    refine wpG_region_k (fun K hK=>?_)
    refine @wpG_p _ _ _ _ _ (some 2) (.bool false) _ _ rfl (by rfl) (fun _=>rfl) ?_
    simp only [n1,n3,n4]
    refine wpG_done (fun V29 hv30=>?_)
    have S31 : Hid (St w noB [blk g14 28 [B.a, B.b, B.c, B.d, B.e, B.f, .slice A n c]] V29):=Lib.hid (S28.out.gr hv30)
    clear S28
    clear hv30
    refine ⟨rfl,hK _ _ ?_⟩
    clear hK
    go_wp2_with fail
    go_ret
    refine ⟨?_,S31.out.bel⟩
    show Ending.returned (.bool false) = _
    (first | rfl | (have hq0_:=HLEN.out;exact rb_f (Gm.fw_1 (by omega))))
  | false =>
    have f32:=of_decide_eq_false Hc24.out.symm
    refine @wpG_tk _ _ _ _ _ (some 16) (.agg #[B.a, B.b, B.c, B.d, B.e, B.f, .slice A n c]) _ _ rfl (.load_mid (by rfl) 28 (.tmp 4) rfl g14 0 rfl [B.a, B.b, B.c, B.d, B.e, B.f, .slice A n c] _ (fun W hg=>(S23.out.gr hg).range 0 rfl 0 7 rfl) Tryd.underlying28 rfl (by kernel_rfl)) ?_
    simp only [n1,n3,n4]
    refine @wpG_tk _ _ _ _ _ (some 17) (.bool (decide (Gm.vld B l))) _ _ rfl (.call (f:=13) (args:=#[.agg #[B.a, B.b, B.c, B.d, B.e, B.f, .slice A n c]]) (by rfl) (fun W=>by go_simp) (fun W hg=>rvalid_any B _ _ _ l W (HGA.out.gr (S23.out.gr hg).bel))) ?_
    simp only [n1,n3,n4]
    refine @wpG_p _ _ _ _ _ (some 18) (.bool (!(decide (Gm.vld B l)))) _ _ rfl (by rfl) (fun W=>by go_simp) ?_
    simp only [n1,n3,n4]
    refine @wpG_p _ _ _ _ _ (some 19) (.bool (!(decide (Gm.vld B l)))) _ _ rfl (by rfl) (fun W=>by go_simp) ?_
    simp only [n1,n3,n4]
    refine @wpG_p _ _ _ _ _ (some 20) (.bool (!(decide (Gm.vld B l)))) _ _ rfl (by rfl) (fun _=>rfl) ?_
    simp only [n1,n3,n4]
    obtain ⟨c33,hc33⟩ : ∃ q_,q_ = (!(decide (Gm.vld B l))):=⟨_,rfl⟩
    rw [← hc33]
    have Hc33:=Lib.hid hc33
    clear hc33
    cases c33 with
    | true =>
      have f34:=Lib.hid (of_decide_eq_false (bnt Hc33.out))
      refine @wpG_no _ _ _ _ _ (some 21) _ _ rfl (by rfl) ?_
      simp only [n1,n3,n4]
      refine @wpG_no _ _ _ _ _ (some 22) _ _ rfl (by rfl) ?_
      simp only [n1,n3,n4]
      refine @wpG_no _ _ _ _ _ (some 23) _ _ rfl (by rfl) ?_
      simp only [n1,n3,n4]
      refine @wpG_no _ _ _ _ _ (some 24) _ _ rfl (by rfl) ?_
      simp only [n1,n3,n4]
      refine @wpG_no _ _ _ _ _ (some 25) _ _ rfl (by rfl) ?_
      simp only [n1,n3,n4]
      refine @wpG_no _ _ _ _ _ (some 26) _ _ rfl (by rfl) ?_
      simp only [n1,n3,n4]
      refine @wpG_no _ _ _ _ _ (some 27) _ _ rfl (by rfl) ?_
      simp only [n1,n3,n4]
      refine @wpG_no _ _ _ _ _ (some 28) _ _ rfl (by rfl) ?_
      simp only [n1,n3,n4]
      refine @wpG_no _ _ _ _ _ (some 29) _ _ rfl (by rfl) ?_
      simp only [n1,n3,n4]
      refine @wpG_p _ _ _ _ _ (some 30) (.bool true) _ _ rfl (by rfl) (fun W=>by go_simp) ?_
      simp only [n1,n3,n4]
      refine wpG_done (fun V35 hv36=>?_)
      have S37 : Hid (St w noB [blk g14 28 [B.a, B.b, B.c, B.d, B.e, B.f, .slice A n c]] V35):=Lib.hid (S23.out.gr hv36)
      clear S23
      clear hv36
      refine ⟨rfl,hK _ _ ?_⟩
      clear hK
      go_upto_region 5 with fail
      refine wpG_region_k (fun K hK=>?_)
      refine @wpG_p _ _ _ _ _ (some 2) (.bool false) _ _ rfl (by rfl) (fun _=>rfl) ?_
      simp only [n1,n3,n4]
      refine wpG_done (fun V38 hv39=>?_)
      have S40 : Hid (St w noB [blk g14 28 [B.a, B.b, B.c, B.d, B.e, B.f, .slice A n c]] V38):=Lib.hid (S37.out.gr hv39)
      clear S37
      clear hv39
      refine ⟨rfl,hK _ _ ?_⟩
      clear hK
      go_wp2_with fail
      go_ret
      refine ⟨?_,S40.out.bel⟩
      show Ending.returned (.bool false) = _
      (first | rfl | (have e_f34:=f34.out;have hq0_:=HLEN.out;exact rb_f (Gm.fw_2 e_f34)))
    | false =>
      have f41:=Lib.hid (of_decide_eq_true (bnf Hc33.out))
      refine @wpG_p _ _ _ _ _ (some 21) (.pointer (some ⟨g14,0,none⟩)) _ _ rfl (by rfl) (fun W=>by go_simp) ?_
      simp only [n1,n3,n4]
      refine @wpG_p _ _ _ _ _ (some 22) (.pointer (some ⟨g14,0,none⟩)) _ _ rfl (by rfl) (fun W=>by go_simp) ?_
      simp only [n1,n3,n4]
      refine @wpG_tk _ _ _ _ _ (some 23) (.agg #[B.a, B.b, B.c]) _ _ rfl (.load_mid (by rfl) 23 (.tmp 22) rfl g14 0 rfl [B.a, B.b, B.c] _ (fun W hg=>(S23.out.gr hg).range 0 rfl 0 3 rfl) Tryd.underlying23 rfl (by kernel_rfl)) ?_
      simp only [n1,n3,n4]
      refine @wpG_p _ _ _ _ _ (some 24) (.pointer (some ⟨g14,0,none⟩)) _ _ rfl (by rfl) (fun W=>by go_simp) ?_
      simp only [n1,n3,n4]
      refine @wpG_p _ _ _ _ _ (some 25) (.pointer (some ⟨g14,3,none⟩)) _ _ rfl (by rfl) (fun W=>by go_simp) ?_
      simp only [n1,n3,n4]
      refine @wpG_tk _ _ _ _ _ (some 26) (.agg #[B.d, B.e, B.f]) _ _ rfl (.load_mid (by rfl) 23 (.tmp 25) rfl g14 3 rfl [B.d, B.e, B.f] _ (fun W hg=>(S23.out.gr hg).range 0 rfl 3 3 rfl) Tryd.underlying23 rfl (by kernel_rfl)) ?_
      simp only [n1,n3,n4]
      refine wpG_val (some 27) rfl (by rfl) (fun W42 hg43=>⟨.slice (some ⟨W42.heap.size,0,none⟩) 2 2,W42.alloc (.cells #[B.a, B.b, B.c, B.d, B.e, B.f] 23),by (go_simp <;> rfl), ?_⟩)
      simp only [n1,n3,n4]
      obtain ⟨g44,U45,hg_,hu_,hS_⟩:=(S23.out.gr hg43).made [B.a, B.b, B.c, B.d, B.e, B.f] 23
      rw [← hu_,← hg_]
      have S46 : Hid (St w noB [blk g44 23 [B.a, B.b, B.c, B.d, B.e, B.f],blk g14 28 [B.a, B.b, B.c, B.d, B.e, B.f, .slice A n c]] U45):=Lib.hid hS_
      clear S23
      clear hg_ hu_ hS_ hg43
      refine @wpG_tk _ _ _ _ _ (some 28) (.bool (Gm.nears [(B.a,B.b,B.c),(B.d,B.e,B.f)])) _ _ rfl (.call (f:=20) (args:=#[.slice (some ⟨g44,0,none⟩) 2 2]) (by rfl) (fun W=>by go_simp) (fun W hg=>near_any _ _ _ [(B.a,B.b,B.c),(B.d,B.e,B.f)] W (SL.ofBlk (S46.out.gr hg) 0 rfl 3 2 (pcs [(B.a,B.b,B.c),(B.d,B.e,B.f)]) rfl rfl (by decide)))) ?_
      simp only [n1,n3,n4]
      refine @wpG_p _ _ _ _ _ (some 29) (.bool (!(Gm.nears [(B.a,B.b,B.c),(B.d,B.e,B.f)]))) _ _ rfl (by rfl) (fun W=>by go_simp) ?_
      simp only [n1,n3,n4]
      refine @wpG_p _ _ _ _ _ (some 30) (.bool (!(Gm.nears [(B.a,B.b,B.c),(B.d,B.e,B.f)]))) _ _ rfl (by rfl) (fun W=>by go_simp) ?_
      simp only [n1,n3,n4]
      refine wpG_done (fun V47 hv48=>?_)
      have S49 : Hid (St w noB [blk g44 23 [B.a, B.b, B.c, B.d, B.e, B.f],blk g14 28 [B.a, B.b, B.c, B.d, B.e, B.f, .slice A n c]] V47):=Lib.hid (S46.out.gr hv48)
      clear S46
      clear hv48
      refine ⟨rfl,hK _ _ ?_⟩
      clear hK
      obtain ⟨c50,hc50⟩ : ∃ q_,q_ = (!(Gm.nears [(B.a,B.b,B.c),(B.d,B.e,B.f)])):=⟨_,rfl⟩
      rw [← hc50]
      have Hc50:=Lib.hid hc50
      clear hc50
      cases c50 with
      | true =>
        have f51:=Lib.hid ((bnt Hc50.out))
        go_upto_region 5 with fail
        refine wpG_region_k (fun K hK=>?_)
        refine @wpG_p _ _ _ _ _ (some 2) (.bool false) _ _ rfl (by rfl) (fun _=>rfl) ?_
        simp only [n1,n3,n4]
        refine wpG_done (fun V52 hv53=>?_)
        have S54 : Hid (St w noB [blk g44 23 [B.a, B.b, B.c, B.d, B.e, B.f],blk g14 28 [B.a, B.b, B.c, B.d, B.e, B.f, .slice A n c]] V52):=Lib.hid (S49.out.gr hv53)
        clear S49
        clear hv53
        refine ⟨rfl,hK _ _ ?_⟩
        clear hK
        go_wp2_with fail
        go_ret
        refine ⟨?_,S54.out.bel⟩
        show Ending.returned (.bool false) = _
        (first | rfl | (have e_f41:=f41.out;have e_f51:=f51.out;have hq0_:=HLEN.out;exact rb_f (Gm.fw_3 e_f51)))
      | false =>
        have f55:=Lib.hid ((bnf Hc50.out))
        go_upto_region 6 with fail
        refine wpG_region_k (fun K hK=>?_)
        refine @wpG_p _ _ _ _ _ (some 31) (.int .i64 1) _ _ rfl (by rfl) (fun W=>by go_simp <;> rfl) ?_
        simp only [n1,n3,n4]
        refine @wpG_p _ _ _ _ _ (some 7) (.int .i64 1) _ _ rfl (by rfl) (fun _=>rfl) ?_
        simp only [n1,n3,n4]
        refine wpG_done (fun V56 hv57=>?_)
        have S58 : Hid (St w noB [blk g44 23 [B.a, B.b, B.c, B.d, B.e, B.f],blk g14 28 [B.a, B.b, B.c, B.d, B.e, B.f, .slice A n c]] V56):=Lib.hid (S49.out.gr hv57)
        clear S49
        clear hv57
        refine ⟨rfl,hK _ _ ?_⟩
        clear hK
        go_wp2_with fail
        rw [rounds_succ]
        go_upto_region 2 with fail
        refine wpG_region_k (fun K hK=>?_)
        refine @wpG_p _ _ _ _ _ (some 8) (.bool false) _ _ rfl (by rfl) (fun W=>by go_simp) ?_
        simp only [n1,n3,n4]
        refine wpG_done (fun V59 hv60=>?_)
        have S61 : Hid (St w noB [blk g44 23 [B.a, B.b, B.c, B.d, B.e, B.f],blk g14 28 [B.a, B.b, B.c, B.d, B.e, B.f, .slice A n c]] V59):=Lib.hid (S58.out.gr hv60)
        clear S58
        clear hv60
        refine ⟨rfl,hK _ _ ?_⟩
        clear hK
        go_upto_region 7 with fail
        refine wpG_region_k (fun K hK=>?_)
        refine @wpG_p _ _ _ _ _ (some 2) (.bool true) _ _ rfl (by rfl) (fun _=>rfl) ?_
        simp only [n1,n3,n4]
        refine wpG_done (fun V62 hv63=>?_)
        have S64 : Hid (St w noB [blk g44 23 [B.a, B.b, B.c, B.d, B.e, B.f],blk g14 28 [B.a, B.b, B.c, B.d, B.e, B.f, .slice A n c]] V62):=Lib.hid (S61.out.gr hv63)
        clear S61
        clear hv63
        refine ⟨rfl,hK _ _ ?_⟩
        clear hK
        go_wp2_with fail
        go_ret
        refine ⟨?_,S64.out.bel⟩
        show Ending.returned (.bool true) = _
        (first | rfl | (have e_f41:=f41.out;have e_f55:=f55.out;have hq0_:=HLEN.out;exact rb_t (Gm.fw_yes (by omega) e_f41 e_f55)))
set_option maxRecDepth 1000000 in
set_option maxHeartbeats 4000000 in
theorem sameints_any (A : Option Addr) (n c : Nat) (l : List Int) (E : Option Addr) (ne ce : Nat) (m : List Int) (w : World) (hG : SL w 1 A n c (ic l)) (hG2 : SL w 1 E ne ce (ic m)) :
    Calls Tryd.prog 44 #[.slice A n c, .slice E ne ce] w fun e w'=>e = .returned (.bool (decide (l = m))) ∧ Below w.heap.size w w':=by
  have HGA:=Lib.hid hG
  have HLEN : Hid (l.length = n):=Lib.hid (by have h_:=hG.len;rw [ic_len] at h_;omega)
  have hnbHGA : n ≤ 9223372036854775807:=Nat.le_trans hG.cap hG.bnd
  clear hG
  have HGB:=Lib.hid hG2
  have HLEN2 : Hid (m.length = ne):=Lib.hid (by have h_:=hG2.len;rw [ic_len] at h_;omega)
  have hnbHGB : ne ≤ 9223372036854775807:=Nat.le_trans hG2.cap hG2.bnd
  clear hG2
  have S1 : Hid (St w noB [] w):=Lib.hid (St.start w)
  go_enter Tryd.func44,Tryd.ntmps44
  go_upto_region 0 with fail
  refine wpG_region_k (fun K hK=>?_)
  refine @wpG_p _ _ _ _ _ (some 4) (.bool false) _ _ rfl (by rfl) (fun _=>rfl) ?_
  simp only [n1,n3,n4]
  refine wpG_done (fun V2 hv3=>?_)
  have S4 : Hid (St w noB [] V2):=Lib.hid (S1.out.gr hv3)
  clear S1
  clear hv3
  refine ⟨rfl,hK _ _ ?_⟩
  clear hK
  go_upto_region 1 with fail
  refine wpG_region_k (fun K hK=>?_)
  refine @wpG_p _ _ _ _ _ (some 6) (.slice A n c) _ _ rfl (by rfl) (fun _=>rfl) ?_
  simp only [n1,n3,n4]
  refine @wpG_p _ _ _ _ _ (some 7) (n : Int) _ _ rfl (by rfl) (fun W=>by go_simp) ?_
  simp only [n1,n3,n4]
  refine @wpG_p _ _ _ _ _ (some 8) (.slice E ne ce) _ _ rfl (by rfl) (fun _=>rfl) ?_
  simp only [n1,n3,n4]
  refine @wpG_p _ _ _ _ _ (some 9) (ne : Int) _ _ rfl (by rfl) (fun W=>by go_simp) ?_
  simp only [n1,n3,n4]
  refine @wpG_p _ _ _ _ _ (some 10) (.bool (decide ((n : Int) ≠ (ne : Int)))) _ _ rfl (by rfl) (fun W=>op_int_neq W (n : Int) (ne : Int) rfl rfl rfl Tryd.underlying3) ?_
  simp only [n1,n3,n4]
  refine wpG_done (fun V5 hv6=>?_)
  have S7 : Hid (St w noB [] V5):=Lib.hid (S4.out.gr hv6)
  clear S4
  clear hv6
  refine ⟨rfl,hK _ _ ?_⟩
  clear hK
  obtain ⟨c8,hc8⟩ : ∃ q_,q_ = (decide ((n : Int) ≠ (ne : Int))):=⟨_,rfl⟩
  rw [← hc8]
  have Hc8:=Lib.hid hc8
  clear hc8
  cases c8 with
  | true =>
    have f9:=of_decide_eq_true Hc8.out.symm
    go_upto_region 2 with fail
    refine wpG_region_k (fun K hK=>?_)
    refine @wpG_p _ _ _ _ _ (some 4) (.bool false) _ _ rfl (by rfl) (fun _=>rfl) ?_
    simp only [n1,n3,n4]
    refine wpG_done (fun V10 hv11=>?_)
    have S12 : Hid (St w noB [] V10):=Lib.hid (S7.out.gr hv11)
    clear S7
    clear hv11
    refine ⟨rfl,hK _ _ ?_⟩
    clear hK
    go_wp2_with fail
    go_ret
    refine ⟨?_,S12.out.bel⟩
    show Ending.returned (.bool false) = _
    (first | rfl | (have hlen_:=HLEN.out;have hlen2_:=HLEN2.out;exact rb_f (decide_eq_false (fun he=>by rw [he] at hlen_;omega))))
  | false =>
    have f13:=Lib.hid (Decidable.not_not.1 (of_decide_eq_false Hc8.out.symm))
    have f13a:=Int.le_of_eq f13.out
    have f13b:=Int.le_of_eq f13.out.symm
    go_upto_region 3 with fail
    refine wpG_region_k (fun K hK=>?_)
    refine @wpG_p _ _ _ _ _ (some 5) () _ _ rfl (by rfl) (fun _=>rfl) ?_
    simp only [n1,n3,n4]
    refine wpG_done (fun V14 hv15=>?_)
    have S16 : Hid (St w noB [] V14):=Lib.hid (S7.out.gr hv15)
    clear S7
    clear hv15
    refine ⟨rfl,hK _ _ ?_⟩
    clear hK
    go_wp2_with fail
    go_loopw [5] (fun v5 wr=>∃ (k : Nat),v5 = .int .i64 (k : Int) ∧ k ≤ Ff.ff (Gm.eqk l m) l.length ∧ k ≤ n ∧ St w noB [] wr) (fun i _=>n - (intOf i).toNat)
    case atStart=>exact ⟨0,rfl,Nat.zero_le _,Nat.zero_le _,S16.out⟩
    case round =>
      obtain ⟨k,rfl,hk_,hkn,hS⟩:=hrel
      have HK_:=Lib.hid hk_
      clear hk_
      have SL:=Lib.hid hS
      clear S16 hS
      have S17:=SL
      clear SL
      go_upto_region 4 with fail
      refine wpG_region_k (fun K hK=>?_)
      refine @wpG_p _ _ _ _ _ (some 11) (k : Int) _ _ rfl (by rfl) (fun _=>rfl) ?_
      simp only [n1,n3,n4]
      refine @wpG_p _ _ _ _ _ (some 12) (.slice A n c) _ _ rfl (by rfl) (fun _=>rfl) ?_
      simp only [n1,n3,n4]
      refine @wpG_p _ _ _ _ _ (some 13) (n : Int) _ _ rfl (by rfl) (fun W=>by go_simp) ?_
      simp only [n1,n3,n4]
      refine @wpG_p _ _ _ _ _ (some 14) (.bool (decide ((k : Int) < (n : Int)))) _ _ rfl (by rfl) (fun W=>op_int_lss W (k : Int) (n : Int) rfl rfl rfl Tryd.underlying3) ?_
      simp only [n1,n3,n4]
      refine wpG_done (fun V18 hv19=>?_)
      have S20 : Hid (St w noB [] V18):=Lib.hid (S17.out.gr hv19)
      clear S17
      clear hv19
      refine ⟨rfl,hK _ _ ?_⟩
      clear hK
      obtain ⟨c21,hc21⟩ : ∃ q_,q_ = (decide ((k : Int) < (n : Int))):=⟨_,rfl⟩
      rw [← hc21]
      have Hc21:=Lib.hid hc21
      clear hc21
      cases c21 with
      | true =>
        have f22:=of_decide_eq_true Hc21.out.symm
        go_upto_region 6 with fail
        refine wpK_region_k (by kernel_rfl) (fun K hK=>?_)
        refine wpK_ta (i:=0) (some 17) (v:=.slice A n c) rfl rfl (by kernel_rfl) (fun _ _ _ h=>onN_panic h) (Or.inl ⟨rfl,fun _=>rfl⟩) ?_
        simp only [n1,n3,n4]
        refine wpK_ta (i:=1) (some 18) (v:=(k : Int)) rfl rfl (by kernel_rfl) (fun _ _ _ h=>onN_panic h) (Or.inl ⟨rfl,fun _=>rfl⟩) ?_
        simp only [n1,n3,n4]
        obtain ⟨b23,o23,rfl⟩:=HGA.out.addr (by decide) (by omega)
        refine wpK_ta (i:=2) (some 19) (v:=.pointer (some ⟨b23,o23 + k,none⟩)) rfl rfl (by kernel_rfl) (fun _ _ _ h=>onN_panic h) (Or.inl ⟨by rfl,fun W=>by (go_simp <;> first | rfl | omega | (simp;omega))⟩) ?_
        simp only [n1,n3,n4]
        refine wpK_ta (i:=4) (some 21) (v:=.slice E ne ce) rfl rfl (by kernel_rfl) (fun _ _ _ h=>onN_panic h) (Or.inl ⟨rfl,fun _=>rfl⟩) ?_
        simp only [n1,n3,n4]
        refine wpK_ta (i:=5) (some 22) (v:=(k : Int)) rfl rfl (by kernel_rfl) (fun _ _ _ h=>onN_panic h) (Or.inl ⟨rfl,fun _=>rfl⟩) ?_
        simp only [n1,n3,n4]
        obtain ⟨b24,o24,rfl⟩:=HGB.out.addr (by decide) (by omega)
        refine wpK_ta (i:=6) (some 23) (v:=.pointer (some ⟨b24,o24 + k,none⟩)) rfl rfl (by kernel_rfl) (fun _ _ _ h=>onN_panic h) (Or.inl ⟨by rfl,fun W=>by (go_simp <;> first | rfl | omega | (simp;omega))⟩) ?_
        simp only [n1,n3,n4]
        refine wpK_tk (i:=3) (some 20) (v:=(l.getD k 0:Int)) rfl rfl (by kernel_rfl) (fun _ _ _ h=>onN_panic h) (.val (by rfl) (fun W hg=>by have c:=(((HGA.out.gr ((S20.out.gr (Gr.un hg))).bel).int (l:=l) k (by (have:=HLEN.out;have:=HLEN2.out;omega)))) 0 _ rfl;(try simp only [Nat.add_zero,Nat.zero_add] at c);go_simp)) ?_
        simp only [n1,n3,n4]
        refine wpK_tk (i:=7) (some 24) (v:=(m.getD k 0:Int)) rfl rfl (by kernel_rfl) (fun _ _ _ h=>onN_panic h) (.val (by rfl) (fun W hg=>by have c:=(((HGB.out.gr ((S20.out.gr (Gr.un hg))).bel).int (l:=m) k (by (have:=HLEN.out;have:=HLEN2.out;omega)))) 0 _ rfl;(try simp only [Nat.add_zero,Nat.zero_add] at c);go_simp)) ?_
        simp only [n1,n3,n4]
        refine wpK_ta (i:=8) (some 25) (v:=.bool (decide ((l.getD k 0) ≠ (m.getD k 0)))) rfl rfl (by kernel_rfl) (fun _ _ _ h=>onN_panic h) (Or.inl ⟨by rfl,fun W=>by exact op_int_neq W (l.getD k 0) (m.getD k 0) rfl rfl rfl Tryd.underlying3⟩) ?_
        simp only [n1,n3,n4]
        refine wpK_done (by kernel_rfl) (fun V25 hv26=>?_) _
        have S27 : Hid (St w noB [] V25):=Lib.hid (S20.out.gr (Gr.un hv26))
        clear S20
        clear hv26
        refine ⟨rfl,hK _ _ ?_⟩
        clear hK
        obtain ⟨c28,hc28⟩ : ∃ q_,q_ = (decide ((l.getD k 0) ≠ (m.getD k 0))):=⟨_,rfl⟩
        rw [← hc28]
        have Hc28:=Lib.hid hc28
        clear hc28
        cases c28 with
        | true =>
          have f29:=of_decide_eq_true Hc28.out.symm
          go_upto_region 7 with fail
          refine wpG_region_k (fun K hK=>?_)
          refine @wpG_p _ _ _ _ _ (some 4) (.bool false) _ _ rfl (by rfl) (fun _=>rfl) ?_
          simp only [n1,n3,n4]
          refine wpG_done (fun V30 hv31=>?_)
          have S32 : Hid (St w noB [] V30):=Lib.hid (S27.out.gr hv31)
          clear S27
          clear hv31
          refine ⟨rfl,hK _ _ ?_⟩
          clear hK
          go_wp2_with fail
          go_ret
          refine ⟨?_,S32.out.bel⟩
          show Ending.returned (.bool false) = _
          (first | rfl | (have e_f13:=f13.out;exact rb_f (decide_eq_false (fun he=>f29 (by rw [he])))))
        | false =>
          have f33:=Lib.hid (Decidable.not_not.1 (of_decide_eq_false Hc28.out.symm))
          have f33a:=Int.le_of_eq f33.out
          have f33b:=Int.le_of_eq f33.out.symm
          go_upto_region 5 with fail
          refine wpG_region_k (fun K hK=>?_)
          refine @wpG_p _ _ _ _ _ (some 15) (k : Int) _ _ rfl (by rfl) (fun _=>rfl) ?_
          simp only [n1,n3,n4]
          refine @wpG_p _ _ _ _ _ (some 16) ((k : Int) + 1:Int) _ _ rfl (by rfl) (fun W=>op_i_add W (k : Int) 1 (by omega) rfl rfl rfl Tryd.underlying3) ?_
          simp only [n1,n3,n4]
          refine @wpG_p _ _ _ _ _ (some 5) ((k : Int) + 1:Int) _ _ rfl (by rfl) (fun _=>rfl) ?_
          simp only [n1,n3,n4]
          refine wpG_done (fun V34 hv35=>?_)
          have S36 : Hid (St w noB [] V34):=Lib.hid (S27.out.gr hv35)
          clear S27
          clear hv35
          refine ⟨rfl,hK _ _ ?_⟩
          clear hK
          go_wp2_with fail
          go_roundw
          case rel=>exact ⟨k + 1,(by first | rfl | go_num),(by have e_f13:=f13.out;have e_f33:=f33.out;exact Ff.ff_step HK_.out (by have:=HLEN.out;omega) (decide_eq_true e_f33)),(by omega),S36.out⟩
          case measure=>first | (simp only [intOf];omega) | (simp [intOf];done) | (simp [intOf];omega) | omega
      | false =>
        have f37:=of_decide_eq_false Hc21.out.symm
        go_upto_region 8 with fail
        refine wpG_region_k (fun K hK=>?_)
        refine @wpG_p _ _ _ _ _ (some 4) (.bool true) _ _ rfl (by rfl) (fun _=>rfl) ?_
        simp only [n1,n3,n4]
        refine wpG_done (fun V38 hv39=>?_)
        have S40 : Hid (St w noB [] V38):=Lib.hid (S20.out.gr hv39)
        clear S20
        clear hv39
        refine ⟨rfl,hK _ _ ?_⟩
        clear hK
        go_wp2_with fail
        go_ret
        refine ⟨?_,S40.out.bel⟩
        show Ending.returned (.bool true) = _
        (first | rfl | (have e_f13:=f13.out;have hlen_:=HLEN.out;have hlen2_:=HLEN2.out;exact rb_t (decide_eq_true ((Gm.same_iff (B:=Gm.zb) (C:=Gm.zb)).1 (Gm.same_yes ⟨rfl,rfl,rfl,rfl,rfl,rfl⟩ (by omega) (by have h_:=HK_.out;have e_ : k = l.length:=(by omega);rw [e_] at h_;exact h_))).2)))
set_option maxRecDepth 1000000 in
set_option maxHeartbeats 4000000 in
theorem lat_any (x y z : Int) (w : World) :
    Calls Tryd.prog 41 #[x, y, z] w fun e w'=>e = .returned (.agg #[x, y, z]) ∧ Below w.heap.size w w':=by
  have S1 : Hid (St w noB [] w):=Lib.hid (St.start w)
  go_enter Tryd.func41,Tryd.ntmps41
  go_upto_region 0 with fail
  refine wpG_region_k (fun K hK=>?_)
  refine wpG_val (some 6) rfl (by rfl) (fun W2 hg3=>⟨.pointer (some ⟨W2.heap.size,0,none⟩),W2.alloc (.cells #[(), (), ()] 23),by (first | (go_simp;done) | (go_simp <;> rfl)), ?_⟩)
  simp only [n1,n3,n4]
  obtain ⟨g4,U5,hg_,hu_,hS_⟩:=(S1.out.gr hg3).made [(), (), ()] 23
  rw [← hu_,← hg_]
  have S6 : Hid (St w noB [blk g4 23 [(), (), ()]] U5):=Lib.hid hS_
  clear S1
  clear hg_ hu_ hS_ hg3
  refine wpG_done (fun V7 hv8=>?_)
  have S9 : Hid (St w noB [blk g4 23 [(), (), ()]] V7):=Lib.hid (S6.out.gr hv8)
  clear S6
  clear hv8
  refine ⟨rfl,hK _ _ ?_⟩
  clear hK
  go_upto_region 1 with fail
  refine wpG_region_k (fun K hK=>?_)
  refine @wpG_p _ _ _ _ _ (some 7) x _ _ rfl (by rfl) (fun _=>rfl) ?_
  simp only [n1,n3,n4]
  refine @wpG_p _ _ _ _ _ (some 8) y _ _ rfl (by rfl) (fun _=>rfl) ?_
  simp only [n1,n3,n4]
  refine @wpG_p _ _ _ _ _ (some 9) z _ _ rfl (by rfl) (fun _=>rfl) ?_
  simp only [n1,n3,n4]
  refine @wpG_p _ _ _ _ _ (some 10) (.agg #[x, y, z]) _ _ rfl (by rfl) (fun W=>by go_simp) ?_
  simp only [n1,n3,n4]
  refine wpG_store (none) rfl (by rfl) (fun W10 hg11=>⟨_,run_store_mid 23 (.tmp 6) (.tmp 10) rfl g4 0 #[x, y, z] rfl rfl ((S9.out.gr hg11).room 0 rfl 0 3 (by simp)) (by kernel_rfl) (by kernel_rfl), ?_⟩)
  simp only [n2]
  obtain ⟨U12,hu_,hS_⟩:=((S9.out.gr hg11).put 0 rfl 0 (#[x, y, z] : Array Value).toList (ds:=[x, y, z]) rfl).named
  rw [← hu_]
  have S13 : Hid (St w noB [blk g4 23 [x, y, z]] U12):=Lib.hid hS_
  clear S9
  clear hu_ hS_ hg11
  refine wpG_done (fun V14 hv15=>?_)
  have S16 : Hid (St w noB [blk g4 23 [x, y, z]] V14):=Lib.hid (S13.out.gr hv15)
  clear S13
  clear hv15
  refine ⟨rfl,hK _ _ ?_⟩
  clear hK
  go_wp2_with fail
  (try simp only [Exit.inBlock,Exit.then])
  refine bodyPost_ret (results_cell_mid rfl _ _ _ g4 0 [x, y, z] _ rfl (S16.out.range 0 rfl 0 3 rfl) Tryd.underlying23 rfl (by kernel_rfl)) rfl ?_
  refine ⟨?_,S16.out.bel⟩
  show Ending.returned (.agg #[x, y, z]) = _
  (first | rfl | (rfl))
set_option maxRecDepth 1000000 in
set_option maxHeartbeats 4000000 in
theorem lbox_any (a1 a2 a3 a4 a5 a6 : Int) (w : World) :
    Calls Tryd.prog 40 #[.agg #[a1, a2, a3], .agg #[a4, a5, a6]] w fun e w'=>e = .returned (.agg #[a1, a2, a3, a4, a5, a6]) ∧ Below w.heap.size w w':=by
  have S1 : Hid (St w noB [] w):=Lib.hid (St.start w)
  go_enter Tryd.func40,Tryd.ntmps40
  go_upto_region 0 with fail
  refine wpG_region_k (fun K hK=>?_)
  refine wpG_val (some 2) rfl (by rfl) (fun W2 hg3=>⟨.pointer (some ⟨W2.heap.size,0,none⟩),W2.alloc (.cells #[a1, a2, a3] 23),by (first | (go_simp;done) | (go_simp <;> rfl)), ?_⟩)
  simp only [n1,n3,n4]
  obtain ⟨g4,U5,hg_,hu_,hS_⟩:=(S1.out.gr hg3).made [a1, a2, a3] 23
  rw [← hu_,← hg_]
  have S6 : Hid (St w noB [blk g4 23 [a1, a2, a3]] U5):=Lib.hid hS_
  clear S1
  clear hg_ hu_ hS_ hg3
  refine wpG_val (some 3) rfl (by rfl) (fun W7 hg8=>⟨.pointer (some ⟨W7.heap.size,0,none⟩),W7.alloc (.cells #[a4, a5, a6] 23),by (first | (go_simp;done) | (go_simp <;> rfl)), ?_⟩)
  simp only [n1,n3,n4]
  obtain ⟨g9,U10,hg_,hu_,hS_⟩:=(S6.out.gr hg8).made [a4, a5, a6] 23
  rw [← hu_,← hg_]
  have S11 : Hid (St w noB [blk g9 23 [a4, a5, a6],blk g4 23 [a1, a2, a3]] U10):=Lib.hid hS_
  clear S6
  clear hg_ hu_ hS_ hg8
  refine wpG_val (some 4) rfl (by rfl) (fun W12 hg13=>⟨.pointer (some ⟨W12.heap.size,0,none⟩),W12.alloc (.cells #[(), (), (), (), (), ()] 25),by (first | (go_simp;done) | (go_simp <;> rfl)), ?_⟩)
  simp only [n1,n3,n4]
  obtain ⟨g14,U15,hg_,hu_,hS_⟩:=(S11.out.gr hg13).made [(), (), (), (), (), ()] 25
  rw [← hu_,← hg_]
  have S16 : Hid (St w noB [blk g14 25 [(), (), (), (), (), ()],blk g9 23 [a4, a5, a6],blk g4 23 [a1, a2, a3]] U15):=Lib.hid hS_
  clear S11
  clear hg_ hu_ hS_ hg13
  refine wpG_done (fun V17 hv18=>?_)
  have S19 : Hid (St w noB [blk g14 25 [(), (), (), (), (), ()],blk g9 23 [a4, a5, a6],blk g4 23 [a1, a2, a3]] V17):=Lib.hid (S16.out.gr hv18)
  clear S16
  clear hv18
  refine ⟨rfl,hK _ _ ?_⟩
  clear hK
  go_upto_region 1 with fail
  refine wpG_region_k (fun K hK=>?_)
  refine @wpG_tk _ _ _ _ _ (some 5) (.agg #[a1, a2, a3]) _ _ rfl (.load_mid (by rfl) 23 (.tmp 2) rfl g4 0 rfl [a1, a2, a3] _ (fun W hg=>(S19.out.gr hg).range 2 rfl 0 3 rfl) Tryd.underlying23 rfl (by kernel_rfl)) ?_
  simp only [n1,n3,n4]
  refine @wpG_tk _ _ _ _ _ (some 6) (.agg #[a4, a5, a6]) _ _ rfl (.load_mid (by rfl) 23 (.tmp 3) rfl g9 0 rfl [a4, a5, a6] _ (fun W hg=>(S19.out.gr hg).range 1 rfl 0 3 rfl) Tryd.underlying23 rfl (by kernel_rfl)) ?_
  simp only [n1,n3,n4]
  refine @wpG_p _ _ _ _ _ (some 7) (.agg #[a1, a2, a3, a4, a5, a6]) _ _ rfl (by rfl) (fun W=>by go_simp) ?_
  simp only [n1,n3,n4]
  refine wpG_store (none) rfl (by rfl) (fun W20 hg21=>⟨_,run_store_mid 25 (.tmp 4) (.tmp 7) rfl g14 0 #[a1, a2, a3, a4, a5, a6] rfl rfl ((S19.out.gr hg21).room 0 rfl 0 6 (by simp)) (by kernel_rfl) (by kernel_rfl), ?_⟩)
  simp only [n2]
  obtain ⟨U22,hu_,hS_⟩:=((S19.out.gr hg21).put 0 rfl 0 (#[a1, a2, a3, a4, a5, a6] : Array Value).toList (ds:=[a1, a2, a3, a4, a5, a6]) rfl).named
  rw [← hu_]
  have S23 : Hid (St w noB [blk g14 25 [a1, a2, a3, a4, a5, a6],blk g9 23 [a4, a5, a6],blk g4 23 [a1, a2, a3]] U22):=Lib.hid hS_
  clear S19
  clear hu_ hS_ hg21
  refine wpG_done (fun V24 hv25=>?_)
  have S26 : Hid (St w noB [blk g14 25 [a1, a2, a3, a4, a5, a6],blk g9 23 [a4, a5, a6],blk g4 23 [a1, a2, a3]] V24):=Lib.hid (S23.out.gr hv25)
  clear S23
  clear hv25
  refine ⟨rfl,hK _ _ ?_⟩
  clear hK
  go_wp2_with fail
  (try simp only [Exit.inBlock,Exit.then])
  refine bodyPost_ret (results_cell_mid rfl _ _ _ g14 0 [a1, a2, a3, a4, a5, a6] _ rfl (S26.out.range 0 rfl 0 6 rfl) Tryd.underlying25 rfl (by kernel_rfl)) rfl ?_
  refine ⟨?_,S26.out.bel⟩
  show Ending.returned (.agg #[a1, a2, a3, a4, a5, a6]) = _
  (first | rfl | (rfl))

end Go.Proofs.YtjdeaopdbenamaaDoor
