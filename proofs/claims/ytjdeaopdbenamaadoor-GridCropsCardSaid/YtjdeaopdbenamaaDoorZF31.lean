/-
  Contracts of the specification: grids cropped and shifted; differences.
-/
import Derived.Test.YtjdeaopdbenamaaDoorZF00
import Derived.Test.YtjdeaopdbenamaaDoorZF29
import Derived.Test.YtjdeaopdbenamaaDoorZF24
import Derived.Handy
namespace Go.Proofs.YtjdeaopdbenamaaDoor
open Go Go.RowKit
set_option linter.unusedVariables false
set_option linter.unusedSimpArgs false
set_option maxRecDepth 1000000 in
set_option maxHeartbeats 4000000 in
theorem rsamech_any (D : Option Addr) (nd cd : Nat) (cs : List Gm.Ch) (E : Option Addr) (ne ce : Nat) (ds : List Gm.Ch) (w : World) (hC : SL w 5 D nd cd (ccs cs)) (hD : SL w 5 E ne ce (ccs ds)) :
    Calls Tryd.prog 45 #[.slice D nd cd, .slice E ne ce] w fun e w'=>e = .returned (.bool (decide (cs = ds))) ∧ Below w.heap.size w w':=by
  have HCT:=Lib.hid hC
  have HCL : Hid (cs.length = nd):=Lib.hid (by have h_:=hC.len;rw [ccs_len] at h_;omega)
  have hnbHCT : nd ≤ 9223372036854775807:=Nat.le_trans hC.cap hC.bnd
  clear hC
  have HDT:=Lib.hid hD
  have HDL : Hid (ds.length = ne):=Lib.hid (by have h_:=hD.len;rw [ccs_len] at h_;omega)
  have hnbHDT : ne ≤ 9223372036854775807:=Nat.le_trans hD.cap hD.bnd
  clear hD
  have S1 : Hid (St w noB [] w):=Lib.hid (St.start w)
  go_enter Tryd.func45,Tryd.ntmps45
  go_upto_region 0 with fail
  refine wpG_region_k (fun K hK=>?_)
  refine @wpG_p _ _ _ _ _ (some 4) (.bool false) _ _ rfl (by rfl) (fun _=>rfl) ?_
  simp only [n1,n3,n4]
  refine wpG_done (fun V2 hv3=>?_)
  have S4 : Hid (St w noB [] V2):=Lib.hid (S1.out.gr hv3)
  clear S1
  clear hv3
  refine ⟨rfl,hK _ _ ?_⟩
  clear hK
  go_upto_region 1 with fail
  refine wpG_region_k (fun K hK=>?_)
  refine @wpG_p _ _ _ _ _ (some 6) (.slice D nd cd) _ _ rfl (by rfl) (fun _=>rfl) ?_
  simp only [n1,n3,n4]
  refine @wpG_p _ _ _ _ _ (some 7) (nd : Int) _ _ rfl (by rfl) (fun W=>by go_simp) ?_
  simp only [n1,n3,n4]
  refine @wpG_p _ _ _ _ _ (some 8) (.slice E ne ce) _ _ rfl (by rfl) (fun _=>rfl) ?_
  simp only [n1,n3,n4]
  refine @wpG_p _ _ _ _ _ (some 9) (ne : Int) _ _ rfl (by rfl) (fun W=>by go_simp) ?_
  simp only [n1,n3,n4]
  refine @wpG_p _ _ _ _ _ (some 10) (.bool (decide ((nd : Int) ≠ (ne : Int)))) _ _ rfl (by rfl) (fun W=>op_int_neq W (nd : Int) (ne : Int) rfl rfl rfl Tryd.underlying3) ?_
  simp only [n1,n3,n4]
  refine wpG_done (fun V5 hv6=>?_)
  have S7 : Hid (St w noB [] V5):=Lib.hid (S4.out.gr hv6)
  clear S4
  clear hv6
  refine ⟨rfl,hK _ _ ?_⟩
  clear hK
  obtain ⟨c8,hc8⟩ : ∃ q_,q_ = (decide ((nd : Int) ≠ (ne : Int))):=⟨_,rfl⟩
  rw [← hc8]
  have Hc8:=Lib.hid hc8
  clear hc8
  cases c8 with
  | true =>
    have f9:=of_decide_eq_true Hc8.out.symm
    go_upto_region 2 with fail
    refine wpG_region_k (fun K hK=>?_)
    refine @wpG_p _ _ _ _ _ (some 4) (.bool false) _ _ rfl (by rfl) (fun _=>rfl) ?_
    simp only [n1,n3,n4]
    refine wpG_done (fun V10 hv11=>?_)
    have S12 : Hid (St w noB [] V10):=Lib.hid (S7.out.gr hv11)
    clear S7
    clear hv11
    refine ⟨rfl,hK _ _ ?_⟩
    clear hK
    go_wp2_with fail
    go_ret
    refine ⟨?_,S12.out.bel⟩
    show Ending.returned (.bool false) = _
    (first | rfl | (have hl1_:=HCL.out;have hl2_:=HDL.out;exact rb_f (decide_eq_false (fun he=>by rw [he] at hl1_;omega))))
  | false =>
    have f13:=Lib.hid (Decidable.not_not.1 (of_decide_eq_false Hc8.out.symm))
    have f13a:=Int.le_of_eq f13.out
    have f13b:=Int.le_of_eq f13.out.symm
    go_upto_region 3 with fail
    refine wpG_region_k (fun K hK=>?_)
    refine @wpG_p _ _ _ _ _ (some 5) () _ _ rfl (by rfl) (fun _=>rfl) ?_
    simp only [n1,n3,n4]
    refine wpG_done (fun V14 hv15=>?_)
    have S16 : Hid (St w noB [] V14):=Lib.hid (S7.out.gr hv15)
    clear S7
    clear hv15
    refine ⟨rfl,hK _ _ ?_⟩
    clear hK
    go_wp2_with fail
    go_loopw [5] (fun v5 wr=>∃ (k : Nat),v5 = .int .i64 (k : Int) ∧ k ≤ Ff.ff (Gm.eqc cs ds) cs.length ∧ k ≤ nd ∧ St w noB [] wr) (fun i _=>nd - (intOf i).toNat)
    case atStart=>exact ⟨0,rfl,Nat.zero_le _,Nat.zero_le _,S16.out⟩
    case round =>
      obtain ⟨k,rfl,hk_,hkn,hS⟩:=hrel
      have HK_:=Lib.hid hk_
      clear hk_
      have SL:=Lib.hid hS
      clear S16 hS
      have S17:=SL
      clear SL
      go_upto_region 4 with fail
      refine wpG_region_k (fun K hK=>?_)
      refine @wpG_p _ _ _ _ _ (some 11) (k : Int) _ _ rfl (by rfl) (fun _=>rfl) ?_
      simp only [n1,n3,n4]
      refine @wpG_p _ _ _ _ _ (some 12) (.slice D nd cd) _ _ rfl (by rfl) (fun _=>rfl) ?_
      simp only [n1,n3,n4]
      refine @wpG_p _ _ _ _ _ (some 13) (nd : Int) _ _ rfl (by rfl) (fun W=>by go_simp) ?_
      simp only [n1,n3,n4]
      refine @wpG_p _ _ _ _ _ (some 14) (.bool (decide ((k : Int) < (nd : Int)))) _ _ rfl (by rfl) (fun W=>op_int_lss W (k : Int) (nd : Int) rfl rfl rfl Tryd.underlying3) ?_
      simp only [n1,n3,n4]
      refine wpG_done (fun V18 hv19=>?_)
      have S20 : Hid (St w noB [] V18):=Lib.hid (S17.out.gr hv19)
      clear S17
      clear hv19
      refine ⟨rfl,hK _ _ ?_⟩
      clear hK
      obtain ⟨c21,hc21⟩ : ∃ q_,q_ = (decide ((k : Int) < (nd : Int))):=⟨_,rfl⟩
      rw [← hc21]
      have Hc21:=Lib.hid hc21
      clear hc21
      cases c21 with
      | true =>
        have f22:=of_decide_eq_true Hc21.out.symm
        go_upto_region 6 with fail
        refine wpK_region_k (by kernel_rfl) (fun K hK=>?_)
        refine wpK_ta (i:=0) (some 17) (v:=.slice D nd cd) rfl rfl (by kernel_rfl) (fun _ _ _ h=>onN_panic h) (Or.inl ⟨rfl,fun _=>rfl⟩) ?_
        simp only [n1,n3,n4]
        refine wpK_ta (i:=1) (some 18) (v:=(k : Int)) rfl rfl (by kernel_rfl) (fun _ _ _ h=>onN_panic h) (Or.inl ⟨rfl,fun _=>rfl⟩) ?_
        simp only [n1,n3,n4]
        obtain ⟨b23,o23,rfl⟩:=HCT.out.addr (by decide) (by omega)
        refine wpK_ta (i:=2) (some 19) (v:=.pointer (some ⟨b23,o23 + k * 5,none⟩)) rfl rfl (by kernel_rfl) (fun _ _ _ h=>onN_panic h) (Or.inl ⟨by rfl,fun W=>by (go_simp <;> first | rfl | omega | (simp;omega))⟩) ?_
        simp only [n1,n3,n4]
        refine wpK_ta (i:=4) (some 21) (v:=.slice E ne ce) rfl rfl (by kernel_rfl) (fun _ _ _ h=>onN_panic h) (Or.inl ⟨rfl,fun _=>rfl⟩) ?_
        simp only [n1,n3,n4]
        refine wpK_ta (i:=5) (some 22) (v:=(k : Int)) rfl rfl (by kernel_rfl) (fun _ _ _ h=>onN_panic h) (Or.inl ⟨rfl,fun _=>rfl⟩) ?_
        simp only [n1,n3,n4]
        obtain ⟨b24,o24,rfl⟩:=HDT.out.addr (by decide) (by omega)
        refine wpK_ta (i:=6) (some 23) (v:=.pointer (some ⟨b24,o24 + k * 5,none⟩)) rfl rfl (by kernel_rfl) (fun _ _ _ h=>onN_panic h) (Or.inl ⟨by rfl,fun W=>by (go_simp <;> first | rfl | omega | (simp;omega))⟩) ?_
        simp only [n1,n3,n4]
        refine wpK_tk (i:=3) (some 20) (v:=.agg #[((Gm.cat cs k).x:Int), ((Gm.cat cs k).y:Int), ((Gm.cat cs k).z:Int), ((Gm.cat cs k).o:Int), ((Gm.cat cs k).n:Int)]) rfl rfl (by kernel_rfl) (fun _ _ _ h=>onN_panic h) (.load_mid (by rfl) 74 (.tmp 19) rfl b23 (o23 + k * 5) rfl [((Gm.cat cs k).x:Int), ((Gm.cat cs k).y:Int), ((Gm.cat cs k).z:Int), ((Gm.cat cs k).o:Int), ((Gm.cat cs k).n:Int)] _ (fun W hg=>((HCT.out.gr ((S20.out.gr (Gr.un hg))).bel).chg (l:=cs) k (by (have:=HCL.out;have:=HDL.out;omega)))) Tryd.underlying74 rfl (by kernel_rfl)) ?_
        simp only [n1,n3,n4]
        refine wpK_tk (i:=7) (some 24) (v:=.agg #[((Gm.cat ds k).x:Int), ((Gm.cat ds k).y:Int), ((Gm.cat ds k).z:Int), ((Gm.cat ds k).o:Int), ((Gm.cat ds k).n:Int)]) rfl rfl (by kernel_rfl) (fun _ _ _ h=>onN_panic h) (.load_mid (by rfl) 74 (.tmp 23) rfl b24 (o24 + k * 5) rfl [((Gm.cat ds k).x:Int), ((Gm.cat ds k).y:Int), ((Gm.cat ds k).z:Int), ((Gm.cat ds k).o:Int), ((Gm.cat ds k).n:Int)] _ (fun W hg=>((HDT.out.gr ((S20.out.gr (Gr.un hg))).bel).chg (l:=ds) k (by (have:=HCL.out;have:=HDL.out;omega)))) Tryd.underlying74 rfl (by kernel_rfl)) ?_
        simp only [n1,n3,n4]
        refine wpK_ta (i:=8) (some 25) (v:=.bool (decide (¬ (((Gm.cat cs k).x) = ((Gm.cat ds k).x) ∧ ((Gm.cat cs k).y) = ((Gm.cat ds k).y) ∧ ((Gm.cat cs k).z) = ((Gm.cat ds k).z) ∧ ((Gm.cat cs k).o) = ((Gm.cat ds k).o) ∧ ((Gm.cat cs k).n) = ((Gm.cat ds k).n))))) rfl rfl (by kernel_rfl) (fun _ _ _ h=>onN_panic h) (Or.inl ⟨by rfl,fun W=>by exact op_ch_neq W ((Gm.cat cs k).x) ((Gm.cat cs k).y) ((Gm.cat cs k).z) ((Gm.cat cs k).o) ((Gm.cat cs k).n) ((Gm.cat ds k).x) ((Gm.cat ds k).y) ((Gm.cat ds k).z) ((Gm.cat ds k).o) ((Gm.cat ds k).n) rfl rfl rfl⟩) ?_
        simp only [n1,n3,n4]
        refine wpK_done (by kernel_rfl) (fun V25 hv26=>?_) _
        have S27 : Hid (St w noB [] V25):=Lib.hid (S20.out.gr (Gr.un hv26))
        clear S20
        clear hv26
        refine ⟨rfl,hK _ _ ?_⟩
        clear hK
        obtain ⟨c28,hc28⟩ : ∃ q_,q_ = (decide (¬ (((Gm.cat cs k).x) = ((Gm.cat ds k).x) ∧ ((Gm.cat cs k).y) = ((Gm.cat ds k).y) ∧ ((Gm.cat cs k).z) = ((Gm.cat ds k).z) ∧ ((Gm.cat cs k).o) = ((Gm.cat ds k).o) ∧ ((Gm.cat cs k).n) = ((Gm.cat ds k).n)))):=⟨_,rfl⟩
        rw [← hc28]
        have Hc28:=Lib.hid hc28
        clear hc28
        cases c28 with
        | true =>
          have f29:=Lib.hid (of_decide_eq_true Hc28.out.symm)
          go_upto_region 7 with fail
          refine wpG_region_k (fun K hK=>?_)
          refine @wpG_p _ _ _ _ _ (some 4) (.bool false) _ _ rfl (by rfl) (fun _=>rfl) ?_
          simp only [n1,n3,n4]
          refine wpG_done (fun V30 hv31=>?_)
          have S32 : Hid (St w noB [] V30):=Lib.hid (S27.out.gr hv31)
          clear S27
          clear hv31
          refine ⟨rfl,hK _ _ ?_⟩
          clear hK
          go_wp2_with fail
          go_ret
          refine ⟨?_,S32.out.bel⟩
          show Ending.returned (.bool false) = _
          (first | rfl | (have e_f13:=f13.out;have e_f29:=f29.out;exact rb_f (decide_eq_false (fun he=>e_f29 (Gm.ch_eq.1 (by rw [he]))))))
        | false =>
          have f33:=of_decide_eq_false Hc28.out.symm
          go_upto_region 5 with fail
          refine wpG_region_k (fun K hK=>?_)
          refine @wpG_p _ _ _ _ _ (some 15) (k : Int) _ _ rfl (by rfl) (fun _=>rfl) ?_
          simp only [n1,n3,n4]
          refine @wpG_p _ _ _ _ _ (some 16) ((k : Int) + 1:Int) _ _ rfl (by rfl) (fun W=>op_i_add W (k : Int) 1 (by omega) rfl rfl rfl Tryd.underlying3) ?_
          simp only [n1,n3,n4]
          refine @wpG_p _ _ _ _ _ (some 5) ((k : Int) + 1:Int) _ _ rfl (by rfl) (fun _=>rfl) ?_
          simp only [n1,n3,n4]
          refine wpG_done (fun V34 hv35=>?_)
          have S36 : Hid (St w noB [] V34):=Lib.hid (S27.out.gr hv35)
          clear S27
          clear hv35
          refine ⟨rfl,hK _ _ ?_⟩
          clear hK
          go_wp2_with fail
          go_roundw
          case rel=>exact ⟨k + 1,(by first | rfl | go_num),(by have e_f13:=f13.out;exact Ff.ff_step HK_.out (by have:=HCL.out;omega) (decide_eq_true (Gm.ch_eq.2 (by first | exact f33 | exact Decidable.not_not.1 f33)))),(by omega),S36.out⟩
          case measure=>first | (simp only [intOf];omega) | (simp [intOf];done) | (simp [intOf];omega) | omega
      | false =>
        have f37:=of_decide_eq_false Hc21.out.symm
        go_upto_region 8 with fail
        refine wpG_region_k (fun K hK=>?_)
        refine @wpG_p _ _ _ _ _ (some 4) (.bool true) _ _ rfl (by rfl) (fun _=>rfl) ?_
        simp only [n1,n3,n4]
        refine wpG_done (fun V38 hv39=>?_)
        have S40 : Hid (St w noB [] V38):=Lib.hid (S20.out.gr hv39)
        clear S20
        clear hv39
        refine ⟨rfl,hK _ _ ?_⟩
        clear hK
        go_wp2_with fail
        go_ret
        refine ⟨?_,S40.out.bel⟩
        show Ending.returned (.bool true) = _
        (first | rfl | (have e_f13:=f13.out;have hl1_:=HCL.out;have hl2_:=HDL.out;exact rb_t (decide_eq_true (Gm.samech_yes (by omega) (by have h_:=HK_.out;have e_ : k = cs.length:=(by omega);rw [e_] at h_;exact h_)))))

end Go.Proofs.YtjdeaopdbenamaaDoor
