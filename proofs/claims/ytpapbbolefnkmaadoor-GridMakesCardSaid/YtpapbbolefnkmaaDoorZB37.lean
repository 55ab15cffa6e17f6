/-
  The cells of a box, one after another.
-/
import Derived.Test.YtpapbbolefnkmaaDoorZB00
import Derived.Test.YtpapbbolefnkmaaDoorZB36
import Derived.Handy
namespace Go.Proofs.YtpapbbolefnkmaaDoor
open Go Go.RowKit
set_option linter.unusedVariables false
set_option linter.unusedSimpArgs false
set_option maxRecDepth 1000000 in
set_option maxHeartbeats 4000000 in
theorem places1_seq (bb : Nat) (B : Gm.Bx) (w : World) (hrow0 : Row bb [B.a, B.b, B.c, B.d, B.e, B.f] w) (hfit : Gm.fits B) : Seq Tryd.prog 87 #[.pointer (some ⟨bb,0,none⟩)] (fun k=>#[.agg #[(B.ax k:Int), (B.ay k:Int), (B.az k:Int)]]) B.vol.toNat (fun _ k=>k = bb) w:=by
  intro l J Jx W0 hg0 hJ hJx hY h0
  have HFIT:=Lib.hid hfit
  have HR0:=Lib.hid (hrow0.below hg0)
  have HJ0:=Lib.hid h0
  have HOJ:=Lib.hid hJ
  have HOJX:=Lib.hid hJx
  have hbd_:=hfit.1
  unfold Gm.Bx.rg Gm.rp at hbd_
  obtain ⟨⟨hb1_,hb2_,hb3_⟩,hb4_,hb5_,hb6_⟩:=hbd_
  clear hfit hrow0 h0 hJ hJx
  have S1 : Hid (St W0 noB [] W0):=Lib.hid (St.start W0)
  go_enter Tryd.func87,Tryd.ntmps87
  go_upto_region 0 with fail
  refine wpG_region_k (fun K hK=>?_)
  refine @wpG_tk _ _ _ _ _ (some 6) (.agg #[B.a, B.b, B.c, B.d, B.e, B.f]) _ _ rfl (.load_mid (by rfl) 25 (.tmp 1) rfl bb 0 rfl [B.a, B.b, B.c, B.d, B.e, B.f] _ (fun W hg=>(HR0.out.below (S1.out.gr hg).bel).range) Tryd.underlying25 rfl (by kernel_rfl)) ?_
  simp only [n1,n3,n4]
  refine @wpG_tk _ _ _ _ _ (some 7) (.bool true) _ _ rfl (.call (f:=46) (args:=#[.agg #[B.a, B.b, B.c, B.d, B.e, B.f]]) (by rfl) (fun W=>by go_simp) (fun W hg=>((fits_any B W).mono (fun e w' h=>⟨h.1.trans (by rw [decide_eq_true HFIT.out]),h.2⟩)))) ?_
  simp only [n1,n3,n4]
  refine @wpG_p _ _ _ _ _ (some 8) (.bool false) _ _ rfl (by rfl) (fun W=>by first | (go_simp;done) | (cases true <;> rfl)) ?_
  simp only [n1,n3,n4]
  refine wpG_done (fun V2 hv3=>?_)
  have S4 : Hid (St W0 noB [] V2):=Lib.hid (S1.out.gr hv3)
  clear S1
  clear hv3
  refine ⟨rfl,hK _ _ ?_⟩
  clear hK
  go_upto_region 1 with fail
  refine wpG_region_k (fun K hK=>?_)
  refine @wpG_p _ _ _ _ _ (some 9) (.pointer (some ⟨bb,0,none⟩)) _ _ rfl (by rfl) (fun W=>by go_simp) ?_
  simp only [n1,n3,n4]
  refine @wpG_p _ _ _ _ _ (some 10) (.pointer (some ⟨bb,2,none⟩)) _ _ rfl (by rfl) (fun W=>by go_simp) ?_
  simp only [n1,n3,n4]
  refine @wpG_r _ _ _ _ _ (some 11) B.c _ _ rfl (by rfl) (fun W hg=>by have c:=((HR0.out.below (S4.out.gr hg).bel).range) 2 _ rfl;(try simp only [Nat.add_zero,Nat.zero_add] at c);go_simp) ?_
  simp only [n1,n3,n4]
  refine @wpG_p _ _ _ _ _ (some 3) B.c _ _ rfl (by rfl) (fun _=>rfl) ?_
  simp only [n1,n3,n4]
  refine wpG_done (fun V5 hv6=>?_)
  have S7 : Hid (St W0 noB [] V5):=Lib.hid (S4.out.gr hv6)
  clear S4
  clear hv6
  refine ⟨rfl,hK _ _ ?_⟩
  clear hK
  go_wp2_with fail
  go_loopw [3] (fun v_ wr=>∃ z : Int,v_ = .int .i64 z ∧ (B.c ≤ z ∧ (z ≤ B.f ∨ z = B.c)) ∧ Row bb [B.a, B.b, B.c, B.d, B.e, B.f] wr ∧ J (B.cn B.a B.b z) wr) (fun i _=>(B.f - intOf i).toNat)
  case atStart=>exact ⟨B.c,rfl,(by omega),(HR0.out.below S7.out.bel),(by have h_:=(OwnFrom.gr HOJ.out HJ0.out S7.out.bel);rw [← Gm.cn_0 (B:=B)] at h_;exact h_)⟩
  case round =>
    obtain ⟨z,rfl,hz,hrow_,hj_⟩:=hrel
    have HR1:=Lib.hid hrow_
    have HJ1:=Lib.hid hj_
    clear hrow_ hj_
    have S8 : Hid (St wr noB [] wr):=Lib.hid (St.start wr)
    go_upto_region 2 with fail
    refine wpG_region_k (fun K hK=>?_)
    refine @wpG_p _ _ _ _ _ (some 12) z _ _ rfl (by rfl) (fun _=>rfl) ?_
    simp only [n1,n3,n4]
    refine @wpG_p _ _ _ _ _ (some 13) (.pointer (some ⟨bb,3,none⟩)) _ _ rfl (by rfl) (fun W=>by go_simp) ?_
    simp only [n1,n3,n4]
    refine @wpG_p _ _ _ _ _ (some 14) (.pointer (some ⟨bb,5,none⟩)) _ _ rfl (by rfl) (fun W=>by go_simp) ?_
    simp only [n1,n3,n4]
    refine @wpG_r _ _ _ _ _ (some 15) B.f _ _ rfl (by rfl) (fun W hg=>by have c:=((HR1.out.below (S8.out.gr hg).bel).range) 5 _ rfl;(try simp only [Nat.add_zero,Nat.zero_add] at c);go_simp) ?_
    simp only [n1,n3,n4]
    refine @wpG_p _ _ _ _ _ (some 16) (.bool (decide (z < B.f))) _ _ rfl (by rfl) (fun W=>op_int_lss W z B.f rfl rfl rfl Tryd.underlying3) ?_
    simp only [n1,n3,n4]
    refine wpG_done (fun V9 hv10=>?_)
    have S11 : Hid (St wr noB [] V9):=Lib.hid (S8.out.gr hv10)
    clear S8
    clear hv10
    refine ⟨rfl,hK _ _ ?_⟩
    clear hK
    obtain ⟨c12,hc12⟩ : ∃ q_,q_ = (decide (z < B.f)):=⟨_,rfl⟩
    rw [← hc12]
    have Hc12:=Lib.hid hc12
    clear hc12
    cases c12 with
    | true =>
      have f13:=of_decide_eq_true Hc12.out.symm
      go_upto_region 4 with fail
      refine wpG_region_k (fun K hK=>?_)
      refine @wpG_p _ _ _ _ _ (some 19) (.pointer (some ⟨bb,0,none⟩)) _ _ rfl (by rfl) (fun W=>by go_simp) ?_
      simp only [n1,n3,n4]
      refine @wpG_p _ _ _ _ _ (some 20) (.pointer (some ⟨bb,1,none⟩)) _ _ rfl (by rfl) (fun W=>by go_simp) ?_
      simp only [n1,n3,n4]
      refine @wpG_r _ _ _ _ _ (some 21) B.b _ _ rfl (by rfl) (fun W hg=>by have c:=((HR1.out.below (S11.out.gr hg).bel).range) 1 _ rfl;(try simp only [Nat.add_zero,Nat.zero_add] at c);go_simp) ?_
      simp only [n1,n3,n4]
      refine @wpG_p _ _ _ _ _ (some 4) B.b _ _ rfl (by rfl) (fun _=>rfl) ?_
      simp only [n1,n3,n4]
      refine wpG_done (fun V14 hv15=>?_)
      have S16 : Hid (St wr noB [] V14):=Lib.hid (S11.out.gr hv15)
      clear S11
      clear hv15
      refine ⟨rfl,hK _ _ ?_⟩
      clear hK
      go_wp2_with fail
      go_loopw [4] (fun v_ wr=>∃ y : Int,v_ = .int .i64 y ∧ (B.b ≤ y ∧ (y ≤ B.e ∨ y = B.b)) ∧ Row bb [B.a, B.b, B.c, B.d, B.e, B.f] wr ∧ J (B.cn B.a y z) wr) (fun i _=>(B.e - intOf i).toNat)
      case atStart=>exact ⟨B.b,rfl,(by omega),(HR1.out.below S16.out.bel),(OwnFrom.gr HOJ.out HJ1.out S16.out.bel)⟩
      case round =>
        obtain ⟨y,rfl,hy,hrow_,hj_⟩:=hrel
        have HR2:=Lib.hid hrow_
        have HJ2:=Lib.hid hj_
        clear hrow_ hj_
        have S17 : Hid (St wr noB [] wr):=Lib.hid (St.start wr)
        go_upto_region 5 with fail
        refine wpG_region_k (fun K hK=>?_)
        refine @wpG_p _ _ _ _ _ (some 22) y _ _ rfl (by rfl) (fun _=>rfl) ?_
        simp only [n1,n3,n4]
        refine @wpG_p _ _ _ _ _ (some 23) (.pointer (some ⟨bb,3,none⟩)) _ _ rfl (by rfl) (fun W=>by go_simp) ?_
        simp only [n1,n3,n4]
        refine @wpG_p _ _ _ _ _ (some 24) (.pointer (some ⟨bb,4,none⟩)) _ _ rfl (by rfl) (fun W=>by go_simp) ?_
        simp only [n1,n3,n4]
        refine @wpG_r _ _ _ _ _ (some 25) B.e _ _ rfl (by rfl) (fun W hg=>by have c:=((HR2.out.below (S17.out.gr hg).bel).range) 4 _ rfl;(try simp only [Nat.add_zero,Nat.zero_add] at c);go_simp) ?_
        simp only [n1,n3,n4]
        refine @wpG_p _ _ _ _ _ (some 26) (.bool (decide (y < B.e))) _ _ rfl (by rfl) (fun W=>op_int_lss W y B.e rfl rfl rfl Tryd.underlying3) ?_
        simp only [n1,n3,n4]
        refine wpG_done (fun V18 hv19=>?_)
        have S20 : Hid (St wr noB [] V18):=Lib.hid (S17.out.gr hv19)
        clear S17
        clear hv19
        refine ⟨rfl,hK _ _ ?_⟩
        clear hK
        obtain ⟨c21,hc21⟩ : ∃ q_,q_ = (decide (y < B.e)):=⟨_,rfl⟩
        rw [← hc21]
        have Hc21:=Lib.hid hc21
        clear hc21
        cases c21 with
        | true =>
          have f22:=of_decide_eq_true Hc21.out.symm
          go_upto_region 7 with fail
          refine wpG_region_k (fun K hK=>?_)
          refine @wpG_p _ _ _ _ _ (some 29) (.pointer (some ⟨bb,0,none⟩)) _ _ rfl (by rfl) (fun W=>by go_simp) ?_
          simp only [n1,n3,n4]
          refine @wpG_p _ _ _ _ _ (some 30) (.pointer (some ⟨bb,0,none⟩)) _ _ rfl (by rfl) (fun W=>by go_simp) ?_
          simp only [n1,n3,n4]
          refine @wpG_r _ _ _ _ _ (some 31) B.a _ _ rfl (by rfl) (fun W hg=>by have c:=((HR2.out.below (S20.out.gr hg).bel).range) 0 _ rfl;(try simp only [Nat.add_zero,Nat.zero_add] at c);go_simp) ?_
          simp only [n1,n3,n4]
          refine @wpG_p _ _ _ _ _ (some 5) B.a _ _ rfl (by rfl) (fun _=>rfl) ?_
          simp only [n1,n3,n4]
          refine wpG_done (fun V23 hv24=>?_)
          have S25 : Hid (St wr noB [] V23):=Lib.hid (S20.out.gr hv24)
          clear S20
          clear hv24
          refine ⟨rfl,hK _ _ ?_⟩
          clear hK
          go_wp2_with fail
          go_loopw [5] (fun v_ wr=>∃ x : Int,v_ = .int .i64 x ∧ (B.a ≤ x ∧ (x ≤ B.d ∨ x = B.a)) ∧ Row bb [B.a, B.b, B.c, B.d, B.e, B.f] wr ∧ J (B.cn x y z) wr) (fun i _=>(B.d - intOf i).toNat)
          case atStart=>exact ⟨B.a,rfl,(by omega),(HR2.out.below S25.out.bel),(OwnFrom.gr HOJ.out HJ2.out S25.out.bel)⟩
          case round =>
            obtain ⟨x,rfl,hx,hrow_,hj_⟩:=hrel
            have HR3:=Lib.hid hrow_
            have HJ3:=Lib.hid hj_
            clear hrow_ hj_
            have S26 : Hid (St wr noB [] wr):=Lib.hid (St.start wr)
            go_upto_region 8 with fail
            refine wpG_region_k (fun K hK=>?_)
            refine @wpG_p _ _ _ _ _ (some 32) x _ _ rfl (by rfl) (fun _=>rfl) ?_
            simp only [n1,n3,n4]
            refine @wpG_p _ _ _ _ _ (some 33) (.pointer (some ⟨bb,3,none⟩)) _ _ rfl (by rfl) (fun W=>by go_simp) ?_
            simp only [n1,n3,n4]
            refine @wpG_p _ _ _ _ _ (some 34) (.pointer (some ⟨bb,3,none⟩)) _ _ rfl (by rfl) (fun W=>by go_simp) ?_
            simp only [n1,n3,n4]
            refine @wpG_r _ _ _ _ _ (some 35) B.d _ _ rfl (by rfl) (fun W hg=>by have c:=((HR3.out.below (S26.out.gr hg).bel).range) 3 _ rfl;(try simp only [Nat.add_zero,Nat.zero_add] at c);go_simp) ?_
            simp only [n1,n3,n4]
            refine @wpG_p _ _ _ _ _ (some 36) (.bool (decide (x < B.d))) _ _ rfl (by rfl) (fun W=>op_int_lss W x B.d rfl rfl rfl Tryd.underlying3) ?_
            simp only [n1,n3,n4]
            refine wpG_done (fun V27 hv28=>?_)
            have S29 : Hid (St wr noB [] V27):=Lib.hid (S26.out.gr hv28)
            clear S26
            clear hv28
            refine ⟨rfl,hK _ _ ?_⟩
            clear hK
            obtain ⟨c30,hc30⟩ : ∃ q_,q_ = (decide (x < B.d)):=⟨_,rfl⟩
            rw [← hc30]
            have Hc30:=Lib.hid hc30
            clear hc30
            cases c30 with
            | true =>
              have f31:=of_decide_eq_true Hc30.out.symm
              go_upto_region 10 with fail
              refine (wpIn_wide (n:=1)).1 ?_
              refine wpYI_region_j (ro:=none) 5 rfl rfl (fun K hK=>?_)
              simp only [List.take_succ_cons,List.take_zero,List.drop_succ_cons,List.drop_zero]
              refine @wpG_p _ _ _ _ _ (some 39) (.func (.yield l) #[] #[]) _ _ rfl (by rfl) (fun _=>rfl) ?_
              simp only [n1,n3,n4]
              refine @wpG_p _ _ _ _ _ (some 40) x _ _ rfl (by rfl) (fun _=>rfl) ?_
              simp only [n1,n3,n4]
              refine @wpG_p _ _ _ _ _ (some 41) y _ _ rfl (by rfl) (fun _=>rfl) ?_
              simp only [n1,n3,n4]
              refine @wpG_p _ _ _ _ _ (some 42) z _ _ rfl (by rfl) (fun _=>rfl) ?_
              simp only [n1,n3,n4]
              refine @wpG_p _ _ _ _ _ (some 43) (.agg #[x, y, z]) _ _ rfl (by rfl) (fun W=>by go_simp) ?_
              simp only [n1,n3,n4]
              refine wpG_done (fun V32 hv33=>?_)
              have S34 : Hid (St wr noB [] V32):=Lib.hid (S29.out.gr hv33)
              clear S29
              clear hv33
              refine ⟨rfl, ?_⟩
              have HIN : Hid (B.inb x y z = true):=Lib.hid (Gm.inb_iff.2 (by omega))
              have hYk:=hY (B.cn x y z) V32 (Gm.cn_in HIN.out).2.1 (OwnFrom.gr HOJ.out HJ3.out S34.out.bel)
              rw [(Gm.cn_in HIN.out).2.2.1,(Gm.cn_in HIN.out).2.2.2.1,(Gm.cn_in HIN.out).2.2.2.2.1] at hYk
              refine wpYI_yield (some 44) (l:=l) (args:=#[.agg #[x, y, z]]) rfl rfl (by rfl) hYk (fun fn_ tmps_ asg_ body_ h1_=>by (go_simp;first | done | exact h1_ | simpa using h1_)) rfl (fun e W_ hR_=>?_)
              clear hYk
              rcases hR_ with ⟨rfl,hj_,hk_⟩ | ⟨rfl,hj_⟩
              · skip
                have hrow_:=(HR3.out.below S34.out.bel).keep hk_ rfl
                clear hk_
                have HR4:=Lib.hid hrow_
                have HJ4:=Lib.hid hj_
                clear hrow_ hj_
                have S35 : Hid (St W_ noB [] W_):=Lib.hid (St.start W_)
                refine ⟨_,rfl, ?_⟩
                simp only [n1,n3,n4]
                refine @wpG_p _ _ _ _ _ (some 45) (.bool false) _ _ rfl (by rfl) (fun W=>by first | (go_simp;done) | (cases true <;> rfl)) ?_
                simp only [n1,n3,n4]
                refine wpG_done (fun V36 hv37=>?_)
                have S38 : Hid (St W_ noB [] V36):=Lib.hid (S35.out.gr hv37)
                clear S35
                clear hv37
                refine ⟨rfl,hK _ _ ?_⟩
                clear hK
                go_upto_region 9 with fail
                refine wpG_region_k (fun K hK=>?_)
                refine @wpG_p _ _ _ _ _ (some 37) x _ _ rfl (by rfl) (fun _=>rfl) ?_
                simp only [n1,n3,n4]
                refine @wpG_p _ _ _ _ _ (some 38) (x + 1:Int) _ _ rfl (by rfl) (fun W=>op_i_add W x 1 (by omega) rfl rfl rfl Tryd.underlying3) ?_
                simp only [n1,n3,n4]
                refine @wpG_p _ _ _ _ _ (some 5) (x + 1:Int) _ _ rfl (by rfl) (fun _=>rfl) ?_
                simp only [n1,n3,n4]
                refine wpG_done (fun V39 hv40=>?_)
                have S41 : Hid (St W_ noB [] V39):=Lib.hid (S38.out.gr hv40)
                clear S38
                clear hv40
                refine ⟨rfl,hK _ _ ?_⟩
                clear hK
                go_wp2_with fail
                go_roundw
                case rel=>exact ⟨x + 1,(by first | rfl | go_num),(by omega),(HR4.out.below S41.out.bel),(by have h_:=(OwnFrom.gr HOJ.out HJ4.out S41.out.bel);rw [← (Gm.cn_in HIN.out).2.2.2.2.2] at h_;exact h_)⟩
                case measure=>first | (simp only [intOf];omega) | (simp [intOf];done) | (simp [intOf];omega) | omega
              · skip
                have hrow_:=Lib.hid True.intro
                clear hrow_
                have HJX:=Lib.hid hj_
                clear hj_
                have S42 : Hid (St W_ noB [] W_):=Lib.hid (St.start W_)
                refine ⟨_,rfl, ?_⟩
                simp only [n1,n3,n4]
                refine @wpG_p _ _ _ _ _ (some 45) (.bool true) _ _ rfl (by rfl) (fun W=>by first | (go_simp;done) | (cases false <;> rfl)) ?_
                simp only [n1,n3,n4]
                refine wpG_done (fun V43 hv44=>?_)
                have S45 : Hid (St W_ noB [] V43):=Lib.hid (S42.out.gr hv44)
                clear S42
                clear hv44
                refine ⟨rfl,hK _ _ ?_⟩
                clear hK
                go_wp2_with fail
                (try simp only [Exit.inBlock,Exit.then]);refine bodyPost_ret (results_none rfl _ _ _) rfl ?_
                exact ⟨⟨_,rfl⟩, .inr ⟨_,(Gm.cn_in HIN.out).2.1,OwnFrom.gr HOJX.out HJX.out S45.out.bel⟩⟩
            | false =>
              have f46:=of_decide_eq_false Hc30.out.symm
              go_upto_region 6 with fail
              refine wpG_region_k (fun K hK=>?_)
              refine @wpG_p _ _ _ _ _ (some 27) y _ _ rfl (by rfl) (fun _=>rfl) ?_
              simp only [n1,n3,n4]
              refine @wpG_p _ _ _ _ _ (some 28) (y + 1:Int) _ _ rfl (by rfl) (fun W=>op_i_add W y 1 (by omega) rfl rfl rfl Tryd.underlying3) ?_
              simp only [n1,n3,n4]
              refine @wpG_p _ _ _ _ _ (some 4) (y + 1:Int) _ _ rfl (by rfl) (fun _=>rfl) ?_
              simp only [n1,n3,n4]
              refine wpG_done (fun V47 hv48=>?_)
              have S49 : Hid (St wr noB [] V47):=Lib.hid (S29.out.gr hv48)
              clear S29
              clear hv48
              refine ⟨rfl,hK _ _ ?_⟩
              clear hK
              go_wp2_with fail
              go_roundw
              case rel=>exact ⟨y + 1,(by first | rfl | go_num),(by omega),(HR3.out.below S49.out.bel),(by have h_:=(OwnFrom.gr HOJ.out HJ3.out S49.out.bel);rw [Gm.cn_x (B:=B) (x:=x) (y:=y) (z:=z) (by omega) (by omega) (by omega)] at h_;exact h_)⟩
              case measure=>first | (simp only [intOf];omega) | (simp [intOf];done) | (simp [intOf];omega) | omega
        | false =>
          have f50:=of_decide_eq_false Hc21.out.symm
          go_upto_region 3 with fail
          refine wpG_region_k (fun K hK=>?_)
          refine @wpG_p _ _ _ _ _ (some 17) z _ _ rfl (by rfl) (fun _=>rfl) ?_
          simp only [n1,n3,n4]
          refine @wpG_p _ _ _ _ _ (some 18) (z + 1:Int) _ _ rfl (by rfl) (fun W=>op_i_add W z 1 (by omega) rfl rfl rfl Tryd.underlying3) ?_
          simp only [n1,n3,n4]
          refine @wpG_p _ _ _ _ _ (some 3) (z + 1:Int) _ _ rfl (by rfl) (fun _=>rfl) ?_
          simp only [n1,n3,n4]
          refine wpG_done (fun V51 hv52=>?_)
          have S53 : Hid (St wr noB [] V51):=Lib.hid (S20.out.gr hv52)
          clear S20
          clear hv52
          refine ⟨rfl,hK _ _ ?_⟩
          clear hK
          go_wp2_with fail
          go_roundw
          case rel=>exact ⟨z + 1,(by first | rfl | go_num),(by omega),(HR2.out.below S53.out.bel),(by have h_:=(OwnFrom.gr HOJ.out HJ2.out S53.out.bel);rw [Gm.cn_y (B:=B) (y:=y) (z:=z) (by omega) (by omega) (by omega)] at h_;exact h_)⟩
          case measure=>first | (simp only [intOf];omega) | (simp [intOf];done) | (simp [intOf];omega) | omega
    | false =>
      have f54:=of_decide_eq_false Hc12.out.symm
      go_wp2_with fail
      go_end0
      exact ⟨⟨_,rfl⟩, .inl (by have h_:=(OwnFrom.gr HOJ.out HJ1.out S11.out.bel);rw [Gm.cn_z (B:=B) (z:=z) (by omega) (by omega) (by omega)] at h_;exact h_)⟩

end Go.Proofs.YtpapbbolefnkmaaDoor
