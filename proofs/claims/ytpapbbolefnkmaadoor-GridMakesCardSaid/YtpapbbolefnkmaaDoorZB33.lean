/-
  Contracts: the statements' own functions on points and grids.
-/
import Derived.Test.YtpapbbolefnkmaaDoorZB00
import Derived.Test.YtpapbbolefnkmaaDoorZB32
import Derived.Handy
namespace Go.Proofs.YtpapbbolefnkmaaDoor
open Go Go.RowKit
set_option linter.unusedVariables false
set_option linter.unusedSimpArgs false
set_option maxRecDepth 1000000 in
set_option maxHeartbeats 4000000 in
theorem sameints_any (A : Option Addr) (n c : Nat) (l : List Int) (E : Option Addr) (ne ce : Nat) (m : List Int) (w : World) (hG : SL w 1 A n c (ic l)) (hG2 : SL w 1 E ne ce (ic m)) :
    Calls Tryd.prog 44 #[.slice A n c, .slice E ne ce] w fun e w'=>e = .returned (.bool (decide (l = m))) ∧ Below w.heap.size w w':=by
  have HGA:=Lib.hid hG
  have HLEN : Hid (l.length = n):=Lib.hid (by have h_:=hG.len;rw [ic_len] at h_;omega)
  have hnbHGA : n ≤ 9223372036854775807:=Nat.le_trans hG.cap hG.bnd
  clear hG
  have HGB:=Lib.hid hG2
  have HLEN2 : Hid (m.length = ne):=Lib.hid (by have h_:=hG2.len;rw [ic_len] at h_;omega)
  have hnbHGB : ne ≤ 9223372036854775807:=Nat.le_trans hG2.cap hG2.bnd
  clear hG2
  have S1 : Hid (St w noB [] w):=Lib.hid (St.start w)
  go_enter Tryd.func44,Tryd.ntmps44
  go_upto_region 0 with fail
  refine wpG_region_k (fun K hK=>?_)
  refine @wpG_p _ _ _ _ _ (some 4) (.bool false) _ _ rfl (by rfl) (fun _=>rfl) ?_
  simp only [n1,n3,n4]
  refine wpG_done (fun V2 hv3=>?_)
  have S4 : Hid (St w noB [] V2):=Lib.hid (S1.out.gr hv3)
  clear S1
  clear hv3
  refine ⟨rfl,hK _ _ ?_⟩
  clear hK
  go_upto_region 1 with fail
  refine wpG_region_k (fun K hK=>?_)
  refine @wpG_p _ _ _ _ _ (some 6) (.slice A n c) _ _ rfl (by rfl) (fun _=>rfl) ?_
  simp only [n1,n3,n4]
  refine @wpG_p _ _ _ _ _ (some 7) (n : Int) _ _ rfl (by rfl) (fun W=>by go_simp) ?_
  simp only [n1,n3,n4]
  refine @wpG_p _ _ _ _ _ (some 8) (.slice E ne ce) _ _ rfl (by rfl) (fun _=>rfl) ?_
  simp only [n1,n3,n4]
  refine @wpG_p _ _ _ _ _ (some 9) (ne : Int) _ _ rfl (by rfl) (fun W=>by go_simp) ?_
  simp only [n1,n3,n4]
  refine @wpG_p _ _ _ _ _ (some 10) (.bool (decide ((n : Int) ≠ (ne : Int)))) _ _ rfl (by rfl) (fun W=>op_int_neq W (n : Int) (ne : Int) rfl rfl rfl Tryd.underlying3) ?_
  simp only [n1,n3,n4]
  refine wpG_done (fun V5 hv6=>?_)
  have S7 : Hid (St w noB [] V5):=Lib.hid (S4.out.gr hv6)
  clear S4
  clear hv6
  refine ⟨rfl,hK _ _ ?_⟩
  clear hK
  obtain ⟨c8,hc8⟩ : ∃ q_,q_ = (decide ((n : Int) ≠ (ne : Int))):=⟨_,rfl⟩
  rw [← hc8]
  have Hc8:=Lib.hid hc8
  clear hc8
  cases c8 with
  | true =>
    have f9:=of_decide_eq_true Hc8.out.symm
    go_upto_region 2 with fail
    refine wpG_region_k (fun K hK=>?_)
    refine @wpG_p _ _ _ _ _ (some 4) (.bool false) _ _ rfl (by rfl) (fun _=>rfl) ?_
    simp only [n1,n3,n4]
    refine wpG_done (fun V10 hv11=>?_)
    have S12 : Hid (St w noB [] V10):=Lib.hid (S7.out.gr hv11)
    clear S7
    clear hv11
    refine ⟨rfl,hK _ _ ?_⟩
    clear hK
    go_wp2_with fail
    go_ret
    refine ⟨?_,S12.out.bel⟩
    show Ending.returned (.bool false) = _
    (first | rfl | (have hlen_:=HLEN.out;have hlen2_:=HLEN2.out;exact rb_f (decide_eq_false (fun he=>by rw [he] at hlen_;omega))))
  | false =>
    have f13:=Lib.hid (Decidable.not_not.1 (of_decide_eq_false Hc8.out.symm))
    have f13a:=Int.le_of_eq f13.out
    have f13b:=Int.le_of_eq f13.out.symm
    go_upto_region 3 with fail
    refine wpG_region_k (fun K hK=>?_)
    refine @wpG_p _ _ _ _ _ (some 5) () _ _ rfl (by rfl) (fun _=>rfl) ?_
    simp only [n1,n3,n4]
    refine wpG_done (fun V14 hv15=>?_)
    have S16 : Hid (St w noB [] V14):=Lib.hid (S7.out.gr hv15)
    clear S7
    clear hv15
    refine ⟨rfl,hK _ _ ?_⟩
    clear hK
    go_wp2_with fail
    go_loopw [5] (fun v5 wr=>∃ (k : Nat),v5 = .int .i64 (k : Int) ∧ k ≤ Ff.ff (Gm.eqk l m) l.length ∧ k ≤ n ∧ St w noB [] wr) (fun i _=>n - (intOf i).toNat)
    case atStart=>exact ⟨0,rfl,Nat.zero_le _,Nat.zero_le _,S16.out⟩
    case round =>
      obtain ⟨k,rfl,hk_,hkn,hS⟩:=hrel
      have HK_:=Lib.hid hk_
      clear hk_
      have SL:=Lib.hid hS
      clear S16 hS
      have S17:=SL
      clear SL
      go_upto_region 4 with fail
      refine wpG_region_k (fun K hK=>?_)
      refine @wpG_p _ _ _ _ _ (some 11) (k : Int) _ _ rfl (by rfl) (fun _=>rfl) ?_
      simp only [n1,n3,n4]
      refine @wpG_p _ _ _ _ _ (some 12) (.slice A n c) _ _ rfl (by rfl) (fun _=>rfl) ?_
      simp only [n1,n3,n4]
      refine @wpG_p _ _ _ _ _ (some 13) (n : Int) _ _ rfl (by rfl) (fun W=>by go_simp) ?_
      simp only [n1,n3,n4]
      refine @wpG_p _ _ _ _ _ (some 14) (.bool (decide ((k : Int) < (n : Int)))) _ _ rfl (by rfl) (fun W=>op_int_lss W (k : Int) (n : Int) rfl rfl rfl Tryd.underlying3) ?_
      simp only [n1,n3,n4]
      refine wpG_done (fun V18 hv19=>?_)
      have S20 : Hid (St w noB [] V18):=Lib.hid (S17.out.gr hv19)
      clear S17
      clear hv19
      refine ⟨rfl,hK _ _ ?_⟩
      clear hK
      obtain ⟨c21,hc21⟩ : ∃ q_,q_ = (decide ((k : Int) < (n : Int))):=⟨_,rfl⟩
      rw [← hc21]
      have Hc21:=Lib.hid hc21
      clear hc21
      cases c21 with
      | true =>
        have f22:=of_decide_eq_true Hc21.out.symm
        go_upto_region 6 with fail
        refine wpK_region_k (by kernel_rfl) (fun K hK=>?_)
        refine wpK_ta (i:=0) (some 17) (v:=.slice A n c) rfl rfl (by kernel_rfl) (fun _ _ _ h=>onN_panic h) (Or.inl ⟨rfl,fun _=>rfl⟩) ?_
        simp only [n1,n3,n4]
        refine wpK_ta (i:=1) (some 18) (v:=(k : Int)) rfl rfl (by kernel_rfl) (fun _ _ _ h=>onN_panic h) (Or.inl ⟨rfl,fun _=>rfl⟩) ?_
        simp only [n1,n3,n4]
        obtain ⟨b23,o23,rfl⟩:=HGA.out.addr (by decide) (by omega)
        refine wpK_ta (i:=2) (some 19) (v:=.pointer (some ⟨b23,o23 + k,none⟩)) rfl rfl (by kernel_rfl) (fun _ _ _ h=>onN_panic h) (Or.inl ⟨by rfl,fun W=>by (go_simp <;> first | rfl | omega | (simp;omega))⟩) ?_
        simp only [n1,n3,n4]
        refine wpK_ta (i:=4) (some 21) (v:=.slice E ne ce) rfl rfl (by kernel_rfl) (fun _ _ _ h=>onN_panic h) (Or.inl ⟨rfl,fun _=>rfl⟩) ?_
        simp only [n1,n3,n4]
        refine wpK_ta (i:=5) (some 22) (v:=(k : Int)) rfl rfl (by kernel_rfl) (fun _ _ _ h=>onN_panic h) (Or.inl ⟨rfl,fun _=>rfl⟩) ?_
        simp only [n1,n3,n4]
        obtain ⟨b24,o24,rfl⟩:=HGB.out.addr (by decide) (by omega)
        refine wpK_ta (i:=6) (some 23) (v:=.pointer (some ⟨b24,o24 + k,none⟩)) rfl rfl (by kernel_rfl) (fun _ _ _ h=>onN_panic h) (Or.inl ⟨by rfl,fun W=>by (go_simp <;> first | rfl | omega | (simp;omega))⟩) ?_
        simp only [n1,n3,n4]
        refine wpK_tk (i:=3) (some 20) (v:=(l.getD k 0:Int)) rfl rfl (by kernel_rfl) (fun _ _ _ h=>onN_panic h) (.val (by rfl) (fun W hg=>by have c:=(((HGA.out.gr ((S20.out.gr (Gr.un hg))).bel).int (l:=l) k (by (have:=HLEN.out;have:=HLEN2.out;omega)))) 0 _ rfl;(try simp only [Nat.add_zero,Nat.zero_add] at c);go_simp)) ?_
        simp only [n1,n3,n4]
        refine wpK_tk (i:=7) (some 24) (v:=(m.getD k 0:Int)) rfl rfl (by kernel_rfl) (fun _ _ _ h=>onN_panic h) (.val (by rfl) (fun W hg=>by have c:=(((HGB.out.gr ((S20.out.gr (Gr.un hg))).bel).int (l:=m) k (by (have:=HLEN.out;have:=HLEN2.out;omega)))) 0 _ rfl;(try simp only [Nat.add_zero,Nat.zero_add] at c);go_simp)) ?_
        simp only [n1,n3,n4]
        refine wpK_ta (i:=8) (some 25) (v:=.bool (decide ((l.getD k 0) ≠ (m.getD k 0)))) rfl rfl (by kernel_rfl) (fun _ _ _ h=>onN_panic h) (Or.inl ⟨by rfl,fun W=>by exact op_int_neq W (l.getD k 0) (m.getD k 0) rfl rfl rfl Tryd.underlying3⟩) ?_
        simp only [n1,n3,n4]
        refine wpK_done (by kernel_rfl) (fun V25 hv26=>?_) _
        have S27 : Hid (St w noB [] V25):=Lib.hid (S20.out.gr (Gr.un hv26))
        clear S20
        clear hv26
        refine ⟨rfl,hK _ _ ?_⟩
        clear hK
        obtain ⟨c28,hc28⟩ : ∃ q_,q_ = (decide ((l.getD k 0) ≠ (m.getD k 0))):=⟨_,rfl⟩
        rw [← hc28]
        have Hc28:=Lib.hid hc28
        clear hc28
        cases c28 with
        | true =>
          have f29:=of_decide_eq_true Hc28.out.symm
          go_upto_region 7 with fail
          refine wpG_region_k (fun K hK=>?_)
          refine @wpG_p _ _ _ _ _ (some 4) (.bool false) _ _ rfl (by rfl) (fun _=>rfl) ?_
          simp only [n1,n3,n4]
          refine wpG_done (fun V30 hv31=>?_)
          have S32 : Hid (St w noB [] V30):=Lib.hid (S27.out.gr hv31)
          clear S27
          clear hv31
          refine ⟨rfl,hK _ _ ?_⟩
          clear hK
          go_wp2_with fail
          go_ret
          refine ⟨?_,S32.out.bel⟩
          show Ending.returned (.bool false) = _
          (first | rfl | (have e_f13:=f13.out;exact rb_f (decide_eq_false (fun he=>f29 (by rw [he])))))
        | false =>
          have f33:=Lib.hid (Decidable.not_not.1 (of_decide_eq_false Hc28.out.symm))
          have f33a:=Int.le_of_eq f33.out
          have f33b:=Int.le_of_eq f33.out.symm
          go_upto_region 5 with fail
          refine wpG_region_k (fun K hK=>?_)
          refine @wpG_p _ _ _ _ _ (some 15) (k : Int) _ _ rfl (by rfl) (fun _=>rfl) ?_
          simp only [n1,n3,n4]
          refine @wpG_p _ _ _ _ _ (some 16) ((k : Int) + 1:Int) _ _ rfl (by rfl) (fun W=>op_i_add W (k : Int) 1 (by omega) rfl rfl rfl Tryd.underlying3) ?_
          simp only [n1,n3,n4]
          refine @wpG_p _ _ _ _ _ (some 5) ((k : Int) + 1:Int) _ _ rfl (by rfl) (fun _=>rfl) ?_
          simp only [n1,n3,n4]
          refine wpG_done (fun V34 hv35=>?_)
          have S36 : Hid (St w noB [] V34):=Lib.hid (S27.out.gr hv35)
          clear S27
          clear hv35
          refine ⟨rfl,hK _ _ ?_⟩
          clear hK
          go_wp2_with fail
          go_roundw
          case rel=>exact ⟨k + 1,(by first | rfl | go_num),(by have e_f13:=f13.out;have e_f33:=f33.out;exact Ff.ff_step HK_.out (by have:=HLEN.out;omega) (decide_eq_true e_f33)),(by omega),S36.out⟩
          case measure=>first | (simp only [intOf];omega) | (simp [intOf];done) | (simp [intOf];omega) | omega
      | false =>
        have f37:=of_decide_eq_false Hc21.out.symm
        go_upto_region 8 with fail
        refine wpG_region_k (fun K hK=>?_)
        refine @wpG_p _ _ _ _ _ (some 4) (.bool true) _ _ rfl (by rfl) (fun _=>rfl) ?_
        simp only [n1,n3,n4]
        refine wpG_done (fun V38 hv39=>?_)
        have S40 : Hid (St w noB [] V38):=Lib.hid (S20.out.gr hv39)
        clear S20
        clear hv39
        refine ⟨rfl,hK _ _ ?_⟩
        clear hK
        go_wp2_with fail
        go_ret
        refine ⟨?_,S40.out.bel⟩
        show Ending.returned (.bool true) = _
        (first | rfl | (have e_f13:=f13.out;have hlen_:=HLEN.out;have hlen2_:=HLEN2.out;exact rb_t (decide_eq_true ((Gm.same_iff (B:=Gm.zb) (C:=Gm.zb)).1 (Gm.same_yes ⟨rfl,rfl,rfl,rfl,rfl,rfl⟩ (by omega) (by have h_:=HK_.out;have e_ : k = l.length:=(by omega);rw [e_] at h_;exact h_))).2)))
set_option maxRecDepth 1000000 in
set_option maxHeartbeats 4000000 in
theorem lat_any (x y z : Int) (w : World) :
    Calls Tryd.prog 41 #[x, y, z] w fun e w'=>e = .returned (.agg #[x, y, z]) ∧ Below w.heap.size w w':=by
  have S1 : Hid (St w noB [] w):=Lib.hid (St.start w)
  go_enter Tryd.func41,Tryd.ntmps41
  go_upto_region 0 with fail
  refine wpG_region_k (fun K hK=>?_)
  refine wpG_val (some 6) rfl (by rfl) (fun W2 hg3=>⟨.pointer (some ⟨W2.heap.size,0,none⟩),W2.alloc (.cells #[(), (), ()] 23),by (first | (go_simp;done) | (go_simp <;> rfl)), ?_⟩)
  simp only [n1,n3,n4]
  obtain ⟨g4,U5,hg_,hu_,hS_⟩:=(S1.out.gr hg3).made [(), (), ()] 23
  rw [← hu_,← hg_]
  have S6 : Hid (St w noB [blk g4 23 [(), (), ()]] U5):=Lib.hid hS_
  clear S1
  clear hg_ hu_ hS_ hg3
  refine wpG_done (fun V7 hv8=>?_)
  have S9 : Hid (St w noB [blk g4 23 [(), (), ()]] V7):=Lib.hid (S6.out.gr hv8)
  clear S6
  clear hv8
  refine ⟨rfl,hK _ _ ?_⟩
  clear hK
  go_upto_region 1 with fail
  refine wpG_region_k (fun K hK=>?_)
  refine @wpG_p _ _ _ _ _ (some 7) x _ _ rfl (by rfl) (fun _=>rfl) ?_
  simp only [n1,n3,n4]
  refine @wpG_p _ _ _ _ _ (some 8) y _ _ rfl (by rfl) (fun _=>rfl) ?_
  simp only [n1,n3,n4]
  refine @wpG_p _ _ _ _ _ (some 9) z _ _ rfl (by rfl) (fun _=>rfl) ?_
  simp only [n1,n3,n4]
  refine @wpG_p _ _ _ _ _ (some 10) (.agg #[x, y, z]) _ _ rfl (by rfl) (fun W=>by go_simp) ?_
  simp only [n1,n3,n4]
  refine wpG_store (none) rfl (by rfl) (fun W10 hg11=>⟨_,run_store_mid 23 (.tmp 6) (.tmp 10) rfl g4 0 #[x, y, z] rfl rfl ((S9.out.gr hg11).room 0 rfl 0 3 (by simp)) (by kernel_rfl) (by kernel_rfl), ?_⟩)
  simp only [n2]
  obtain ⟨U12,hu_,hS_⟩:=((S9.out.gr hg11).put 0 rfl 0 (#[x, y, z] : Array Value).toList (ds:=[x, y, z]) rfl).named
  rw [← hu_]
  have S13 : Hid (St w noB [blk g4 23 [x, y, z]] U12):=Lib.hid hS_
  clear S9
  clear hu_ hS_ hg11
  refine wpG_done (fun V14 hv15=>?_)
  have S16 : Hid (St w noB [blk g4 23 [x, y, z]] V14):=Lib.hid (S13.out.gr hv15)
  clear S13
  clear hv15
  refine ⟨rfl,hK _ _ ?_⟩
  clear hK
  go_wp2_with fail
  (try simp only [Exit.inBlock,Exit.then])
  refine bodyPost_ret (results_cell_mid rfl _ _ _ g4 0 [x, y, z] _ rfl (S16.out.range 0 rfl 0 3 rfl) Tryd.underlying23 rfl (by kernel_rfl)) rfl ?_
  refine ⟨?_,S16.out.bel⟩
  show Ending.returned (.agg #[x, y, z]) = _
  (first | rfl | (rfl))
set_option maxRecDepth 1000000 in
set_option maxHeartbeats 4000000 in
theorem lbox_any (a1 a2 a3 a4 a5 a6 : Int) (w : World) :
    Calls Tryd.prog 40 #[.agg #[a1, a2, a3], .agg #[a4, a5, a6]] w fun e w'=>e = .returned (.agg #[a1, a2, a3, a4, a5, a6]) ∧ Below w.heap.size w w':=by
  have S1 : Hid (St w noB [] w):=Lib.hid (St.start w)
  go_enter Tryd.func40,Tryd.ntmps40
  go_upto_region 0 with fail
  refine wpG_region_k (fun K hK=>?_)
  refine wpG_val (some 2) rfl (by rfl) (fun W2 hg3=>⟨.pointer (some ⟨W2.heap.size,0,none⟩),W2.alloc (.cells #[a1, a2, a3] 23),by (first | (go_simp;done) | (go_simp <;> rfl)), ?_⟩)
  simp only [n1,n3,n4]
  obtain ⟨g4,U5,hg_,hu_,hS_⟩:=(S1.out.gr hg3).made [a1, a2, a3] 23
  rw [← hu_,← hg_]
  have S6 : Hid (St w noB [blk g4 23 [a1, a2, a3]] U5):=Lib.hid hS_
  clear S1
  clear hg_ hu_ hS_ hg3
  refine wpG_val (some 3) rfl (by rfl) (fun W7 hg8=>⟨.pointer (some ⟨W7.heap.size,0,none⟩),W7.alloc (.cells #[a4, a5, a6] 23),by (first | (go_simp;done) | (go_simp <;> rfl)), ?_⟩)
  simp only [n1,n3,n4]
  obtain ⟨g9,U10,hg_,hu_,hS_⟩:=(S6.out.gr hg8).made [a4, a5, a6] 23
  rw [← hu_,← hg_]
  have S11 : Hid (St w noB [blk g9 23 [a4, a5, a6],blk g4 23 [a1, a2, a3]] U10):=Lib.hid hS_
  clear S6
  clear hg_ hu_ hS_ hg8
  refine wpG_val (some 4) rfl (by rfl) (fun W12 hg13=>⟨.pointer (some ⟨W12.heap.size,0,none⟩),W12.alloc (.cells #[(), (), (), (), (), ()] 25),by (first | (go_simp;done) | (go_simp <;> rfl)), ?_⟩)
  simp only [n1,n3,n4]
  obtain ⟨g14,U15,hg_,hu_,hS_⟩:=(S11.out.gr hg13).made [(), (), (), (), (), ()] 25
  rw [← hu_,← hg_]
  have S16 : Hid (St w noB [blk g14 25 [(), (), (), (), (), ()],blk g9 23 [a4, a5, a6],blk g4 23 [a1, a2, a3]] U15):=Lib.hid hS_
  clear S11
  clear hg_ hu_ hS_ hg13
  refine wpG_done (fun V17 hv18=>?_)
  have S19 : Hid (St w noB [blk g14 25 [(), (), (), (), (), ()],blk g9 23 [a4, a5, a6],blk g4 23 [a1, a2, a3]] V17):=Lib.hid (S16.out.gr hv18)
  clear S16
  clear hv18
  refine ⟨rfl,hK _ _ ?_⟩
  clear hK
  go_upto_region 1 with fail
  refine wpG_region_k (fun K hK=>?_)
  refine @wpG_tk _ _ _ _ _ (some 5) (.agg #[a1, a2, a3]) _ _ rfl (.load_mid (by rfl) 23 (.tmp 2) rfl g4 0 rfl [a1, a2, a3] _ (fun W hg=>(S19.out.gr hg).range 2 rfl 0 3 rfl) Tryd.underlying23 rfl (by kernel_rfl)) ?_
  simp only [n1,n3,n4]
  refine @wpG_tk _ _ _ _ _ (some 6) (.agg #[a4, a5, a6]) _ _ rfl (.load_mid (by rfl) 23 (.tmp 3) rfl g9 0 rfl [a4, a5, a6] _ (fun W hg=>(S19.out.gr hg).range 1 rfl 0 3 rfl) Tryd.underlying23 rfl (by kernel_rfl)) ?_
  simp only [n1,n3,n4]
  refine @wpG_p _ _ _ _ _ (some 7) (.agg #[a1, a2, a3, a4, a5, a6]) _ _ rfl (by rfl) (fun W=>by go_simp) ?_
  simp only [n1,n3,n4]
  refine wpG_store (none) rfl (by rfl) (fun W20 hg21=>⟨_,run_store_mid 25 (.tmp 4) (.tmp 7) rfl g14 0 #[a1, a2, a3, a4, a5, a6] rfl rfl ((S19.out.gr hg21).room 0 rfl 0 6 (by simp)) (by kernel_rfl) (by kernel_rfl), ?_⟩)
  simp only [n2]
  obtain ⟨U22,hu_,hS_⟩:=((S19.out.gr hg21).put 0 rfl 0 (#[a1, a2, a3, a4, a5, a6] : Array Value).toList (ds:=[a1, a2, a3, a4, a5, a6]) rfl).named
  rw [← hu_]
  have S23 : Hid (St w noB [blk g14 25 [a1, a2, a3, a4, a5, a6],blk g9 23 [a4, a5, a6],blk g4 23 [a1, a2, a3]] U22):=Lib.hid hS_
  clear S19
  clear hu_ hS_ hg21
  refine wpG_done (fun V24 hv25=>?_)
  have S26 : Hid (St w noB [blk g14 25 [a1, a2, a3, a4, a5, a6],blk g9 23 [a4, a5, a6],blk g4 23 [a1, a2, a3]] V24):=Lib.hid (S23.out.gr hv25)
  clear S23
  clear hv25
  refine ⟨rfl,hK _ _ ?_⟩
  clear hK
  go_wp2_with fail
  (try simp only [Exit.inBlock,Exit.then])
  refine bodyPost_ret (results_cell_mid rfl _ _ _ g14 0 [a1, a2, a3, a4, a5, a6] _ rfl (S26.out.range 0 rfl 0 6 rfl) Tryd.underlying25 rfl (by kernel_rfl)) rfl ?_
  refine ⟨?_,S26.out.bel⟩
  show Ending.returned (.agg #[a1, a2, a3, a4, a5, a6]) = _
  (first | rfl | (rfl))

end Go.Proofs.YtpapbbolefnkmaaDoor
