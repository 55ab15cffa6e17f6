/-
  Contracts of package grid: equality, counts, validity.
-/
import Derived.Test.YtpapbbolefnkmaaDoorZB00
import Derived.Test.YtpapbbolefnkmaaDoorZB36
import Derived.Handy
namespace Go.Proofs.YtpapbbolefnkmaaDoor
open Go Go.RowKit
set_option linter.unusedVariables false
set_option linter.unusedSimpArgs false
open Ff (ff ff_step ff_hit ff_end al al_yes al_no)
def Gm.mk_ (l : List Int) (k : Nat) : Bool:=decide (Gm.mtl (l.getD k 0))
def Gm.ixf (l : List Int) : Int:=if al (Gm.mk_ l) l.length then -1 else (ff (Gm.mk_ l) l.length : Nat)
theorem Gm.ixf_yes {l : List Int} {k : Nat} (hk : k ≤ ff (Gm.mk_ l) l.length) (h : k < l.length) (hp : Gm.mk_ l k = false) : Gm.ixf l = (k : Int):=by
  unfold Gm.ixf;rw [al_no hk h hp,ff_hit hk h hp];rfl
theorem Gm.ixf_no {l : List Int} (h : l.length ≤ ff (Gm.mk_ l) l.length) : Gm.ixf l = -1:=by unfold Gm.ixf;rw [al_yes h];rfl
theorem Gm.ixf_ge {l : List Int} : decide (0 ≤ Gm.ixf l) = !(al (Gm.mk_ l) l.length):=by
  unfold Gm.ixf
  cases al (Gm.mk_ l) l.length
  · exact decide_eq_true (by simp)
  · rfl
theorem Gm.same_cells {l m : List Int} (h : l.length = m.length) (hk : l.length ≤ ff (Gm.eqk l m) l.length) : l = m:=by
  apply List.ext_getElem h
  intro i h1 h2
  have:=of_decide_eq_true (Ff.ff_before (p:=Gm.eqk l m) (n:=l.length) (j:=i) (by omega))
  simpa [List.getD_eq_getElem?_getD,List.getElem?_eq_getElem h1,List.getElem?_eq_getElem h2] using this
set_option maxRecDepth 1000000 in
set_option maxHeartbeats 4000000 in
theorem sleq_any (A : Option Addr) (n c : Nat) (l : List Int) (A2 : Option Addr) (n2 c2 : Nat) (l2 : List Int) (w : World) (hG : SL w 1 A n c (ic l)) (hG2 : SL w 1 A2 n2 c2 (ic l2)) :
    Calls Tryd.prog 62 #[.slice A n c, .slice A2 n2 c2] w fun e w'=>e = .returned (.bool (decide (l = l2))) ∧ Below w.heap.size w w':=by
  have HGA:=Lib.hid hG
  have HLEN : Hid (l.length = n):=Lib.hid (by have h_:=hG.len;rw [ic_len] at h_;omega)
  have hnbHGA : n ≤ 9223372036854775807:=Nat.le_trans hG.cap hG.bnd
  clear hG
  have HGB:=Lib.hid hG2
  have HLEN2 : Hid (l2.length = n2):=Lib.hid (by have h_:=hG2.len;rw [ic_len] at h_;omega)
  have hnbHGB : n2 ≤ 9223372036854775807:=Nat.le_trans hG2.cap hG2.bnd
  clear hG2
  have S1 : Hid (St w noB [] w):=Lib.hid (St.start w)
  go_enter Tryd.func62,Tryd.ntmps62
  go_upto_region 0 with fail
  refine wpG_region_k (fun K hK=>?_)
  refine @wpG_p _ _ _ _ _ (some 4) (.bool false) _ _ rfl (by rfl) (fun _=>rfl) ?_
  simp only [n1,n3,n4]
  refine wpG_done (fun V2 hv3=>?_)
  have S4 : Hid (St w noB [] V2):=Lib.hid (S1.out.gr hv3)
  clear S1
  clear hv3
  refine ⟨rfl,hK _ _ ?_⟩
  clear hK
  go_upto_region 1 with fail
  refine wpG_region_k (fun K hK=>?_)
  refine @wpG_p _ _ _ _ _ (some 6) (.slice A n c) _ _ rfl (by rfl) (fun _=>rfl) ?_
  simp only [n1,n3,n4]
  refine @wpG_p _ _ _ _ _ (some 7) (n : Int) _ _ rfl (by rfl) (fun W=>by go_simp) ?_
  simp only [n1,n3,n4]
  refine @wpG_p _ _ _ _ _ (some 8) (.slice A2 n2 c2) _ _ rfl (by rfl) (fun _=>rfl) ?_
  simp only [n1,n3,n4]
  refine @wpG_p _ _ _ _ _ (some 9) (n2 : Int) _ _ rfl (by rfl) (fun W=>by go_simp) ?_
  simp only [n1,n3,n4]
  refine @wpG_p _ _ _ _ _ (some 10) (.bool (decide ((n : Int) ≠ (n2 : Int)))) _ _ rfl (by rfl) (fun W=>op_int_neq W (n : Int) (n2 : Int) rfl rfl rfl Tryd.underlying3) ?_
  simp only [n1,n3,n4]
  refine wpG_done (fun V5 hv6=>?_)
  have S7 : Hid (St w noB [] V5):=Lib.hid (S4.out.gr hv6)
  clear S4
  clear hv6
  refine ⟨rfl,hK _ _ ?_⟩
  clear hK
  obtain ⟨c8,hc8⟩ : ∃ q_,q_ = (decide ((n : Int) ≠ (n2 : Int))):=⟨_,rfl⟩
  rw [← hc8]
  have Hc8:=Lib.hid hc8
  clear hc8
  cases c8 with
  | true =>
    have f9:=of_decide_eq_true Hc8.out.symm
    go_upto_region 2 with fail
    refine wpG_region_k (fun K hK=>?_)
    refine @wpG_p _ _ _ _ _ (some 4) (.bool false) _ _ rfl (by rfl) (fun _=>rfl) ?_
    simp only [n1,n3,n4]
    refine wpG_done (fun V10 hv11=>?_)
    have S12 : Hid (St w noB [] V10):=Lib.hid (S7.out.gr hv11)
    clear S7
    clear hv11
    refine ⟨rfl,hK _ _ ?_⟩
    clear hK
    go_wp2_with fail
    go_ret
    refine ⟨?_,S12.out.bel⟩
    show Ending.returned (.bool false) = _
    (first | rfl | (have hlen_:=HLEN.out;have hlen2_:=HLEN2.out;exact rb_f (decide_eq_false (fun e_=>by rw [e_] at hlen_;omega))))
  | false =>
    have f13:=Lib.hid (Decidable.not_not.1 (of_decide_eq_false Hc8.out.symm))
    have f13a:=Int.le_of_eq f13.out
    have f13b:=Int.le_of_eq f13.out.symm
    go_upto_region 3 with fail
    refine wpG_region_k (fun K hK=>?_)
    refine @wpG_p _ _ _ _ _ (some 11) (.slice A n c) _ _ rfl (by rfl) (fun _=>rfl) ?_
    simp only [n1,n3,n4]
    refine @wpG_p _ _ _ _ _ (some 12) (n : Int) _ _ rfl (by rfl) (fun W=>by go_simp) ?_
    simp only [n1,n3,n4]
    refine @wpG_p _ _ _ _ _ (some 13) () _ _ rfl (by rfl) (fun _=>rfl) ?_
    simp only [n1,n3,n4]
    refine wpG_done (fun V14 hv15=>?_)
    have S16 : Hid (St w noB [] V14):=Lib.hid (S7.out.gr hv15)
    clear S7
    clear hv15
    refine ⟨rfl,hK _ _ ?_⟩
    clear hK
    go_wp2_with fail
    go_loopw [13] (fun v13 wr=>∃ (k : Nat),v13 = .int .i64 (k : Int) ∧ k ≤ ff (Gm.eqk l l2) l.length ∧ k ≤ n ∧ St w noB [] wr) (fun i _=>n - (intOf i).toNat)
    case atStart=>exact ⟨0,rfl,Nat.zero_le _,Nat.zero_le _,S16.out⟩
    case round =>
      obtain ⟨k,rfl,hk_,hkn,hS⟩:=hrel
      have HK_:=Lib.hid hk_
      clear hk_
      have SL:=Lib.hid hS
      clear S16 hS
      have S17:=SL
      clear SL
      go_upto_region 4 with fail
      refine wpG_region_k (fun K hK=>?_)
      refine @wpG_p _ _ _ _ _ (some 14) (.bool (decide ((k : Int) < (n : Int)))) _ _ rfl (by rfl) (fun W=>op_int_lss W (k : Int) (n : Int) rfl rfl rfl Tryd.underlying3) ?_
      simp only [n1,n3,n4]
      refine wpG_done (fun V18 hv19=>?_)
      have S20 : Hid (St w noB [] V18):=Lib.hid (S17.out.gr hv19)
      clear S17
      clear hv19
      refine ⟨rfl,hK _ _ ?_⟩
      clear hK
      obtain ⟨c21,hc21⟩ : ∃ q_,q_ = (decide ((k : Int) < (n : Int))):=⟨_,rfl⟩
      rw [← hc21]
      have Hc21:=Lib.hid hc21
      clear hc21
      cases c21 with
      | true =>
        have f22:=of_decide_eq_true Hc21.out.symm
        go_upto_region 5 with fail
        refine wpG_region_k (fun K hK=>?_)
        refine @wpG_p _ _ _ _ _ (some 15) (k : Int) _ _ rfl (by rfl) (fun _=>rfl) ?_
        simp only [n1,n3,n4]
        refine @wpG_p _ _ _ _ _ (some 5) (k : Int) _ _ rfl (by rfl) (fun _=>rfl) ?_
        simp only [n1,n3,n4]
        refine wpG_done (fun V23 hv24=>?_)
        have S25 : Hid (St w noB [] V23):=Lib.hid (S20.out.gr hv24)
        clear S20
        clear hv24
        refine ⟨rfl,hK _ _ ?_⟩
        clear hK
        go_upto_region 6 with fail
        refine wpK_region_k (by kernel_rfl) (fun K hK=>?_)
        refine wpK_ta (i:=0) (some 16) (v:=.slice A n c) rfl rfl (by kernel_rfl) (fun _ _ _ h=>onN_panic h) (Or.inl ⟨rfl,fun _=>rfl⟩) ?_
        simp only [n1,n3,n4]
        refine wpK_ta (i:=1) (some 17) (v:=(k : Int)) rfl rfl (by kernel_rfl) (fun _ _ _ h=>onN_panic h) (Or.inl ⟨rfl,fun _=>rfl⟩) ?_
        simp only [n1,n3,n4]
        obtain ⟨b26,o26,rfl⟩:=HGA.out.addr (by decide) (by omega)
        refine wpK_ta (i:=2) (some 18) (v:=.pointer (some ⟨b26,o26 + k,none⟩)) rfl rfl (by kernel_rfl) (fun _ _ _ h=>onN_panic h) (Or.inl ⟨by rfl,fun W=>by (go_simp <;> first | rfl | omega | (simp;omega))⟩) ?_
        simp only [n1,n3,n4]
        refine wpK_ta (i:=4) (some 20) (v:=.slice A2 n2 c2) rfl rfl (by kernel_rfl) (fun _ _ _ h=>onN_panic h) (Or.inl ⟨rfl,fun _=>rfl⟩) ?_
        simp only [n1,n3,n4]
        refine wpK_ta (i:=5) (some 21) (v:=(k : Int)) rfl rfl (by kernel_rfl) (fun _ _ _ h=>onN_panic h) (Or.inl ⟨rfl,fun _=>rfl⟩) ?_
        simp only [n1,n3,n4]
        obtain ⟨b27,o27,rfl⟩:=HGB.out.addr (by decide) (by omega)
        refine wpK_ta (i:=6) (some 22) (v:=.pointer (some ⟨b27,o27 + k,none⟩)) rfl rfl (by kernel_rfl) (fun _ _ _ h=>onN_panic h) (Or.inl ⟨by rfl,fun W=>by (go_simp <;> first | rfl | omega | (simp;omega))⟩) ?_
        simp only [n1,n3,n4]
        refine wpK_tk (i:=3) (some 19) (v:=(l.getD k 0:Int)) rfl rfl (by kernel_rfl) (fun _ _ _ h=>onN_panic h) (.val (by rfl) (fun W hg=>by have c:=(((HGA.out.gr ((S25.out.gr (Gr.un hg))).bel).int (l:=l) k (by (have:=HLEN.out;have:=HLEN2.out;omega)))) 0 _ rfl;(try simp only [Nat.add_zero,Nat.zero_add] at c);go_simp)) ?_
        simp only [n1,n3,n4]
        refine wpK_tk (i:=7) (some 23) (v:=(l2.getD k 0:Int)) rfl rfl (by kernel_rfl) (fun _ _ _ h=>onN_panic h) (.val (by rfl) (fun W hg=>by have c:=(((HGB.out.gr ((S25.out.gr (Gr.un hg))).bel).int (l:=l2) k (by (have:=HLEN.out;have:=HLEN2.out;omega)))) 0 _ rfl;(try simp only [Nat.add_zero,Nat.zero_add] at c);go_simp)) ?_
        simp only [n1,n3,n4]
        refine wpK_ta (i:=8) (some 24) (v:=.bool (decide ((l.getD k 0) ≠ (l2.getD k 0)))) rfl rfl (by kernel_rfl) (fun _ _ _ h=>onN_panic h) (Or.inl ⟨by rfl,fun W=>by exact op_int_neq W (l.getD k 0) (l2.getD k 0) rfl rfl rfl Tryd.underlying3⟩) ?_
        simp only [n1,n3,n4]
        refine wpK_done (by kernel_rfl) (fun V28 hv29=>?_) _
        have S30 : Hid (St w noB [] V28):=Lib.hid (S25.out.gr (Gr.un hv29))
        clear S25
        clear hv29
        refine ⟨rfl,hK _ _ ?_⟩
        clear hK
        obtain ⟨c31,hc31⟩ : ∃ q_,q_ = (decide ((l.getD k 0) ≠ (l2.getD k 0))):=⟨_,rfl⟩
        rw [← hc31]
        have Hc31:=Lib.hid hc31
        clear hc31
        cases c31 with
        | true =>
          have f32:=of_decide_eq_true Hc31.out.symm
          go_upto_region 7 with fail
          refine wpG_region_k (fun K hK=>?_)
          refine @wpG_p _ _ _ _ _ (some 4) (.bool false) _ _ rfl (by rfl) (fun _=>rfl) ?_
          simp only [n1,n3,n4]
          refine wpG_done (fun V33 hv34=>?_)
          have S35 : Hid (St w noB [] V33):=Lib.hid (S30.out.gr hv34)
          clear S30
          clear hv34
          refine ⟨rfl,hK _ _ ?_⟩
          clear hK
          go_wp2_with fail
          go_ret
          refine ⟨?_,S35.out.bel⟩
          show Ending.returned (.bool false) = _
          (first | rfl | (have e_f13:=f13.out;exact rb_f (decide_eq_false (fun e_=>f32 (by rw [e_])))))
        | false =>
          have f36:=Lib.hid (Decidable.not_not.1 (of_decide_eq_false Hc31.out.symm))
          have f36a:=Int.le_of_eq f36.out
          have f36b:=Int.le_of_eq f36.out.symm
          go_upto_region 8 with fail
          refine wpG_region_k (fun K hK=>?_)
          refine @wpG_p _ _ _ _ _ (some 25) ((k : Int) + 1:Int) _ _ rfl (by rfl) (fun W=>op_i_add W (k : Int) 1 (by omega) rfl rfl rfl Tryd.underlying3) ?_
          simp only [n1,n3,n4]
          refine @wpG_p _ _ _ _ _ (some 13) ((k : Int) + 1:Int) _ _ rfl (by rfl) (fun _=>rfl) ?_
          simp only [n1,n3,n4]
          refine wpG_done (fun V37 hv38=>?_)
          have S39 : Hid (St w noB [] V37):=Lib.hid (S30.out.gr hv38)
          clear S30
          clear hv38
          refine ⟨rfl,hK _ _ ?_⟩
          clear hK
          go_wp2_with fail
          go_roundw
          case rel=>exact ⟨k + 1,(by first | rfl | go_num),(by have e_f13:=f13.out;have e_f36:=f36.out;exact ff_step HK_.out (by have:=HLEN.out;omega) (decide_eq_true (by first | exact e_f36 | exact Decidable.not_not.1 e_f36))),(by omega),S39.out⟩
          case measure=>first | (simp only [intOf];omega) | (simp [intOf];done) | (simp [intOf];omega) | omega
      | false =>
        have f40:=of_decide_eq_false Hc21.out.symm
        go_upto_region 9 with fail
        refine wpG_region_k (fun K hK=>?_)
        refine @wpG_p _ _ _ _ _ (some 4) (.bool true) _ _ rfl (by rfl) (fun _=>rfl) ?_
        simp only [n1,n3,n4]
        refine wpG_done (fun V41 hv42=>?_)
        have S43 : Hid (St w noB [] V41):=Lib.hid (S20.out.gr hv42)
        clear S20
        clear hv42
        refine ⟨rfl,hK _ _ ?_⟩
        clear hK
        go_wp2_with fail
        go_ret
        refine ⟨?_,S43.out.bel⟩
        show Ending.returned (.bool true) = _
        (first | rfl | (have e_f13:=f13.out;have hlen_:=HLEN.out;have hlen2_:=HLEN2.out;exact rb_t (decide_eq_true (Gm.same_cells (by omega) (by have h_:=HK_.out;have e_ : k = l.length:=(by omega);rw [e_] at h_;exact h_)))))
set_option maxRecDepth 1000000 in
set_option maxHeartbeats 4000000 in
theorem ixf_any (A : Option Addr) (n c : Nat) (l : List Int) (w : World) (hG : SL w 1 A n c (ic l)) :
    Calls Tryd.prog 80 #[.slice A n c, .func (.func 50) #[] #[]] w fun e w'=>e = .returned (Gm.ixf l) ∧ Below w.heap.size w w':=by
  have HGA:=Lib.hid hG
  have HLEN : Hid (l.length = n):=Lib.hid (by have h_:=hG.len;rw [ic_len] at h_;omega)
  have hnbHGA : n ≤ 9223372036854775807:=Nat.le_trans hG.cap hG.bnd
  clear hG
  have S1 : Hid (St w noB [] w):=Lib.hid (St.start w)
  go_enter Tryd.func80,Tryd.ntmps80
  go_upto_region 0 with fail
  refine wpG_region_k (fun K hK=>?_)
  refine @wpG_p _ _ _ _ _ (some 4) () _ _ rfl (by rfl) (fun _=>rfl) ?_
  simp only [n1,n3,n4]
  refine wpG_done (fun V2 hv3=>?_)
  have S4 : Hid (St w noB [] V2):=Lib.hid (S1.out.gr hv3)
  clear S1
  clear hv3
  refine ⟨rfl,hK _ _ ?_⟩
  clear hK
  go_upto_region 1 with fail
  refine wpG_region_k (fun K hK=>?_)
  refine @wpG_p _ _ _ _ _ (some 6) (.slice A n c) _ _ rfl (by rfl) (fun _=>rfl) ?_
  simp only [n1,n3,n4]
  refine @wpG_p _ _ _ _ _ (some 7) (n : Int) _ _ rfl (by rfl) (fun W=>by go_simp) ?_
  simp only [n1,n3,n4]
  refine @wpG_p _ _ _ _ _ (some 8) () _ _ rfl (by rfl) (fun _=>rfl) ?_
  simp only [n1,n3,n4]
  refine wpG_done (fun V5 hv6=>?_)
  have S7 : Hid (St w noB [] V5):=Lib.hid (S4.out.gr hv6)
  clear S4
  clear hv6
  refine ⟨rfl,hK _ _ ?_⟩
  clear hK
  go_wp2_with fail
  go_loopw [8] (fun v8 wr=>∃ (k : Nat),v8 = .int .i64 (k : Int) ∧ k ≤ ff (Gm.mk_ l) l.length ∧ k ≤ n ∧ St w noB [] wr) (fun i _=>n - (intOf i).toNat)
  case atStart=>exact ⟨0,rfl,Nat.zero_le _,Nat.zero_le _,S7.out⟩
  case round =>
    obtain ⟨k,rfl,hk_,hkn,hS⟩:=hrel
    have HK_:=Lib.hid hk_
    clear hk_
    have SL:=Lib.hid hS
    clear S7 hS
    have S8:=SL
    clear SL
    go_upto_region 2 with fail
    refine wpG_region_k (fun K hK=>?_)
    refine @wpG_p _ _ _ _ _ (some 9) (.bool (decide ((k : Int) < (n : Int)))) _ _ rfl (by rfl) (fun W=>op_int_lss W (k : Int) (n : Int) rfl rfl rfl Tryd.underlying3) ?_
    simp only [n1,n3,n4]
    refine wpG_done (fun V9 hv10=>?_)
    have S11 : Hid (St w noB [] V9):=Lib.hid (S8.out.gr hv10)
    clear S8
    clear hv10
    refine ⟨rfl,hK _ _ ?_⟩
    clear hK
    obtain ⟨c12,hc12⟩ : ∃ q_,q_ = (decide ((k : Int) < (n : Int))):=⟨_,rfl⟩
    rw [← hc12]
    have Hc12:=Lib.hid hc12
    clear hc12
    cases c12 with
    | true =>
      have f13:=of_decide_eq_true Hc12.out.symm
      go_upto_region 3 with fail
      refine wpG_region_k (fun K hK=>?_)
      refine @wpG_p _ _ _ _ _ (some 10) (k : Int) _ _ rfl (by rfl) (fun _=>rfl) ?_
      simp only [n1,n3,n4]
      refine @wpG_p _ _ _ _ _ (some 5) (k : Int) _ _ rfl (by rfl) (fun _=>rfl) ?_
      simp only [n1,n3,n4]
      refine wpG_done (fun V14 hv15=>?_)
      have S16 : Hid (St w noB [] V14):=Lib.hid (S11.out.gr hv15)
      clear S11
      clear hv15
      refine ⟨rfl,hK _ _ ?_⟩
      clear hK
      go_upto_region 4 with fail
      refine wpG_region_k (fun K hK=>?_)
      refine @wpG_p _ _ _ _ _ (some 11) (.func (.func 50) #[] #[]) _ _ rfl (by rfl) (fun _=>rfl) ?_
      simp only [n1,n3,n4]
      refine @wpG_p _ _ _ _ _ (some 12) (.slice A n c) _ _ rfl (by rfl) (fun _=>rfl) ?_
      simp only [n1,n3,n4]
      refine @wpG_p _ _ _ _ _ (some 13) (k : Int) _ _ rfl (by rfl) (fun _=>rfl) ?_
      simp only [n1,n3,n4]
      obtain ⟨b17,o17,rfl⟩:=HGA.out.addr (by decide) (by omega)
      refine @wpG_p _ _ _ _ _ (some 14) (.pointer (some ⟨b17,o17 + k,none⟩)) _ _ rfl (by rfl) (fun W=>by (go_simp <;> first | rfl | omega | (simp;omega))) ?_
      simp only [n1,n3,n4]
      refine @wpG_r _ _ _ _ _ (some 15) (l.getD k 0:Int) _ _ rfl (by rfl) (fun W hg=>by have c:=(((HGA.out.gr ((S16.out.gr hg)).bel).int (l:=l) k (by (have:=HLEN.out;omega)))) 0 _ rfl;(try simp only [Nat.add_zero,Nat.zero_add] at c);go_simp) ?_
      simp only [n1,n3,n4]
      refine @wpG_tk _ _ _ _ _ (some 16) (.bool (!decide (Gm.mtl (l.getD k 0)))) _ _ rfl (.call (f:=50) (args:=#[(l.getD k 0:Int)]) (by rfl) (fun W=>by go_simp) (fun W hg=>matn_any (l.getD k 0) W)) ?_
      simp only [n1,n3,n4]
      refine wpG_done (fun V18 hv19=>?_)
      have S20 : Hid (St w noB [] V18):=Lib.hid (S16.out.gr hv19)
      clear S16
      clear hv19
      refine ⟨rfl,hK _ _ ?_⟩
      clear hK
      obtain ⟨c21,hc21⟩ : ∃ q_,q_ = (!decide (Gm.mtl (l.getD k 0))):=⟨_,rfl⟩
      rw [← hc21]
      have Hc21:=Lib.hid hc21
      clear hc21
      cases c21 with
      | true =>
        have f22:=Lib.hid (of_decide_eq_false (bnt Hc21.out))
        go_upto_region 5 with fail
        refine wpG_region_k (fun K hK=>?_)
        refine @wpG_p _ _ _ _ _ (some 17) (k : Int) _ _ rfl (by rfl) (fun _=>rfl) ?_
        simp only [n1,n3,n4]
        refine @wpG_p _ _ _ _ _ (some 4) (k : Int) _ _ rfl (by rfl) (fun _=>rfl) ?_
        simp only [n1,n3,n4]
        refine wpG_done (fun V23 hv24=>?_)
        have S25 : Hid (St w noB [] V23):=Lib.hid (S20.out.gr hv24)
        clear S20
        clear hv24
        refine ⟨rfl,hK _ _ ?_⟩
        clear hK
        go_wp2_with fail
        go_ret
        refine ⟨?_,S25.out.bel⟩
        show Ending.returned (k : Int) = _
        (first | rfl | (have e_f22:=f22.out;rw [Gm.ixf_yes HK_.out (by have:=HLEN.out;omega) (by unfold Gm.mk_;simpa using e_f22)]))
      | false =>
        have f26:=Lib.hid (of_decide_eq_true (bnf Hc21.out))
        go_upto_region 6 with fail
        refine wpG_region_k (fun K hK=>?_)
        refine @wpG_p _ _ _ _ _ (some 18) ((k : Int) + 1:Int) _ _ rfl (by rfl) (fun W=>op_i_add W (k : Int) 1 (by omega) rfl rfl rfl Tryd.underlying3) ?_
        simp only [n1,n3,n4]
        refine @wpG_p _ _ _ _ _ (some 8) ((k : Int) + 1:Int) _ _ rfl (by rfl) (fun _=>rfl) ?_
        simp only [n1,n3,n4]
        refine wpG_done (fun V27 hv28=>?_)
        have S29 : Hid (St w noB [] V27):=Lib.hid (S20.out.gr hv28)
        clear S20
        clear hv28
        refine ⟨rfl,hK _ _ ?_⟩
        clear hK
        go_wp2_with fail
        go_roundw
        case rel=>exact ⟨k + 1,(by first | rfl | go_num),(by have e_f26:=f26.out;exact ff_step HK_.out (by have:=HLEN.out;omega) (by unfold Gm.mk_;simpa using e_f26)),(by omega),S29.out⟩
        case measure=>first | (simp only [intOf];omega) | (simp [intOf];done) | (simp [intOf];omega) | omega
    | false =>
      have f30:=of_decide_eq_false Hc12.out.symm
      go_upto_region 7 with fail
      refine wpG_region_k (fun K hK=>?_)
      refine @wpG_p _ _ _ _ _ (some 4) (-1:Int) _ _ rfl (by rfl) (fun _=>rfl) ?_
      simp only [n1,n3,n4]
      refine wpG_done (fun V31 hv32=>?_)
      have S33 : Hid (St w noB [] V31):=Lib.hid (S11.out.gr hv32)
      clear S11
      clear hv32
      refine ⟨rfl,hK _ _ ?_⟩
      clear hK
      go_wp2_with fail
      go_ret
      refine ⟨?_,S33.out.bel⟩
      show Ending.returned (-1:Int) = _
      (first | rfl | (rw [Gm.ixf_no (by have h_:=HK_.out;have e_ : k = l.length:=(by have:=HLEN.out;omega);rw [e_] at h_;exact h_)]))
set_option maxRecDepth 1000000 in
set_option maxHeartbeats 4000000 in
theorem cnf_any (A : Option Addr) (n c : Nat) (l : List Int) (w : World) (hG : SL w 1 A n c (ic l)) :
    Calls Tryd.prog 49 #[.slice A n c, .func (.func 50) #[] #[]] w fun e w'=>e = .returned (.bool (!(al (Gm.mk_ l) l.length))) ∧ Below w.heap.size w w':=by
  have HGA:=Lib.hid hG
  have HLEN : Hid (l.length = n):=Lib.hid (by have h_:=hG.len;rw [ic_len] at h_;omega)
  have hnbHGA : n ≤ 9223372036854775807:=Nat.le_trans hG.cap hG.bnd
  clear hG
  have S1 : Hid (St w noB [] w):=Lib.hid (St.start w)
  go_enter Tryd.func49,Tryd.ntmps49
  go_upto_region 0 with fail
  refine wpG_region_k (fun K hK=>?_)
  refine @wpG_p _ _ _ _ _ (some 4) (.bool false) _ _ rfl (by rfl) (fun _=>rfl) ?_
  simp only [n1,n3,n4]
  refine wpG_done (fun V2 hv3=>?_)
  have S4 : Hid (St w noB [] V2):=Lib.hid (S1.out.gr hv3)
  clear S1
  clear hv3
  refine ⟨rfl,hK _ _ ?_⟩
  clear hK
  go_upto_region 1 with fail
  refine wpG_region_k (fun K hK=>?_)
  refine @wpG_p _ _ _ _ _ (some 5) (.slice A n c) _ _ rfl (by rfl) (fun _=>rfl) ?_
  simp only [n1,n3,n4]
  refine @wpG_p _ _ _ _ _ (some 6) (.func (.func 50) #[] #[]) _ _ rfl (by rfl) (fun _=>rfl) ?_
  simp only [n1,n3,n4]
  refine @wpG_tk _ _ _ _ _ (some 7) (Gm.ixf l) _ _ rfl (.call (f:=80) (args:=#[.slice A n c, .func (.func 50) #[] #[]]) (by rfl) (fun W=>by go_simp) (fun W hg=>ixf_any _ _ _ l W (HGA.out.gr (S4.out.gr hg).bel))) ?_
  simp only [n1,n3,n4]
  refine @wpG_p _ _ _ _ _ (some 8) (.bool (decide (Gm.ixf l ≥ 0))) _ _ rfl (by rfl) (fun W=>op_int_geq W (Gm.ixf l) 0 rfl rfl rfl Tryd.underlying3) ?_
  simp only [n1,n3,n4]
  refine @wpG_p _ _ _ _ _ (some 4) (.bool (decide (Gm.ixf l ≥ 0))) _ _ rfl (by rfl) (fun _=>rfl) ?_
  simp only [n1,n3,n4]
  refine wpG_done (fun V5 hv6=>?_)
  have S7 : Hid (St w noB [] V5):=Lib.hid (S4.out.gr hv6)
  clear S4
  clear hv6
  refine ⟨rfl,hK _ _ ?_⟩
  clear hK
  go_wp2_with fail
  go_ret
  refine ⟨?_,S7.out.bel⟩
  show Ending.returned (.bool (decide (Gm.ixf l ≥ 0))) = _
  (first | rfl | (rw [← Gm.ixf_ge]))
set_option maxRecDepth 1000000 in
set_option maxHeartbeats 4000000 in
theorem equal_any (B : Gm.Bx) (A : Option Addr) (n c : Nat) (l : List Int) (B2 : Gm.Bx) (A2 : Option Addr) (n2 c2 : Nat) (l2 : List Int) (w : World) (hG : SL w 1 A n c (ic l)) (hG2 : SL w 1 A2 n2 c2 (ic l2)) :
    Calls Tryd.prog 26 #[.agg #[B.a, B.b, B.c, B.d, B.e, B.f, .slice A n c], .agg #[B2.a, B2.b, B2.c, B2.d, B2.e, B2.f, .slice A2 n2 c2]] w fun e w'=>e = .returned (.bool (Gm.same B l B2 l2)) ∧ Below w.heap.size w w':=by
  have HGA:=Lib.hid hG
  have HLEN : Hid (l.length = n):=Lib.hid (by have h_:=hG.len;rw [ic_len] at h_;omega)
  have hnbHGA : n ≤ 9223372036854775807:=Nat.le_trans hG.cap hG.bnd
  clear hG
  have HGB:=Lib.hid hG2
  have HLEN2 : Hid (l2.length = n2):=Lib.hid (by have h_:=hG2.len;rw [ic_len] at h_;omega)
  have hnbHGB : n2 ≤ 9223372036854775807:=Nat.le_trans hG2.cap hG2.bnd
  clear hG2
  have S1 : Hid (St w noB [] w):=Lib.hid (St.start w)
  go_enter Tryd.func26,Tryd.ntmps26
  go_upto_region 0 with fail
  refine wpG_region_k (fun K hK=>?_)
  refine wpG_val (some 2) rfl (by rfl) (fun W2 hg3=>⟨.pointer (some ⟨W2.heap.size,0,none⟩),W2.alloc (.cells #[B.a, B.b, B.c, B.d, B.e, B.f, .slice A n c] 28),by (first | (go_simp;done) | (go_simp <;> rfl)), ?_⟩)
  simp only [n1,n3,n4]
  obtain ⟨g4,U5,hg_,hu_,hS_⟩:=(S1.out.gr hg3).made [B.a, B.b, B.c, B.d, B.e, B.f, .slice A n c] 28
  rw [← hu_,← hg_]
  have S6 : Hid (St w noB [blk g4 28 [B.a, B.b, B.c, B.d, B.e, B.f, .slice A n c]] U5):=Lib.hid hS_
  clear S1
  clear hg_ hu_ hS_ hg3
  refine wpG_val (some 3) rfl (by rfl) (fun W7 hg8=>⟨.pointer (some ⟨W7.heap.size,0,none⟩),W7.alloc (.cells #[B2.a, B2.b, B2.c, B2.d, B2.e, B2.f, .slice A2 n2 c2] 28),by (first | (go_simp;done) | (go_simp <;> rfl)), ?_⟩)
  simp only [n1,n3,n4]
  obtain ⟨g9,U10,hg_,hu_,hS_⟩:=(S6.out.gr hg8).made [B2.a, B2.b, B2.c, B2.d, B2.e, B2.f, .slice A2 n2 c2] 28
  rw [← hu_,← hg_]
  have S11 : Hid (St w noB [blk g9 28 [B2.a, B2.b, B2.c, B2.d, B2.e, B2.f, .slice A2 n2 c2],blk g4 28 [B.a, B.b, B.c, B.d, B.e, B.f, .slice A n c]] U10):=Lib.hid hS_
  clear S6
  clear hg_ hu_ hS_ hg8
  refine @wpG_p _ _ _ _ _ (some 4) (.bool false) _ _ rfl (by rfl) (fun _=>rfl) ?_
  simp only [n1,n3,n4]
  refine wpG_done (fun V12 hv13=>?_)
  have S14 : Hid (St w noB [blk g9 28 [B2.a, B2.b, B2.c, B2.d, B2.e, B2.f, .slice A2 n2 c2],blk g4 28 [B.a, B.b, B.c, B.d, B.e, B.f, .slice A n c]] V12):=Lib.hid (S11.out.gr hv13)
  clear S11
  clear hv13
  refine ⟨rfl,hK _ _ ?_⟩
  clear hK
  go_upto_region 1 with fail
  refine wpG_region_k (fun K hK=>?_)
  refine @wpG_p _ _ _ _ _ (some 5) (.pointer (some ⟨g4,0,none⟩)) _ _ rfl (by rfl) (fun W=>by go_simp) ?_
  simp only [n1,n3,n4]
  refine @wpG_tk _ _ _ _ _ (some 6) (.agg #[B.a, B.b, B.c, B.d, B.e, B.f]) _ _ rfl (.load_mid (by rfl) 25 (.tmp 5) rfl g4 0 rfl [B.a, B.b, B.c, B.d, B.e, B.f] _ (fun W hg=>(S14.out.gr hg).range 1 rfl 0 6 rfl) Tryd.underlying25 rfl (by kernel_rfl)) ?_
  simp only [n1,n3,n4]
  refine @wpG_p _ _ _ _ _ (some 7) (.pointer (some ⟨g9,0,none⟩)) _ _ rfl (by rfl) (fun W=>by go_simp) ?_
  simp only [n1,n3,n4]
  refine @wpG_tk _ _ _ _ _ (some 8) (.agg #[B2.a, B2.b, B2.c, B2.d, B2.e, B2.f]) _ _ rfl (.load_mid (by rfl) 25 (.tmp 7) rfl g9 0 rfl [B2.a, B2.b, B2.c, B2.d, B2.e, B2.f] _ (fun W hg=>(S14.out.gr hg).range 0 rfl 0 6 rfl) Tryd.underlying25 rfl (by kernel_rfl)) ?_
  simp only [n1,n3,n4]
  refine @wpG_p _ _ _ _ _ (some 9) (.bool (decide (B.a = B2.a ∧ B.b = B2.b ∧ B.c = B2.c ∧ B.d = B2.d ∧ B.e = B2.e ∧ B.f = B2.f))) _ _ rfl (by rfl) (fun W=>op_bx_eql W B.a B.b B.c B.d B.e B.f B2.a B2.b B2.c B2.d B2.e B2.f rfl rfl rfl) ?_
  simp only [n1,n3,n4]
  refine @wpG_p _ _ _ _ _ (some 10) (.bool (decide (B.a = B2.a ∧ B.b = B2.b ∧ B.c = B2.c ∧ B.d = B2.d ∧ B.e = B2.e ∧ B.f = B2.f))) _ _ rfl (by rfl) (fun _=>rfl) ?_
  simp only [n1,n3,n4]
  obtain ⟨c15,hc15⟩ : ∃ q_,q_ = (decide (B.a = B2.a ∧ B.b = B2.b ∧ B.c = B2.c ∧ B.d = B2.d ∧ B.e = B2.e ∧ B.f = B2.f)):=⟨_,rfl⟩
  rw [← hc15]
  have Hc15:=Lib.hid hc15
  clear hc15
  cases c15 with
  | true =>
    have f16:=Lib.hid (of_decide_eq_true Hc15.out.symm)
    refine @wpG_p _ _ _ _ _ (some 11) (.pointer (some ⟨g4,6,none⟩)) _ _ rfl (by rfl) (fun W=>by go_simp) ?_
    simp only [n1,n3,n4]
    refine @wpG_r _ _ _ _ _ (some 12) (.slice A n c) _ _ rfl (by rfl) (fun W hg=>by have c:=(S14.out.gr hg).cell 1 rfl 6 rfl;go_simp) ?_
    simp only [n1,n3,n4]
    refine @wpG_p _ _ _ _ _ (some 13) (.pointer (some ⟨g9,6,none⟩)) _ _ rfl (by rfl) (fun W=>by go_simp) ?_
    simp only [n1,n3,n4]
    refine @wpG_r _ _ _ _ _ (some 14) (.slice A2 n2 c2) _ _ rfl (by rfl) (fun W hg=>by have c:=(S14.out.gr hg).cell 0 rfl 6 rfl;go_simp) ?_
    simp only [n1,n3,n4]
    refine @wpG_tk _ _ _ _ _ (some 15) (.bool (decide (l = l2))) _ _ rfl (.call (f:=62) (args:=#[.slice A n c, .slice A2 n2 c2]) (by rfl) (fun W=>by go_simp) (fun W hg=>sleq_any _ _ _ l _ _ _ l2 W (HGA.out.gr (S14.out.gr hg).bel) (HGB.out.gr (S14.out.gr hg).bel))) ?_
    simp only [n1,n3,n4]
    refine @wpG_p _ _ _ _ _ (some 16) (.bool (decide (l = l2))) _ _ rfl (by rfl) (fun W=>by go_simp) ?_
    simp only [n1,n3,n4]
    refine @wpG_p _ _ _ _ _ (some 4) (.bool (decide (l = l2))) _ _ rfl (by rfl) (fun _=>rfl) ?_
    simp only [n1,n3,n4]
    refine wpG_done (fun V17 hv18=>?_)
    have S19 : Hid (St w noB [blk g9 28 [B2.a, B2.b, B2.c, B2.d, B2.e, B2.f, .slice A2 n2 c2],blk g4 28 [B.a, B.b, B.c, B.d, B.e, B.f, .slice A n c]] V17):=Lib.hid (S14.out.gr hv18)
    clear S14
    clear hv18
    refine ⟨rfl,hK _ _ ?_⟩
    clear hK
    go_wp2_with fail
    go_ret
    obtain ⟨c20,hc20⟩ : ∃ q_,q_ = (decide (l = l2)):=⟨_,rfl⟩
    rw [← hc20]
    have Hc20:=Lib.hid hc20
    clear hc20
    cases c20 with
    | true =>
      have f21:=Lib.hid (of_decide_eq_true Hc20.out.symm)
      refine ⟨?_,S19.out.bel⟩
      show Ending.returned (.bool true) = _
      (first | rfl | (have e_f16:=f16.out;have e_f21:=f21.out;exact rb_t (Gm.same_iff.2 ⟨Gm.bx_eq.2 e_f16,e_f21⟩)))
    | false =>
      have f22:=of_decide_eq_false Hc20.out.symm
      refine ⟨?_,S19.out.bel⟩
      show Ending.returned (.bool false) = _
      (first | rfl | (have e_f16:=f16.out;exact rb_f (decide_eq_false (fun h_=>f22 h_.2))))
  | false =>
    have f23:=of_decide_eq_false Hc15.out.symm
    refine @wpG_no _ _ _ _ _ (some 11) _ _ rfl (by rfl) ?_
    simp only [n1,n3,n4]
    refine @wpG_no _ _ _ _ _ (some 12) _ _ rfl (by rfl) ?_
    simp only [n1,n3,n4]
    refine @wpG_no _ _ _ _ _ (some 13) _ _ rfl (by rfl) ?_
    simp only [n1,n3,n4]
    refine @wpG_no _ _ _ _ _ (some 14) _ _ rfl (by rfl) ?_
    simp only [n1,n3,n4]
    refine @wpG_no _ _ _ _ _ (some 15) _ _ rfl (by rfl) ?_
    simp only [n1,n3,n4]
    refine @wpG_p _ _ _ _ _ (some 16) (.bool false) _ _ rfl (by rfl) (fun W=>by go_simp) ?_
    simp only [n1,n3,n4]
    refine @wpG_p _ _ _ _ _ (some 4) (.bool false) _ _ rfl (by rfl) (fun _=>rfl) ?_
    simp only [n1,n3,n4]
    refine wpG_done (fun V24 hv25=>?_)
    have S26 : Hid (St w noB [blk g9 28 [B2.a, B2.b, B2.c, B2.d, B2.e, B2.f, .slice A2 n2 c2],blk g4 28 [B.a, B.b, B.c, B.d, B.e, B.f, .slice A n c]] V24):=Lib.hid (S14.out.gr hv25)
    clear S14
    clear hv25
    refine ⟨rfl,hK _ _ ?_⟩
    clear hK
    go_wp2_with fail
    go_ret
    refine ⟨?_,S26.out.bel⟩
    show Ending.returned (.bool false) = _
    (first | rfl | (exact rb_f (Gm.same_box f23)))
set_option maxRecDepth 1000000 in
set_option maxHeartbeats 4000000 in
theorem count_any (B : Gm.Bx) (A : Option Addr) (n c : Nat) (l : List Int) (m : Int) (w : World) (hG : SL w 1 A n c (ic l)) :
    Calls Tryd.prog 37 #[.agg #[B.a, B.b, B.c, B.d, B.e, B.f, .slice A n c], m] w fun e w'=>e = .returned (Gm.cnt l m : Int) ∧ Below w.heap.size w w':=by
  have HGA:=Lib.hid hG
  have HLEN : Hid (l.length = n):=Lib.hid (by have h_:=hG.len;rw [ic_len] at h_;omega)
  have hnbHGA : n ≤ 9223372036854775807:=Nat.le_trans hG.cap hG.bnd
  clear hG
  have S1 : Hid (St w noB [] w):=Lib.hid (St.start w)
  go_enter Tryd.func37,Tryd.ntmps37
  go_upto_region 0 with fail
  refine wpG_region_k (fun K hK=>?_)
  refine wpG_val (some 2) rfl (by rfl) (fun W2 hg3=>⟨.pointer (some ⟨W2.heap.size,0,none⟩),W2.alloc (.cells #[B.a, B.b, B.c, B.d, B.e, B.f, .slice A n c] 28),by (first | (go_simp;done) | (go_simp <;> rfl)), ?_⟩)
  simp only [n1,n3,n4]
  obtain ⟨g4,U5,hg_,hu_,hS_⟩:=(S1.out.gr hg3).made [B.a, B.b, B.c, B.d, B.e, B.f, .slice A n c] 28
  rw [← hu_,← hg_]
  have S6 : Hid (St w noB [blk g4 28 [B.a, B.b, B.c, B.d, B.e, B.f, .slice A n c]] U5):=Lib.hid hS_
  clear S1
  clear hg_ hu_ hS_ hg3
  refine @wpG_p _ _ _ _ _ (some 4) () _ _ rfl (by rfl) (fun _=>rfl) ?_
  simp only [n1,n3,n4]
  refine wpG_done (fun V7 hv8=>?_)
  have S9 : Hid (St w noB [blk g4 28 [B.a, B.b, B.c, B.d, B.e, B.f, .slice A n c]] V7):=Lib.hid (S6.out.gr hv8)
  clear S6
  clear hv8
  refine ⟨rfl,hK _ _ ?_⟩
  clear hK
  go_upto_region 1 with fail
  refine wpG_region_k (fun K hK=>?_)
  refine @wpG_p _ _ _ _ _ (some 5) () _ _ rfl (by rfl) (fun _=>rfl) ?_
  simp only [n1,n3,n4]
  refine wpG_done (fun V10 hv11=>?_)
  have S12 : Hid (St w noB [blk g4 28 [B.a, B.b, B.c, B.d, B.e, B.f, .slice A n c]] V10):=Lib.hid (S9.out.gr hv11)
  clear S9
  clear hv11
  refine ⟨rfl,hK _ _ ?_⟩
  clear hK
  go_upto_region 2 with fail
  refine wpG_region_k (fun K hK=>?_)
  refine @wpG_p _ _ _ _ _ (some 8) (.pointer (some ⟨g4,6,none⟩)) _ _ rfl (by rfl) (fun W=>by go_simp) ?_
  simp only [n1,n3,n4]
  refine @wpG_r _ _ _ _ _ (some 9) (.slice A n c) _ _ rfl (by rfl) (fun W hg=>by have c:=(S12.out.gr hg).cell 0 rfl 6 rfl;go_simp) ?_
  simp only [n1,n3,n4]
  refine @wpG_p _ _ _ _ _ (some 10) (n : Int) _ _ rfl (by rfl) (fun W=>by go_simp) ?_
  simp only [n1,n3,n4]
  refine @wpG_p _ _ _ _ _ (some 11) () _ _ rfl (by rfl) (fun _=>rfl) ?_
  simp only [n1,n3,n4]
  refine wpG_done (fun V13 hv14=>?_)
  have S15 : Hid (St w noB [blk g4 28 [B.a, B.b, B.c, B.d, B.e, B.f, .slice A n c]] V13):=Lib.hid (S12.out.gr hv14)
  clear S12
  clear hv14
  refine ⟨rfl,hK _ _ ?_⟩
  clear hK
  go_wp2_with fail
  go_loopw [5,11] (fun v5 v11 wr=>∃ (k r : Nat),v5 = .int .i64 (r : Int) ∧ v11 = .int .i64 (k : Int) ∧ r = Gm.cnt (l.take k) m ∧ (r ≤ k ∧ k ≤ n) ∧ St w noB [blk g4 28 [B.a, B.b, B.c, B.d, B.e, B.f, .slice A n c]] wr) (fun _ i _=>n - (intOf i).toNat)
  case atStart=>exact ⟨0,0,rfl,rfl,rfl,⟨Nat.le_refl _,Nat.zero_le _⟩,S15.out⟩
  case round =>
    obtain ⟨k,r,rfl,rfl,hr_,hkn,hS⟩:=hrel
    have HR_:=Lib.hid hr_
    clear hr_
    have SL:=Lib.hid hS
    clear S15 hS
    have S16:=SL
    clear SL
    go_upto_region 3 with fail
    refine wpG_region_k (fun K hK=>?_)
    refine @wpG_p _ _ _ _ _ (some 12) (.bool (decide ((k : Int) < (n : Int)))) _ _ rfl (by rfl) (fun W=>op_int_lss W (k : Int) (n : Int) rfl rfl rfl Tryd.underlying3) ?_
    simp only [n1,n3,n4]
    refine wpG_done (fun V17 hv18=>?_)
    have S19 : Hid (St w noB [blk g4 28 [B.a, B.b, B.c, B.d, B.e, B.f, .slice A n c]] V17):=Lib.hid (S16.out.gr hv18)
    clear S16
    clear hv18
    refine ⟨rfl,hK _ _ ?_⟩
    clear hK
    obtain ⟨c20,hc20⟩ : ∃ q_,q_ = (decide ((k : Int) < (n : Int))):=⟨_,rfl⟩
    rw [← hc20]
    have Hc20:=Lib.hid hc20
    clear hc20
    cases c20 with
    | true =>
      have f21:=of_decide_eq_true Hc20.out.symm
      go_upto_region 4 with fail
      refine wpG_region_k (fun K hK=>?_)
      obtain ⟨b22,o22,rfl⟩:=HGA.out.addr (by decide) (by omega)
      refine @wpG_p _ _ _ _ _ (some 13) (.pointer (some ⟨b22,o22 + k,none⟩)) _ _ rfl (by rfl) (fun W=>by (go_simp <;> first | rfl | omega | (simp;omega))) ?_
      simp only [n1,n3,n4]
      refine @wpG_r _ _ _ _ _ (some 14) (l.getD k 0:Int) _ _ rfl (by rfl) (fun W hg=>by have c:=(((HGA.out.gr ((S19.out.gr hg)).bel).int (l:=l) k (by (have:=HLEN.out;omega)))) 0 _ rfl;(try simp only [Nat.add_zero,Nat.zero_add] at c);go_simp) ?_
      simp only [n1,n3,n4]
      refine @wpG_p _ _ _ _ _ (some 7) (l.getD k 0:Int) _ _ rfl (by rfl) (fun _=>rfl) ?_
      simp only [n1,n3,n4]
      refine wpG_done (fun V23 hv24=>?_)
      have S25 : Hid (St w noB [blk g4 28 [B.a, B.b, B.c, B.d, B.e, B.f, .slice (some ⟨b22,o22,none⟩) n c]] V23):=Lib.hid (S19.out.gr hv24)
      clear S19
      clear hv24
      refine ⟨rfl,hK _ _ ?_⟩
      clear hK
      go_upto_region 5 with fail
      refine wpG_region_k (fun K hK=>?_)
      refine @wpG_p _ _ _ _ _ (some 15) (l.getD k 0:Int) _ _ rfl (by rfl) (fun _=>rfl) ?_
      simp only [n1,n3,n4]
      refine @wpG_p _ _ _ _ _ (some 16) m _ _ rfl (by rfl) (fun _=>rfl) ?_
      simp only [n1,n3,n4]
      refine @wpG_p _ _ _ _ _ (some 17) (.bool (decide ((l.getD k 0) = m))) _ _ rfl (by rfl) (fun W=>op_int_eql W (l.getD k 0) m rfl rfl rfl Tryd.underlying3) ?_
      simp only [n1,n3,n4]
      refine wpG_done (fun V26 hv27=>?_)
      have S28 : Hid (St w noB [blk g4 28 [B.a, B.b, B.c, B.d, B.e, B.f, .slice (some ⟨b22,o22,none⟩) n c]] V26):=Lib.hid (S25.out.gr hv27)
      clear S25
      clear hv27
      refine ⟨rfl,hK _ _ ?_⟩
      clear hK
      obtain ⟨c29,hc29⟩ : ∃ q_,q_ = (decide ((l.getD k 0) = m)):=⟨_,rfl⟩
      rw [← hc29]
      have Hc29:=Lib.hid hc29
      clear hc29
      cases c29 with
      | true =>
        have f30:=Lib.hid (of_decide_eq_true Hc29.out.symm)
        have f30a:=Int.le_of_eq f30.out
        have f30b:=Int.le_of_eq f30.out.symm
        go_upto_region 6 with fail
        refine wpG_region_k (fun K hK=>?_)
        refine @wpG_p _ _ _ _ _ (some 18) (r : Int) _ _ rfl (by rfl) (fun _=>rfl) ?_
        simp only [n1,n3,n4]
        refine @wpG_p _ _ _ _ _ (some 19) ((r : Int) + 1:Int) _ _ rfl (by rfl) (fun W=>op_i_add W (r : Int) 1 (by omega) rfl rfl rfl Tryd.underlying3) ?_
        simp only [n1,n3,n4]
        refine @wpG_p _ _ _ _ _ (some 5) ((r : Int) + 1:Int) _ _ rfl (by rfl) (fun _=>rfl) ?_
        simp only [n1,n3,n4]
        refine wpG_done (fun V31 hv32=>?_)
        have S33 : Hid (St w noB [blk g4 28 [B.a, B.b, B.c, B.d, B.e, B.f, .slice (some ⟨b22,o22,none⟩) n c]] V31):=Lib.hid (S28.out.gr hv32)
        clear S28
        clear hv32
        refine ⟨rfl,hK _ _ ?_⟩
        clear hK
        go_upto_region 7 with fail
        refine wpG_region_k (fun K hK=>?_)
        refine @wpG_p _ _ _ _ _ (some 20) ((k : Int) + 1:Int) _ _ rfl (by rfl) (fun W=>op_i_add W (k : Int) 1 (by omega) rfl rfl rfl Tryd.underlying3) ?_
        simp only [n1,n3,n4]
        refine @wpG_p _ _ _ _ _ (some 11) ((k : Int) + 1:Int) _ _ rfl (by rfl) (fun _=>rfl) ?_
        simp only [n1,n3,n4]
        refine wpG_done (fun V34 hv35=>?_)
        have S36 : Hid (St w noB [blk g4 28 [B.a, B.b, B.c, B.d, B.e, B.f, .slice (some ⟨b22,o22,none⟩) n c]] V34):=Lib.hid (S33.out.gr hv35)
        clear S33
        clear hv35
        refine ⟨rfl,hK _ _ ?_⟩
        clear hK
        go_wp2_with fail
        go_roundw
        have hcs_:=Gm.cnt_take (l:=l) (k:=k) (v:=l.getD k 0) (m:=m) (by rw [List.getD_eq_getElem?_getD,List.getElem?_eq_getElem (show k < l.length by have:=HLEN.out;omega)];rfl)
        case rel=>exact ⟨k + 1,r + 1,(by first | rfl | go_num),(by first | rfl | go_num),(by have e_f30:=f30.out;rw [hcs_,if_pos e_f30,← HR_.out]),(by omega),S36.out⟩
        case measure=>first | (simp only [intOf];omega) | (simp [intOf];done) | (simp [intOf];omega) | omega
      | false =>
        have f37:=of_decide_eq_false Hc29.out.symm
        go_upto_region 7 with fail
        refine wpG_region_k (fun K hK=>?_)
        refine @wpG_p _ _ _ _ _ (some 20) ((k : Int) + 1:Int) _ _ rfl (by rfl) (fun W=>op_i_add W (k : Int) 1 (by omega) rfl rfl rfl Tryd.underlying3) ?_
        simp only [n1,n3,n4]
        refine @wpG_p _ _ _ _ _ (some 11) ((k : Int) + 1:Int) _ _ rfl (by rfl) (fun _=>rfl) ?_
        simp only [n1,n3,n4]
        refine wpG_done (fun V38 hv39=>?_)
        have S40 : Hid (St w noB [blk g4 28 [B.a, B.b, B.c, B.d, B.e, B.f, .slice (some ⟨b22,o22,none⟩) n c]] V38):=Lib.hid (S28.out.gr hv39)
        clear S28
        clear hv39
        refine ⟨rfl,hK _ _ ?_⟩
        clear hK
        go_wp2_with fail
        go_roundw
        have hcs_:=Gm.cnt_take (l:=l) (k:=k) (v:=l.getD k 0) (m:=m) (by rw [List.getD_eq_getElem?_getD,List.getElem?_eq_getElem (show k < l.length by have:=HLEN.out;omega)];rfl)
        case rel=>exact ⟨k + 1,r,(by first | rfl | go_num),(by first | rfl | go_num),(by rw [hcs_,if_neg f37,← HR_.out];rfl),(by omega),S40.out⟩
        case measure=>first | (simp only [intOf];omega) | (simp [intOf];done) | (simp [intOf];omega) | omega
    | false =>
      have f41:=of_decide_eq_false Hc20.out.symm
      go_upto_region 8 with fail
      refine wpG_region_k (fun K hK=>?_)
      refine @wpG_p _ _ _ _ _ (some 21) (r : Int) _ _ rfl (by rfl) (fun _=>rfl) ?_
      simp only [n1,n3,n4]
      refine @wpG_p _ _ _ _ _ (some 4) (r : Int) _ _ rfl (by rfl) (fun _=>rfl) ?_
      simp only [n1,n3,n4]
      refine wpG_done (fun V42 hv43=>?_)
      have S44 : Hid (St w noB [blk g4 28 [B.a, B.b, B.c, B.d, B.e, B.f, .slice A n c]] V42):=Lib.hid (S19.out.gr hv43)
      clear S19
      clear hv43
      refine ⟨rfl,hK _ _ ?_⟩
      clear hK
      go_wp2_with fail
      go_ret
      refine ⟨?_,S44.out.bel⟩
      show Ending.returned (r : Int) = _
      (first | rfl | (have e_ : l.take k = l:=List.take_of_length_le (by have:=HLEN.out;omega);have h_:=HR_.out;rw [e_] at h_;rw [h_]))
theorem Gm.vol_e {B : Gm.Bx} (h : B.emp = true) : B.vol = 0:=Pt.vol_emp h
theorem Gm.vol_ne {B : Gm.Bx} (h : B.emp = false) : ¬ B.vol = 0:=by
  have h1:=Pt.emp_false.1 h
  have h2:=Gm.ix_bd (B:=B) (x:=B.a) (y:=B.b) (z:=B.c) (Gm.inb_iff.2 (by omega))
  omega
set_option maxRecDepth 1000000 in
set_option maxHeartbeats 4000000 in
theorem valid_any (B : Gm.Bx) (A : Option Addr) (n c : Nat) (l : List Int) (w : World) (hG : SL w 1 A n c (ic l)) :
    Calls Tryd.prog 12 #[.agg #[B.a, B.b, B.c, B.d, B.e, B.f, .slice A n c]] w fun e w'=>e = .returned (.bool (decide (Gm.vld B l))) ∧ Below w.heap.size w w':=by
  have HGA:=Lib.hid hG
  have HLEN : Hid (l.length = n):=Lib.hid (by have h_:=hG.len;rw [ic_len] at h_;omega)
  have hnbHGA : n ≤ 9223372036854775807:=Nat.le_trans hG.cap hG.bnd
  clear hG
  have S1 : Hid (St w noB [] w):=Lib.hid (St.start w)
  go_enter Tryd.func12,Tryd.ntmps12
  go_upto_region 0 with fail
  refine wpG_region_k (fun K hK=>?_)
  refine wpG_val (some 1) rfl (by rfl) (fun W2 hg3=>⟨.pointer (some ⟨W2.heap.size,0,none⟩),W2.alloc (.cells #[B.a, B.b, B.c, B.d, B.e, B.f, .slice A n c] 28),by (first | (go_simp;done) | (go_simp <;> rfl)), ?_⟩)
  simp only [n1,n3,n4]
  obtain ⟨g4,U5,hg_,hu_,hS_⟩:=(S1.out.gr hg3).made [B.a, B.b, B.c, B.d, B.e, B.f, .slice A n c] 28
  rw [← hu_,← hg_]
  have S6 : Hid (St w noB [blk g4 28 [B.a, B.b, B.c, B.d, B.e, B.f, .slice A n c]] U5):=Lib.hid hS_
  clear S1
  clear hg_ hu_ hS_ hg3
  refine @wpG_p _ _ _ _ _ (some 2) (.bool false) _ _ rfl (by rfl) (fun _=>rfl) ?_
  simp only [n1,n3,n4]
  refine wpG_done (fun V7 hv8=>?_)
  have S9 : Hid (St w noB [blk g4 28 [B.a, B.b, B.c, B.d, B.e, B.f, .slice A n c]] V7):=Lib.hid (S6.out.gr hv8)
  clear S6
  clear hv8
  refine ⟨rfl,hK _ _ ?_⟩
  clear hK
  go_upto_region 1 with fail
  refine wpK_region_k (by kernel_rfl) (fun K hK=>?_)
  refine wpK_ta (i:=0) (some 3) (v:=.pointer (some ⟨g4,0,none⟩)) rfl rfl (by kernel_rfl) (fun _ _ _ h=>onN_panic h) (Or.inl ⟨by rfl,fun W=>by go_simp⟩) ?_
  simp only [n1,n3,n4]
  refine wpK_tk (i:=1) (some 4) (v:=.agg #[B.a, B.b, B.c, B.d, B.e, B.f]) rfl rfl (by kernel_rfl) (fun _ _ _ h=>onN_panic h) (.load_mid (by rfl) 25 (.tmp 3) rfl g4 0 rfl [B.a, B.b, B.c, B.d, B.e, B.f] _ (fun W hg=>(S9.out.gr (Gr.un hg)).range 0 rfl 0 6 rfl) Tryd.underlying25 rfl (by kernel_rfl)) ?_
  simp only [n1,n3,n4]
  refine wpK_tk (i:=2) (some 5) (v:=.bool (decide (Gm.fits B))) rfl rfl (by kernel_rfl) (fun _ _ _ h=>onN_panic h) (.call (f:=46) (args:=#[.agg #[B.a, B.b, B.c, B.d, B.e, B.f]]) (by rfl) (fun W=>by go_simp) (fun W hg=>fits_any B W)) ?_
  simp only [n1,n3,n4]
  refine wpK_ta (i:=3) (some 6) (v:=.bool (decide (Gm.fits B))) rfl rfl (by kernel_rfl) (fun _ _ _ h=>onN_panic h) (Or.inl ⟨rfl,fun _=>rfl⟩) ?_
  simp only [n1,n3,n4]
  obtain ⟨c10,hc10⟩ : ∃ q_,q_ = (decide (Gm.fits B)):=⟨_,rfl⟩
  rw [← hc10]
  have Hc10:=Lib.hid hc10
  clear hc10
  cases c10 with
  | true =>
    have f11:=Lib.hid (of_decide_eq_true Hc10.out.symm)
    refine wpK_ta (i:=4) (some 7) (v:=.pointer (some ⟨g4,0,none⟩)) rfl rfl (by kernel_rfl) (fun _ _ _ h=>onN_panic h) (Or.inl ⟨by rfl,fun W=>by go_simp⟩) ?_
    simp only [n1,n3,n4]
    refine wpK_ta (i:=6) (some 9) (v:=.agg #[(), (), (), (), (), ()]) rfl rfl (by kernel_rfl) (fun _ _ _ h=>onN_panic h) (Or.inl ⟨by rfl,fun W=>by go_simp⟩) ?_
    simp only [n1,n3,n4]
    refine wpK_tk (i:=5) (some 8) (v:=.agg #[B.a, B.b, B.c, B.d, B.e, B.f]) rfl rfl (by kernel_rfl) (fun _ _ _ h=>onN_panic h) (.load_mid (by rfl) 25 (.tmp 7) rfl g4 0 rfl [B.a, B.b, B.c, B.d, B.e, B.f] _ (fun W hg=>(S9.out.gr (Gr.un hg)).range 0 rfl 0 6 rfl) Tryd.underlying25 rfl (by kernel_rfl)) ?_
    simp only [n1,n3,n4]
    refine wpK_ta (i:=7) (some 10) (v:=.bool (decide (B.a = 0 ∧ B.b = 0 ∧ B.c = 0 ∧ B.d = 0 ∧ B.e = 0 ∧ B.f = 0))) rfl rfl (by kernel_rfl) (fun _ _ _ h=>onN_panic h) (Or.inl ⟨by rfl,fun W=>by exact op_bx_eql W B.a B.b B.c B.d B.e B.f 0 0 0 0 0 0 rfl rfl rfl⟩) ?_
    simp only [n1,n3,n4]
    refine wpK_ta (i:=8) (some 11) (v:=.bool (decide (B.a = 0 ∧ B.b = 0 ∧ B.c = 0 ∧ B.d = 0 ∧ B.e = 0 ∧ B.f = 0))) rfl rfl (by kernel_rfl) (fun _ _ _ h=>onN_panic h) (Or.inl ⟨rfl,fun _=>rfl⟩) ?_
    simp only [n1,n3,n4]
    obtain ⟨c12,hc12⟩ : ∃ q_,q_ = (decide (B.a = 0 ∧ B.b = 0 ∧ B.c = 0 ∧ B.d = 0 ∧ B.e = 0 ∧ B.f = 0)):=⟨_,rfl⟩
    rw [← hc12]
    have Hc12:=Lib.hid hc12
    clear hc12
    cases c12 with
    | true =>
      have f13:=Lib.hid (of_decide_eq_true Hc12.out.symm)
      refine wpK_ta (i:=9) (some 12) rfl rfl (by kernel_rfl) (fun _ _ _ h=>onN_panic h) (Or.inr ⟨by rfl,rfl⟩) ?_
      simp only [n1,n3,n4]
      refine wpK_ta (i:=10) (some 13) rfl rfl (by kernel_rfl) (fun _ _ _ h=>onN_panic h) (Or.inr ⟨by rfl,rfl⟩) ?_
      simp only [n1,n3,n4]
      refine wpK_ta (i:=11) (some 14) rfl rfl (by kernel_rfl) (fun _ _ _ h=>onN_panic h) (Or.inr ⟨by rfl,rfl⟩) ?_
      simp only [n1,n3,n4]
      refine wpK_ta (i:=12) (some 15) rfl rfl (by kernel_rfl) (fun _ _ _ h=>onN_panic h) (Or.inr ⟨by rfl,rfl⟩) ?_
      simp only [n1,n3,n4]
      refine wpK_ta (i:=13) (some 16) (v:=.bool true) rfl rfl (by kernel_rfl) (fun _ _ _ h=>onN_panic h) (Or.inl ⟨by rfl,fun W=>by go_simp⟩) ?_
      simp only [n1,n3,n4]
      refine wpK_ta (i:=14) (some 17) (v:=.bool true) rfl rfl (by kernel_rfl) (fun _ _ _ h=>onN_panic h) (Or.inl ⟨by rfl,fun W=>by go_simp⟩) ?_
      simp only [n1,n3,n4]
      refine wpK_ta (i:=15) (some 18) (v:=.bool true) rfl rfl (by kernel_rfl) (fun _ _ _ h=>onN_panic h) (Or.inl ⟨rfl,fun _=>rfl⟩) ?_
      simp only [n1,n3,n4]
      refine wpK_ta (i:=16) (some 19) (v:=.pointer (some ⟨g4,6,none⟩)) rfl rfl (by kernel_rfl) (fun _ _ _ h=>onN_panic h) (Or.inl ⟨by rfl,fun W=>by go_simp⟩) ?_
      simp only [n1,n3,n4]
      refine wpK_ta (i:=19) (some 22) (v:=.pointer (some ⟨g4,0,none⟩)) rfl rfl (by kernel_rfl) (fun _ _ _ h=>onN_panic h) (Or.inl ⟨by rfl,fun W=>by go_simp⟩) ?_
      simp only [n1,n3,n4]
      refine wpK_tk (i:=17) (some 20) (v:=.slice A n c) rfl rfl (by kernel_rfl) (fun _ _ _ h=>onN_panic h) (.val (by rfl) (fun W hg=>by have c:=(S9.out.gr (Gr.un hg)).cell 0 rfl 6 rfl;go_simp)) ?_
      simp only [n1,n3,n4]
      refine wpK_ta (i:=18) (some 21) (v:=(n : Int)) rfl rfl (by kernel_rfl) (fun _ _ _ h=>onN_panic h) (Or.inl ⟨by rfl,fun W=>by go_simp⟩) ?_
      simp only [n1,n3,n4]
      refine wpK_tk (i:=20) (some 23) (v:=.agg #[B.a, B.b, B.c, B.d, B.e, B.f]) rfl rfl (by kernel_rfl) (fun _ _ _ h=>onN_panic h) (.load_mid (by rfl) 25 (.tmp 22) rfl g4 0 rfl [B.a, B.b, B.c, B.d, B.e, B.f] _ (fun W hg=>(S9.out.gr (Gr.un hg)).range 0 rfl 0 6 rfl) Tryd.underlying25 rfl (by kernel_rfl)) ?_
      simp only [n1,n3,n4]
      refine wpK_tk (i:=21) (some 24) (v:=B.vol) rfl rfl (by kernel_rfl) (fun _ _ _ h=>onN_panic h) (.call (f:=48) (args:=#[.agg #[B.a, B.b, B.c, B.d, B.e, B.f]]) (by rfl) (fun W=>by go_simp) (fun W hg=>pvol_b W B (by have e_f11:=f11.out;have e_f13:=f13.out;exact e_f11.1))) ?_
      simp only [n1,n3,n4]
      refine wpK_ta (i:=22) (some 25) (v:=.bool (decide ((n : Int) = B.vol))) rfl rfl (by kernel_rfl) (fun _ _ _ h=>onN_panic h) (Or.inl ⟨by rfl,fun W=>by exact op_int_eql W (n : Int) B.vol rfl rfl rfl Tryd.underlying3⟩) ?_
      simp only [n1,n3,n4]
      refine wpK_ta (i:=23) (some 26) (v:=.bool (decide ((n : Int) = B.vol))) rfl rfl (by kernel_rfl) (fun _ _ _ h=>onN_panic h) (Or.inl ⟨by rfl,fun W=>by go_simp⟩) ?_
      simp only [n1,n3,n4]
      refine wpK_ta (i:=24) (some 27) (v:=.bool (decide ((n : Int) = B.vol))) rfl rfl (by kernel_rfl) (fun _ _ _ h=>onN_panic h) (Or.inl ⟨rfl,fun _=>rfl⟩) ?_
      simp only [n1,n3,n4]
      obtain ⟨c14,hc14⟩ : ∃ q_,q_ = (decide ((n : Int) = B.vol)):=⟨_,rfl⟩
      rw [← hc14]
      have Hc14:=Lib.hid hc14
      clear hc14
      cases c14 with
      | true =>
        have f15:=Lib.hid (of_decide_eq_true Hc14.out.symm)
        have f15a:=Int.le_of_eq f15.out
        have f15b:=Int.le_of_eq f15.out.symm
        refine wpK_ta (i:=25) (some 28) (v:=.pointer (some ⟨g4,6,none⟩)) rfl rfl (by kernel_rfl) (fun _ _ _ h=>onN_panic h) (Or.inl ⟨by rfl,fun W=>by go_simp⟩) ?_
        simp only [n1,n3,n4]
        refine wpK_tk (i:=26) (some 29) (v:=.slice A n c) rfl rfl (by kernel_rfl) (fun _ _ _ h=>onN_panic h) (.val (by rfl) (fun W hg=>by have c:=(S9.out.gr (Gr.un hg)).cell 0 rfl 6 rfl;go_simp)) ?_
        simp only [n1,n3,n4]
        refine wpK_tk (i:=27) (some 30) (v:=.bool (!(al (Gm.mk_ l) l.length))) rfl rfl (by kernel_rfl) (fun _ _ _ h=>onN_panic h) (.call (f:=49) (args:=#[.slice A n c, .func (.func 50) #[] #[]]) (by rfl) (fun W=>by go_simp) (fun W hg=>cnf_any _ _ _ l W (HGA.out.gr (S9.out.gr (Gr.un hg)).bel))) ?_
        simp only [n1,n3,n4]
        refine wpK_ta (i:=28) (some 31) (v:=.bool (al (Gm.mk_ l) l.length)) rfl rfl (by kernel_rfl) (fun _ _ _ h=>onN_panic h) (Or.inl ⟨by rfl,fun W=>by go_simp⟩) ?_
        simp only [n1,n3,n4]
        refine wpK_ta (i:=29) (some 32) (v:=.bool (al (Gm.mk_ l) l.length)) rfl rfl (by kernel_rfl) (fun _ _ _ h=>onN_panic h) (Or.inl ⟨by rfl,fun W=>by go_simp⟩) ?_
        simp only [n1,n3,n4]
        refine wpK_ta (i:=30) (some 2) (v:=.bool (al (Gm.mk_ l) l.length)) rfl rfl (by kernel_rfl) (fun _ _ _ h=>onN_panic h) (Or.inl ⟨rfl,fun _=>rfl⟩) ?_
        simp only [n1,n3,n4]
        refine wpK_done (by kernel_rfl) (fun V16 hv17=>?_) _
        have S18 : Hid (St w noB [blk g4 28 [B.a, B.b, B.c, B.d, B.e, B.f, .slice A n c]] V16):=Lib.hid (S9.out.gr (Gr.un hv17))
        clear S9
        clear hv17
        refine ⟨rfl,hK _ _ ?_⟩
        clear hK
        go_wp2_with fail
        go_ret
        obtain ⟨c19,hc19⟩ : ∃ q_,q_ = ((al (Gm.mk_ l) l.length)):=⟨_,rfl⟩
        rw [← hc19]
        have Hc19:=Lib.hid hc19
        clear hc19
        cases c19 with
        | true =>
          have f20:=Lib.hid (Hc19.out.symm)
          refine ⟨?_,S18.out.bel⟩
          show Ending.returned (.bool true) = _
          (first | rfl | (have e_f11:=f11.out;have e_f13:=f13.out;have e_f15:=f15.out;have e_f20:=f20.out;have hlen_:=HLEN.out;exact rb_t (decide_eq_true ⟨e_f11.1,by rintro ⟨h1_,h2_⟩;exact h2_ (Gm.bx_eq.2 e_f13),e_f11.2,by omega,(show al (Gm.mk_ l) l.length = true from by first | exact e_f20 | simpa using e_f20)⟩)))
        | false =>
          have f21:=Lib.hid (Hc19.out.symm)
          refine ⟨?_,S18.out.bel⟩
          show Ending.returned (.bool false) = _
          (first | rfl | (have e_f11:=f11.out;have e_f13:=f13.out;have e_f15:=f15.out;have e_f21:=f21.out;have hlen_:=HLEN.out;refine rb_f (decide_eq_false (fun hv=>?_));obtain ⟨v1_,v2_,v3_,v4_,v5_⟩:=hv;have a_:=e_f21;rw [show al (Gm.mk_ l) l.length = true from v5_] at a_;simp at a_))
      | false =>
        have f22:=of_decide_eq_false Hc14.out.symm
        refine wpK_ta (i:=25) (some 28) rfl rfl (by kernel_rfl) (fun _ _ _ h=>onN_panic h) (Or.inr ⟨by rfl,rfl⟩) ?_
        simp only [n1,n3,n4]
        refine wpK_ta (i:=26) (some 29) rfl rfl (by kernel_rfl) (fun _ _ _ h=>onN_panic h) (Or.inr ⟨by rfl,rfl⟩) ?_
        simp only [n1,n3,n4]
        refine wpK_ta (i:=27) (some 30) rfl rfl (by kernel_rfl) (fun _ _ _ h=>onN_panic h) (Or.inr ⟨by rfl,rfl⟩) ?_
        simp only [n1,n3,n4]
        refine wpK_ta (i:=28) (some 31) rfl rfl (by kernel_rfl) (fun _ _ _ h=>onN_panic h) (Or.inr ⟨by rfl,rfl⟩) ?_
        simp only [n1,n3,n4]
        refine wpK_ta (i:=29) (some 32) (v:=.bool false) rfl rfl (by kernel_rfl) (fun _ _ _ h=>onN_panic h) (Or.inl ⟨by rfl,fun W=>by go_simp⟩) ?_
        simp only [n1,n3,n4]
        refine wpK_ta (i:=30) (some 2) (v:=.bool false) rfl rfl (by kernel_rfl) (fun _ _ _ h=>onN_panic h) (Or.inl ⟨rfl,fun _=>rfl⟩) ?_
        simp only [n1,n3,n4]
        refine wpK_done (by kernel_rfl) (fun V23 hv24=>?_) _
        have S25 : Hid (St w noB [blk g4 28 [B.a, B.b, B.c, B.d, B.e, B.f, .slice A n c]] V23):=Lib.hid (S9.out.gr (Gr.un hv24))
        clear S9
        clear hv24
        refine ⟨rfl,hK _ _ ?_⟩
        clear hK
        go_wp2_with fail
        go_ret
        refine ⟨?_,S25.out.bel⟩
        show Ending.returned (.bool false) = _
        (first | rfl | (have e_f11:=f11.out;have e_f13:=f13.out;have hlen_:=HLEN.out;refine rb_f (decide_eq_false (fun hv=>?_));obtain ⟨v1_,v2_,v3_,v4_,v5_⟩:=hv;omega))
    | false =>
      have f26:=of_decide_eq_false Hc12.out.symm
      refine wpK_ta (i:=9) (some 12) (v:=.pointer (some ⟨g4,0,none⟩)) rfl rfl (by kernel_rfl) (fun _ _ _ h=>onN_panic h) (Or.inl ⟨by rfl,fun W=>by go_simp⟩) ?_
      simp only [n1,n3,n4]
      refine wpK_tk (i:=10) (some 13) (v:=.agg #[B.a, B.b, B.c, B.d, B.e, B.f]) rfl rfl (by kernel_rfl) (fun _ _ _ h=>onN_panic h) (.load_mid (by rfl) 25 (.tmp 12) rfl g4 0 rfl [B.a, B.b, B.c, B.d, B.e, B.f] _ (fun W hg=>(S9.out.gr (Gr.un hg)).range 0 rfl 0 6 rfl) Tryd.underlying25 rfl (by kernel_rfl)) ?_
      simp only [n1,n3,n4]
      refine wpK_tk (i:=11) (some 14) (v:=.bool B.emp) rfl rfl (by kernel_rfl) (fun _ _ _ h=>onN_panic h) (.call (f:=47) (args:=#[.agg #[B.a, B.b, B.c, B.d, B.e, B.f]]) (by rfl) (fun W=>by go_simp) (fun W hg=>pemp_b W B)) ?_
      simp only [n1,n3,n4]
      refine wpK_ta (i:=12) (some 15) (v:=.bool (!B.emp)) rfl rfl (by kernel_rfl) (fun _ _ _ h=>onN_panic h) (Or.inl ⟨by rfl,fun W=>by go_simp⟩) ?_
      simp only [n1,n3,n4]
      refine wpK_ta (i:=13) (some 16) (v:=.bool (!B.emp)) rfl rfl (by kernel_rfl) (fun _ _ _ h=>onN_panic h) (Or.inl ⟨by rfl,fun W=>by go_simp⟩) ?_
      simp only [n1,n3,n4]
      refine wpK_ta (i:=14) (some 17) (v:=.bool (!B.emp)) rfl rfl (by kernel_rfl) (fun _ _ _ h=>onN_panic h) (Or.inl ⟨by rfl,fun W=>by go_simp⟩) ?_
      simp only [n1,n3,n4]
      refine wpK_ta (i:=15) (some 18) (v:=.bool (!B.emp)) rfl rfl (by kernel_rfl) (fun _ _ _ h=>onN_panic h) (Or.inl ⟨rfl,fun _=>rfl⟩) ?_
      simp only [n1,n3,n4]
      obtain ⟨c27,hc27⟩ : ∃ q_,q_ = (!B.emp):=⟨_,rfl⟩
      rw [← hc27]
      have Hc27:=Lib.hid hc27
      clear hc27
      cases c27 with
      | true =>
        have f28:=Lib.hid ((bnt Hc27.out))
        refine wpK_ta (i:=16) (some 19) (v:=.pointer (some ⟨g4,6,none⟩)) rfl rfl (by kernel_rfl) (fun _ _ _ h=>onN_panic h) (Or.inl ⟨by rfl,fun W=>by go_simp⟩) ?_
        simp only [n1,n3,n4]
        refine wpK_ta (i:=19) (some 22) (v:=.pointer (some ⟨g4,0,none⟩)) rfl rfl (by kernel_rfl) (fun _ _ _ h=>onN_panic h) (Or.inl ⟨by rfl,fun W=>by go_simp⟩) ?_
        simp only [n1,n3,n4]
        refine wpK_tk (i:=17) (some 20) (v:=.slice A n c) rfl rfl (by kernel_rfl) (fun _ _ _ h=>onN_panic h) (.val (by rfl) (fun W hg=>by have c:=(S9.out.gr (Gr.un hg)).cell 0 rfl 6 rfl;go_simp)) ?_
        simp only [n1,n3,n4]
        refine wpK_ta (i:=18) (some 21) (v:=(n : Int)) rfl rfl (by kernel_rfl) (fun _ _ _ h=>onN_panic h) (Or.inl ⟨by rfl,fun W=>by go_simp⟩) ?_
        simp only [n1,n3,n4]
        refine wpK_tk (i:=20) (some 23) (v:=.agg #[B.a, B.b, B.c, B.d, B.e, B.f]) rfl rfl (by kernel_rfl) (fun _ _ _ h=>onN_panic h) (.load_mid (by rfl) 25 (.tmp 22) rfl g4 0 rfl [B.a, B.b, B.c, B.d, B.e, B.f] _ (fun W hg=>(S9.out.gr (Gr.un hg)).range 0 rfl 0 6 rfl) Tryd.underlying25 rfl (by kernel_rfl)) ?_
        simp only [n1,n3,n4]
        refine wpK_tk (i:=21) (some 24) (v:=B.vol) rfl rfl (by kernel_rfl) (fun _ _ _ h=>onN_panic h) (.call (f:=48) (args:=#[.agg #[B.a, B.b, B.c, B.d, B.e, B.f]]) (by rfl) (fun W=>by go_simp) (fun W hg=>pvol_b W B (by have e_f11:=f11.out;have e_f28:=f28.out;exact e_f11.1))) ?_
        simp only [n1,n3,n4]
        refine wpK_ta (i:=22) (some 25) (v:=.bool (decide ((n : Int) = B.vol))) rfl rfl (by kernel_rfl) (fun _ _ _ h=>onN_panic h) (Or.inl ⟨by rfl,fun W=>by exact op_int_eql W (n : Int) B.vol rfl rfl rfl Tryd.underlying3⟩) ?_
        simp only [n1,n3,n4]
        refine wpK_ta (i:=23) (some 26) (v:=.bool (decide ((n : Int) = B.vol))) rfl rfl (by kernel_rfl) (fun _ _ _ h=>onN_panic h) (Or.inl ⟨by rfl,fun W=>by go_simp⟩) ?_
        simp only [n1,n3,n4]
        refine wpK_ta (i:=24) (some 27) (v:=.bool (decide ((n : Int) = B.vol))) rfl rfl (by kernel_rfl) (fun _ _ _ h=>onN_panic h) (Or.inl ⟨rfl,fun _=>rfl⟩) ?_
        simp only [n1,n3,n4]
        obtain ⟨c29,hc29⟩ : ∃ q_,q_ = (decide ((n : Int) = B.vol)):=⟨_,rfl⟩
        rw [← hc29]
        have Hc29:=Lib.hid hc29
        clear hc29
        cases c29 with
        | true =>
          have f30:=Lib.hid (of_decide_eq_true Hc29.out.symm)
          have f30a:=Int.le_of_eq f30.out
          have f30b:=Int.le_of_eq f30.out.symm
          refine wpK_ta (i:=25) (some 28) (v:=.pointer (some ⟨g4,6,none⟩)) rfl rfl (by kernel_rfl) (fun _ _ _ h=>onN_panic h) (Or.inl ⟨by rfl,fun W=>by go_simp⟩) ?_
          simp only [n1,n3,n4]
          refine wpK_tk (i:=26) (some 29) (v:=.slice A n c) rfl rfl (by kernel_rfl) (fun _ _ _ h=>onN_panic h) (.val (by rfl) (fun W hg=>by have c:=(S9.out.gr (Gr.un hg)).cell 0 rfl 6 rfl;go_simp)) ?_
          simp only [n1,n3,n4]
          refine wpK_tk (i:=27) (some 30) (v:=.bool (!(al (Gm.mk_ l) l.length))) rfl rfl (by kernel_rfl) (fun _ _ _ h=>onN_panic h) (.call (f:=49) (args:=#[.slice A n c, .func (.func 50) #[] #[]]) (by rfl) (fun W=>by go_simp) (fun W hg=>cnf_any _ _ _ l W (HGA.out.gr (S9.out.gr (Gr.un hg)).bel))) ?_
          simp only [n1,n3,n4]
          refine wpK_ta (i:=28) (some 31) (v:=.bool (al (Gm.mk_ l) l.length)) rfl rfl (by kernel_rfl) (fun _ _ _ h=>onN_panic h) (Or.inl ⟨by rfl,fun W=>by go_simp⟩) ?_
          simp only [n1,n3,n4]
          refine wpK_ta (i:=29) (some 32) (v:=.bool (al (Gm.mk_ l) l.length)) rfl rfl (by kernel_rfl) (fun _ _ _ h=>onN_panic h) (Or.inl ⟨by rfl,fun W=>by go_simp⟩) ?_
          simp only [n1,n3,n4]
          refine wpK_ta (i:=30) (some 2) (v:=.bool (al (Gm.mk_ l) l.length)) rfl rfl (by kernel_rfl) (fun _ _ _ h=>onN_panic h) (Or.inl ⟨rfl,fun _=>rfl⟩) ?_
          simp only [n1,n3,n4]
          refine wpK_done (by kernel_rfl) (fun V31 hv32=>?_) _
          have S33 : Hid (St w noB [blk g4 28 [B.a, B.b, B.c, B.d, B.e, B.f, .slice A n c]] V31):=Lib.hid (S9.out.gr (Gr.un hv32))
          clear S9
          clear hv32
          refine ⟨rfl,hK _ _ ?_⟩
          clear hK
          go_wp2_with fail
          go_ret
          obtain ⟨c34,hc34⟩ : ∃ q_,q_ = ((al (Gm.mk_ l) l.length)):=⟨_,rfl⟩
          rw [← hc34]
          have Hc34:=Lib.hid hc34
          clear hc34
          cases c34 with
          | true =>
            have f35:=Lib.hid (Hc34.out.symm)
            refine ⟨?_,S33.out.bel⟩
            show Ending.returned (.bool true) = _
            (first | rfl | (have e_f11:=f11.out;have e_f28:=f28.out;have e_f30:=f30.out;have e_f35:=f35.out;have hlen_:=HLEN.out;exact rb_t (decide_eq_true ⟨e_f11.1,by rintro ⟨h1_,h2_⟩;have h3_ : ¬ B.vol = 0:=(Gm.vol_ne (by simpa using e_f28));omega,e_f11.2,by omega,(show al (Gm.mk_ l) l.length = true from by first | exact e_f35 | simpa using e_f35)⟩)))
          | false =>
            have f36:=Lib.hid (Hc34.out.symm)
            refine ⟨?_,S33.out.bel⟩
            show Ending.returned (.bool false) = _
            (first | rfl | (have e_f11:=f11.out;have e_f28:=f28.out;have e_f30:=f30.out;have e_f36:=f36.out;have hlen_:=HLEN.out;refine rb_f (decide_eq_false (fun hv=>?_));obtain ⟨v1_,v2_,v3_,v4_,v5_⟩:=hv;have a_:=e_f36;rw [show al (Gm.mk_ l) l.length = true from v5_] at a_;simp at a_))
        | false =>
          have f37:=of_decide_eq_false Hc29.out.symm
          refine wpK_ta (i:=25) (some 28) rfl rfl (by kernel_rfl) (fun _ _ _ h=>onN_panic h) (Or.inr ⟨by rfl,rfl⟩) ?_
          simp only [n1,n3,n4]
          refine wpK_ta (i:=26) (some 29) rfl rfl (by kernel_rfl) (fun _ _ _ h=>onN_panic h) (Or.inr ⟨by rfl,rfl⟩) ?_
          simp only [n1,n3,n4]
          refine wpK_ta (i:=27) (some 30) rfl rfl (by kernel_rfl) (fun _ _ _ h=>onN_panic h) (Or.inr ⟨by rfl,rfl⟩) ?_
          simp only [n1,n3,n4]
          refine wpK_ta (i:=28) (some 31) rfl rfl (by kernel_rfl) (fun _ _ _ h=>onN_panic h) (Or.inr ⟨by rfl,rfl⟩) ?_
          simp only [n1,n3,n4]
          refine wpK_ta (i:=29) (some 32) (v:=.bool false) rfl rfl (by kernel_rfl) (fun _ _ _ h=>onN_panic h) (Or.inl ⟨by rfl,fun W=>by go_simp⟩) ?_
          simp only [n1,n3,n4]
          refine wpK_ta (i:=30) (some 2) (v:=.bool false) rfl rfl (by kernel_rfl) (fun _ _ _ h=>onN_panic h) (Or.inl ⟨rfl,fun _=>rfl⟩) ?_
          simp only [n1,n3,n4]
          refine wpK_done (by kernel_rfl) (fun V38 hv39=>?_) _
          have S40 : Hid (St w noB [blk g4 28 [B.a, B.b, B.c, B.d, B.e, B.f, .slice A n c]] V38):=Lib.hid (S9.out.gr (Gr.un hv39))
          clear S9
          clear hv39
          refine ⟨rfl,hK _ _ ?_⟩
          clear hK
          go_wp2_with fail
          go_ret
          refine ⟨?_,S40.out.bel⟩
          show Ending.returned (.bool false) = _
          (first | rfl | (have e_f11:=f11.out;have e_f28:=f28.out;have hlen_:=HLEN.out;refine rb_f (decide_eq_false (fun hv=>?_));obtain ⟨v1_,v2_,v3_,v4_,v5_⟩:=hv;omega))
      | false =>
        have f41:=Lib.hid ((bnf Hc27.out))
        refine wpK_ta (i:=16) (some 19) rfl rfl (by kernel_rfl) (fun _ _ _ h=>onN_panic h) (Or.inr ⟨by rfl,rfl⟩) ?_
        simp only [n1,n3,n4]
        refine wpK_ta (i:=17) (some 20) rfl rfl (by kernel_rfl) (fun _ _ _ h=>onN_panic h) (Or.inr ⟨by rfl,rfl⟩) ?_
        simp only [n1,n3,n4]
        refine wpK_ta (i:=18) (some 21) rfl rfl (by kernel_rfl) (fun _ _ _ h=>onN_panic h) (Or.inr ⟨by rfl,rfl⟩) ?_
        simp only [n1,n3,n4]
        refine wpK_ta (i:=19) (some 22) rfl rfl (by kernel_rfl) (fun _ _ _ h=>onN_panic h) (Or.inr ⟨by rfl,rfl⟩) ?_
        simp only [n1,n3,n4]
        refine wpK_ta (i:=20) (some 23) rfl rfl (by kernel_rfl) (fun _ _ _ h=>onN_panic h) (Or.inr ⟨by rfl,rfl⟩) ?_
        simp only [n1,n3,n4]
        refine wpK_ta (i:=21) (some 24) rfl rfl (by kernel_rfl) (fun _ _ _ h=>onN_panic h) (Or.inr ⟨by rfl,rfl⟩) ?_
        simp only [n1,n3,n4]
        refine wpK_ta (i:=22) (some 25) rfl rfl (by kernel_rfl) (fun _ _ _ h=>onN_panic h) (Or.inr ⟨by rfl,rfl⟩) ?_
        simp only [n1,n3,n4]
        refine wpK_ta (i:=23) (some 26) (v:=.bool false) rfl rfl (by kernel_rfl) (fun _ _ _ h=>onN_panic h) (Or.inl ⟨by rfl,fun W=>by go_simp⟩) ?_
        simp only [n1,n3,n4]
        refine wpK_ta (i:=24) (some 27) (v:=.bool false) rfl rfl (by kernel_rfl) (fun _ _ _ h=>onN_panic h) (Or.inl ⟨rfl,fun _=>rfl⟩) ?_
        simp only [n1,n3,n4]
        refine wpK_ta (i:=25) (some 28) rfl rfl (by kernel_rfl) (fun _ _ _ h=>onN_panic h) (Or.inr ⟨by rfl,rfl⟩) ?_
        simp only [n1,n3,n4]
        refine wpK_ta (i:=26) (some 29) rfl rfl (by kernel_rfl) (fun _ _ _ h=>onN_panic h) (Or.inr ⟨by rfl,rfl⟩) ?_
        simp only [n1,n3,n4]
        refine wpK_ta (i:=27) (some 30) rfl rfl (by kernel_rfl) (fun _ _ _ h=>onN_panic h) (Or.inr ⟨by rfl,rfl⟩) ?_
        simp only [n1,n3,n4]
        refine wpK_ta (i:=28) (some 31) rfl rfl (by kernel_rfl) (fun _ _ _ h=>onN_panic h) (Or.inr ⟨by rfl,rfl⟩) ?_
        simp only [n1,n3,n4]
        refine wpK_ta (i:=29) (some 32) (v:=.bool false) rfl rfl (by kernel_rfl) (fun _ _ _ h=>onN_panic h) (Or.inl ⟨by rfl,fun W=>by go_simp⟩) ?_
        simp only [n1,n3,n4]
        refine wpK_ta (i:=30) (some 2) (v:=.bool false) rfl rfl (by kernel_rfl) (fun _ _ _ h=>onN_panic h) (Or.inl ⟨rfl,fun _=>rfl⟩) ?_
        simp only [n1,n3,n4]
        refine wpK_done (by kernel_rfl) (fun V42 hv43=>?_) _
        have S44 : Hid (St w noB [blk g4 28 [B.a, B.b, B.c, B.d, B.e, B.f, .slice A n c]] V42):=Lib.hid (S9.out.gr (Gr.un hv43))
        clear S9
        clear hv43
        refine ⟨rfl,hK _ _ ?_⟩
        clear hK
        go_wp2_with fail
        go_ret
        refine ⟨?_,S44.out.bel⟩
        show Ending.returned (.bool false) = _
        (first | rfl | (have e_f11:=f11.out;have e_f41:=f41.out;have hlen_:=HLEN.out;refine rb_f (decide_eq_false (fun hv=>?_));obtain ⟨v1_,v2_,v3_,v4_,v5_⟩:=hv;exact v2_ ⟨Gm.vol_e (by simpa using e_f41),fun h_=>f26 (Gm.bx_eq.1 h_)⟩))
  | false =>
    have f45:=Lib.hid (of_decide_eq_false Hc10.out.symm)
    refine wpK_ta (i:=4) (some 7) rfl rfl (by kernel_rfl) (fun _ _ _ h=>onN_panic h) (Or.inr ⟨by rfl,rfl⟩) ?_
    simp only [n1,n3,n4]
    refine wpK_ta (i:=5) (some 8) rfl rfl (by kernel_rfl) (fun _ _ _ h=>onN_panic h) (Or.inr ⟨by rfl,rfl⟩) ?_
    simp only [n1,n3,n4]
    refine wpK_ta (i:=6) (some 9) rfl rfl (by kernel_rfl) (fun _ _ _ h=>onN_panic h) (Or.inr ⟨by rfl,rfl⟩) ?_
    simp only [n1,n3,n4]
    refine wpK_ta (i:=7) (some 10) rfl rfl (by kernel_rfl) (fun _ _ _ h=>onN_panic h) (Or.inr ⟨by rfl,rfl⟩) ?_
    simp only [n1,n3,n4]
    refine wpK_ta (i:=8) (some 11) rfl rfl (by kernel_rfl) (fun _ _ _ h=>onN_panic h) (Or.inr ⟨by rfl,rfl⟩) ?_
    simp only [n1,n3,n4]
    refine wpK_ta (i:=9) (some 12) rfl rfl (by kernel_rfl) (fun _ _ _ h=>onN_panic h) (Or.inr ⟨by rfl,rfl⟩) ?_
    simp only [n1,n3,n4]
    refine wpK_ta (i:=10) (some 13) rfl rfl (by kernel_rfl) (fun _ _ _ h=>onN_panic h) (Or.inr ⟨by rfl,rfl⟩) ?_
    simp only [n1,n3,n4]
    refine wpK_ta (i:=11) (some 14) rfl rfl (by kernel_rfl) (fun _ _ _ h=>onN_panic h) (Or.inr ⟨by rfl,rfl⟩) ?_
    simp only [n1,n3,n4]
    refine wpK_ta (i:=12) (some 15) rfl rfl (by kernel_rfl) (fun _ _ _ h=>onN_panic h) (Or.inr ⟨by rfl,rfl⟩) ?_
    simp only [n1,n3,n4]
    refine wpK_ta (i:=13) (some 16) rfl rfl (by kernel_rfl) (fun _ _ _ h=>onN_panic h) (Or.inr ⟨by rfl,rfl⟩) ?_
    simp only [n1,n3,n4]
    refine wpK_ta (i:=14) (some 17) (v:=.bool false) rfl rfl (by kernel_rfl) (fun _ _ _ h=>onN_panic h) (Or.inl ⟨by rfl,fun W=>by go_simp⟩) ?_
    simp only [n1,n3,n4]
    refine wpK_ta (i:=15) (some 18) (v:=.bool false) rfl rfl (by kernel_rfl) (fun _ _ _ h=>onN_panic h) (Or.inl ⟨rfl,fun _=>rfl⟩) ?_
    simp only [n1,n3,n4]
    refine wpK_ta (i:=16) (some 19) rfl rfl (by kernel_rfl) (fun _ _ _ h=>onN_panic h) (Or.inr ⟨by rfl,rfl⟩) ?_
    simp only [n1,n3,n4]
    refine wpK_ta (i:=17) (some 20) rfl rfl (by kernel_rfl) (fun _ _ _ h=>onN_panic h) (Or.inr ⟨by rfl,rfl⟩) ?_
    simp only [n1,n3,n4]
    refine wpK_ta (i:=18) (some 21) rfl rfl (by kernel_rfl) (fun _ _ _ h=>onN_panic h) (Or.inr ⟨by rfl,rfl⟩) ?_
    simp only [n1,n3,n4]
    refine wpK_ta (i:=19) (some 22) rfl rfl (by kernel_rfl) (fun _ _ _ h=>onN_panic h) (Or.inr ⟨by rfl,rfl⟩) ?_
    simp only [n1,n3,n4]
    refine wpK_ta (i:=20) (some 23) rfl rfl (by kernel_rfl) (fun _ _ _ h=>onN_panic h) (Or.inr ⟨by rfl,rfl⟩) ?_
    simp only [n1,n3,n4]
    refine wpK_ta (i:=21) (some 24) rfl rfl (by kernel_rfl) (fun _ _ _ h=>onN_panic h) (Or.inr ⟨by rfl,rfl⟩) ?_
    simp only [n1,n3,n4]
    refine wpK_ta (i:=22) (some 25) rfl rfl (by kernel_rfl) (fun _ _ _ h=>onN_panic h) (Or.inr ⟨by rfl,rfl⟩) ?_
    simp only [n1,n3,n4]
    refine wpK_ta (i:=23) (some 26) (v:=.bool false) rfl rfl (by kernel_rfl) (fun _ _ _ h=>onN_panic h) (Or.inl ⟨by rfl,fun W=>by go_simp⟩) ?_
    simp only [n1,n3,n4]
    refine wpK_ta (i:=24) (some 27) (v:=.bool false) rfl rfl (by kernel_rfl) (fun _ _ _ h=>onN_panic h) (Or.inl ⟨rfl,fun _=>rfl⟩) ?_
    simp only [n1,n3,n4]
    refine wpK_ta (i:=25) (some 28) rfl rfl (by kernel_rfl) (fun _ _ _ h=>onN_panic h) (Or.inr ⟨by rfl,rfl⟩) ?_
    simp only [n1,n3,n4]
    refine wpK_ta (i:=26) (some 29) rfl rfl (by kernel_rfl) (fun _ _ _ h=>onN_panic h) (Or.inr ⟨by rfl,rfl⟩) ?_
    simp only [n1,n3,n4]
    refine wpK_ta (i:=27) (some 30) rfl rfl (by kernel_rfl) (fun _ _ _ h=>onN_panic h) (Or.inr ⟨by rfl,rfl⟩) ?_
    simp only [n1,n3,n4]
    refine wpK_ta (i:=28) (some 31) rfl rfl (by kernel_rfl) (fun _ _ _ h=>onN_panic h) (Or.inr ⟨by rfl,rfl⟩) ?_
    simp only [n1,n3,n4]
    refine wpK_ta (i:=29) (some 32) (v:=.bool false) rfl rfl (by kernel_rfl) (fun _ _ _ h=>onN_panic h) (Or.inl ⟨by rfl,fun W=>by go_simp⟩) ?_
    simp only [n1,n3,n4]
    refine wpK_ta (i:=30) (some 2) (v:=.bool false) rfl rfl (by kernel_rfl) (fun _ _ _ h=>onN_panic h) (Or.inl ⟨rfl,fun _=>rfl⟩) ?_
    simp only [n1,n3,n4]
    refine wpK_done (by kernel_rfl) (fun V46 hv47=>?_) _
    have S48 : Hid (St w noB [blk g4 28 [B.a, B.b, B.c, B.d, B.e, B.f, .slice A n c]] V46):=Lib.hid (S9.out.gr (Gr.un hv47))
    clear S9
    clear hv47
    refine ⟨rfl,hK _ _ ?_⟩
    clear hK
    go_wp2_with fail
    go_ret
    refine ⟨?_,S48.out.bel⟩
    show Ending.returned (.bool false) = _
    (first | rfl | (have e_f45:=f45.out;have hlen_:=HLEN.out;refine rb_f (decide_eq_false (fun hv=>?_));obtain ⟨v1_,v2_,v3_,v4_,v5_⟩:=hv;exact e_f45 ⟨v1_,v3_⟩))

end Go.Proofs.YtpapbbolefnkmaaDoor
