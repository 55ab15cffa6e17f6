/-
  Contracts of the specification: ranges, materials, a cell, a copy.
-/
import Derived.Test.YtpapbbolefnkmaaDoorZB00
import Derived.Test.YtpapbbolefnkmaaDoorZB24
import Derived.Handy
namespace Go.Proofs.YtpapbbolefnkmaaDoor
open Go Go.RowKit
set_option linter.unusedVariables false
set_option linter.unusedSimpArgs false
instance (x : Int) : Decidable (Gm.rp x):=by unfold Gm.rp;infer_instance
instance (x y z : Int) : Decidable (Gm.rp3 x y z):=by unfold Gm.rp3;infer_instance
def Gm.mtl (n : Int) : Prop:=0 ≤ n ∧ n < 256
instance (n : Int) : Decidable (Gm.mtl n):=by unfold Gm.mtl;infer_instance
set_option maxRecDepth 1000000 in
set_option maxHeartbeats 4000000 in
theorem rnear_any (x : Int) (w : World) :
    Calls Tryd.prog 38 #[x] w fun e w'=>e = .returned (.bool (decide (Gm.rp x))) ∧ Below w.heap.size w w':=by
  have S1 : Hid (St w noB [] w):=Lib.hid (St.start w)
  go_enter Tryd.func38,Tryd.ntmps38
  go_upto_region 0 with fail
  refine wpG_region_k (fun K hK=>?_)
  refine @wpG_p _ _ _ _ _ (some 2) (.bool false) _ _ rfl (by rfl) (fun _=>rfl) ?_
  simp only [n1,n3,n4]
  refine wpG_done (fun V2 hv3=>?_)
  have S4 : Hid (St w noB [] V2):=Lib.hid (S1.out.gr hv3)
  clear S1
  clear hv3
  refine ⟨rfl,hK _ _ ?_⟩
  clear hK
  go_upto_region 1 with fail
  refine wpG_region_k (fun K hK=>?_)
  refine @wpG_p _ _ _ _ _ (some 3) x _ _ rfl (by rfl) (fun _=>rfl) ?_
  simp only [n1,n3,n4]
  refine @wpG_p _ _ _ _ _ (some 4) (.bool (decide (x ≥ (-1048575)))) _ _ rfl (by rfl) (fun W=>op_int_geq W x (-1048575) rfl rfl rfl Tryd.underlying3) ?_
  simp only [n1,n3,n4]
  refine @wpG_p _ _ _ _ _ (some 5) (.bool (decide (x ≥ (-1048575)))) _ _ rfl (by rfl) (fun _=>rfl) ?_
  simp only [n1,n3,n4]
  obtain ⟨c5,hc5⟩ : ∃ q_,q_ = (decide (x ≥ (-1048575))):=⟨_,rfl⟩
  rw [← hc5]
  have Hc5:=Lib.hid hc5
  clear hc5
  cases c5 with
  | true =>
    have f6:=of_decide_eq_true Hc5.out.symm
    refine @wpG_p _ _ _ _ _ (some 6) x _ _ rfl (by rfl) (fun _=>rfl) ?_
    simp only [n1,n3,n4]
    refine @wpG_p _ _ _ _ _ (some 7) (.bool (decide (x ≤ 1048575))) _ _ rfl (by rfl) (fun W=>op_int_leq W x 1048575 rfl rfl rfl Tryd.underlying3) ?_
    simp only [n1,n3,n4]
    refine @wpG_p _ _ _ _ _ (some 8) (.bool (decide (x ≤ 1048575))) _ _ rfl (by rfl) (fun W=>by go_simp) ?_
    simp only [n1,n3,n4]
    refine @wpG_p _ _ _ _ _ (some 2) (.bool (decide (x ≤ 1048575))) _ _ rfl (by rfl) (fun _=>rfl) ?_
    simp only [n1,n3,n4]
    refine wpG_done (fun V7 hv8=>?_)
    have S9 : Hid (St w noB [] V7):=Lib.hid (S4.out.gr hv8)
    clear S4
    clear hv8
    refine ⟨rfl,hK _ _ ?_⟩
    clear hK
    go_wp2_with fail
    go_ret
    obtain ⟨c10,hc10⟩ : ∃ q_,q_ = (decide (x ≤ 1048575)):=⟨_,rfl⟩
    rw [← hc10]
    have Hc10:=Lib.hid hc10
    clear hc10
    cases c10 with
    | true =>
      have f11:=of_decide_eq_true Hc10.out.symm
      refine ⟨?_,S9.out.bel⟩
      show Ending.returned (.bool true) = _
      (first | rfl | (exact rb_t (decide_eq_true (by unfold Gm.rp;omega))))
    | false =>
      have f12:=of_decide_eq_false Hc10.out.symm
      refine ⟨?_,S9.out.bel⟩
      show Ending.returned (.bool false) = _
      (first | rfl | (exact rb_f (decide_eq_false (by unfold Gm.rp;omega))))
  | false =>
    have f13:=of_decide_eq_false Hc5.out.symm
    refine @wpG_no _ _ _ _ _ (some 6) _ _ rfl (by rfl) ?_
    simp only [n1,n3,n4]
    refine @wpG_no _ _ _ _ _ (some 7) _ _ rfl (by rfl) ?_
    simp only [n1,n3,n4]
    refine @wpG_p _ _ _ _ _ (some 8) (.bool false) _ _ rfl (by rfl) (fun W=>by go_simp) ?_
    simp only [n1,n3,n4]
    refine @wpG_p _ _ _ _ _ (some 2) (.bool false) _ _ rfl (by rfl) (fun _=>rfl) ?_
    simp only [n1,n3,n4]
    refine wpG_done (fun V14 hv15=>?_)
    have S16 : Hid (St w noB [] V14):=Lib.hid (S4.out.gr hv15)
    clear S4
    clear hv15
    refine ⟨rfl,hK _ _ ?_⟩
    clear hK
    go_wp2_with fail
    go_ret
    refine ⟨?_,S16.out.bel⟩
    show Ending.returned (.bool false) = _
    (first | rfl | (exact rb_f (decide_eq_false (by unfold Gm.rp;omega))))
set_option maxRecDepth 1000000 in
set_option maxHeartbeats 4000000 in
theorem rmat_any (x : Int) (w : World) :
    Calls Tryd.prog 52 #[x] w fun e w'=>e = .returned (.bool (decide (Gm.mtl x))) ∧ Below w.heap.size w w':=by
  have S1 : Hid (St w noB [] w):=Lib.hid (St.start w)
  go_enter Tryd.func52,Tryd.ntmps52
  go_upto_region 0 with fail
  refine wpG_region_k (fun K hK=>?_)
  refine @wpG_p _ _ _ _ _ (some 2) (.bool false) _ _ rfl (by rfl) (fun _=>rfl) ?_
  simp only [n1,n3,n4]
  refine wpG_done (fun V2 hv3=>?_)
  have S4 : Hid (St w noB [] V2):=Lib.hid (S1.out.gr hv3)
  clear S1
  clear hv3
  refine ⟨rfl,hK _ _ ?_⟩
  clear hK
  go_upto_region 1 with fail
  refine wpG_region_k (fun K hK=>?_)
  refine @wpG_p _ _ _ _ _ (some 3) x _ _ rfl (by rfl) (fun _=>rfl) ?_
  simp only [n1,n3,n4]
  refine @wpG_p _ _ _ _ _ (some 4) (.bool (decide (x ≥ 0))) _ _ rfl (by rfl) (fun W=>op_int_geq W x 0 rfl rfl rfl Tryd.underlying3) ?_
  simp only [n1,n3,n4]
  refine @wpG_p _ _ _ _ _ (some 5) (.bool (decide (x ≥ 0))) _ _ rfl (by rfl) (fun _=>rfl) ?_
  simp only [n1,n3,n4]
  obtain ⟨c5,hc5⟩ : ∃ q_,q_ = (decide (x ≥ 0)):=⟨_,rfl⟩
  rw [← hc5]
  have Hc5:=Lib.hid hc5
  clear hc5
  cases c5 with
  | true =>
    have f6:=of_decide_eq_true Hc5.out.symm
    refine @wpG_p _ _ _ _ _ (some 6) x _ _ rfl (by rfl) (fun _=>rfl) ?_
    simp only [n1,n3,n4]
    refine @wpG_p _ _ _ _ _ (some 7) (.bool (decide (x < 256))) _ _ rfl (by rfl) (fun W=>op_int_lss W x 256 rfl rfl rfl Tryd.underlying3) ?_
    simp only [n1,n3,n4]
    refine @wpG_p _ _ _ _ _ (some 8) (.bool (decide (x < 256))) _ _ rfl (by rfl) (fun W=>by go_simp) ?_
    simp only [n1,n3,n4]
    refine @wpG_p _ _ _ _ _ (some 2) (.bool (decide (x < 256))) _ _ rfl (by rfl) (fun _=>rfl) ?_
    simp only [n1,n3,n4]
    refine wpG_done (fun V7 hv8=>?_)
    have S9 : Hid (St w noB [] V7):=Lib.hid (S4.out.gr hv8)
    clear S4
    clear hv8
    refine ⟨rfl,hK _ _ ?_⟩
    clear hK
    go_wp2_with fail
    go_ret
    obtain ⟨c10,hc10⟩ : ∃ q_,q_ = (decide (x < 256)):=⟨_,rfl⟩
    rw [← hc10]
    have Hc10:=Lib.hid hc10
    clear hc10
    cases c10 with
    | true =>
      have f11:=of_decide_eq_true Hc10.out.symm
      refine ⟨?_,S9.out.bel⟩
      show Ending.returned (.bool true) = _
      (first | rfl | (exact rb_t (decide_eq_true (by unfold Gm.mtl;omega))))
    | false =>
      have f12:=of_decide_eq_false Hc10.out.symm
      refine ⟨?_,S9.out.bel⟩
      show Ending.returned (.bool false) = _
      (first | rfl | (exact rb_f (decide_eq_false (by unfold Gm.mtl;omega))))
  | false =>
    have f13:=of_decide_eq_false Hc5.out.symm
    refine @wpG_no _ _ _ _ _ (some 6) _ _ rfl (by rfl) ?_
    simp only [n1,n3,n4]
    refine @wpG_no _ _ _ _ _ (some 7) _ _ rfl (by rfl) ?_
    simp only [n1,n3,n4]
    refine @wpG_p _ _ _ _ _ (some 8) (.bool false) _ _ rfl (by rfl) (fun W=>by go_simp) ?_
    simp only [n1,n3,n4]
    refine @wpG_p _ _ _ _ _ (some 2) (.bool false) _ _ rfl (by rfl) (fun _=>rfl) ?_
    simp only [n1,n3,n4]
    refine wpG_done (fun V14 hv15=>?_)
    have S16 : Hid (St w noB [] V14):=Lib.hid (S4.out.gr hv15)
    clear S4
    clear hv15
    refine ⟨rfl,hK _ _ ?_⟩
    clear hK
    go_wp2_with fail
    go_ret
    refine ⟨?_,S16.out.bel⟩
    show Ending.returned (.bool false) = _
    (first | rfl | (exact rb_f (decide_eq_false (by unfold Gm.mtl;omega))))
set_option maxRecDepth 1000000 in
set_option maxHeartbeats 4000000 in
theorem ranged_any (x y z : Int) (w : World) :
    Calls Tryd.prog 9 #[.agg #[x, y, z]] w fun e w'=>e = .returned (.bool (decide (Gm.rp3 x y z))) ∧ Below w.heap.size w w':=by
  have S1 : Hid (St w noB [] w):=Lib.hid (St.start w)
  go_enter Tryd.func9,Tryd.ntmps9
  go_upto_region 0 with fail
  refine wpG_region_k (fun K hK=>?_)
  refine wpG_val (some 1) rfl (by rfl) (fun W2 hg3=>⟨.pointer (some ⟨W2.heap.size,0,none⟩),W2.alloc (.cells #[x, y, z] 23),by (first | (go_simp;done) | (go_simp <;> rfl)), ?_⟩)
  simp only [n1,n3,n4]
  obtain ⟨g4,U5,hg_,hu_,hS_⟩:=(S1.out.gr hg3).made [x, y, z] 23
  rw [← hu_,← hg_]
  have S6 : Hid (St w noB [blk g4 23 [x, y, z]] U5):=Lib.hid hS_
  clear S1
  clear hg_ hu_ hS_ hg3
  refine @wpG_p _ _ _ _ _ (some 2) (.bool false) _ _ rfl (by rfl) (fun _=>rfl) ?_
  simp only [n1,n3,n4]
  refine wpG_done (fun V7 hv8=>?_)
  have S9 : Hid (St w noB [blk g4 23 [x, y, z]] V7):=Lib.hid (S6.out.gr hv8)
  clear S6
  clear hv8
  refine ⟨rfl,hK _ _ ?_⟩
  clear hK
  go_upto_region 1 with fail
  refine wpG_region_k (fun K hK=>?_)
  refine @wpG_p _ _ _ _ _ (some 3) (.pointer (some ⟨g4,0,none⟩)) _ _ rfl (by rfl) (fun W=>by go_simp) ?_
  simp only [n1,n3,n4]
  refine @wpG_r _ _ _ _ _ (some 4) x _ _ rfl (by rfl) (fun W hg=>by have c:=(S9.out.gr hg).cell 0 rfl 0 rfl;go_simp) ?_
  simp only [n1,n3,n4]
  refine @wpG_tk _ _ _ _ _ (some 5) (.bool (decide (Gm.rp x))) _ _ rfl (.call (f:=38) (args:=#[x]) (by rfl) (fun W=>by go_simp) (fun W hg=>rnear_any x W)) ?_
  simp only [n1,n3,n4]
  refine @wpG_p _ _ _ _ _ (some 6) (.bool (decide (Gm.rp x))) _ _ rfl (by rfl) (fun _=>rfl) ?_
  simp only [n1,n3,n4]
  obtain ⟨c10,hc10⟩ : ∃ q_,q_ = (decide (Gm.rp x)):=⟨_,rfl⟩
  rw [← hc10]
  have Hc10:=Lib.hid hc10
  clear hc10
  cases c10 with
  | true =>
    have f11:=Lib.hid (of_decide_eq_true Hc10.out.symm)
    refine @wpG_p _ _ _ _ _ (some 7) (.pointer (some ⟨g4,1,none⟩)) _ _ rfl (by rfl) (fun W=>by go_simp) ?_
    simp only [n1,n3,n4]
    refine @wpG_r _ _ _ _ _ (some 8) y _ _ rfl (by rfl) (fun W hg=>by have c:=(S9.out.gr hg).cell 0 rfl 1 rfl;go_simp) ?_
    simp only [n1,n3,n4]
    refine @wpG_tk _ _ _ _ _ (some 9) (.bool (decide (Gm.rp y))) _ _ rfl (.call (f:=38) (args:=#[y]) (by rfl) (fun W=>by go_simp) (fun W hg=>rnear_any y W)) ?_
    simp only [n1,n3,n4]
    refine @wpG_p _ _ _ _ _ (some 10) (.bool (decide (Gm.rp y))) _ _ rfl (by rfl) (fun W=>by go_simp) ?_
    simp only [n1,n3,n4]
    refine @wpG_p _ _ _ _ _ (some 11) (.bool (decide (Gm.rp y))) _ _ rfl (by rfl) (fun _=>rfl) ?_
    simp only [n1,n3,n4]
    obtain ⟨c12,hc12⟩ : ∃ q_,q_ = (decide (Gm.rp y)):=⟨_,rfl⟩
    rw [← hc12]
    have Hc12:=Lib.hid hc12
    clear hc12
    cases c12 with
    | true =>
      have f13:=Lib.hid (of_decide_eq_true Hc12.out.symm)
      refine @wpG_p _ _ _ _ _ (some 12) (.pointer (some ⟨g4,2,none⟩)) _ _ rfl (by rfl) (fun W=>by go_simp) ?_
      simp only [n1,n3,n4]
      refine @wpG_r _ _ _ _ _ (some 13) z _ _ rfl (by rfl) (fun W hg=>by have c:=(S9.out.gr hg).cell 0 rfl 2 rfl;go_simp) ?_
      simp only [n1,n3,n4]
      refine @wpG_tk _ _ _ _ _ (some 14) (.bool (decide (Gm.rp z))) _ _ rfl (.call (f:=38) (args:=#[z]) (by rfl) (fun W=>by go_simp) (fun W hg=>rnear_any z W)) ?_
      simp only [n1,n3,n4]
      refine @wpG_p _ _ _ _ _ (some 15) (.bool (decide (Gm.rp z))) _ _ rfl (by rfl) (fun W=>by go_simp) ?_
      simp only [n1,n3,n4]
      refine @wpG_p _ _ _ _ _ (some 2) (.bool (decide (Gm.rp z))) _ _ rfl (by rfl) (fun _=>rfl) ?_
      simp only [n1,n3,n4]
      refine wpG_done (fun V14 hv15=>?_)
      have S16 : Hid (St w noB [blk g4 23 [x, y, z]] V14):=Lib.hid (S9.out.gr hv15)
      clear S9
      clear hv15
      refine ⟨rfl,hK _ _ ?_⟩
      clear hK
      go_wp2_with fail
      go_ret
      obtain ⟨c17,hc17⟩ : ∃ q_,q_ = (decide (Gm.rp z)):=⟨_,rfl⟩
      rw [← hc17]
      have Hc17:=Lib.hid hc17
      clear hc17
      cases c17 with
      | true =>
        have f18:=Lib.hid (of_decide_eq_true Hc17.out.symm)
        refine ⟨?_,S16.out.bel⟩
        show Ending.returned (.bool true) = _
        (first | rfl | (have e_f11:=f11.out;have e_f13:=f13.out;have e_f18:=f18.out;exact rb_t (decide_eq_true ⟨e_f11,e_f13,e_f18⟩)))
      | false =>
        have f19:=Lib.hid (of_decide_eq_false Hc17.out.symm)
        refine ⟨?_,S16.out.bel⟩
        show Ending.returned (.bool false) = _
        (first | rfl | (have e_f11:=f11.out;have e_f13:=f13.out;have e_f19:=f19.out;exact rb_f (decide_eq_false (fun h=>e_f19 h.2.2))))
    | false =>
      have f20:=Lib.hid (of_decide_eq_false Hc12.out.symm)
      refine @wpG_no _ _ _ _ _ (some 12) _ _ rfl (by rfl) ?_
      simp only [n1,n3,n4]
      refine @wpG_no _ _ _ _ _ (some 13) _ _ rfl (by rfl) ?_
      simp only [n1,n3,n4]
      refine @wpG_no _ _ _ _ _ (some 14) _ _ rfl (by rfl) ?_
      simp only [n1,n3,n4]
      refine @wpG_p _ _ _ _ _ (some 15) (.bool false) _ _ rfl (by rfl) (fun W=>by go_simp) ?_
      simp only [n1,n3,n4]
      refine @wpG_p _ _ _ _ _ (some 2) (.bool false) _ _ rfl (by rfl) (fun _=>rfl) ?_
      simp only [n1,n3,n4]
      refine wpG_done (fun V21 hv22=>?_)
      have S23 : Hid (St w noB [blk g4 23 [x, y, z]] V21):=Lib.hid (S9.out.gr hv22)
      clear S9
      clear hv22
      refine ⟨rfl,hK _ _ ?_⟩
      clear hK
      go_wp2_with fail
      go_ret
      refine ⟨?_,S23.out.bel⟩
      show Ending.returned (.bool false) = _
      (first | rfl | (have e_f11:=f11.out;have e_f20:=f20.out;exact rb_f (decide_eq_false (fun h=>e_f20 h.2.1))))
  | false =>
    have f24:=Lib.hid (of_decide_eq_false Hc10.out.symm)
    refine @wpG_no _ _ _ _ _ (some 7) _ _ rfl (by rfl) ?_
    simp only [n1,n3,n4]
    refine @wpG_no _ _ _ _ _ (some 8) _ _ rfl (by rfl) ?_
    simp only [n1,n3,n4]
    refine @wpG_no _ _ _ _ _ (some 9) _ _ rfl (by rfl) ?_
    simp only [n1,n3,n4]
    refine @wpG_p _ _ _ _ _ (some 10) (.bool false) _ _ rfl (by rfl) (fun W=>by go_simp) ?_
    simp only [n1,n3,n4]
    refine @wpG_p _ _ _ _ _ (some 11) (.bool false) _ _ rfl (by rfl) (fun _=>rfl) ?_
    simp only [n1,n3,n4]
    refine @wpG_no _ _ _ _ _ (some 12) _ _ rfl (by rfl) ?_
    simp only [n1,n3,n4]
    refine @wpG_no _ _ _ _ _ (some 13) _ _ rfl (by rfl) ?_
    simp only [n1,n3,n4]
    refine @wpG_no _ _ _ _ _ (some 14) _ _ rfl (by rfl) ?_
    simp only [n1,n3,n4]
    refine @wpG_p _ _ _ _ _ (some 15) (.bool false) _ _ rfl (by rfl) (fun W=>by go_simp) ?_
    simp only [n1,n3,n4]
    refine @wpG_p _ _ _ _ _ (some 2) (.bool false) _ _ rfl (by rfl) (fun _=>rfl) ?_
    simp only [n1,n3,n4]
    refine wpG_done (fun V25 hv26=>?_)
    have S27 : Hid (St w noB [blk g4 23 [x, y, z]] V25):=Lib.hid (S9.out.gr hv26)
    clear S9
    clear hv26
    refine ⟨rfl,hK _ _ ?_⟩
    clear hK
    go_wp2_with fail
    go_ret
    refine ⟨?_,S27.out.bel⟩
    show Ending.returned (.bool false) = _
    (first | rfl | (have e_f24:=f24.out;exact rb_f (decide_eq_false (fun h=>e_f24 h.1))))
set_option maxRecDepth 1000000 in
set_option maxHeartbeats 4000000 in
theorem rget_any (B : Gm.Bx) (A : Option Addr) (n c : Nat) (l : List Int) (x y z : Int) (w : World) (hG : SL w 1 A n c (ic l)) (hok : Gm.ok B l) (hp : Gm.rp3 x y z) :
    Calls Tryd.prog 84 #[.agg #[B.a, B.b, B.c, B.d, B.e, B.f, .slice A n c], .agg #[x, y, z]] w fun e w'=>e = .returned (Gm.get B l x y z) ∧ Below w.heap.size w w':=by
  have HGA:=Lib.hid hG
  have HLEN : Hid (l.length = n):=Lib.hid (by have h_:=hG.len;rw [ic_len] at h_;omega)
  have hnbHGA : n ≤ 9223372036854775807:=Nat.le_trans hG.cap hG.bnd
  clear hG
  have HOK:=Lib.hid hok
  clear hok
  have S1 : Hid (St w noB [] w):=Lib.hid (St.start w)
  go_enter Tryd.func84,Tryd.ntmps84
  go_upto_region 0 with fail
  refine wpG_region_k (fun K hK=>?_)
  refine wpG_val (some 2) rfl (by rfl) (fun W2 hg3=>⟨.pointer (some ⟨W2.heap.size,0,none⟩),W2.alloc (.cells #[B.a, B.b, B.c, B.d, B.e, B.f, .slice A n c] 28),by (first | (go_simp;done) | (go_simp <;> rfl)), ?_⟩)
  simp only [n1,n3,n4]
  obtain ⟨g4,U5,hg_,hu_,hS_⟩:=(S1.out.gr hg3).made [B.a, B.b, B.c, B.d, B.e, B.f, .slice A n c] 28
  rw [← hu_,← hg_]
  have S6 : Hid (St w noB [blk g4 28 [B.a, B.b, B.c, B.d, B.e, B.f, .slice A n c]] U5):=Lib.hid hS_
  clear S1
  clear hg_ hu_ hS_ hg3
  refine wpG_val (some 3) rfl (by rfl) (fun W7 hg8=>⟨.pointer (some ⟨W7.heap.size,0,none⟩),W7.alloc (.cells #[x, y, z] 23),by (first | (go_simp;done) | (go_simp <;> rfl)), ?_⟩)
  simp only [n1,n3,n4]
  obtain ⟨g9,U10,hg_,hu_,hS_⟩:=(S6.out.gr hg8).made [x, y, z] 23
  rw [← hu_,← hg_]
  have S11 : Hid (St w noB [blk g9 23 [x, y, z],blk g4 28 [B.a, B.b, B.c, B.d, B.e, B.f, .slice A n c]] U10):=Lib.hid hS_
  clear S6
  clear hg_ hu_ hS_ hg8
  refine @wpG_p _ _ _ _ _ (some 4) () _ _ rfl (by rfl) (fun _=>rfl) ?_
  simp only [n1,n3,n4]
  refine wpG_done (fun V12 hv13=>?_)
  have S14 : Hid (St w noB [blk g9 23 [x, y, z],blk g4 28 [B.a, B.b, B.c, B.d, B.e, B.f, .slice A n c]] V12):=Lib.hid (S11.out.gr hv13)
  clear S11
  clear hv13
  refine ⟨rfl,hK _ _ ?_⟩
  clear hK
  go_upto_region 1 with fail
  refine wpG_region_k (fun K hK=>?_)
  refine @wpG_p _ _ _ _ _ (some 6) (.pointer (some ⟨g4,0,none⟩)) _ _ rfl (by rfl) (fun W=>by go_simp) ?_
  simp only [n1,n3,n4]
  refine @wpG_tk _ _ _ _ _ (some 7) (.agg #[B.a, B.b, B.c, B.d, B.e, B.f]) _ _ rfl (.load_mid (by rfl) 25 (.tmp 6) rfl g4 0 rfl [B.a, B.b, B.c, B.d, B.e, B.f] _ (fun W hg=>(S14.out.gr hg).range 1 rfl 0 6 rfl) Tryd.underlying25 rfl (by kernel_rfl)) ?_
  simp only [n1,n3,n4]
  refine @wpG_tk _ _ _ _ _ (some 8) (.agg #[x, y, z]) _ _ rfl (.load_mid (by rfl) 23 (.tmp 3) rfl g9 0 rfl [x, y, z] _ (fun W hg=>(S14.out.gr hg).range 0 rfl 0 3 rfl) Tryd.underlying23 rfl (by kernel_rfl)) ?_
  simp only [n1,n3,n4]
  refine @wpG_tk _ _ _ _ _ (some 9) (Gm.ixr B x y z) _ _ rfl (.call (f:=36) (args:=#[.agg #[B.a, B.b, B.c, B.d, B.e, B.f], .agg #[x, y, z]]) (by rfl) (fun W=>by go_simp) (fun W hg=>index_b W B x y z HOK.out.rg hp)) ?_
  simp only [n1,n3,n4]
  refine @wpG_p _ _ _ _ _ (some 5) (Gm.ixr B x y z) _ _ rfl (by rfl) (fun _=>rfl) ?_
  simp only [n1,n3,n4]
  refine wpG_done (fun V15 hv16=>?_)
  have S17 : Hid (St w noB [blk g9 23 [x, y, z],blk g4 28 [B.a, B.b, B.c, B.d, B.e, B.f, .slice A n c]] V15):=Lib.hid (S14.out.gr hv16)
  clear S14
  clear hv16
  refine ⟨rfl,hK _ _ ?_⟩
  clear hK
  go_upto_region 2 with fail
  refine wpG_region_k (fun K hK=>?_)
  refine @wpG_p _ _ _ _ _ (some 10) (Gm.ixr B x y z) _ _ rfl (by rfl) (fun _=>rfl) ?_
  simp only [n1,n3,n4]
  refine @wpG_p _ _ _ _ _ (some 11) (.bool (decide (Gm.ixr B x y z < 0))) _ _ rfl (by rfl) (fun W=>op_int_lss W (Gm.ixr B x y z) 0 rfl rfl rfl Tryd.underlying3) ?_
  simp only [n1,n3,n4]
  refine wpG_done (fun V18 hv19=>?_)
  have S20 : Hid (St w noB [blk g9 23 [x, y, z],blk g4 28 [B.a, B.b, B.c, B.d, B.e, B.f, .slice A n c]] V18):=Lib.hid (S17.out.gr hv19)
  clear S17
  clear hv19
  refine ⟨rfl,hK _ _ ?_⟩
  clear hK
  obtain ⟨c21,hc21⟩ : ∃ q_,q_ = (decide (Gm.ixr B x y z < 0)):=⟨_,rfl⟩
  rw [← hc21]
  have Hc21:=Lib.hid hc21
  clear hc21
  cases c21 with
  | true =>
    have f22:=of_decide_eq_true Hc21.out.symm
    go_upto_region 3 with fail
    refine wpG_region_k (fun K hK=>?_)
    refine @wpG_p _ _ _ _ _ (some 4) () _ _ rfl (by rfl) (fun _=>rfl) ?_
    simp only [n1,n3,n4]
    refine wpG_done (fun V23 hv24=>?_)
    have S25 : Hid (St w noB [blk g9 23 [x, y, z],blk g4 28 [B.a, B.b, B.c, B.d, B.e, B.f, .slice A n c]] V23):=Lib.hid (S20.out.gr hv24)
    clear S20
    clear hv24
    refine ⟨rfl,hK _ _ ?_⟩
    clear hK
    go_wp2_with fail
    go_ret
    refine ⟨?_,S25.out.bel⟩
    show Ending.returned () = _
    (first | rfl | (rw [Gm.ixr_neg (by omega)]))
  | false =>
    have f26:=of_decide_eq_false Hc21.out.symm
    go_upto_region 4 with fail
    refine wpG_region_k (fun K hK=>?_)
    refine @wpG_p _ _ _ _ _ (some 12) (.pointer (some ⟨g4,6,none⟩)) _ _ rfl (by rfl) (fun W=>by go_simp) ?_
    simp only [n1,n3,n4]
    refine @wpG_r _ _ _ _ _ (some 13) (.slice A n c) _ _ rfl (by rfl) (fun W hg=>by have c:=(S20.out.gr hg).cell 1 rfl 6 rfl;go_simp) ?_
    simp only [n1,n3,n4]
    refine @wpG_p _ _ _ _ _ (some 14) (Gm.ixr B x y z) _ _ rfl (by rfl) (fun _=>rfl) ?_
    simp only [n1,n3,n4]
    obtain ⟨q27,hq_⟩ : ∃ q_ : Nat,Gm.ixr B x y z = (q_ : Int):=⟨(Gm.ixr B x y z).toNat,by omega⟩
    rw [hq_]
    have HQq27:=Lib.hid hq_
    clear hq_
    have hqn_ : q27 < n:=by have a2:=HQq27.out;have a1:=Gm.ixr_pos (B:=B) (x:=x) (y:=y) (z:=z) (by omega);have a3:=HOK.out.vol;have a4:=HLEN.out;omega
    obtain ⟨b28,o28,rfl⟩:=HGA.out.addr (by decide) (by omega)
    refine @wpG_p _ _ _ _ _ (some 15) (.pointer (some ⟨b28,o28 + q27,none⟩)) _ _ rfl (by rfl) (fun W=>by (go_simp <;> first | rfl | omega | (simp;omega))) ?_
    simp only [n1,n3,n4]
    refine @wpG_r _ _ _ _ _ (some 16) (l.getD q27 0:Int) _ _ rfl (by rfl) (fun W hg=>by have c:=(((HGA.out.gr ((S20.out.gr hg)).bel).int (l:=l) q27 (by (have:=HLEN.out;omega)))) 0 _ rfl;(try simp only [Nat.add_zero,Nat.zero_add] at c);go_simp) ?_
    simp only [n1,n3,n4]
    refine @wpG_p _ _ _ _ _ (some 4) (l.getD q27 0:Int) _ _ rfl (by rfl) (fun _=>rfl) ?_
    simp only [n1,n3,n4]
    refine wpG_done (fun V29 hv30=>?_)
    have S31 : Hid (St w noB [blk g9 23 [x, y, z],blk g4 28 [B.a, B.b, B.c, B.d, B.e, B.f, .slice (some ⟨b28,o28,none⟩) n c]] V29):=Lib.hid (S20.out.gr hv30)
    clear S20
    clear hv30
    refine ⟨rfl,hK _ _ ?_⟩
    clear hK
    go_wp2_with fail
    go_ret
    refine ⟨?_,S31.out.bel⟩
    show Ending.returned (l.getD q27 0:Int) = _
    (first | rfl | (obtain ⟨hi_,he_,_,_⟩:=Gm.ixr_pos (B:=B) (x:=x) (y:=y) (z:=z) (by have:=HQq27.out;omega);rw [Gm.get_in hi_ (he_.symm.trans HQq27.out)]))
set_option maxRecDepth 1000000 in
set_option maxHeartbeats 4000000 in
theorem copied_any (B : Gm.Bx) (A : Option Addr) (n c : Nat) (l : List Int) (w : World) (hG : SL w 1 A n c (ic l)) (hb : n ≤ 2097152) :
    Calls Tryd.prog 82 #[.agg #[B.a, B.b, B.c, B.d, B.e, B.f, .slice A n c]] w fun e w'=>∃ A n c,e = .returned (.agg #[B.a, B.b, B.c, B.d, B.e, B.f, .slice A n c]) ∧ St w noB [own (.slice A n c) 3 1 n (ic l)] w':=by
  have HGA:=Lib.hid hG
  have HLEN : Hid (l.length = n):=Lib.hid (by have h_:=hG.len;rw [ic_len] at h_;omega)
  have hnbHGA : n ≤ 9223372036854775807:=Nat.le_trans hG.cap hG.bnd
  clear hG
  have S1 : Hid (St w noB [] w):=Lib.hid (St.start w)
  go_enter Tryd.func82,Tryd.ntmps82
  go_upto_region 0 with fail
  refine wpG_region_k (fun K hK=>?_)
  refine wpG_val (some 1) rfl (by rfl) (fun W2 hg3=>⟨.pointer (some ⟨W2.heap.size,0,none⟩),W2.alloc (.cells #[B.a, B.b, B.c, B.d, B.e, B.f, .slice A n c] 28),by (first | (go_simp;done) | (go_simp <;> rfl)), ?_⟩)
  simp only [n1,n3,n4]
  obtain ⟨g4,U5,hg_,hu_,hS_⟩:=(S1.out.gr hg3).made [B.a, B.b, B.c, B.d, B.e, B.f, .slice A n c] 28
  rw [← hu_,← hg_]
  have S6 : Hid (St w noB [blk g4 28 [B.a, B.b, B.c, B.d, B.e, B.f, .slice A n c]] U5):=Lib.hid hS_
  clear S1
  clear hg_ hu_ hS_ hg3
  refine wpG_val (some 2) rfl (by rfl) (fun W7 hg8=>⟨.pointer (some ⟨W7.heap.size,0,none⟩),W7.alloc (.cells #[(), (), (), (), (), (), .slice none 0 0] 28),by (first | (go_simp;done) | (go_simp <;> rfl)), ?_⟩)
  simp only [n1,n3,n4]
  obtain ⟨g9,U10,hg_,hu_,hS_⟩:=(S6.out.gr hg8).made [(), (), (), (), (), (), .slice none 0 0] 28
  rw [← hu_,← hg_]
  have S11 : Hid (St w noB [blk g9 28 [(), (), (), (), (), (), .slice none 0 0],blk g4 28 [B.a, B.b, B.c, B.d, B.e, B.f, .slice A n c]] U10):=Lib.hid hS_
  clear S6
  clear hg_ hu_ hS_ hg8
  refine wpG_done (fun V12 hv13=>?_)
  have S14 : Hid (St w noB [blk g9 28 [(), (), (), (), (), (), .slice none 0 0],blk g4 28 [B.a, B.b, B.c, B.d, B.e, B.f, .slice A n c]] V12):=Lib.hid (S11.out.gr hv13)
  clear S11
  clear hv13
  refine ⟨rfl,hK _ _ ?_⟩
  clear hK
  go_upto_region 1 with fail
  refine wpG_region_k (fun K hK=>?_)
  refine @wpG_p _ _ _ _ _ (some 3) (.slice none 0 0) _ _ rfl (by rfl) (fun _=>rfl) ?_
  simp only [n1,n3,n4]
  refine wpG_done (fun V15 hv16=>?_)
  have S17 : Hid (St w noB [blk g9 28 [(), (), (), (), (), (), .slice none 0 0],blk g4 28 [B.a, B.b, B.c, B.d, B.e, B.f, .slice A n c]] V15):=Lib.hid (S14.out.gr hv16)
  clear S14
  clear hv16
  refine ⟨rfl,hK _ _ ?_⟩
  clear hK
  go_upto_region 2 with fail
  refine wpK_region_k (by kernel_rfl) (fun K hK=>?_)
  refine wpK_ta (i:=0) (some 4) (v:=.pointer (some ⟨g4,0,none⟩)) rfl rfl (by kernel_rfl) (fun _ _ _ h=>onN_panic h) (Or.inl ⟨by rfl,fun W=>by go_simp⟩) ?_
  simp only [n1,n3,n4]
  refine wpK_ta (i:=2) (some 6) (v:=.slice none 0 0) rfl rfl (by kernel_rfl) (fun _ _ _ h=>onN_panic h) (Or.inl ⟨rfl,fun _=>rfl⟩) ?_
  simp only [n1,n3,n4]
  refine wpK_ta (i:=3) (some 7) (v:=.pointer (some ⟨g4,6,none⟩)) rfl rfl (by kernel_rfl) (fun _ _ _ h=>onN_panic h) (Or.inl ⟨by rfl,fun W=>by go_simp⟩) ?_
  simp only [n1,n3,n4]
  refine wpK_tk (i:=4) (some 8) (v:=.slice A n c) rfl rfl (by kernel_rfl) (fun _ _ _ h=>onN_panic h) (.val (by rfl) (fun W hg=>by have c:=(S17.out.gr (Gr.un hg)).cell 1 rfl 6 rfl;go_simp)) ?_
  simp only [n1,n3,n4]
  refine wpK_la (i:=1) (j:=5) (some 5) (some 9) (v:=.agg #[B.a, B.b, B.c, B.d, B.e, B.f]) rfl rfl rfl rfl (by kernel_rfl) (by rfl) (by rfl) (.load_mid (by rfl) 25 (.tmp 4) rfl g4 0 rfl [B.a, B.b, B.c, B.d, B.e, B.f] _ (fun W hg=>(S17.out.gr (Gr.un hg)).range 1 rfl 0 6 rfl) Tryd.underlying25 rfl (by kernel_rfl)) ?_ ?_
  simp only [n1,n3,n4]
  rotate_left
  · intro W_ hg_
    have S18 : Hid (St w noB [own (.slice none 0 0) 3 1 0 (ic []),blk g9 28 [(), (), (), (), (), (), .slice none 0 0],blk g4 28 [B.a, B.b, B.c, B.d, B.e, B.f, .slice A n c]] V15):=Lib.hid (S17.out.nilOwn 3 1)
    clear S17
    refine app_ex (.tmp 6) (.tmp 8) 26 26 rfl 3 1 8 Tryd.underlying26 (by kernel_rfl) (.slice none 0 0) 0 (ic []) W_ ((S18.out.gr (Gr.un hg_))) (.slice A n c) n (ic l) (src_lies Tryd.underlying26 c (by rw [ic_len];have:=HGA.out.len;rw [ic_len] at this;omega) HGA.out.none0 (ic_one _) ((HGA.out.gr ((S18.out.gr (Gr.un hg_))).bel).lies)) rfl rfl (by simp only [maxLen];omega) (by omega) (fun v19 W20 hS_=>?_)
    clear hg_
    simp only [n1,n3,n4]
    rw [Nat.zero_add] at hS_
    rw [show ic [] ++ (ic l) = ic l from rfl] at hS_
    obtain ⟨A21,k22,rfl,hle_,hcap_,_⟩:=own_shape (hS_.ownr 0 rfl)
    have S23 : Hid (St w noB [own (.slice A21 n k22) 3 1 n (ic l),blk g9 28 [(), (), (), (), (), (), .slice none 0 0],blk g4 28 [B.a, B.b, B.c, B.d, B.e, B.f, .slice A n c]] W20):=Lib.hid hS_
    clear S18
    clear hS_
    refine wpK_tk (i:=1) (some 5) (v:=.agg #[B.a, B.b, B.c, B.d, B.e, B.f]) rfl rfl (by kernel_rfl) (fun _ _ _ h=>onN_panic h) (.load_mid (by rfl) 25 (.tmp 4) rfl g4 0 rfl [B.a, B.b, B.c, B.d, B.e, B.f] _ (fun W hg=>(S23.out.gr hg).range 2 rfl 0 6 rfl) Tryd.underlying25 rfl (by kernel_rfl)) ?_
    simp only [n1,n3,n4]
    refine wpK_ta (i:=6) (some 10) (v:=.agg #[B.a, B.b, B.c, B.d, B.e, B.f, .slice A21 n k22]) rfl rfl (by kernel_rfl) (fun _ _ _ h=>onN_panic h) (Or.inl ⟨by rfl,fun W=>by go_simp⟩) ?_
    simp only [n1,n3,n4]
    refine wpK_store (i:=7) (none) rfl rfl (by kernel_rfl) (by rfl) (by rfl) (fun W24 hg25=>⟨_,run_store_mid 28 (.tmp 2) (.tmp 10) rfl g9 0 #[B.a, B.b, B.c, B.d, B.e, B.f, .slice A21 n k22] rfl rfl ((S23.out.gr hg25).room 1 rfl 0 7 (by simp)) (by kernel_rfl) (by kernel_rfl), ?_⟩)
    simp only [n2]
    obtain ⟨U26,hu_,hS_⟩:=((S23.out.gr hg25).put 1 rfl 0 (#[B.a, B.b, B.c, B.d, B.e, B.f, .slice A21 n k22] : Array Value).toList (ds:=[B.a, B.b, B.c, B.d, B.e, B.f, .slice A21 n k22]) rfl).named
    rw [← hu_]
    have S27 : Hid (St w noB [own (.slice A21 n k22) 3 1 n (ic l),blk g9 28 [B.a, B.b, B.c, B.d, B.e, B.f, .slice A21 n k22],blk g4 28 [B.a, B.b, B.c, B.d, B.e, B.f, .slice A n c]] U26):=Lib.hid hS_
    clear S23
    clear hu_ hS_ hg25
    refine wpK_done (by kernel_rfl) (fun V28 hv29=>?_) _
    have S30 : Hid (St w noB [own (.slice A21 n k22) 3 1 n (ic l),blk g9 28 [B.a, B.b, B.c, B.d, B.e, B.f, .slice A21 n k22],blk g4 28 [B.a, B.b, B.c, B.d, B.e, B.f, .slice A n c]] V28):=Lib.hid (S27.out.gr hv29)
    clear S27
    clear hv29
    refine ⟨rfl,hK _ _ ?_⟩
    clear hK
    go_wp2_with fail
    (try simp only [Exit.inBlock,Exit.then])
    refine bodyPost_ret (results_cell_mid rfl _ _ _ g9 0 [B.a, B.b, B.c, B.d, B.e, B.f, .slice A21 n k22] _ rfl (S30.out.range 1 rfl 0 7 rfl) Tryd.underlying28 rfl (by kernel_rfl)) rfl ?_
    exact ⟨A21,n,k22,rfl,S30.out.sub (.cons_cons _ (.cons _ (.cons _ .slnil)))⟩
  · skip
    have S31 : Hid (St w noB [own (.slice none 0 0) 3 1 0 (ic []),blk g9 28 [(), (), (), (), (), (), .slice none 0 0],blk g4 28 [B.a, B.b, B.c, B.d, B.e, B.f, .slice A n c]] V15):=Lib.hid (S17.out.nilOwn 3 1)
    clear S17
    refine wpK_app (i:=5) (some 9) rfl rfl (by kernel_rfl) (by rfl) (by rfl) (fun W34 hg35=>?_)
    refine app_ex (.tmp 6) (.tmp 8) 26 26 rfl 3 1 8 Tryd.underlying26 (by kernel_rfl) (.slice none 0 0) 0 (ic []) W34 ((S31.out.gr (Gr.un hg35))) (.slice A n c) n (ic l) (src_lies Tryd.underlying26 c (by rw [ic_len];have:=HGA.out.len;rw [ic_len] at this;omega) HGA.out.none0 (ic_one _) ((HGA.out.gr ((S31.out.gr (Gr.un hg35))).bel).lies)) rfl rfl (by simp only [maxLen];omega) (by omega) (fun v32 W33 hS_=>?_)
    clear hg35
    simp only [n1,n3,n4]
    rw [Nat.zero_add] at hS_
    rw [show ic [] ++ (ic l) = ic l from rfl] at hS_
    obtain ⟨A36,k37,rfl,hle_,hcap_,_⟩:=own_shape (hS_.ownr 0 rfl)
    have S38 : Hid (St w noB [own (.slice A36 n k37) 3 1 n (ic l),blk g9 28 [(), (), (), (), (), (), .slice none 0 0],blk g4 28 [B.a, B.b, B.c, B.d, B.e, B.f, .slice A n c]] W33):=Lib.hid hS_
    clear S31
    clear hS_
    refine wpK_ta (i:=6) (some 10) (v:=.agg #[B.a, B.b, B.c, B.d, B.e, B.f, .slice A36 n k37]) rfl rfl (by kernel_rfl) (fun _ _ _ h=>onN_panic h) (Or.inl ⟨by rfl,fun W=>by go_simp⟩) ?_
    simp only [n1,n3,n4]
    refine wpK_store (i:=7) (none) rfl rfl (by kernel_rfl) (by rfl) (by rfl) (fun W39 hg40=>⟨_,run_store_mid 28 (.tmp 2) (.tmp 10) rfl g9 0 #[B.a, B.b, B.c, B.d, B.e, B.f, .slice A36 n k37] rfl rfl ((S38.out.gr hg40).room 1 rfl 0 7 (by simp)) (by kernel_rfl) (by kernel_rfl), ?_⟩)
    simp only [n2]
    obtain ⟨U41,hu_,hS_⟩:=((S38.out.gr hg40).put 1 rfl 0 (#[B.a, B.b, B.c, B.d, B.e, B.f, .slice A36 n k37] : Array Value).toList (ds:=[B.a, B.b, B.c, B.d, B.e, B.f, .slice A36 n k37]) rfl).named
    rw [← hu_]
    have S42 : Hid (St w noB [own (.slice A36 n k37) 3 1 n (ic l),blk g9 28 [B.a, B.b, B.c, B.d, B.e, B.f, .slice A36 n k37],blk g4 28 [B.a, B.b, B.c, B.d, B.e, B.f, .slice A n c]] U41):=Lib.hid hS_
    clear S38
    clear hu_ hS_ hg40
    refine wpK_done (by kernel_rfl) (fun V43 hv44=>?_) _
    have S45 : Hid (St w noB [own (.slice A36 n k37) 3 1 n (ic l),blk g9 28 [B.a, B.b, B.c, B.d, B.e, B.f, .slice A36 n k37],blk g4 28 [B.a, B.b, B.c, B.d, B.e, B.f, .slice A n c]] V43):=Lib.hid (S42.out.gr hv44)
    clear S42
    clear hv44
    refine ⟨rfl,hK _ _ ?_⟩
    clear hK
    go_wp2_with fail
    (try simp only [Exit.inBlock,Exit.then])
    refine bodyPost_ret (results_cell_mid rfl _ _ _ g9 0 [B.a, B.b, B.c, B.d, B.e, B.f, .slice A36 n k37] _ rfl (S45.out.range 1 rfl 0 7 rfl) Tryd.underlying28 rfl (by kernel_rfl)) rfl ?_
    exact ⟨A36,n,k37,rfl,S45.out.sub (.cons_cons _ (.cons _ (.cons _ .slnil)))⟩

end Go.Proofs.YtpapbbolefnkmaaDoor
