/-
  Contracts of the specification: ranges, materials, a cell, a copy.
-/
import Derived.Test.YtjdeaopdbenamaaDoorZF00
import Derived.Test.YtjdeaopdbenamaaDoorZF26
import Derived.Handy
namespace Go.Proofs.YtjdeaopdbenamaaDoor
open Go Go.RowKit
set_option linter.unusedVariables false
set_option linter.unusedSimpArgs false
instance (x : Int) : Decidable (Gm.rp x):=by unfold Gm.rp;infer_instance
instance (x y z : Int) : Decidable (Gm.rp3 x y z):=by unfold Gm.rp3;infer_instance
def Gm.mtl (n : Int) : Prop:=0 ≤ n ∧ n < 256
instance (n : Int) : Decidable (Gm.mtl n):=by unfold Gm.mtl;infer_instance
set_option maxRecDepth 1000000 in
set_option maxHeartbeats 4000000 in
theorem rnear_any (x : Int) (w : World) :
    Calls Tryd.prog 38 #[x] w fun e w'=>e = .returned (.bool (decide (Gm.rp x))) ∧ Below w.heap.size w w':=by
  have S1 : Hid (St w noB [] w):=Lib.hid (St.start w)
  go_enter Tryd.func38,Tryd.ntmps38
  go_upto_region 0 with fail
  refine wpG_region_k (fun K hK=>?_)
  refine @wpG_p _ _ _ _ _ (some 2) (.bool false) _ _ rfl (by rfl) (fun _=>rfl) ?_
  simp only [n1,n3,n4]
  refine wpG_done (fun V2 hv3=>?_)
  have S4 : Hid (St w noB [] V2):=Lib.hid (S1.out.gr hv3)
  clear S1
  clear hv3
  refine ⟨rfl,hK _ _ ?_⟩
  clear hK
  go_upto_region 1 with fail
  refine wpG_region_k (fun K hK=>?_)
  refine @wpG_p _ _ _ _ _ (some 3) x _ _ rfl (by rfl) (fun _=>rfl) ?_
  simp only [n1,n3,n4]
  refine @wpG_p _ _ _ _ _ (some 4) (.bool (decide (x ≥ (-1048575)))) _ _ rfl (by rfl) (fun W=>op_int_geq W x (-1048575) rfl rfl rfl Tryd.underlying3) ?_
  simp only [n1,n3,n4]
  refine @wpG_p _ _ _ _ _ (some 5) (.bool (decide (x ≥ (-1048575)))) _ _ rfl (by rfl) (fun _=>rfl) ?_
  simp only [n1,n3,n4]
  obtain ⟨c5,hc5⟩ : ∃ q_,q_ = (decide (x ≥ (-1048575))):=⟨_,rfl⟩
  rw [← hc5]
  have Hc5:=Lib.hid hc5
  clear hc5
  cases c5 with
  | true =>
    have f6:=of_decide_eq_true Hc5.out.symm
    refine @wpG_p _ _ _ _ _ (some 6) x _ _ rfl (by rfl) (fun _=>rfl) ?_
    simp only [n1,n3,n4]
    refine @wpG_p _ _ _ _ _ (some 7) (.bool (decide (x ≤ 1048575))) _ _ rfl (by rfl) (fun W=>op_int_leq W x 1048575 rfl rfl rfl Tryd.underlying3) ?_
    simp only [n1,n3,n4]
    refine @wpG_p _ _ _ _ _ (some 8) (.bool (decide (x ≤ 1048575))) _ _ rfl (by rfl) (fun W=>by go_simp) ?_
    simp only [n1,n3,n4]
    refine @wpG_p _ _ _ _ _ (some 2) (.bool (decide (x ≤ 1048575))) _ _ rfl (by rfl) (fun _=>rfl) ?_
    simp only [n1,n3,n4]
    refine wpG_done (fun V7 hv8=>?_)
    have S9 : Hid (St w noB [] V7):=Lib.hid (S4.out.gr hv8)
    clear S4
    clear hv8
    refine ⟨rfl,hK _ _ ?_⟩
    clear hK
    go_wp2_with fail
    go_ret
    obtain ⟨c10,hc10⟩ : ∃ q_,q_ = (decide (x ≤ 1048575)):=⟨_,rfl⟩
    rw [← hc10]
    have Hc10:=Lib.hid hc10
    clear hc10
    cases c10 with
    | true =>
      have f11:=of_decide_eq_true Hc10.out.symm
      refine ⟨?_,S9.out.bel⟩
      show Ending.returned (.bool true) = _
      (first | rfl | (exact rb_t (decide_eq_true (by unfold Gm.rp;omega))))
    | false =>
      have f12:=of_decide_eq_false Hc10.out.symm
      refine ⟨?_,S9.out.bel⟩
      show Ending.returned (.bool false) = _
      (first | rfl | (exact rb_f (decide_eq_false (by unfold Gm.rp;omega))))
  | false =>
    have f13:=of_decide_eq_false Hc5.out.symm
    refine @wpG_no _ _ _ _ _ (some 6) _ _ rfl (by rfl) ?_
    simp only [n1,n3,n4]
    refine @wpG_no _ _ _ _ _ (some 7) _ _ rfl (by rfl) ?_
    simp only [n1,n3,n4]
    refine @wpG_p _ _ _ _ _ (some 8) (.bool false) _ _ rfl (by rfl) (fun W=>by go_simp) ?_
    simp only [n1,n3,n4]
    refine @wpG_p _ _ _ _ _ (some 2) (.bool false) _ _ rfl (by rfl) (fun _=>rfl) ?_
    simp only [n1,n3,n4]
    refine wpG_done (fun V14 hv15=>?_)
    have S16 : Hid (St w noB [] V14):=Lib.hid (S4.out.gr hv15)
    clear S4
    clear hv15
    refine ⟨rfl,hK _ _ ?_⟩
    clear hK
    go_wp2_with fail
    go_ret
    refine ⟨?_,S16.out.bel⟩
    show Ending.returned (.bool false) = _
    (first | rfl | (exact rb_f (decide_eq_false (by unfold Gm.rp;omega))))
set_option maxRecDepth 1000000 in
set_option maxHeartbeats 4000000 in
theorem rmat_any (x : Int) (w : World) :
    Calls Tryd.prog 52 #[x] w fun e w'=>e = .returned (.bool (decide (Gm.mtl x))) ∧ Below w.heap.size w w':=by
  have S1 : Hid (St w noB [] w):=Lib.hid (St.start w)
  go_enter Tryd.func52,Tryd.ntmps52
  go_upto_region 0 with fail
  refine wpG_region_k (fun K hK=>?_)
  refine @wpG_p _ _ _ _ _ (some 2) (.bool false) _ _ rfl (by rfl) (fun _=>rfl) ?_
  simp only [n1,n3,n4]
  refine wpG_done (fun V2 hv3=>?_)
  have S4 : Hid (St w noB [] V2):=Lib.hid (S1.out.gr hv3)
  clear S1
  clear hv3
  refine ⟨rfl,hK _ _ ?_⟩
  clear hK
  go_upto_region 1 with fail
  refine wpG_region_k (fun K hK=>?_)
  refine @wpG_p _ _ _ _ _ (some 3) x _ _ rfl (by rfl) (fun _=>rfl) ?_
  simp only [n1,n3,n4]
  refine @wpG_p _ _ _ _ _ (some 4) (.bool (decide (x ≥ 0))) _ _ rfl (by rfl) (fun W=>op_int_geq W x 0 rfl rfl rfl Tryd.underlying3) ?_
  simp only [n1,n3,n4]
  refine @wpG_p _ _ _ _ _ (some 5) (.bool (decide (x ≥ 0))) _ _ rfl (by rfl) (fun _=>rfl) ?_
  simp only [n1,n3,n4]
  obtain ⟨c5,hc5⟩ : ∃ q_,q_ = (decide (x ≥ 0)):=⟨_,rfl⟩
  rw [← hc5]
  have Hc5:=Lib.hid hc5
  clear hc5
  cases c5 with
  | true =>
    have f6:=of_decide_eq_true Hc5.out.symm
    refine @wpG_p _ _ _ _ _ (some 6) x _ _ rfl (by rfl) (fun _=>rfl) ?_
    simp only [n1,n3,n4]
    refine @wpG_p _ _ _ _ _ (some 7) (.bool (decide (x < 256))) _ _ rfl (by rfl) (fun W=>op_int_lss W x 256 rfl rfl rfl Tryd.underlying3) ?_
    simp only [n1,n3,n4]
    refine @wpG_p _ _ _ _ _ (some 8) (.bool (decide (x < 256))) _ _ rfl (by rfl) (fun W=>by go_simp) ?_
    simp only [n1,n3,n4]
    refine @wpG_p _ _ _ _ _ (some 2) (.bool (decide (x < 256))) _ _ rfl (by rfl) (fun _=>rfl) ?_
    simp only [n1,n3,n4]
    refine wpG_done (fun V7 hv8=>?_)
    have S9 : Hid (St w noB [] V7):=Lib.hid (S4.out.gr hv8)
    clear S4
    clear hv8
    refine ⟨rfl,hK _ _ ?_⟩
    clear hK
    go_wp2_with fail
    go_ret
    obtain ⟨c10,hc10⟩ : ∃ q_,q_ = (decide (x < 256)):=⟨_,rfl⟩
    rw [← hc10]
    have Hc10:=Lib.hid hc10
    clear hc10
    cases c10 with
    | true =>
      have f11:=of_decide_eq_true Hc10.out.symm
      refine ⟨?_,S9.out.bel⟩
      show Ending.returned (.bool true) = _
      (first | rfl | (exact rb_t (decide_eq_true (by unfold Gm.mtl;omega))))
    | false =>
      have f12:=of_decide_eq_false Hc10.out.symm
      refine ⟨?_,S9.out.bel⟩
      show Ending.returned (.bool false) = _
      (first | rfl | (exact rb_f (decide_eq_false (by unfold Gm.mtl;omega))))
  | false =>
    have f13:=of_decide_eq_false Hc5.out.symm
    refine @wpG_no _ _ _ _ _ (some 6) _ _ rfl (by rfl) ?_
    simp only [n1,n3,n4]
    refine @wpG_no _ _ _ _ _ (some 7) _ _ rfl (by rfl) ?_
    simp only [n1,n3,n4]
    refine @wpG_p _ _ _ _ _ (some 8) (.bool false) _ _ rfl (by rfl) (fun W=>by go_simp) ?_
    simp only [n1,n3,n4]
    refine @wpG_p _ _ _ _ _ (some 2) (.bool false) _ _ rfl (by rfl) (fun _=>rfl) ?_
    simp only [n1,n3,n4]
    refine wpG_done (fun V14 hv15=>?_)
    have S16 : Hid (St w noB [] V14):=Lib.hid (S4.out.gr hv15)
    clear S4
    clear hv15
    refine ⟨rfl,hK _ _ ?_⟩
    clear hK
    go_wp2_with fail
    go_ret
    refine ⟨?_,S16.out.bel⟩
    show Ending.returned (.bool false) = _
    (first | rfl | (exact rb_f (decide_eq_false (by unfold Gm.mtl;omega))))
set_option maxRecDepth 1000000 in
set_option maxHeartbeats 4000000 in
theorem ranged_any (x y z : Int) (w : World) :
    Calls Tryd.prog 9 #[.agg #[x, y, z]] w fun e w'=>e = .returned (.bool (decide (Gm.rp3 x y z))) ∧ Below w.heap.size w w':=by
  have S1 : Hid (St w noB [] w):=Lib.hid (St.start w)
  go_enter Tryd.func9,Tryd.ntmps9
  go_upto_region 0 with fail
  refine wpG_region_k (fun K hK=>?_)
  refine wpG_val (some 1) rfl (by rfl) (fun W2 hg3=>⟨.pointer (some ⟨W2.heap.size,0,none⟩),W2.alloc (.cells #[x, y, z] 23),by (first | (go_simp;done) | (go_simp <;> rfl)), ?_⟩)
  simp only [n1,n3,n4]
  obtain ⟨g4,U5,hg_,hu_,hS_⟩:=(S1.out.gr hg3).made [x, y, z] 23
  rw [← hu_,← hg_]
  have S6 : Hid (St w noB [blk g4 23 [x, y, z]] U5):=Lib.hid hS_
  clear S1
  clear hg_ hu_ hS_ hg3
  refine @wpG_p _ _ _ _ _ (some 2) (.bool false) _ _ rfl (by rfl) (fun _=>rfl) ?_
  simp only [n1,n3,n4]
  refine wpG_done (fun V7 hv8=>?_)
  have S9 : Hid (St w noB [blk g4 23 [x, y, z]] V7):=Lib.hid (S6.out.gr hv8)
  clear S6
  clear hv8
  refine ⟨rfl,hK _ _ ?_⟩
  clear hK
  go_upto_region 1 with fail
  refine wpG_region_k (fun K hK=>?_)
  refine @wpG_p _ _ _ _ _ (some 3) (.pointer (some ⟨g4,0,none⟩)) _ _ rfl (by rfl) (fun W=>by go_simp) ?_
  simp only [n1,n3,n4]
  refine @wpG_r _ _ _ _ _ (some 4) x _ _ rfl (by rfl) (fun W hg=>by have c:=(S9.out.gr hg).cell 0 rfl 0 rfl;go_simp) ?_
  simp only [n1,n3,n4]
  refine @wpG_tk _ _ _ _ _ (some 5) (.bool (decide (Gm.rp x))) _ _ rfl (.call (f:=38) (args:=#[x]) (by rfl) (fun W=>by go_simp) (fun W hg=>rnear_any x W)) ?_
  simp only [n1,n3,n4]
  refine @wpG_p _ _ _ _ _ (some 6) (.bool (decide (Gm.rp x))) _ _ rfl (by rfl) (fun _=>rfl) ?_
  simp only [n1,n3,n4]
  obtain ⟨c10,hc10⟩ : ∃ q_,q_ = (decide (Gm.rp x)):=⟨_,rfl⟩
  rw [← hc10]
  have Hc10:=Lib.hid hc10
  clear hc10
  cases c10 with
  | true =>
    have f11:=Lib.hid (of_decide_eq_true Hc10.out.symm)
    refine @wpG_p _ _ _ _ _ (some 7) (.pointer (some ⟨g4,1,none⟩)) _ _ rfl (by rfl) (fun W=>by go_simp) ?_
    simp only [n1,n3,n4]
    refine @wpG_r _ _ _ _ _ (some 8) y _ _ rfl (by rfl) (fun W hg=>by have c:=(S9.out.gr hg).cell 0 rfl 1 rfl;go_simp) ?_
    simp only [n1,n3,n4]
    refine @wpG_tk _ _ _ _ _ (some 9) (.bool (decide (Gm.rp y))) _ _ rfl (.call (f:=38) (args:=#[y]) (by rfl) (fun W=>by go_simp) (fun W hg=>rnear_any y W)) ?_
    simp only [n1,n3,n4]
    refine @wpG_p _ _ _ _ _ (some 10) (.bool (decide (Gm.rp y))) _ _ rfl (by rfl) (fun W=>by go_simp) ?_
    simp only [n1,n3,n4]
    refine @wpG_p _ _ _ _ _ (some 11) (.bool (decide (Gm.rp y))) _ _ rfl (by rfl) (fun _=>rfl) ?_
    simp only [n1,n3,n4]
    obtain ⟨c12,hc12⟩ : ∃ q_,q_ = (decide (Gm.rp y)):=⟨_,rfl⟩
    rw [← hc12]
    have Hc12:=Lib.hid hc12
    clear hc12
    cases c12 with
    | true =>
      have f13:=Lib.hid (of_decide_eq_true Hc12.out.symm)
      refine @wpG_p _ _ _ _ _ (some 12) (.pointer (some ⟨g4,2,none⟩)) _ _ rfl (by rfl) (fun W=>by go_simp) ?_
      simp only [n1,n3,n4]
      refine @wpG_r _ _ _ _ _ (some 13) z _ _ rfl (by rfl) (fun W hg=>by have c:=(S9.out.gr hg).cell 0 rfl 2 rfl;go_simp) ?_
      simp only [n1,n3,n4]
      refine @wpG_tk _ _ _ _ _ (some 14) (.bool (decide (Gm.rp z))) _ _ rfl (.call (f:=38) (args:=#[z]) (by rfl) (fun W=>by go_simp) (fun W hg=>rnear_any z W)) ?_
      simp only [n1,n3,n4]
      refine @wpG_p _ _ _ _ _ (some 15) (.bool (decide (Gm.rp z))) _ _ rfl (by rfl) (fun W=>by go_simp) ?_
      simp only [n1,n3,n4]
      refine @wpG_p _ _ _ _ _ (some 2) (.bool (decide (Gm.rp z))) _ _ rfl (by rfl) (fun _=>rfl) ?_
      simp only [n1,n3,n4]
      refine wpG_done (fun V14 hv15=>?_)
      have S16 : Hid (St w noB [blk g4 23 [x, y, z]] V14):=Lib.hid (S9.out.gr hv15)
      clear S9
      clear hv15
      refine ⟨rfl,hK _ _ ?_⟩
      clear hK
      go_wp2_with fail
      go_ret
      obtain ⟨c17,hc17⟩ : ∃ q_,q_ = (decide (Gm.rp z)):=⟨_,rfl⟩
      rw [← hc17]
      have Hc17:=Lib.hid hc17
      clear hc17
      cases c17 with
      | true =>
        have f18:=Lib.hid (of_decide_eq_true Hc17.out.symm)
        refine ⟨?_,S16.out.bel⟩
        show Ending.returned (.bool true) = _
        (first | rfl | (have e_f11:=f11.out;have e_f13:=f13.out;have e_f18:=f18.out;exact rb_t (decide_eq_true ⟨e_f11,e_f13,e_f18⟩)))
      | false =>
        have f19:=Lib.hid (of_decide_eq_false Hc17.out.symm)
        refine ⟨?_,S16.out.bel⟩
        show Ending.returned (.bool false) = _
        (first | rfl | (have e_f11:=f11.out;have e_f13:=f13.out;have e_f19:=f19.out;exact rb_f (decide_eq_false (fun h=>e_f19 h.2.2))))
    | false =>
      have f20:=Lib.hid (of_decide_eq_false Hc12.out.symm)
      refine @wpG_no _ _ _ _ _ (some 12) _ _ rfl (by rfl) ?_
      simp only [n1,n3,n4]
      refine @wpG_no _ _ _ _ _ (some 13) _ _ rfl (by rfl) ?_
      simp only [n1,n3,n4]
      refine @wpG_no _ _ _ _ _ (some 14) _ _ rfl (by rfl) ?_
      simp only [n1,n3,n4]
      refine @wpG_p _ _ _ _ _ (some 15) (.bool false) _ _ rfl (by rfl) (fun W=>by go_simp) ?_
      simp only [n1,n3,n4]
      refine @wpG_p _ _ _ _ _ (some 2) (.bool false) _ _ rfl (by rfl) (fun _=>rfl) ?_
      simp only [n1,n3,n4]
      refine wpG_done (fun V21 hv22=>?_)
      have S23 : Hid (St w noB [blk g4 23 [x, y, z]] V21):=Lib.hid (S9.out.gr hv22)
      clear S9
      clear hv22
      refine ⟨rfl,hK _ _ ?_⟩
      clear hK
      go_wp2_with fail
      go_ret
      refine ⟨?_,S23.out.bel⟩
      show Ending.returned (.bool false) = _
      (first | rfl | (have e_f11:=f11.out;have e_f20:=f20.out;exact rb_f (decide_eq_false (fun h=>e_f20 h.2.1))))
  | false =>
    have f24:=Lib.hid (of_decide_eq_false Hc10.out.symm)
    refine @wpG_no _ _ _ _ _ (some 7) _ _ rfl (by rfl) ?_
    simp only [n1,n3,n4]
    refine @wpG_no _ _ _ _ _ (some 8) _ _ rfl (by rfl) ?_
    simp only [n1,n3,n4]
    refine @wpG_no _ _ _ _ _ (some 9) _ _ rfl (by rfl) ?_
    simp only [n1,n3,n4]
    refine @wpG_p _ _ _ _ _ (some 10) (.bool false) _ _ rfl (by rfl) (fun W=>by go_simp) ?_
    simp only [n1,n3,n4]
    refine @wpG_p _ _ _ _ _ (some 11) (.bool false) _ _ rfl (by rfl) (fun _=>rfl) ?_
    simp only [n1,n3,n4]
    refine @wpG_no _ _ _ _ _ (some 12) _ _ rfl (by rfl) ?_
    simp only [n1,n3,n4]
    refine @wpG_no _ _ _ _ _ (some 13) _ _ rfl (by rfl) ?_
    simp only [n1,n3,n4]
    refine @wpG_no _ _ _ _ _ (some 14) _ _ rfl (by rfl) ?_
    simp only [n1,n3,n4]
    refine @wpG_p _ _ _ _ _ (some 15) (.bool false) _ _ rfl (by rfl) (fun W=>by go_simp) ?_
    simp only [n1,n3,n4]
    refine @wpG_p _ _ _ _ _ (some 2) (.bool false) _ _ rfl (by rfl) (fun _=>rfl) ?_
    simp only [n1,n3,n4]
    refine wpG_done (fun V25 hv26=>?_)
    have S27 : Hid (St w noB [blk g4 23 [x, y, z]] V25):=Lib.hid (S9.out.gr hv26)
    clear S9
    clear hv26
    refine ⟨rfl,hK _ _ ?_⟩
    clear hK
    go_wp2_with fail
    go_ret
    refine ⟨?_,S27.out.bel⟩
    show Ending.returned (.bool false) = _
    (first | rfl | (have e_f24:=f24.out;exact rb_f (decide_eq_false (fun h=>e_f24 h.1))))
end Go.Proofs.YtjdeaopdbenamaaDoor
/-
  Which grids are valid, equal; new grids. (No program.)
-/
namespace Go.Proofs.YtjdeaopdbenamaaDoor.Gm
open Go.Proofs.YtjdeaopdbenamaaDoor Go.Proofs.YtjdeaopdbenamaaDoor.Ff
set_option linter.unusedVariables false
instance (B : Bx) : Decidable B.rg:=by unfold Bx.rg;infer_instance
def vld (B : Bx) (l : List Int) : Prop:=B.rg ∧ ¬ (B.vol = 0 ∧ ¬ B = zb) ∧ B.vol ≤ 2097152 ∧ (l.length : Int) = B.vol ∧ al (fun k=>decide (mtl (l.getD k 0))) l.length = true
instance (B : Bx) (l : List Int) : Decidable (vld B l):=by unfold vld;infer_instance
theorem vld.ok {B : Bx} {l : List Int} (h : vld B l) : ok B l:=⟨h.1,by have:=h.2.2.2.1;omega,h.2.2.1⟩
theorem vld.mat {B : Bx} {l : List Int} (h : vld B l) {k : Nat} (hk : k < l.length) : mtl (l.getD k 0):=by simpa using al_iff.1 h.2.2.2.2 k hk
theorem bx_eq {B C : Bx} : B = C ↔ (B.a = C.a ∧ B.b = C.b ∧ B.c = C.c ∧ B.d = C.d ∧ B.e = C.e ∧ B.f = C.f):=by
  constructor
  · rintro rfl;exact ⟨rfl,rfl,rfl,rfl,rfl,rfl⟩
  · rintro ⟨h1,h2,h3,h4,h5,h6⟩
    cases B;cases C;simp only at h1 h2 h3 h4 h5 h6;subst h1;subst h2;subst h3;subst h4;subst h5;subst h6;rfl
def same (B : Bx) (l : List Int) (C : Bx) (m : List Int) : Bool:=decide (B = C ∧ l = m)
def eqk (l m : List Int) (k : Nat) : Bool:=decide (l.getD k 0 = m.getD k 0)
theorem same_yes {B C : Bx} {l m : List Int} (h : B.a = C.a ∧ B.b = C.b ∧ B.c = C.c ∧ B.d = C.d ∧ B.e = C.e ∧ B.f = C.f) (hl : l.length = m.length) (hk : l.length ≤ ff (eqk l m) l.length) : same B l C m = true:=by
  refine decide_eq_true ⟨bx_eq.2 h, ?_⟩
  apply List.ext_getElem hl
  intro i h1 h2
  have:=ff_all.1 (ff_end hk) i h1
  unfold eqk at this
  rw [List.getD_eq_getElem?_getD,List.getD_eq_getElem?_getD,List.getElem?_eq_getElem h1,List.getElem?_eq_getElem h2] at this
  simpa using this
theorem same_box {B C : Bx} {l m : List Int} (h : ¬ (B.a = C.a ∧ B.b = C.b ∧ B.c = C.c ∧ B.d = C.d ∧ B.e = C.e ∧ B.f = C.f)) : same B l C m = false:=decide_eq_false (fun e=>h (bx_eq.1 e.1))
theorem same_iff {B C : Bx} {l m : List Int} : same B l C m = true ↔ B = C ∧ l = m:=decide_eq_true_iff
def nE (B : Bx) (m : Int) : Int:=if ¬ (B.rg ∧ mtl m) then 1 else if B.vol = 0 then 0 else if 2097152 < B.vol then 2 else 0
def nok (B : Bx) (m : Int) : Bool:=decide ((B.rg ∧ mtl m) ∧ 0 < B.vol ∧ B.vol ≤ 2097152)
def nB (B : Bx) (m : Int) : Bx:=if nok B m then B else zb
def nL (B : Bx) (m : Int) : List Int:=if nok B m then List.replicate B.vol.toNat m else []
theorem new_arg {B : Bx} {m : Int} (h : ¬ (B.rg ∧ mtl m)) : nE B m = 1 ∧ nB B m = zb ∧ nL B m = []:=by
  have e : nok B m = false:=decide_eq_false (fun hc=>h hc.1)
  exact ⟨by unfold nE;rw [if_pos h],by unfold nB;rw [e];rfl,by unfold nL;rw [e];rfl⟩
theorem new_emp {B : Bx} {m : Int} (h : B.rg ∧ mtl m) (h0 : B.vol = 0) : nE B m = 0 ∧ nB B m = zb ∧ nL B m = []:=by
  have e : nok B m = false:=decide_eq_false (fun hc=>by omega)
  exact ⟨by unfold nE;rw [if_neg (not_not_intro h),if_pos h0],by unfold nB;rw [e];rfl,by unfold nL;rw [e];rfl⟩
theorem new_max {B : Bx} {m : Int} (h : B.rg ∧ mtl m) (h0 : 2097152 < B.vol) : nE B m = 2 ∧ nB B m = zb ∧ nL B m = []:=by
  have e : nok B m = false:=decide_eq_false (fun hc=>by omega)
  exact ⟨by unfold nE;rw [if_neg (not_not_intro h),if_neg (by omega),if_pos h0],by unfold nB;rw [e];rfl,by unfold nL;rw [e];rfl⟩
theorem new_ok {B : Bx} {m : Int} (h : B.rg ∧ mtl m) (h0 : ¬ B.vol = 0) (h1 : ¬ 2097152 < B.vol) : nE B m = 0 ∧ nB B m = B ∧ nL B m = List.replicate B.vol.toNat m:=by
  have:=vol_nn B
  have e : nok B m = true:=decide_eq_true ⟨h,by omega,by omega⟩
  exact ⟨by unfold nE;rw [if_neg (not_not_intro h),if_neg h0,if_neg h1],by unfold nB;rw [e];rfl,by unfold nL;rw [e];rfl⟩
end Go.Proofs.YtjdeaopdbenamaaDoor.Gm
