/-
  Which grids are valid, equal; new grids. (No program.)
-/
import Derived.Test.YtpapbbolefnkmaaDoorZB25
import Derived.Test.YtpapbbolefnkmaaDoorZB24
namespace Go.Proofs.YtpapbbolefnkmaaDoor.Gm
open Go.Proofs.YtpapbbolefnkmaaDoor Go.Proofs.YtpapbbolefnkmaaDoor.Ff
set_option linter.unusedVariables false
instance (B : Bx) : Decidable B.rg:=by unfold Bx.rg;infer_instance
def vld (B : Bx) (l : List Int) : Prop:=B.rg ∧ ¬ (B.vol = 0 ∧ ¬ B = zb) ∧ B.vol ≤ 2097152 ∧ (l.length : Int) = B.vol ∧ al (fun k=>decide (mtl (l.getD k 0))) l.length = true
instance (B : Bx) (l : List Int) : Decidable (vld B l):=by unfold vld;infer_instance
theorem vld.ok {B : Bx} {l : List Int} (h : vld B l) : ok B l:=⟨h.1,by have:=h.2.2.2.1;omega,h.2.2.1⟩
theorem vld.mat {B : Bx} {l : List Int} (h : vld B l) {k : Nat} (hk : k < l.length) : mtl (l.getD k 0):=by simpa using al_iff.1 h.2.2.2.2 k hk
theorem bx_eq {B C : Bx} : B = C ↔ (B.a = C.a ∧ B.b = C.b ∧ B.c = C.c ∧ B.d = C.d ∧ B.e = C.e ∧ B.f = C.f):=by
  constructor
  · rintro rfl;exact ⟨rfl,rfl,rfl,rfl,rfl,rfl⟩
  · rintro ⟨h1,h2,h3,h4,h5,h6⟩
    cases B;cases C;simp only at h1 h2 h3 h4 h5 h6;subst h1;subst h2;subst h3;subst h4;subst h5;subst h6;rfl
def same (B : Bx) (l : List Int) (C : Bx) (m : List Int) : Bool:=decide (B = C ∧ l = m)
def eqk (l m : List Int) (k : Nat) : Bool:=decide (l.getD k 0 = m.getD k 0)
theorem same_yes {B C : Bx} {l m : List Int} (h : B.a = C.a ∧ B.b = C.b ∧ B.c = C.c ∧ B.d = C.d ∧ B.e = C.e ∧ B.f = C.f) (hl : l.length = m.length) (hk : l.length ≤ ff (eqk l m) l.length) : same B l C m = true:=by
  refine decide_eq_true ⟨bx_eq.2 h, ?_⟩
  apply List.ext_getElem hl
  intro i h1 h2
  have:=ff_all.1 (ff_end hk) i h1
  unfold eqk at this
  rw [List.getD_eq_getElem?_getD,List.getD_eq_getElem?_getD,List.getElem?_eq_getElem h1,List.getElem?_eq_getElem h2] at this
  simpa using this
theorem same_box {B C : Bx} {l m : List Int} (h : ¬ (B.a = C.a ∧ B.b = C.b ∧ B.c = C.c ∧ B.d = C.d ∧ B.e = C.e ∧ B.f = C.f)) : same B l C m = false:=decide_eq_false (fun e=>h (bx_eq.1 e.1))
theorem same_len {B C : Bx} {l m : List Int} (h : ¬ l.length = m.length) : same B l C m = false:=decide_eq_false (fun e=>h (by rw [e.2]))
theorem same_cell {B C : Bx} {l m : List Int} {k : Nat} (h : ¬ l.getD k 0 = m.getD k 0) : same B l C m = false:=decide_eq_false (fun e=>h (by rw [e.2]))
theorem same_iff {B C : Bx} {l m : List Int} : same B l C m = true ↔ B = C ∧ l = m:=decide_eq_true_iff
def nE (B : Bx) (m : Int) : Int:=if ¬ (B.rg ∧ mtl m) then 1 else if B.vol = 0 then 0 else if 2097152 < B.vol then 2 else 0
def nok (B : Bx) (m : Int) : Bool:=decide ((B.rg ∧ mtl m) ∧ 0 < B.vol ∧ B.vol ≤ 2097152)
def nB (B : Bx) (m : Int) : Bx:=if nok B m then B else zb
def nL (B : Bx) (m : Int) : List Int:=if nok B m then List.replicate B.vol.toNat m else []
theorem new_arg {B : Bx} {m : Int} (h : ¬ (B.rg ∧ mtl m)) : nE B m = 1 ∧ nB B m = zb ∧ nL B m = []:=by
  have e : nok B m = false:=decide_eq_false (fun hc=>h hc.1)
  exact ⟨by unfold nE;rw [if_pos h],by unfold nB;rw [e];rfl,by unfold nL;rw [e];rfl⟩
theorem new_emp {B : Bx} {m : Int} (h : B.rg ∧ mtl m) (h0 : B.vol = 0) : nE B m = 0 ∧ nB B m = zb ∧ nL B m = []:=by
  have e : nok B m = false:=decide_eq_false (fun hc=>by omega)
  exact ⟨by unfold nE;rw [if_neg (not_not_intro h),if_pos h0],by unfold nB;rw [e];rfl,by unfold nL;rw [e];rfl⟩
theorem new_max {B : Bx} {m : Int} (h : B.rg ∧ mtl m) (h0 : 2097152 < B.vol) : nE B m = 2 ∧ nB B m = zb ∧ nL B m = []:=by
  have e : nok B m = false:=decide_eq_false (fun hc=>by omega)
  exact ⟨by unfold nE;rw [if_neg (not_not_intro h),if_neg (by omega),if_pos h0],by unfold nB;rw [e];rfl,by unfold nL;rw [e];rfl⟩
theorem new_ok {B : Bx} {m : Int} (h : B.rg ∧ mtl m) (h0 : ¬ B.vol = 0) (h1 : ¬ 2097152 < B.vol) : nE B m = 0 ∧ nB B m = B ∧ nL B m = List.replicate B.vol.toNat m:=by
  have:=vol_nn B
  have e : nok B m = true:=decide_eq_true ⟨h,by omega,by omega⟩
  exact ⟨by unfold nE;rw [if_neg (not_not_intro h),if_neg h0,if_neg h1],by unfold nB;rw [e];rfl,by unfold nL;rw [e];rfl⟩
end Go.Proofs.YtpapbbolefnkmaaDoor.Gm
