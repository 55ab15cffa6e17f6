/-
  Grids cropped, shifted; differences step by step.
-/
import Derived.Test.YtpapbbolefnkmaaDoorZB29
namespace Go.Proofs.YtpapbbolefnkmaaDoor.Gm
open Go Go.Proofs.YtpapbbolefnkmaaDoor
set_option linter.unusedVariables false
theorem ok_new {B : Bx} {m : Int} (h : nE B m = 0) : ok (nB B m) (nL B m):=by
  unfold nB nL
  cases e : nok B m
  · exact (⟨by unfold Bx.rg rp zb;simp,by decide,by decide⟩ : ok zb [])
  · have h2 : (B.rg ∧ mtl m) ∧ 0 < B.vol ∧ B.vol ≤ 2097152:=of_decide_eq_true e
    exact ⟨h2.1.1,by simp,h2.2.2⟩
theorem mk_zb (F : Int → Int → Int → Int) : mk zb F = []:=by
  apply List.eq_nil_of_length_eq_zero;rw [mk_len];decide
theorem crop_err {B C : Bx} {l : List Int} (h : ¬ nE C 0 = 0) : nB C 0 = zb ∧ paste (nB C 0) (nL C 0) B l = []:=by
  have e : nok C 0 = false:=by
    cases e : nok C 0
    · rfl
    · have h2 : (C.rg ∧ mtl 0) ∧ 0 < C.vol ∧ C.vol ≤ 2097152:=of_decide_eq_true e
      exact absurd (new_ok h2.1 (by omega) (by omega)).1 h
  have e2 : nB C 0 = zb:=by unfold nB;rw [e];rfl
  exact ⟨e2,by rw [e2];exact mk_zb _⟩
def shB (B : Bx) (l : List Int) (x y z : Int) : Bx:=if 0 < l.length then ⟨B.a + x,B.b + y,B.c + z,B.d + x,B.e + y,B.f + z⟩ else B
variable {B C : Bx} {l m : List Int} {k : Nat}
theorem ch_eq {a b : Ch} : a = b ↔ (a.x = b.x ∧ a.y = b.y ∧ a.z = b.z ∧ a.o = b.o ∧ a.n = b.n):=by
  constructor
  · rintro rfl;exact ⟨rfl,rfl,rfl,rfl,rfl⟩
  · rintro ⟨h1,h2,h3,h4,h5⟩
    cases a;cases b;simp only at h1 h2 h3 h4 h5;subst h1;subst h2;subst h3;subst h4;subst h5;rfl
def eqc (a b : List Ch) (k : Nat) : Bool:=decide (cat a k = cat b k)
theorem samech_yes {a b : List Ch} (hl : a.length = b.length) (hk : a.length ≤ Ff.ff (eqc a b) a.length) : a = b:=by
  apply List.ext_getElem hl
  intro i h1 h2
  have:=Ff.ff_all.1 (Ff.ff_end hk) i h1
  unfold eqc cat at this
  rw [List.getD_eq_getElem?_getD,List.getD_eq_getElem?_getD,List.getElem?_eq_getElem h1,List.getElem?_eq_getElem h2] at this
  simpa using this
end Go.Proofs.YtpapbbolefnkmaaDoor.Gm
