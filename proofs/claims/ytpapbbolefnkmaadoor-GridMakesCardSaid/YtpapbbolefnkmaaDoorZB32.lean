/-
  Grids turned.
-/
import Derived.Test.YtpapbbolefnkmaaDoorZB30
import Derived.Test.YtpapbbolefnkmaaDoorZB17
import Derived.Test.YtpapbbolefnkmaaDoorZB15
import Derived.Test.YtpapbbolefnkmaaDoorZB07
import Derived.Test.YtpapbbolefnkmaaDoorZB03
import Derived.Test.YtpapbbolefnkmaaDoorZB31
import Derived.Handy
import Derived.Laws.StructEq
namespace Go.Proofs.YtpapbbolefnkmaaDoor.Gm
open Go Go.Proofs.YtpapbbolefnkmaaDoor
set_option linter.unusedVariables false
def sy (s : Int) : Bool:=decide (0 ≤ s ∧ s < 48)
def tx (s x y z : Int) : Int:=if sy s then Pt.tc 1 s.toNat 0 x y z else x
def ty (s x y z : Int) : Int:=if sy s then Pt.tc 1 s.toNat 1 x y z else y
def tz (s x y z : Int) : Int:=if sy s then Pt.tc 1 s.toNat 2 x y z else z
def tB (s : Int) (B : Bx) : Bx:=if sy s then (if B.emp then zb else
  ⟨min (Pt.tc 0 s.toNat 0 B.a B.b B.c) (Pt.tc 0 s.toNat 0 B.d B.e B.f),min (Pt.tc 0 s.toNat 1 B.a B.b B.c) (Pt.tc 0 s.toNat 1 B.d B.e B.f),min (Pt.tc 0 s.toNat 2 B.a B.b B.c) (Pt.tc 0 s.toNat 2 B.d B.e B.f),
   max (Pt.tc 0 s.toNat 0 B.a B.b B.c) (Pt.tc 0 s.toNat 0 B.d B.e B.f),max (Pt.tc 0 s.toNat 1 B.a B.b B.c) (Pt.tc 0 s.toNat 1 B.d B.e B.f),max (Pt.tc 0 s.toNat 2 B.a B.b B.c) (Pt.tc 0 s.toNat 2 B.d B.e B.f)⟩) else B
def iv (s : Int) : Int:=if sy s then (Pt.inv s.toNat : Int) else s
theorem sy_nat {s : Int} (h : sy s = true) : s.toNat < 48 ∧ (s.toNat : Int) = s:=by
  have:=of_decide_eq_true h
  omega
theorem sy_iv (s : Int) : sy (iv s) = sy s:=by
  unfold iv
  cases h : sy s
  · exact h
  · rw [if_pos rfl]
    have h3 : Pt.inv s.toNat < 48:=(Pt.inv_lt ⟨s.toNat,(sy_nat h).1⟩).1
    exact decide_eq_true (by omega)
theorem tc_inv (n : Fin 48) (i : Fin 3) (x y z : Int) : Pt.tc 1 (Pt.inv n) i (Pt.tc 1 n 0 x y z) (Pt.tc 1 n 1 x y z) (Pt.tc 1 n 2 x y z) = Pt.tc 1 0 i x y z:=by
  have h:=Pt.tc_comp 1 x y z ⟨Pt.inv n,(Pt.inv_lt n).1⟩ n i
  rw [(Pt.comp_inv n).2.1] at h
  exact h
theorem tc_inv2 (n : Fin 48) (i : Fin 3) (x y z : Int) : Pt.tc 1 n i (Pt.tc 1 (Pt.inv n) 0 x y z) (Pt.tc 1 (Pt.inv n) 1 x y z) (Pt.tc 1 (Pt.inv n) 2 x y z) = Pt.tc 1 0 i x y z:=by
  have h:=Pt.tc_comp 1 x y z n ⟨Pt.inv n,(Pt.inv_lt n).1⟩ i
  rw [(Pt.comp_inv n).1] at h
  exact h
section
variable (s x y z : Int)
theorem back : tx (iv s) (tx s x y z) (ty s x y z) (tz s x y z) = x ∧ ty (iv s) (tx s x y z) (ty s x y z) (tz s x y z) = y ∧ tz (iv s) (tx s x y z) (ty s x y z) (tz s x y z) = z:=by
  unfold tx ty tz
  rw [sy_iv]
  cases h : sy s
  · exact ⟨rfl,rfl,rfl⟩
  · have e : (iv s).toNat = Pt.inv s.toNat:=by unfold iv;rw [h];rfl
    simp only [if_true,e]
    have n:=sy_nat h
    exact ⟨tc_inv ⟨s.toNat,n.1⟩ 0 x y z,tc_inv ⟨s.toNat,n.1⟩ 1 x y z,tc_inv ⟨s.toNat,n.1⟩ 2 x y z⟩
theorem forth : tx s (tx (iv s) x y z) (ty (iv s) x y z) (tz (iv s) x y z) = x ∧ ty s (tx (iv s) x y z) (ty (iv s) x y z) (tz (iv s) x y z) = y ∧ tz s (tx (iv s) x y z) (ty (iv s) x y z) (tz (iv s) x y z) = z:=by
  unfold tx ty tz
  rw [sy_iv]
  cases h : sy s
  · exact ⟨rfl,rfl,rfl⟩
  · have e : (iv s).toNat = Pt.inv s.toNat:=by unfold iv;rw [h];rfl
    simp only [if_true,e]
    have n:=sy_nat h
    exact ⟨tc_inv2 ⟨s.toNat,n.1⟩ 0 x y z,tc_inv2 ⟨s.toNat,n.1⟩ 1 x y z,tc_inv2 ⟨s.toNat,n.1⟩ 2 x y z⟩
theorem in_tB (B : Bx) : (tB s B).inb (tx s x y z) (ty s x y z) (tz s x y z) = B.inb x y z:=by
  unfold tB tx ty tz
  cases h : sy s
  · rfl
  · simp only [if_true]
    cases he : B.emp
    · exact Pt.in_turn s.toNat (sy_nat h).1 x y z _ _ _ _ _ _ he
    · have h1 : B.inb x y z = false:=by
        cases hb : B.inb x y z
        · rfl
        · have h2 : B.emp = false:=(Pt.idx_bd hb).2.2.2
          rw [h2] at he;cases he
      rw [h1]
      simp only [if_true]
      refine Pt.inB_false.2 ?_
      unfold zb;simp only;omega
theorem vol_tB (B : Bx) : (tB s B).vol = B.vol:=by
  unfold tB
  cases h : sy s
  · rfl
  · simp only [if_true]
    cases he : B.emp
    · exact Pt.vol_turn s.toNat (sy_nat h).1 _ _ _ _ _ _ he
    · have : B.vol = 0:=Pt.vol_emp he
      rw [this];rfl
theorem rg_tB {B : Bx} (hb : B.rg) : (tB s B).rg:=by
  unfold tB
  cases h : sy s
  · exact hb
  · simp only [if_true]
    cases he : B.emp
    · simp only [Bool.false_eq_true,if_false]
      unfold Bx.rg rp at hb
      have t1:=fun i=>Pt.tc_bd0 (L:=1048575) (s:=s.toNat) (i:=i) (x:=B.a) (y:=B.b) (z:=B.c) (by omega)
      have t2:=fun i=>Pt.tc_bd0 (L:=1048575) (s:=s.toNat) (i:=i) (x:=B.d) (y:=B.e) (z:=B.f) (by omega)
      have a0:=t1 0
      have a1:=t1 1
      have a2:=t1 2
      have b0:=t2 0
      have b1:=t2 1
      have b2:=t2 2
      unfold Bx.rg rp
      simp only
      omega
    · simp only [if_true]
      unfold Bx.rg rp zb;simp
end
def trn (s : Int) (B : Bx) (l : List Int) (k : Nat) : List Int:=(List.range l.length).map fun (j : Nat) =>
  if B.ix (tx (iv s) ((tB s B).ax j) ((tB s B).ay j) ((tB s B).az j)) (ty (iv s) ((tB s B).ax j) ((tB s B).ay j) ((tB s B).az j)) (tz (iv s) ((tB s B).ax j) ((tB s B).ay j) ((tB s B).az j)) < (k : Int)
  then get B l (tx (iv s) ((tB s B).ax j) ((tB s B).ay j) ((tB s B).az j)) (ty (iv s) ((tB s B).ax j) ((tB s B).ay j) ((tB s B).az j)) (tz (iv s) ((tB s B).ax j) ((tB s B).ay j) ((tB s B).az j)) else l.getD j 0
def turn (s : Int) (B : Bx) (l : List Int) : List Int:=mk (tB s B) fun x y z=>get B l (tx (iv s) x y z) (ty (iv s) x y z) (tz (iv s) x y z)
section
variable {s : Int} {B : Bx} {l : List Int} {k q : Nat}
theorem trn_len : (trn s B l k).length = l.length:=by simp [trn]
theorem trn_at {j : Nat} (h : j < l.length) : (trn s B l k)[j]? = some (if B.ix (tx (iv s) ((tB s B).ax j) ((tB s B).ay j) ((tB s B).az j)) (ty (iv s) ((tB s B).ax j) ((tB s B).ay j) ((tB s B).az j)) (tz (iv s) ((tB s B).ax j) ((tB s B).ay j) ((tB s B).az j)) < (k : Int)
  then get B l (tx (iv s) ((tB s B).ax j) ((tB s B).ay j) ((tB s B).az j)) (ty (iv s) ((tB s B).ax j) ((tB s B).ay j) ((tB s B).az j)) (tz (iv s) ((tB s B).ax j) ((tB s B).ay j) ((tB s B).az j)) else l.getD j 0):=by
  unfold trn
  rw [List.getElem?_map,List.getElem?_range h];rfl
theorem back_in (ho : ok B l) {j : Nat} (h : j < l.length) : B.inb (tx (iv s) ((tB s B).ax j) ((tB s B).ay j) ((tB s B).az j)) (ty (iv s) ((tB s B).ax j) ((tB s B).ay j) ((tB s B).az j)) (tz (iv s) ((tB s B).ax j) ((tB s B).ay j) ((tB s B).az j)) = true:=by
  have hv:=ho.vol
  have h1:=at_in (B:=tB s B) (k:=(j : Int)) (by omega) (by rw [vol_tB];omega)
  have h2:=in_tB s (tx (iv s) ((tB s B).ax j) ((tB s B).ay j) ((tB s B).az j)) (ty (iv s) ((tB s B).ax j) ((tB s B).ay j) ((tB s B).az j)) (tz (iv s) ((tB s B).ax j) ((tB s B).ay j) ((tB s B).az j)) B
  obtain ⟨f1,f2,f3⟩:=forth s ((tB s B).ax j) ((tB s B).ay j) ((tB s B).az j)
  rw [f1,f2,f3,h1] at h2
  exact h2.symm
theorem trn_zero (ho : ok B l) : trn s B l 0 = l:=by
  apply List.ext_getElem?
  intro j
  rcases Nat.lt_or_ge j l.length with h | h
  · have hb:=ix_bd (back_in (s:=s) ho h)
    rw [trn_at h,if_neg (by omega),List.getD_eq_getElem?_getD,List.getElem?_eq_getElem h];rfl
  · rw [List.getElem?_eq_none h,List.getElem?_eq_none (by rw [trn_len];omega)]
theorem turn_in (ho : ok B l) (h : k < l.length) : (tB s B).inb (tx s (B.ax k) (B.ay k) (B.az k)) (ty s (B.ax k) (B.ay k) (B.az k)) (tz s (B.ax k) (B.ay k) (B.az k)) = true:=by
  have hv:=ho.vol
  rw [in_tB];exact at_in (by omega) (by omega)
theorem trn_step (ho : ok B l) (h : k < l.length) (hq : ixr (tB s B) (tx s (B.ax k) (B.ay k) (B.az k)) (ty s (B.ax k) (B.ay k) (B.az k)) (tz s (B.ax k) (B.ay k) (B.az k)) = (q : Int)) : trn s B l (k + 1) = (trn s B l k).set q (l.getD k 0):=by
  have hv:=ho.vol
  have hin:=turn_in (s:=s) ho h
  have hq2 : (tB s B).ix (tx s (B.ax k) (B.ay k) (B.az k)) (ty s (B.ax k) (B.ay k) (B.az k)) (tz s (B.ax k) (B.ay k) (B.az k)) = (q : Int):=by
    rw [← hq];unfold ixr;rw [hin];rfl
  have hqb:=ix_bd hin
  rw [hq2,vol_tB] at hqb
  have hqa:=at_ix hin
  rw [hq2] at hqa
  obtain ⟨b1,b2,b3⟩:=back s (B.ax k) (B.ay k) (B.az k)
  apply List.ext_getElem?
  intro j
  rcases Nat.lt_or_ge j l.length with hj | hj
  · rw [trn_at hj]
    by_cases e : j = q
    · subst e
      have e1 : ((trn s B l k).set j (l.getD k 0))[j]? = some (l.getD k 0):=by rw [List.getElem?_set];simp [trn_len,hj]
      rw [e1,hqa.1,hqa.2.1,hqa.2.2,b1,b2,b3,ix_at (by omega) (by omega),if_pos (by omega),get_at ho.len h]
    · have e1 : ((trn s B l k).set q (l.getD k 0))[j]? = (trn s B l k)[j]?:=by rw [List.getElem?_set];simp [Ne.symm e]
      rw [e1,trn_at hj]
      have hb:=back_in (s:=s) ho hj
      have hne : ¬ B.ix (tx (iv s) ((tB s B).ax j) ((tB s B).ay j) ((tB s B).az j)) (ty (iv s) ((tB s B).ax j) ((tB s B).ay j) ((tB s B).az j)) (tz (iv s) ((tB s B).ax j) ((tB s B).ay j) ((tB s B).az j)) = (k : Int):=by
        intro hk
        have ha:=at_ix hb
        rw [hk] at ha
        obtain ⟨f1,f2,f3⟩:=forth s ((tB s B).ax j) ((tB s B).ay j) ((tB s B).az j)
        rw [← ha.1,← ha.2.1,← ha.2.2] at f1 f2 f3
        have h5:=ix_at (B:=tB s B) (k:=(j : Int)) (by omega) (by rw [vol_tB];omega)
        rw [← f1,← f2,← f3,hq2] at h5
        omega
      congr 1
      by_cases hlt : B.ix (tx (iv s) ((tB s B).ax j) ((tB s B).ay j) ((tB s B).az j)) (ty (iv s) ((tB s B).ax j) ((tB s B).ay j) ((tB s B).az j)) (tz (iv s) ((tB s B).ax j) ((tB s B).ay j) ((tB s B).az j)) < (k : Int)
      · rw [if_pos hlt,if_pos (by omega)]
      · rw [if_neg hlt,if_neg (by omega)]
  · rw [List.getElem?_eq_none (by rw [trn_len];omega),List.getElem?_eq_none (by rw [List.length_set,trn_len];omega)]
theorem turn_rp (ho : ok B l) (h : k < l.length) : rp3 (tx s (B.ax k) (B.ay k) (B.az k)) (ty s (B.ax k) (B.ay k) (B.az k)) (tz s (B.ax k) (B.ay k) (B.az k)):=by
  have hin:=Pt.inB_true.1 (turn_in (s:=s) ho h)
  have hr:=rg_tB s ho.rg
  unfold Bx.rg rp at hr
  unfold rp3 rp
  omega
theorem trn_all (ho : ok B l) : trn s B l l.length = turn s B l:=by
  have hv:=ho.vol
  apply List.ext_getElem?
  intro j
  rcases Nat.lt_or_ge j l.length with hj | hj
  · have hb:=ix_bd (back_in (s:=s) ho hj)
    rw [trn_at hj,if_pos (by omega)]
    unfold turn
    rw [mk_at (by rw [vol_tB];omega)]
  · rw [List.getElem?_eq_none (by rw [trn_len];omega),List.getElem?_eq_none (by unfold turn;rw [mk_len,vol_tB];omega)]
end
end Go.Proofs.YtpapbbolefnkmaaDoor.Gm
namespace Go.Proofs.YtpapbbolefnkmaaDoor
open Go Go.RowKit
end Go.Proofs.YtpapbbolefnkmaaDoor
/-
  Points near to the origin; few grids.
-/
namespace Go.Proofs.YtpapbbolefnkmaaDoor
open Go Go.RowKit
set_option linter.unusedVariables false
open Gm (Bx Ch)
namespace Gm
def n1k (x : Int) : Prop:=-10000 ≤ x ∧ x ≤ 10000
instance (x : Int) : Decidable (n1k x):=by unfold n1k;infer_instance
end Gm
end Go.Proofs.YtpapbbolefnkmaaDoor
