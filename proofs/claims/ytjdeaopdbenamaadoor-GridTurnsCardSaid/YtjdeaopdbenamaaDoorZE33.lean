/-
  Points near to the origin; few grids.
-/
import Derived.Test.YtjdeaopdbenamaaDoorZE31
import Derived.Test.YtjdeaopdbenamaaDoorZE32
import Derived.Handy
namespace Go.Proofs.YtjdeaopdbenamaaDoor
open Go Go.RowKit
set_option linter.unusedVariables false
open Gm (Bx Ch)
abbrev Gm.P3:=Int × Int × Int
def pcs (l : List Gm.P3) : List Value:=l.flatMap fun p=>[.int .i64 p.1, .int .i64 p.2.1, .int .i64 p.2.2]
theorem pcs_len (l : List Gm.P3) : (pcs l).length = l.length * 3:=by
  induction l with
  | nil=>rfl
  | cons c r ih=>simp only [pcs,List.flatMap_cons,List.length_append] at ih ⊢;rw [ih];simp;omega
def Gm.pat (l : List Gm.P3) (k : Nat) : Gm.P3:=l.getD k (0,0,0)
theorem pcs_at : ∀ {l : List Gm.P3} {k : Nat},k < l.length → ((pcs l).drop (k * 3)).take 3 = [.int .i64 (Gm.pat l k).1, .int .i64 (Gm.pat l k).2.1, .int .i64 (Gm.pat l k).2.2]
  | c :: r,0,_=>by simp [pcs,Gm.pat]
  | c :: r,k + 1,h=>by
    have ih:=pcs_at (l:=r) (k:=k) (by simpa using h)
    have e : pcs (c :: r) = [.int .i64 c.1, .int .i64 c.2.1, .int .i64 c.2.2] ++ pcs r:=rfl
    have e2 : (([.int .i64 c.1, .int .i64 c.2.1, .int .i64 c.2.2] : List Value) ++ pcs r).drop ((k + 1) * 3) = (pcs r).drop (k * 3):=by
      rw [show (k + 1) * 3 = k * 3 + 1 + 1 + 1 by omega];rfl
    rw [e,e2,ih];rfl
theorem SL.pnt {w : World} {b o n c : Nat} {l : List Gm.P3} (h : SL w 3 (some ⟨b,o,none⟩) n c (pcs l)) (k : Nat) (hk : k < l.length) : w.rangeAt b (o + k * 3) [.int .i64 (Gm.pat l k).1, .int .i64 (Gm.pat l k).2.1, .int .i64 (Gm.pat l k).2.2]:=h.elem (k * 3) (ds:=[.int .i64 (Gm.pat l k).1, .int .i64 (Gm.pat l k).2.1, .int .i64 (Gm.pat l k).2.2]) (pcs_at hk)
namespace Gm
def n1k (x : Int) : Prop:=-10000 ≤ x ∧ x ≤ 10000
instance (x : Int) : Decidable (n1k x):=by unfold n1k;infer_instance
def near1 (p : P3) : Bool:=decide (n1k p.1 ∧ n1k p.2.1 ∧ n1k p.2.2)
def nears (l : List P3) : Bool:=Ff.al (fun k=>near1 (pat l k)) l.length
theorem nears_iff {l : List P3} : nears l = true ↔ ∀ p ∈ l,near1 p = true:=by
  unfold nears
  rw [Ff.al_iff]
  constructor
  · intro h p hp
    obtain ⟨i,hi,rfl⟩:=List.getElem_of_mem hp
    have:=h i hi
    unfold pat at this
    rwa [List.getD_eq_getElem?_getD,List.getElem?_eq_getElem hi] at this
  · intro h i hi
    refine h _ ?_
    unfold pat
    rw [List.getD_eq_getElem?_getD,List.getElem?_eq_getElem hi];exact List.getElem_mem hi
theorem near1_rp {x y z : Int} (h : near1 (x,y,z) = true) : rp3 x y z:=by
  have:=of_decide_eq_true h
  unfold n1k at this
  unfold rp3 rp
  simp only at this
  omega
def fw (B : Bx) (l : List Int) : Bool:=decide (l.length ≤ 1000) && (decide (vld B l) && nears [(B.a,B.b,B.c),(B.d,B.e,B.f)])
theorem fw_yes {B : Bx} {l : List Int} (h1 : l.length ≤ 1000) (h2 : vld B l) (h3 : nears [(B.a,B.b,B.c),(B.d,B.e,B.f)] = true) : fw B l = true:=by
  unfold fw;rw [decide_eq_true h1,decide_eq_true h2,h3];rfl
theorem fw_1 {B : Bx} {l : List Int} (h1 : ¬ l.length ≤ 1000) : fw B l = false:=by unfold fw;rw [decide_eq_false h1];rfl
theorem fw_2 {B : Bx} {l : List Int} (h1 : ¬ vld B l) : fw B l = false:=by unfold fw;rw [decide_eq_false h1];simp
theorem fw_3 {B : Bx} {l : List Int} (h1 : nears [(B.a,B.b,B.c),(B.d,B.e,B.f)] = false) : fw B l = false:=by unfold fw;rw [h1];simp
theorem fw_of {B : Bx} {l : List Int} (h : fw B l = true) : l.length ≤ 1000 ∧ vld B l ∧ near1 (B.a,B.b,B.c) = true ∧ near1 (B.d,B.e,B.f) = true:=by
  unfold fw at h
  simp only [Bool.and_eq_true,decide_eq_true_eq] at h
  have h3:=nears_iff.1 h.2.2
  exact ⟨h.1,h.2.1,h3 _ (by simp),h3 _ (by simp)⟩
end Gm
end Go.Proofs.YtjdeaopdbenamaaDoor
/-
  What stands in a cell of grids written, pasted; writing the differences is pasting.
-/
namespace Go.Proofs.YtjdeaopdbenamaaDoor.Gm
open Go Go.Proofs.YtjdeaopdbenamaaDoor
set_option linter.unusedVariables false
section
variable {B C : Bx} {l m : List Int} {x y z x' y' z' o v : Int} {k : Nat}
theorem get_out (h : B.inb x y z = false) : get B l x y z = 0:=by unfold get;rw [h];rfl
end
end Go.Proofs.YtjdeaopdbenamaaDoor.Gm
/-
  Grids turned twice, and back.
-/
namespace Go.Proofs.YtjdeaopdbenamaaDoor.Gm
open Go Go.Proofs.YtjdeaopdbenamaaDoor
set_option linter.unusedVariables false
section
variable {B C : Bx} {l m : List Int} {s t x y z : Int}
theorem get_turn_at : get (tB s B) (turn s B l) x y z = get B l (tx (iv s) x y z) (ty (iv s) x y z) (tz (iv s) x y z):=by
  unfold turn
  rw [get_mk]
  have h:=in_tB s (tx (iv s) x y z) (ty (iv s) x y z) (tz (iv s) x y z) B
  obtain ⟨f1,f2,f3⟩:=forth s x y z
  rw [f1,f2,f3] at h
  rw [h]
  cases hb : B.inb (tx (iv s) x y z) (ty (iv s) x y z) (tz (iv s) x y z)
  · rw [get_out hb];rfl
  · rfl
theorem get_turn : get (tB s B) (turn s B l) (tx s x y z) (ty s x y z) (tz s x y z) = get B l x y z:=by
  rw [get_turn_at]
  obtain ⟨f1,f2,f3⟩:=back s x y z
  rw [f1,f2,f3]
theorem ok_turn (h : ok B l) : ok (tB s B) (turn s B l):=⟨rg_tB s h.rg,by unfold turn;rw [mk_len],by rw [vol_tB];exact h.max⟩
theorem box_ext (h1 : B.emp = false) (h2 : C.emp = false) (h : ∀ x y z,B.inb x y z = C.inb x y z) : B = C:=by
  have e1:=Pt.emp_false.1 h1
  have e2:=Pt.emp_false.1 h2
  have a1:=Pt.inB_true.1 ((h B.a B.b B.c).symm.trans (Pt.inB_true.2 (by omega)))
  have a2:=Pt.inB_true.1 ((h (B.d - 1) (B.e - 1) (B.f - 1)).symm.trans (Pt.inB_true.2 (by omega)))
  have a3:=Pt.inB_true.1 ((h C.a C.b C.c).trans (Pt.inB_true.2 (by omega)))
  have a4:=Pt.inB_true.1 ((h (C.d - 1) (C.e - 1) (C.f - 1)).trans (Pt.inB_true.2 (by omega)))
  exact bx_eq.2 (by omega)
theorem emp_tB (h : B.emp = false) : (tB s B).emp = false:=by
  refine emp_of ?_
  rw [vol_tB];exact Pt.vol_pos h
theorem tB_zb : tB s zb = zb:=by
  unfold tB
  split
  · rfl
  · rfl
theorem tB_emp (h : B.emp = true) (hs : sy s = true) : tB s B = zb:=by unfold tB;rw [hs,h];rfl
def cp (t s : Int) : Int:=(Pt.comp t.toNat s.toNat : Int)
theorem sy_cp (ht : sy t = true) (hs : sy s = true) : sy (cp t s) = true ∧ (cp t s).toNat = Pt.comp t.toNat s.toNat:=by
  have h : Pt.comp t.toNat s.toNat < 48:=(Pt.comp_lt ⟨t.toNat,(sy_nat ht).1⟩ ⟨s.toNat,(sy_nat hs).1⟩).1
  unfold cp
  exact ⟨decide_eq_true (by omega),by omega⟩
theorem cp_pt (ht : sy t = true) (hs : sy s = true) : tx (cp t s) x y z = tx t (tx s x y z) (ty s x y z) (tz s x y z) ∧ ty (cp t s) x y z = ty t (tx s x y z) (ty s x y z) (tz s x y z) ∧ tz (cp t s) x y z = tz t (tx s x y z) (ty s x y z) (tz s x y z):=by
  obtain ⟨h1,h2⟩:=sy_cp ht hs
  have q:=fun i=>Pt.tc_comp 1 x y z ⟨t.toNat,(sy_nat ht).1⟩ ⟨s.toNat,(sy_nat hs).1⟩ i
  unfold tx ty tz
  simp only [h1,ht,hs,if_true,h2]
  exact ⟨(q 0).symm,(q 1).symm,(q 2).symm⟩
theorem cp_inv (ht : sy t = true) (hs : sy s = true) : tx (iv (cp t s)) x y z = tx (iv s) (tx (iv t) x y z) (ty (iv t) x y z) (tz (iv t) x y z) ∧ ty (iv (cp t s)) x y z = ty (iv s) (tx (iv t) x y z) (ty (iv t) x y z) (tz (iv t) x y z) ∧ tz (iv (cp t s)) x y z = tz (iv s) (tx (iv t) x y z) (ty (iv t) x y z) (tz (iv t) x y z):=by
  obtain ⟨f1,f2,f3⟩:=forth t x y z
  obtain ⟨g1,g2,g3⟩:=forth s (tx (iv t) x y z) (ty (iv t) x y z) (tz (iv t) x y z)
  obtain ⟨c1,c2,c3⟩:=cp_pt (x:=tx (iv s) (tx (iv t) x y z) (ty (iv t) x y z) (tz (iv t) x y z)) (y:=ty (iv s) (tx (iv t) x y z) (ty (iv t) x y z) (tz (iv t) x y z)) (z:=tz (iv s) (tx (iv t) x y z) (ty (iv t) x y z) (tz (iv t) x y z)) ht hs
  rw [g1,g2,g3,f1] at c1
  rw [g1,g2,g3,f2] at c2
  rw [g1,g2,g3,f3] at c3
  have b:=back (cp t s) (tx (iv s) (tx (iv t) x y z) (ty (iv t) x y z) (tz (iv t) x y z)) (ty (iv s) (tx (iv t) x y z) (ty (iv t) x y z) (tz (iv t) x y z)) (tz (iv s) (tx (iv t) x y z) (ty (iv t) x y z) (tz (iv t) x y z))
  rw [c1,c2,c3] at b
  exact b
theorem in_tB_at : (tB s B).inb x y z = B.inb (tx (iv s) x y z) (ty (iv s) x y z) (tz (iv s) x y z):=by
  have h:=in_tB s (tx (iv s) x y z) (ty (iv s) x y z) (tz (iv s) x y z) B
  obtain ⟨f1,f2,f3⟩:=forth s x y z
  rw [f1,f2,f3] at h
  exact h
theorem tB_cp (ht : sy t = true) (hs : sy s = true) : tB t (tB s B) = tB (cp t s) B:=by
  cases he : B.emp
  · refine box_ext (emp_tB (emp_tB he)) (emp_tB he) fun x y z=>?_
    rw [in_tB_at,in_tB_at,in_tB_at]
    obtain ⟨c1,c2,c3⟩:=cp_inv (x:=x) (y:=y) (z:=z) ht hs
    rw [c1,c2,c3]
  · rw [tB_emp he hs,tB_emp he (sy_cp ht hs).1,tB_zb]
theorem turn_cp (ht : sy t = true) (hs : sy s = true) : turn t (tB s B) (turn s B l) = turn (cp t s) B l:=by
  conv=>lhs;unfold turn
  conv=>rhs;unfold turn
  rw [tB_cp ht hs]
  refine mk_congr fun x y z _=>?_
  have h:=get_turn_at (B:=B) (l:=l) (s:=s) (x:=tx (iv t) x y z) (y:=ty (iv t) x y z) (z:=tz (iv t) x y z)
  obtain ⟨c1,c2,c3⟩:=cp_inv (x:=x) (y:=y) (z:=z) ht hs
  rw [c1,c2,c3]
  exact h
theorem iv_iv (hs : sy s = true) : tx (iv (iv s)) x y z = tx s x y z ∧ ty (iv (iv s)) x y z = ty s x y z ∧ tz (iv (iv s)) x y z = tz s x y z:=by
  have b:=back (iv s) (tx s x y z) (ty s x y z) (tz s x y z)
  obtain ⟨f1,f2,f3⟩:=back s x y z
  rw [f1,f2,f3] at b
  exact b
theorem tB_back (hv : vld B l) (hs : sy s = true) : tB (iv s) (tB s B) = B:=by
  cases he : B.emp
  · refine box_ext (emp_tB (emp_tB he)) he fun x y z=>?_
    rw [in_tB_at,in_tB_at]
    obtain ⟨c1,c2,c3⟩:=iv_iv (x:=x) (y:=y) (z:=z) hs
    rw [c1,c2,c3]
    obtain ⟨f1,f2,f3⟩:=back s x y z
    rw [f1,f2,f3]
  · have h0 : B.vol = 0:=Pt.vol_emp he
    have hz : B = zb:=Classical.byContradiction fun h=>hv.2.1 ⟨h0,h⟩
    rw [hz,tB_zb,tB_zb]
theorem turn_back (hv : vld B l) (hs : sy s = true) : turn (iv s) (tB s B) (turn s B l) = l:=by
  have e:=mk_get hv.ok.len
  conv=>rhs;rw [← e]
  conv=>lhs;unfold turn
  rw [tB_back hv hs]
  refine mk_congr fun x y z _=>?_
  have h:=get_turn_at (B:=B) (l:=l) (s:=s) (x:=tx (iv (iv s)) x y z) (y:=ty (iv (iv s)) x y z) (z:=tz (iv (iv s)) x y z)
  obtain ⟨c1,c2,c3⟩:=iv_iv (x:=x) (y:=y) (z:=z) hs
  obtain ⟨f1,f2,f3⟩:=back s x y z
  rw [c1,c2,c3] at h ⊢
  rw [f1,f2,f3] at h
  exact h
end
theorem sy_of {n : Nat} (h : n < 48) : sy (n : Int) = true:=decide_eq_true (by omega)
theorem tp_rp {s x y z : Int} (h : near1 (x,y,z) = true) : rp3 (tx s x y z) (ty s x y z) (tz s x y z):=by
  have h1:=of_decide_eq_true h
  unfold n1k at h1
  simp only at h1
  unfold tx ty tz
  cases sy s
  · unfold rp3 rp;simp;omega
  · have q:=fun i=>Pt.tc_bd (L:=10000) (less:=1) (s:=s.toNat) (i:=i) (x:=x) (y:=y) (z:=z) (by omega) (by omega)
    have q0:=q 0
    have q1:=q 1
    have q2:=q 2
    simp only [if_true]
    unfold rp3 rp
    omega
end Go.Proofs.YtjdeaopdbenamaaDoor.Gm
