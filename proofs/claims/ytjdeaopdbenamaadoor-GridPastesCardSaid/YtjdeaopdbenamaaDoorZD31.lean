/-
  Grids turned.
-/
import Derived.Test.YtjdeaopdbenamaaDoorZD27
import Derived.Test.YtjdeaopdbenamaaDoorZD30
import Derived.Test.YtjdeaopdbenamaaDoorZD10
import Derived.Test.YtjdeaopdbenamaaDoorZD26
import Derived.Test.YtjdeaopdbenamaaDoorZD08
import Derived.Test.YtjdeaopdbenamaaDoorZD03
import Derived.Test.YtjdeaopdbenamaaDoorZD28
import Derived.Handy
import Derived.Laws.StructEq
namespace Go.Proofs.YtjdeaopdbenamaaDoor.Gm
open Go Go.Proofs.YtjdeaopdbenamaaDoor
set_option linter.unusedVariables false
def sy (s : Int) : Bool:=decide (0 ≤ s ∧ s < 48)
def tx (s x y z : Int) : Int:=if sy s then Pt.tc 1 s.toNat 0 x y z else x
def ty (s x y z : Int) : Int:=if sy s then Pt.tc 1 s.toNat 1 x y z else y
def tz (s x y z : Int) : Int:=if sy s then Pt.tc 1 s.toNat 2 x y z else z
def tB (s : Int) (B : Bx) : Bx:=if sy s then (if B.emp then zb else
  ⟨min (Pt.tc 0 s.toNat 0 B.a B.b B.c) (Pt.tc 0 s.toNat 0 B.d B.e B.f),min (Pt.tc 0 s.toNat 1 B.a B.b B.c) (Pt.tc 0 s.toNat 1 B.d B.e B.f),min (Pt.tc 0 s.toNat 2 B.a B.b B.c) (Pt.tc 0 s.toNat 2 B.d B.e B.f),
   max (Pt.tc 0 s.toNat 0 B.a B.b B.c) (Pt.tc 0 s.toNat 0 B.d B.e B.f),max (Pt.tc 0 s.toNat 1 B.a B.b B.c) (Pt.tc 0 s.toNat 1 B.d B.e B.f),max (Pt.tc 0 s.toNat 2 B.a B.b B.c) (Pt.tc 0 s.toNat 2 B.d B.e B.f)⟩) else B
def iv (s : Int) : Int:=if sy s then (Pt.inv s.toNat : Int) else s
theorem sy_nat {s : Int} (h : sy s = true) : s.toNat < 48 ∧ (s.toNat : Int) = s:=by
  have:=of_decide_eq_true h
  omega
theorem sy_iv (s : Int) : sy (iv s) = sy s:=by
  unfold iv
  cases h : sy s
  · exact h
  · rw [if_pos rfl]
    have h3 : Pt.inv s.toNat < 48:=(Pt.inv_lt ⟨s.toNat,(sy_nat h).1⟩).1
    exact decide_eq_true (by omega)
theorem tc_inv (n : Fin 48) (i : Fin 3) (x y z : Int) : Pt.tc 1 (Pt.inv n) i (Pt.tc 1 n 0 x y z) (Pt.tc 1 n 1 x y z) (Pt.tc 1 n 2 x y z) = Pt.tc 1 0 i x y z:=by
  have h:=Pt.tc_comp 1 x y z ⟨Pt.inv n,(Pt.inv_lt n).1⟩ n i
  rw [(Pt.comp_inv n).2.1] at h
  exact h
theorem tc_inv2 (n : Fin 48) (i : Fin 3) (x y z : Int) : Pt.tc 1 n i (Pt.tc 1 (Pt.inv n) 0 x y z) (Pt.tc 1 (Pt.inv n) 1 x y z) (Pt.tc 1 (Pt.inv n) 2 x y z) = Pt.tc 1 0 i x y z:=by
  have h:=Pt.tc_comp 1 x y z n ⟨Pt.inv n,(Pt.inv_lt n).1⟩ i
  rw [(Pt.comp_inv n).1] at h
  exact h
section
variable (s x y z : Int)
theorem back : tx (iv s) (tx s x y z) (ty s x y z) (tz s x y z) = x ∧ ty (iv s) (tx s x y z) (ty s x y z) (tz s x y z) = y ∧ tz (iv s) (tx s x y z) (ty s x y z) (tz s x y z) = z:=by
  unfold tx ty tz
  rw [sy_iv]
  cases h : sy s
  · exact ⟨rfl,rfl,rfl⟩
  · have e : (iv s).toNat = Pt.inv s.toNat:=by unfold iv;rw [h];rfl
    simp only [if_true,e]
    have n:=sy_nat h
    exact ⟨tc_inv ⟨s.toNat,n.1⟩ 0 x y z,tc_inv ⟨s.toNat,n.1⟩ 1 x y z,tc_inv ⟨s.toNat,n.1⟩ 2 x y z⟩
theorem forth : tx s (tx (iv s) x y z) (ty (iv s) x y z) (tz (iv s) x y z) = x ∧ ty s (tx (iv s) x y z) (ty (iv s) x y z) (tz (iv s) x y z) = y ∧ tz s (tx (iv s) x y z) (ty (iv s) x y z) (tz (iv s) x y z) = z:=by
  unfold tx ty tz
  rw [sy_iv]
  cases h : sy s
  · exact ⟨rfl,rfl,rfl⟩
  · have e : (iv s).toNat = Pt.inv s.toNat:=by unfold iv;rw [h];rfl
    simp only [if_true,e]
    have n:=sy_nat h
    exact ⟨tc_inv2 ⟨s.toNat,n.1⟩ 0 x y z,tc_inv2 ⟨s.toNat,n.1⟩ 1 x y z,tc_inv2 ⟨s.toNat,n.1⟩ 2 x y z⟩
theorem in_tB (B : Bx) : (tB s B).inb (tx s x y z) (ty s x y z) (tz s x y z) = B.inb x y z:=by
  unfold tB tx ty tz
  cases h : sy s
  · rfl
  · simp only [if_true]
    cases he : B.emp
    · exact Pt.in_turn s.toNat (sy_nat h).1 x y z _ _ _ _ _ _ he
    · have h1 : B.inb x y z = false:=by
        cases hb : B.inb x y z
        · rfl
        · have h2 : B.emp = false:=(Pt.idx_bd hb).2.2.2
          rw [h2] at he;cases he
      rw [h1]
      simp only [if_true]
      refine Pt.inB_false.2 ?_
      unfold zb;simp only;omega
theorem vol_tB (B : Bx) : (tB s B).vol = B.vol:=by
  unfold tB
  cases h : sy s
  · rfl
  · simp only [if_true]
    cases he : B.emp
    · exact Pt.vol_turn s.toNat (sy_nat h).1 _ _ _ _ _ _ he
    · have : B.vol = 0:=Pt.vol_emp he
      rw [this];rfl
theorem rg_tB {B : Bx} (hb : B.rg) : (tB s B).rg:=by
  unfold tB
  cases h : sy s
  · exact hb
  · simp only [if_true]
    cases he : B.emp
    · simp only [Bool.false_eq_true,if_false]
      unfold Bx.rg rp at hb
      have t1:=fun i => Pt.tc_bd0 (L:=1048575) (s:=s.toNat) (i:=i) (x:=B.a) (y:=B.b) (z:=B.c) (by omega)
      have t2:=fun i => Pt.tc_bd0 (L:=1048575) (s:=s.toNat) (i:=i) (x:=B.d) (y:=B.e) (z:=B.f) (by omega)
      have a0:=t1 0
      have a1:=t1 1
      have a2:=t1 2
      have b0:=t2 0
      have b1:=t2 1
      have b2:=t2 2
      unfold Bx.rg rp
      simp only
      omega
    · simp only [if_true]
      unfold Bx.rg rp zb;simp
end
/-- a grid turned up to its cell k: what is written where -/
def trn (s : Int) (B : Bx) (l : List Int) (k : Nat) : List Int:=(List.range l.length).map fun (j : Nat) =>
  if B.ix (tx (iv s) ((tB s B).ax j) ((tB s B).ay j) ((tB s B).az j)) (ty (iv s) ((tB s B).ax j) ((tB s B).ay j) ((tB s B).az j)) (tz (iv s) ((tB s B).ax j) ((tB s B).ay j) ((tB s B).az j)) < (k : Int)
  then get B l (tx (iv s) ((tB s B).ax j) ((tB s B).ay j) ((tB s B).az j)) (ty (iv s) ((tB s B).ax j) ((tB s B).ay j) ((tB s B).az j)) (tz (iv s) ((tB s B).ax j) ((tB s B).ay j) ((tB s B).az j)) else l.getD j 0
def turn (s : Int) (B : Bx) (l : List Int) : List Int:=mk (tB s B) fun x y z => get B l (tx (iv s) x y z) (ty (iv s) x y z) (tz (iv s) x y z)
section
variable {s : Int} {B : Bx} {l : List Int} {k q : Nat}
theorem trn_len : (trn s B l k).length = l.length:=by simp [trn]
theorem trn_at {j : Nat} (h : j < l.length) : (trn s B l k)[j]? = some (if B.ix (tx (iv s) ((tB s B).ax j) ((tB s B).ay j) ((tB s B).az j)) (ty (iv s) ((tB s B).ax j) ((tB s B).ay j) ((tB s B).az j)) (tz (iv s) ((tB s B).ax j) ((tB s B).ay j) ((tB s B).az j)) < (k : Int)
  then get B l (tx (iv s) ((tB s B).ax j) ((tB s B).ay j) ((tB s B).az j)) (ty (iv s) ((tB s B).ax j) ((tB s B).ay j) ((tB s B).az j)) (tz (iv s) ((tB s B).ax j) ((tB s B).ay j) ((tB s B).az j)) else l.getD j 0):=by
  unfold trn
  rw [List.getElem?_map,List.getElem?_range h];rfl
theorem back_in (ho : ok B l) {j : Nat} (h : j < l.length) : B.inb (tx (iv s) ((tB s B).ax j) ((tB s B).ay j) ((tB s B).az j)) (ty (iv s) ((tB s B).ax j) ((tB s B).ay j) ((tB s B).az j)) (tz (iv s) ((tB s B).ax j) ((tB s B).ay j) ((tB s B).az j)) = true:=by
  have hv:=ho.vol
  have h1:=at_in (B:=tB s B) (k:=(j : Int)) (by omega) (by rw [vol_tB];omega)
  have h2:=in_tB s (tx (iv s) ((tB s B).ax j) ((tB s B).ay j) ((tB s B).az j)) (ty (iv s) ((tB s B).ax j) ((tB s B).ay j) ((tB s B).az j)) (tz (iv s) ((tB s B).ax j) ((tB s B).ay j) ((tB s B).az j)) B
  obtain ⟨f1,f2,f3⟩:=forth s ((tB s B).ax j) ((tB s B).ay j) ((tB s B).az j)
  rw [f1,f2,f3,h1] at h2
  exact h2.symm
theorem trn_zero (ho : ok B l) : trn s B l 0 = l:=by
  apply List.ext_getElem?
  intro j
  rcases Nat.lt_or_ge j l.length with h | h
  · have hb:=ix_bd (back_in (s:=s) ho h)
    rw [trn_at h,if_neg (by omega),List.getD_eq_getElem?_getD,List.getElem?_eq_getElem h];rfl
  · rw [List.getElem?_eq_none h,List.getElem?_eq_none (by rw [trn_len];omega)]
theorem turn_in (ho : ok B l) (h : k < l.length) : (tB s B).inb (tx s (B.ax k) (B.ay k) (B.az k)) (ty s (B.ax k) (B.ay k) (B.az k)) (tz s (B.ax k) (B.ay k) (B.az k)) = true:=by
  have hv:=ho.vol
  rw [in_tB];exact at_in (by omega) (by omega)
theorem trn_step (ho : ok B l) (h : k < l.length) (hq : ixr (tB s B) (tx s (B.ax k) (B.ay k) (B.az k)) (ty s (B.ax k) (B.ay k) (B.az k)) (tz s (B.ax k) (B.ay k) (B.az k)) = (q : Int)) : trn s B l (k + 1) = (trn s B l k).set q (l.getD k 0):=by
  have hv:=ho.vol
  have hin:=turn_in (s:=s) ho h
  have hq2 : (tB s B).ix (tx s (B.ax k) (B.ay k) (B.az k)) (ty s (B.ax k) (B.ay k) (B.az k)) (tz s (B.ax k) (B.ay k) (B.az k)) = (q : Int):=by
    rw [← hq];unfold ixr;rw [hin];rfl
  have hqb:=ix_bd hin
  rw [hq2,vol_tB] at hqb
  have hqa:=at_ix hin
  rw [hq2] at hqa
  obtain ⟨b1,b2,b3⟩:=back s (B.ax k) (B.ay k) (B.az k)
  apply List.ext_getElem?
  intro j
  rcases Nat.lt_or_ge j l.length with hj | hj
  · rw [trn_at hj]
    by_cases e : j = q
    · subst e
      have e1 : ((trn s B l k).set j (l.getD k 0))[j]? = some (l.getD k 0):=by rw [List.getElem?_set];simp [trn_len,hj]
      rw [e1,hqa.1,hqa.2.1,hqa.2.2,b1,b2,b3,ix_at (by omega) (by omega),if_pos (by omega),get_at ho.len h]
    · have e1 : ((trn s B l k).set q (l.getD k 0))[j]? = (trn s B l k)[j]?:=by rw [List.getElem?_set];simp [Ne.symm e]
      rw [e1,trn_at hj]
      have hb:=back_in (s:=s) ho hj
      have hne : ¬ B.ix (tx (iv s) ((tB s B).ax j) ((tB s B).ay j) ((tB s B).az j)) (ty (iv s) ((tB s B).ax j) ((tB s B).ay j) ((tB s B).az j)) (tz (iv s) ((tB s B).ax j) ((tB s B).ay j) ((tB s B).az j)) = (k : Int):=by
        intro hk
        have ha:=at_ix hb
        rw [hk] at ha
        obtain ⟨f1,f2,f3⟩:=forth s ((tB s B).ax j) ((tB s B).ay j) ((tB s B).az j)
        rw [← ha.1,← ha.2.1,← ha.2.2] at f1 f2 f3
        have h5:=ix_at (B:=tB s B) (k:=(j : Int)) (by omega) (by rw [vol_tB];omega)
        rw [← f1,← f2,← f3,hq2] at h5
        omega
      congr 1
      by_cases hlt : B.ix (tx (iv s) ((tB s B).ax j) ((tB s B).ay j) ((tB s B).az j)) (ty (iv s) ((tB s B).ax j) ((tB s B).ay j) ((tB s B).az j)) (tz (iv s) ((tB s B).ax j) ((tB s B).ay j) ((tB s B).az j)) < (k : Int)
      · rw [if_pos hlt,if_pos (by omega)]
      · rw [if_neg hlt,if_neg (by omega)]
  · rw [List.getElem?_eq_none (by rw [trn_len];omega),List.getElem?_eq_none (by rw [List.length_set,trn_len];omega)]
theorem turn_rp (ho : ok B l) (h : k < l.length) : rp3 (tx s (B.ax k) (B.ay k) (B.az k)) (ty s (B.ax k) (B.ay k) (B.az k)) (tz s (B.ax k) (B.ay k) (B.az k)):=by
  have hin:=Pt.inB_true.1 (turn_in (s:=s) ho h)
  have hr:=rg_tB s ho.rg
  unfold Bx.rg rp at hr
  unfold rp3 rp
  omega
theorem trn_all (ho : ok B l) : trn s B l l.length = turn s B l:=by
  have hv:=ho.vol
  apply List.ext_getElem?
  intro j
  rcases Nat.lt_or_ge j l.length with hj | hj
  · have hb:=ix_bd (back_in (s:=s) ho hj)
    rw [trn_at hj,if_pos (by omega)]
    unfold turn
    rw [mk_at (by rw [vol_tB];omega)]
  · rw [List.getElem?_eq_none (by rw [trn_len];omega),List.getElem?_eq_none (by unfold turn;rw [mk_len,vol_tB];omega)]
end
end Go.Proofs.YtjdeaopdbenamaaDoor.Gm
namespace Go.Proofs.YtjdeaopdbenamaaDoor
open Go Go.RowKit
end Go.Proofs.YtjdeaopdbenamaaDoor
/-
  Points near to the origin; few grids.
-/
namespace Go.Proofs.YtjdeaopdbenamaaDoor
open Go Go.RowKit
set_option linter.unusedVariables false
open Gm (Bx Ch)
abbrev Gm.P3:=Int × Int × Int
def pcs (l : List Gm.P3) : List Value:=l.flatMap fun p => [.int .i64 p.1, .int .i64 p.2.1, .int .i64 p.2.2]
theorem pcs_len (l : List Gm.P3) : (pcs l).length = l.length * 3:=by
  induction l with
  | nil => rfl
  | cons c r ih => simp only [pcs,List.flatMap_cons,List.length_append] at ih ⊢;rw [ih];simp;omega
def Gm.pat (l : List Gm.P3) (k : Nat) : Gm.P3:=l.getD k (0,0,0)
theorem pcs_at : ∀ {l : List Gm.P3} {k : Nat},k < l.length → ((pcs l).drop (k * 3)).take 3 = [.int .i64 (Gm.pat l k).1, .int .i64 (Gm.pat l k).2.1, .int .i64 (Gm.pat l k).2.2]
  | c :: r,0,_ => by simp [pcs,Gm.pat]
  | c :: r,k + 1,h => by
    have ih:=pcs_at (l:=r) (k:=k) (by simpa using h)
    have e : pcs (c :: r) = [.int .i64 c.1, .int .i64 c.2.1, .int .i64 c.2.2] ++ pcs r:=rfl
    have e2 : (([.int .i64 c.1, .int .i64 c.2.1, .int .i64 c.2.2] : List Value) ++ pcs r).drop ((k + 1) * 3) = (pcs r).drop (k * 3):=by
      rw [show (k + 1) * 3 = k * 3 + 1 + 1 + 1 by omega];rfl
    rw [e,e2,ih];rfl
theorem SL.pnt {w : World} {b o n c : Nat} {l : List Gm.P3} (h : SL w 3 (some ⟨b,o,none⟩) n c (pcs l)) (k : Nat) (hk : k < l.length) : w.rangeAt b (o + k * 3) [.int .i64 (Gm.pat l k).1, .int .i64 (Gm.pat l k).2.1, .int .i64 (Gm.pat l k).2.2]:=h.elem (k * 3) (ds:=[.int .i64 (Gm.pat l k).1, .int .i64 (Gm.pat l k).2.1, .int .i64 (Gm.pat l k).2.2]) (pcs_at hk)
namespace Gm
def n1k (x : Int) : Prop:=-10000 ≤ x ∧ x ≤ 10000
instance (x : Int) : Decidable (n1k x):=by unfold n1k;infer_instance
def near1 (p : P3) : Bool:=decide (n1k p.1 ∧ n1k p.2.1 ∧ n1k p.2.2)
def nears (l : List P3) : Bool:=Ff.al (fun k => near1 (pat l k)) l.length
theorem nears_iff {l : List P3} : nears l = true ↔ ∀ p ∈ l,near1 p = true:=by
  unfold nears
  rw [Ff.al_iff]
  constructor
  · intro h p hp
    obtain ⟨i,hi,rfl⟩:=List.getElem_of_mem hp
    have:=h i hi
    unfold pat at this
    rwa [List.getD_eq_getElem?_getD,List.getElem?_eq_getElem hi] at this
  · intro h i hi
    refine h _ ?_
    unfold pat
    rw [List.getD_eq_getElem?_getD,List.getElem?_eq_getElem hi];exact List.getElem_mem hi
theorem near1_rp {x y z : Int} (h : near1 (x,y,z) = true) : rp3 x y z:=by
  have:=of_decide_eq_true h
  unfold n1k at this
  unfold rp3 rp
  simp only at this
  omega
def fw (B : Bx) (l : List Int) : Bool:=decide (l.length ≤ 1000) && (decide (vld B l) && nears [(B.a,B.b,B.c),(B.d,B.e,B.f)])
theorem fw_yes {B : Bx} {l : List Int} (h1 : l.length ≤ 1000) (h2 : vld B l) (h3 : nears [(B.a,B.b,B.c),(B.d,B.e,B.f)] = true) : fw B l = true:=by
  unfold fw;rw [decide_eq_true h1,decide_eq_true h2,h3];rfl
theorem fw_1 {B : Bx} {l : List Int} (h1 : ¬ l.length ≤ 1000) : fw B l = false:=by unfold fw;rw [decide_eq_false h1];rfl
theorem fw_2 {B : Bx} {l : List Int} (h1 : ¬ vld B l) : fw B l = false:=by unfold fw;rw [decide_eq_false h1];simp
theorem fw_3 {B : Bx} {l : List Int} (h1 : nears [(B.a,B.b,B.c),(B.d,B.e,B.f)] = false) : fw B l = false:=by unfold fw;rw [h1];simp
theorem fw_of {B : Bx} {l : List Int} (h : fw B l = true) : l.length ≤ 1000 ∧ vld B l ∧ near1 (B.a,B.b,B.c) = true ∧ near1 (B.d,B.e,B.f) = true:=by
  unfold fw at h
  simp only [Bool.and_eq_true,decide_eq_true_eq] at h
  have h3:=nears_iff.1 h.2.2
  exact ⟨h.1,h.2.1,h3 _ (by simp),h3 _ (by simp)⟩
end Gm
end Go.Proofs.YtjdeaopdbenamaaDoor
/-
  What stands in a cell of grids written, pasted; writing the differences is pasting.
-/
namespace Go.Proofs.YtjdeaopdbenamaaDoor.Gm
open Go Go.Proofs.YtjdeaopdbenamaaDoor
set_option linter.unusedVariables false
section
variable {B C : Bx} {l m : List Int} {x y z x' y' z' o v : Int} {k : Nat}
theorem get_out (h : B.inb x y z = false) : get B l x y z = 0:=by unfold get;rw [h];rfl
theorem get_paste : get B (paste B l C m) x y z = if B.inb x y z && C.inb x y z then get C m x y z else get B l x y z:=by
  unfold paste
  rw [get_mk]
  cases hb : B.inb x y z
  · rw [get_out hb];rfl
  · cases C.inb x y z <;> rfl
theorem ok_paste (h : ok B l) : ok B (paste B l C m):=⟨h.rg,by unfold paste;rw [mk_len],h.max⟩
theorem paste_twice (h : ok B l) : paste B (paste B l C m) C m = paste B l C m:=by
  show mk B (fun x y z => if C.inb x y z = true then get C m x y z else get B (paste B l C m) x y z) = mk B (fun x y z => if C.inb x y z = true then get C m x y z else get B l x y z)
  refine mk_congr fun x y z hb => ?_
  cases hc : C.inb x y z
  · simp only [Bool.false_eq_true,if_false]
    rw [get_paste,hc];simp
  · rfl
theorem dif_paste (h : ok B l) : ∀ k,k ≤ (paste B l C m).length → dif B (paste B l C m) C m k = []
  | 0,_ => rfl
  | k + 1,hk => by
    have ih:=dif_paste h k (by omega)
    cases hc : C.inb (B.ax k) (B.ay k) (B.az k)
    · rw [dif_out hc,ih]
    · rw [dif_eq,ih]
      have h1:=get_at (B:=B) (l:=paste B l C m) (j:=k) (ok_paste h).len (by omega)
      have hv:=(ok_paste (C:=C) (m:=m) h).vol
      rw [← h1,get_paste,at_in (by omega) (by omega),hc];rfl
theorem wr_dif (h : ok B l) : ∀ k,k ≤ l.length → wr B l (dif B l C m k) = upd B (fun x y z => C.inb x y z) (fun x y z => get C m x y z) l k
  | 0,_ => by rw [upd_zero];rfl
  | k + 1,hk => by
    have ih:=wr_dif h k (by omega)
    have hv:=h.vol
    have hin:=at_in (B:=B) (k:=(k : Int)) (by omega) (by omega)
    have hix:=ix_at (B:=B) (k:=(k : Int)) (by omega) (by omega)
    cases hc : C.inb (B.ax k) (B.ay k) (B.az k)
    · rw [dif_out hc,ih,upd_no (by omega) hc]
    · by_cases he : get C m (B.ax k) (B.ay k) (B.az k) = l.getD k 0
      · rw [dif_eq he,ih,upd_yes (by omega) hc,he]
        apply List.ext_getElem?
        intro j
        rw [List.getElem?_set]
        split
        · next e =>
          subst e
          have hlt : k < l.length:=by omega
          rw [upd_len,if_pos hlt,upd_at hlt];simp
        · rfl
      · rw [dif_ne hc he,wr_snoc,ih,upd_yes (by omega) hc]
        unfold wr1
        simp only
        rw [hin,if_pos rfl,hix];rfl
theorem wr_dif_all (h : ok B l) : wr B l (dif B l C m l.length) = paste B l C m:=by rw [wr_dif h _ (Nat.le_refl _),paste_upd h]
theorem dif_rp (h : ok B l) {k : Nat} (hk : k ≤ l.length) : ∀ c ∈ dif B l C m k,rp3 c.x c.y c.z:=by
  intro c hc
  unfold dif at hc
  rw [List.mem_filterMap] at hc
  obtain ⟨j,hj,e⟩:=hc
  have hj2 : j < k:=by simpa using hj
  have hv:=h.vol
  unfold dif1 at e
  split at e
  · injection e with e
    rw [← e]
    exact at_rp h.rg (by omega) (by omega)
  · cases e
end
end Go.Proofs.YtjdeaopdbenamaaDoor.Gm
