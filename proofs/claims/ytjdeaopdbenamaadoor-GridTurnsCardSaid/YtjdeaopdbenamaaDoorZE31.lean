/-
  Turned points and boxes: distances, cells, volumes.
-/
import Derived.Test.YtjdeaopdbenamaaDoorZE04
import Derived.Test.YtjdeaopdbenamaaDoorZE28
import Derived.Test.YtjdeaopdbenamaaDoorZE27
import Derived.Test.YtjdeaopdbenamaaDoorZE10
import Derived.Test.YtjdeaopdbenamaaDoorZE09
import Derived.Test.YtjdeaopdbenamaaDoorZE03
import Derived.Test.YtjdeaopdbenamaaDoorZE26
import Derived.Test.YtjdeaopdbenamaaDoorZE29
import Derived.Test.YtjdeaopdbenamaaDoorZE30
import Derived.Handy
import Derived.Laws.StructEq
namespace Go.Proofs.YtjdeaopdbenamaaDoor.Pt

theorem six {s : Nat} (h : s < 48) : s / 8 = 0 ∨ s / 8 = 1 ∨ s / 8 = 2 ∨ s / 8 = 3 ∨ s / 8 = 4 ∨ s / 8 = 5:=by omega
/-- the corners of a turned box -/
def lo (s i : Nat) (a b c d e f : Int) : Int:=min (tc 0 s i a b c) (tc 0 s i d e f)
def hi (s i : Nat) (a b c d e f : Int) : Int:=max (tc 0 s i a b c) (tc 0 s i d e f)
theorem tc_in {s i : Nat} {x1 x2 x3 a b c d e f : Int} (h : pick (axis (s / 8) i) a b c < pick (axis (s / 8) i) d e f) :
    (min (tc 0 s i a b c) (tc 0 s i d e f) ≤ tc 1 s i x1 x2 x3 ∧ tc 1 s i x1 x2 x3 < max (tc 0 s i a b c) (tc 0 s i d e f)) ↔ (pick (axis (s / 8) i) a b c ≤ pick (axis (s / 8) i) x1 x2 x3 ∧ pick (axis (s / 8) i) x1 x2 x3 < pick (axis (s / 8) i) d e f):=by
  unfold tc
  cases bit s i
  · simp only [cond_false];omega
  · simp only [cond_true];omega
theorem tc_len {s i : Nat} {a b c d e f : Int} (h : pick (axis (s / 8) i) a b c < pick (axis (s / 8) i) d e f) :
    max (tc 0 s i a b c) (tc 0 s i d e f) - min (tc 0 s i a b c) (tc 0 s i d e f) = pick (axis (s / 8) i) d e f - pick (axis (s / 8) i) a b c:=by
  unfold tc
  cases bit s i
  · simp only [cond_false];omega
  · simp only [cond_true];omega
theorem pick_lt (k i : Nat) {a b c d e f : Int} (h : a < d ∧ b < e ∧ c < f) : pick (axis k i) a b c < pick (axis k i) d e f:=by
  unfold pick;split <;> omega
theorem in_turn (s : Nat) (hs : s < 48) (x1 x2 x3 a b c d e f : Int) (h : emp a b c d e f = false) :
    inB (tc 1 s 0 x1 x2 x3) (tc 1 s 1 x1 x2 x3) (tc 1 s 2 x1 x2 x3) (min (tc 0 s 0 a b c) (tc 0 s 0 d e f)) (min (tc 0 s 1 a b c) (tc 0 s 1 d e f)) (min (tc 0 s 2 a b c) (tc 0 s 2 d e f)) (max (tc 0 s 0 a b c) (tc 0 s 0 d e f)) (max (tc 0 s 1 a b c) (tc 0 s 1 d e f)) (max (tc 0 s 2 a b c) (tc 0 s 2 d e f)) = inB x1 x2 x3 a b c d e f:=by
  have hz:=emp_false.1 h
  unfold inB
  apply decide_eq_decide.2
  rw [tc_in (pick_lt _ _ hz),tc_in (pick_lt _ _ hz),tc_in (pick_lt _ _ hz)]
  rcases six hs with h | h | h | h | h | h <;> rw [h] <;> simp only [axis,pick] <;> omega
theorem vol_turn (s : Nat) (hs : s < 48) (a b c d e f : Int) (h : emp a b c d e f = false) :
    vol (min (tc 0 s 0 a b c) (tc 0 s 0 d e f)) (min (tc 0 s 1 a b c) (tc 0 s 1 d e f)) (min (tc 0 s 2 a b c) (tc 0 s 2 d e f)) (max (tc 0 s 0 a b c) (tc 0 s 0 d e f)) (max (tc 0 s 1 a b c) (tc 0 s 1 d e f)) (max (tc 0 s 2 a b c) (tc 0 s 2 d e f)) = vol a b c d e f:=by
  have hz:=emp_false.1 h
  have l0:=tc_len (s:=s) (i:=0) (pick_lt (s / 8) 0 hz)
  have l1:=tc_len (s:=s) (i:=1) (pick_lt (s / 8) 1 hz)
  have l2:=tc_len (s:=s) (i:=2) (pick_lt (s / 8) 2 hz)
  have p0:=pick_lt (s / 8) 0 hz
  have p1:=pick_lt (s / 8) 1 hz
  have p2:=pick_lt (s / 8) 2 hz
  rw [vol_full h,vol_full (emp_false.2 (by omega)),l0,l1,l2]
  clear l0 l1 l2 p0 p1 p2
  generalize hp : d - a = p
  generalize hq : e - b = q
  generalize hr : f - c = r
  rcases six hs with h | h | h | h | h | h <;> rw [h] <;> simp only [axis,pick,hp,hq,hr]
  · rw [Int.mul_assoc,Int.mul_comm r q,← Int.mul_assoc]
  · rw [Int.mul_comm q p]
  · rw [Int.mul_comm (q * r) p,Int.mul_assoc]
  · rw [Int.mul_comm r p,Int.mul_assoc,Int.mul_comm r q,← Int.mul_assoc]
  · rw [Int.mul_comm r q,Int.mul_comm (q * r) p,Int.mul_assoc]
end Go.Proofs.YtjdeaopdbenamaaDoor.Pt
/-
  Grids turned.
-/
namespace Go.Proofs.YtjdeaopdbenamaaDoor.Gm
open Go Go.Proofs.YtjdeaopdbenamaaDoor
set_option linter.unusedVariables false
def sy (s : Int) : Bool:=decide (0 ≤ s ∧ s < 48)
def tx (s x y z : Int) : Int:=if sy s then Pt.tc 1 s.toNat 0 x y z else x
def ty (s x y z : Int) : Int:=if sy s then Pt.tc 1 s.toNat 1 x y z else y
def tz (s x y z : Int) : Int:=if sy s then Pt.tc 1 s.toNat 2 x y z else z
def tB (s : Int) (B : Bx) : Bx:=if sy s then (if B.emp then zb else
  ⟨min (Pt.tc 0 s.toNat 0 B.a B.b B.c) (Pt.tc 0 s.toNat 0 B.d B.e B.f),min (Pt.tc 0 s.toNat 1 B.a B.b B.c) (Pt.tc 0 s.toNat 1 B.d B.e B.f),min (Pt.tc 0 s.toNat 2 B.a B.b B.c) (Pt.tc 0 s.toNat 2 B.d B.e B.f),
   max (Pt.tc 0 s.toNat 0 B.a B.b B.c) (Pt.tc 0 s.toNat 0 B.d B.e B.f),max (Pt.tc 0 s.toNat 1 B.a B.b B.c) (Pt.tc 0 s.toNat 1 B.d B.e B.f),max (Pt.tc 0 s.toNat 2 B.a B.b B.c) (Pt.tc 0 s.toNat 2 B.d B.e B.f)⟩) else B
def iv (s : Int) : Int:=if sy s then (Pt.inv s.toNat : Int) else s
theorem sy_nat {s : Int} (h : sy s = true) : s.toNat < 48 ∧ (s.toNat : Int) = s:=by
  have:=of_decide_eq_true h
  omega
theorem sy_iv (s : Int) : sy (iv s) = sy s:=by
  unfold iv
  cases h : sy s
  · exact h
  · rw [if_pos rfl]
    have h3 : Pt.inv s.toNat < 48:=(Pt.inv_lt ⟨s.toNat,(sy_nat h).1⟩).1
    exact decide_eq_true (by omega)
theorem tc_inv (n : Fin 48) (i : Fin 3) (x y z : Int) : Pt.tc 1 (Pt.inv n) i (Pt.tc 1 n 0 x y z) (Pt.tc 1 n 1 x y z) (Pt.tc 1 n 2 x y z) = Pt.tc 1 0 i x y z:=by
  have h:=Pt.tc_comp 1 x y z ⟨Pt.inv n,(Pt.inv_lt n).1⟩ n i
  rw [(Pt.comp_inv n).2.1] at h
  exact h
theorem tc_inv2 (n : Fin 48) (i : Fin 3) (x y z : Int) : Pt.tc 1 n i (Pt.tc 1 (Pt.inv n) 0 x y z) (Pt.tc 1 (Pt.inv n) 1 x y z) (Pt.tc 1 (Pt.inv n) 2 x y z) = Pt.tc 1 0 i x y z:=by
  have h:=Pt.tc_comp 1 x y z n ⟨Pt.inv n,(Pt.inv_lt n).1⟩ i
  rw [(Pt.comp_inv n).1] at h
  exact h
section
variable (s x y z : Int)
theorem back : tx (iv s) (tx s x y z) (ty s x y z) (tz s x y z) = x ∧ ty (iv s) (tx s x y z) (ty s x y z) (tz s x y z) = y ∧ tz (iv s) (tx s x y z) (ty s x y z) (tz s x y z) = z:=by
  unfold tx ty tz
  rw [sy_iv]
  cases h : sy s
  · exact ⟨rfl,rfl,rfl⟩
  · have e : (iv s).toNat = Pt.inv s.toNat:=by unfold iv;rw [h];rfl
    simp only [if_true,e]
    have n:=sy_nat h
    exact ⟨tc_inv ⟨s.toNat,n.1⟩ 0 x y z,tc_inv ⟨s.toNat,n.1⟩ 1 x y z,tc_inv ⟨s.toNat,n.1⟩ 2 x y z⟩
theorem forth : tx s (tx (iv s) x y z) (ty (iv s) x y z) (tz (iv s) x y z) = x ∧ ty s (tx (iv s) x y z) (ty (iv s) x y z) (tz (iv s) x y z) = y ∧ tz s (tx (iv s) x y z) (ty (iv s) x y z) (tz (iv s) x y z) = z:=by
  unfold tx ty tz
  rw [sy_iv]
  cases h : sy s
  · exact ⟨rfl,rfl,rfl⟩
  · have e : (iv s).toNat = Pt.inv s.toNat:=by unfold iv;rw [h];rfl
    simp only [if_true,e]
    have n:=sy_nat h
    exact ⟨tc_inv2 ⟨s.toNat,n.1⟩ 0 x y z,tc_inv2 ⟨s.toNat,n.1⟩ 1 x y z,tc_inv2 ⟨s.toNat,n.1⟩ 2 x y z⟩
theorem in_tB (B : Bx) : (tB s B).inb (tx s x y z) (ty s x y z) (tz s x y z) = B.inb x y z:=by
  unfold tB tx ty tz
  cases h : sy s
  · rfl
  · simp only [if_true]
    cases he : B.emp
    · exact Pt.in_turn s.toNat (sy_nat h).1 x y z _ _ _ _ _ _ he
    · have h1 : B.inb x y z = false:=by
        cases hb : B.inb x y z
        · rfl
        · have h2 : B.emp = false:=(Pt.idx_bd hb).2.2.2
          rw [h2] at he;cases he
      rw [h1]
      simp only [if_true]
      refine Pt.inB_false.2 ?_
      unfold zb;simp only;omega
theorem vol_tB (B : Bx) : (tB s B).vol = B.vol:=by
  unfold tB
  cases h : sy s
  · rfl
  · simp only [if_true]
    cases he : B.emp
    · exact Pt.vol_turn s.toNat (sy_nat h).1 _ _ _ _ _ _ he
    · have : B.vol = 0:=Pt.vol_emp he
      rw [this];rfl
theorem rg_tB {B : Bx} (hb : B.rg) : (tB s B).rg:=by
  unfold tB
  cases h : sy s
  · exact hb
  · simp only [if_true]
    cases he : B.emp
    · simp only [Bool.false_eq_true,if_false]
      unfold Bx.rg rp at hb
      have t1:=fun i=>Pt.tc_bd0 (L:=1048575) (s:=s.toNat) (i:=i) (x:=B.a) (y:=B.b) (z:=B.c) (by omega)
      have t2:=fun i=>Pt.tc_bd0 (L:=1048575) (s:=s.toNat) (i:=i) (x:=B.d) (y:=B.e) (z:=B.f) (by omega)
      have a0:=t1 0
      have a1:=t1 1
      have a2:=t1 2
      have b0:=t2 0
      have b1:=t2 1
      have b2:=t2 2
      unfold Bx.rg rp
      simp only
      omega
    · simp only [if_true]
      unfold Bx.rg rp zb;simp
end
/-- a grid turned up to its cell k: what is written where -/
def trn (s : Int) (B : Bx) (l : List Int) (k : Nat) : List Int:=(List.range l.length).map fun (j : Nat) =>
  if B.ix (tx (iv s) ((tB s B).ax j) ((tB s B).ay j) ((tB s B).az j)) (ty (iv s) ((tB s B).ax j) ((tB s B).ay j) ((tB s B).az j)) (tz (iv s) ((tB s B).ax j) ((tB s B).ay j) ((tB s B).az j)) < (k : Int)
  then get B l (tx (iv s) ((tB s B).ax j) ((tB s B).ay j) ((tB s B).az j)) (ty (iv s) ((tB s B).ax j) ((tB s B).ay j) ((tB s B).az j)) (tz (iv s) ((tB s B).ax j) ((tB s B).ay j) ((tB s B).az j)) else l.getD j 0
def turn (s : Int) (B : Bx) (l : List Int) : List Int:=mk (tB s B) fun x y z=>get B l (tx (iv s) x y z) (ty (iv s) x y z) (tz (iv s) x y z)
section
variable {s : Int} {B : Bx} {l : List Int} {k q : Nat}
theorem trn_len : (trn s B l k).length = l.length:=by simp [trn]
theorem trn_at {j : Nat} (h : j < l.length) : (trn s B l k)[j]? = some (if B.ix (tx (iv s) ((tB s B).ax j) ((tB s B).ay j) ((tB s B).az j)) (ty (iv s) ((tB s B).ax j) ((tB s B).ay j) ((tB s B).az j)) (tz (iv s) ((tB s B).ax j) ((tB s B).ay j) ((tB s B).az j)) < (k : Int)
  then get B l (tx (iv s) ((tB s B).ax j) ((tB s B).ay j) ((tB s B).az j)) (ty (iv s) ((tB s B).ax j) ((tB s B).ay j) ((tB s B).az j)) (tz (iv s) ((tB s B).ax j) ((tB s B).ay j) ((tB s B).az j)) else l.getD j 0):=by
  unfold trn
  rw [List.getElem?_map,List.getElem?_range h];rfl
theorem back_in (ho : ok B l) {j : Nat} (h : j < l.length) : B.inb (tx (iv s) ((tB s B).ax j) ((tB s B).ay j) ((tB s B).az j)) (ty (iv s) ((tB s B).ax j) ((tB s B).ay j) ((tB s B).az j)) (tz (iv s) ((tB s B).ax j) ((tB s B).ay j) ((tB s B).az j)) = true:=by
  have hv:=ho.vol
  have h1:=at_in (B:=tB s B) (k:=(j : Int)) (by omega) (by rw [vol_tB];omega)
  have h2:=in_tB s (tx (iv s) ((tB s B).ax j) ((tB s B).ay j) ((tB s B).az j)) (ty (iv s) ((tB s B).ax j) ((tB s B).ay j) ((tB s B).az j)) (tz (iv s) ((tB s B).ax j) ((tB s B).ay j) ((tB s B).az j)) B
  obtain ⟨f1,f2,f3⟩:=forth s ((tB s B).ax j) ((tB s B).ay j) ((tB s B).az j)
  rw [f1,f2,f3,h1] at h2
  exact h2.symm
theorem trn_zero (ho : ok B l) : trn s B l 0 = l:=by
  apply List.ext_getElem?
  intro j
  rcases Nat.lt_or_ge j l.length with h | h
  · have hb:=ix_bd (back_in (s:=s) ho h)
    rw [trn_at h,if_neg (by omega),List.getD_eq_getElem?_getD,List.getElem?_eq_getElem h];rfl
  · rw [List.getElem?_eq_none h,List.getElem?_eq_none (by rw [trn_len];omega)]
theorem turn_in (ho : ok B l) (h : k < l.length) : (tB s B).inb (tx s (B.ax k) (B.ay k) (B.az k)) (ty s (B.ax k) (B.ay k) (B.az k)) (tz s (B.ax k) (B.ay k) (B.az k)) = true:=by
  have hv:=ho.vol
  rw [in_tB];exact at_in (by omega) (by omega)
theorem trn_step (ho : ok B l) (h : k < l.length) (hq : ixr (tB s B) (tx s (B.ax k) (B.ay k) (B.az k)) (ty s (B.ax k) (B.ay k) (B.az k)) (tz s (B.ax k) (B.ay k) (B.az k)) = (q : Int)) : trn s B l (k + 1) = (trn s B l k).set q (l.getD k 0):=by
  have hv:=ho.vol
  have hin:=turn_in (s:=s) ho h
  have hq2 : (tB s B).ix (tx s (B.ax k) (B.ay k) (B.az k)) (ty s (B.ax k) (B.ay k) (B.az k)) (tz s (B.ax k) (B.ay k) (B.az k)) = (q : Int):=by
    rw [← hq];unfold ixr;rw [hin];rfl
  have hqb:=ix_bd hin
  rw [hq2,vol_tB] at hqb
  have hqa:=at_ix hin
  rw [hq2] at hqa
  obtain ⟨b1,b2,b3⟩:=back s (B.ax k) (B.ay k) (B.az k)
  apply List.ext_getElem?
  intro j
  rcases Nat.lt_or_ge j l.length with hj | hj
  · rw [trn_at hj]
    by_cases e : j = q
    · subst e
      have e1 : ((trn s B l k).set j (l.getD k 0))[j]? = some (l.getD k 0):=by rw [List.getElem?_set];simp [trn_len,hj]
      rw [e1,hqa.1,hqa.2.1,hqa.2.2,b1,b2,b3,ix_at (by omega) (by omega),if_pos (by omega),get_at ho.len h]
    · have e1 : ((trn s B l k).set q (l.getD k 0))[j]? = (trn s B l k)[j]?:=by rw [List.getElem?_set];simp [Ne.symm e]
      rw [e1,trn_at hj]
      have hb:=back_in (s:=s) ho hj
      have hne : ¬ B.ix (tx (iv s) ((tB s B).ax j) ((tB s B).ay j) ((tB s B).az j)) (ty (iv s) ((tB s B).ax j) ((tB s B).ay j) ((tB s B).az j)) (tz (iv s) ((tB s B).ax j) ((tB s B).ay j) ((tB s B).az j)) = (k : Int):=by
        intro hk
        have ha:=at_ix hb
        rw [hk] at ha
        obtain ⟨f1,f2,f3⟩:=forth s ((tB s B).ax j) ((tB s B).ay j) ((tB s B).az j)
        rw [← ha.1,← ha.2.1,← ha.2.2] at f1 f2 f3
        have h5:=ix_at (B:=tB s B) (k:=(j : Int)) (by omega) (by rw [vol_tB];omega)
        rw [← f1,← f2,← f3,hq2] at h5
        omega
      congr 1
      by_cases hlt : B.ix (tx (iv s) ((tB s B).ax j) ((tB s B).ay j) ((tB s B).az j)) (ty (iv s) ((tB s B).ax j) ((tB s B).ay j) ((tB s B).az j)) (tz (iv s) ((tB s B).ax j) ((tB s B).ay j) ((tB s B).az j)) < (k : Int)
      · rw [if_pos hlt,if_pos (by omega)]
      · rw [if_neg hlt,if_neg (by omega)]
  · rw [List.getElem?_eq_none (by rw [trn_len];omega),List.getElem?_eq_none (by rw [List.length_set,trn_len];omega)]
theorem turn_rp (ho : ok B l) (h : k < l.length) : rp3 (tx s (B.ax k) (B.ay k) (B.az k)) (ty s (B.ax k) (B.ay k) (B.az k)) (tz s (B.ax k) (B.ay k) (B.az k)):=by
  have hin:=Pt.inB_true.1 (turn_in (s:=s) ho h)
  have hr:=rg_tB s ho.rg
  unfold Bx.rg rp at hr
  unfold rp3 rp
  omega
theorem trn_all (ho : ok B l) : trn s B l l.length = turn s B l:=by
  have hv:=ho.vol
  apply List.ext_getElem?
  intro j
  rcases Nat.lt_or_ge j l.length with hj | hj
  · have hb:=ix_bd (back_in (s:=s) ho hj)
    rw [trn_at hj,if_pos (by omega)]
    unfold turn
    rw [mk_at (by rw [vol_tB];omega)]
  · rw [List.getElem?_eq_none (by rw [trn_len];omega),List.getElem?_eq_none (by unfold turn;rw [mk_len,vol_tB];omega)]
end
end Go.Proofs.YtjdeaopdbenamaaDoor.Gm
namespace Go.Proofs.YtjdeaopdbenamaaDoor
open Go Go.RowKit
theorem turncell_b (w : World) (s x y z : Int) (h : Gm.rp3 x y z) : Calls Tryd.prog 29 #[.int .i64 s, .agg #[.int .i64 x, .int .i64 y, .int .i64 z]] w fun e w'=>e = .returned (.agg #[.int .i64 (Gm.tx s x y z), .int .i64 (Gm.ty s x y z), .int .i64 (Gm.tz s x y z)]) ∧ Below w.heap.size w w':=by
  unfold Gm.tx Gm.ty Gm.tz
  cases hs : Gm.sy s
  · exact rturncell_out s x y z w hs
  · have n:=Gm.sy_nat hs
    have:=rturncell_any s.toNat x y z w n.1 (by unfold Gm.rp3 Gm.rp at h;omega)
    rw [n.2] at this
    exact this
end Go.Proofs.YtjdeaopdbenamaaDoor
/-
  The functions of symmetries, and those of their specification, with one answer each.
-/
namespace Go.Proofs.YtjdeaopdbenamaaDoor
open Go.RowKit
set_option linter.unusedVariables false
def isS (s : Int) : Bool:=decide (0 ≤ s ∧ s < 48)
theorem isS_nat {s : Int} (h : isS s = true) : s.toNat < 48 ∧ ((s.toNat : Nat) : Int) = s:=by
  have:=of_decide_eq_true h
  exact ⟨by omega,Int.toNat_of_nonneg this.1⟩
def tnB : Bool → Int → Nat → Nat → Int → Int → Int → Int
  | true,less,n,i,x,y,z=>Pt.tc less n i x y z
  | false,_,_,i,x,y,z=>Pt.pick i x y z
def tbB : Bool → Bool → Int → Int → Int
  | false,_,a,_=>a
  | true,true,_,_=>0
  | true,false,_,m=>m
theorem turncell_s (s x1 x2 x3 : Int) (w : World) (hT : Tab w) (b : (-2097152 ≤ x1 ∧ x1 ≤ 2097152) ∧ (-2097152 ≤ x2 ∧ x2 ≤ 2097152) ∧ (-2097152 ≤ x3 ∧ x3 ≤ 2097152)) :
    Calls Tryd.prog 67 #[.int .i64 s, .agg #[.int .i64 x1, .int .i64 x2, .int .i64 x3]] w fun e w'=>e = .returned (.agg #[.int .i64 (tnB (isS s) 1 s.toNat 0 x1 x2 x3), .int .i64 (tnB (isS s) 1 s.toNat 1 x1 x2 x3), .int .i64 (tnB (isS s) 1 s.toNat 2 x1 x2 x3)]) ∧ Below w.heap.size w w':=by
  cases h : isS s with
  | true =>
    obtain ⟨h1,h2⟩:=isS_nat h
    have c:=turncell_any s.toNat x1 x2 x3 w hT h1 b
    rw [h2] at c
    exact c
  | false=>exact turncell_out s x1 x2 x3 w h
theorem turnbox_s (s a1 a2 a3 a4 a5 a6 : Int) (w : World) (hT : Tab w) (b : (-1048575 ≤ a1 ∧ a1 ≤ 1048575) ∧ (-1048575 ≤ a2 ∧ a2 ≤ 1048575) ∧ (-1048575 ≤ a3 ∧ a3 ≤ 1048575) ∧ (-1048575 ≤ a4 ∧ a4 ≤ 1048575) ∧ (-1048575 ≤ a5 ∧ a5 ≤ 1048575) ∧ (-1048575 ≤ a6 ∧ a6 ≤ 1048575)) :
    Calls Tryd.prog 64 #[.int .i64 s, .agg #[.int .i64 a1, .int .i64 a2, .int .i64 a3, .int .i64 a4, .int .i64 a5, .int .i64 a6]] w fun e w'=>e = .returned (.agg #[.int .i64 (tbB (isS s) (Pt.emp a1 a2 a3 a4 a5 a6) a1 (min (Pt.tc 0 s.toNat 0 a1 a2 a3) (Pt.tc 0 s.toNat 0 a4 a5 a6))), .int .i64 (tbB (isS s) (Pt.emp a1 a2 a3 a4 a5 a6) a2 (min (Pt.tc 0 s.toNat 1 a1 a2 a3) (Pt.tc 0 s.toNat 1 a4 a5 a6))), .int .i64 (tbB (isS s) (Pt.emp a1 a2 a3 a4 a5 a6) a3 (min (Pt.tc 0 s.toNat 2 a1 a2 a3) (Pt.tc 0 s.toNat 2 a4 a5 a6))), .int .i64 (tbB (isS s) (Pt.emp a1 a2 a3 a4 a5 a6) a4 (max (Pt.tc 0 s.toNat 0 a1 a2 a3) (Pt.tc 0 s.toNat 0 a4 a5 a6))), .int .i64 (tbB (isS s) (Pt.emp a1 a2 a3 a4 a5 a6) a5 (max (Pt.tc 0 s.toNat 1 a1 a2 a3) (Pt.tc 0 s.toNat 1 a4 a5 a6))), .int .i64 (tbB (isS s) (Pt.emp a1 a2 a3 a4 a5 a6) a6 (max (Pt.tc 0 s.toNat 2 a1 a2 a3) (Pt.tc 0 s.toNat 2 a4 a5 a6)))]) ∧ Below w.heap.size w w':=by
  cases h : isS s with
  | true =>
    obtain ⟨h1,h2⟩:=isS_nat h
    cases k : Pt.emp a1 a2 a3 a4 a5 a6 with
    | true =>
      have c:=turnbox_t s.toNat a1 a2 a3 a4 a5 a6 w h1 k
      rw [h2] at c
      exact c
    | false =>
      have c:=turnbox_f s.toNat a1 a2 a3 a4 a5 a6 w hT h1 (by omega) k
      rw [h2] at c
      exact c
  | false=>exact turnbox_out s a1 a2 a3 a4 a5 a6 w h
end Go.Proofs.YtjdeaopdbenamaaDoor
