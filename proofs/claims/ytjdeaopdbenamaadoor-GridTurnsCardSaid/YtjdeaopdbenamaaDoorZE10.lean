/-
  One cell of a block written.
-/
import Derived.Test.YtjdeaopdbenamaaDoorZE03
import Derived.Test.YtjdeaopdbenamaaDoorZE09
import Derived.Test.YtjdeaopdbenamaaDoorZE04
import Derived.KernelRfl
import Derived.Handy
import Derived.Lib.OthersKept
import Derived.Deep.DeepCutAuto
import Derived.Laws.StructEq
namespace Go.Proofs.YtjdeaopdbenamaaDoor
open Go.RowKit

theorem Row.cellx {g : Nat} {cs : List Value} {w : World} (h : Row g cs w) (j : Nat) (v : Value) (hj : cs[j]? = some v) : w.cell? ⟨g,j,none⟩ = some v:=(h j v hj).1
theorem Row.softx {g : Nat} {cs : List Value} {w : World} (h : Row g cs w) (j : Nat) (v : Value) (hj : cs[j]? = some v) : w.frozen? ⟨g,j,none⟩ = false:=(h j v hj).2
/-- a cell of a block of the call's own, written -/
theorem Gr.put1 {w u W C : World} {q k : Nat} {v : Value} (h : Below w.heap.size w u) (g1 : Gr u W) (hq : w.heap.size ≤ q) (g2 : Gr (W.setCell ⟨q,k,none⟩ v) C) : Below w.heap.size w C:=by
  have h1 : Below w.heap.size w (W.setCell ⟨q,k,none⟩ v):=below_setCells hq [v] k w W (Gr.to h g1)
  exact Below.trans h1 (Below.mono g2 h1.size)
end Go.Proofs.YtjdeaopdbenamaaDoor
/-
  A part of a block, read; ends of functions.
-/
namespace Go.Proofs.YtjdeaopdbenamaaDoor
open Go.RowKit

theorem Row.part {g : Nat} {cs ds : List Value} {w : World} (h : Row g cs w) (o n : Nat) (e : (cs.drop o).take n = ds) : w.rangeAt g o ds:=fun j v hj=>by
  refine (h (o + j) v ?_).1
  rw [← e,List.getElem?_take] at hj
  split at hj
  · rwa [List.getElem?_drop] at hj
  · cases hj
theorem Row.at_ {g : Nat} {cs : List Value} {w : World} (h : Row g cs w) (j : Nat) (v : Value) (e : cs[j]? = some v) : w.cell? ⟨g,j,none⟩ = some v:=(h j v e).1
end Go.Proofs.YtjdeaopdbenamaaDoor
/-
  Contracts of the specification of package point: those without calls.
-/
namespace Go.Proofs.YtjdeaopdbenamaaDoor
open Go.RowKit
set_option linter.unusedVariables false
set_option maxRecDepth 1000000 in
theorem rsub_any (x1 x2 x3 y1 y2 y3 : Int) (w : World) (h : (-2097152 ≤ x1 ∧ x1 ≤ 2097152) ∧ (-2097152 ≤ x2 ∧ x2 ≤ 2097152) ∧ (-2097152 ≤ x3 ∧ x3 ≤ 2097152) ∧ (-2097152 ≤ y1 ∧ y1 ≤ 2097152) ∧ (-2097152 ≤ y2 ∧ y2 ≤ 2097152) ∧ (-2097152 ≤ y3 ∧ y3 ≤ 2097152)) :
    Calls Tryd.prog 75 #[.agg #[.int .i64 x1, .int .i64 x2, .int .i64 x3], .agg #[.int .i64 y1, .int .i64 y2, .int .i64 y3]] w fun e w'=>e = .returned (.agg #[.int .i64 (x1 - y1), .int .i64 (x2 - y2), .int .i64 (x3 - y3)]) ∧ Below w.heap.size w w':=by
  go_enter Tryd.func75,Tryd.ntmps75
  go_wp2_with fail
  go_returns
  exact ⟨rfl,by go_grown⟩
set_option maxRecDepth 1000000 in
theorem rcube_any (n : Int) (w : World) :
    Calls Tryd.prog 43 #[.int .i64 n] w fun e w'=>e = .returned (.agg #[.int .i64 0, .int .i64 0, .int .i64 0, .int .i64 n, .int .i64 n, .int .i64 n]) ∧ Below w.heap.size w w':=by
  go_enter Tryd.func43,Tryd.ntmps43
  go_wp2_with fail
  go_returns
  exact ⟨rfl,by go_grown⟩
set_option maxRecDepth 1000000 in
theorem rlist_any (x1 x2 x3 : Int) (w : World) :
    Calls Tryd.prog 95 #[.agg #[.int .i64 x1, .int .i64 x2, .int .i64 x3]] w fun e w'=>e = .returned (.agg #[.int .i64 x1, .int .i64 x2, .int .i64 x3]) ∧ Below w.heap.size w w':=by
  go_enter Tryd.func95,Tryd.ntmps95
  go_wp2_with fail
  go_returns
  exact ⟨rfl,by go_grown⟩
set_option maxRecDepth 1000000 in
theorem rof_any (x1 x2 x3 : Int) (w : World) :
    Calls Tryd.prog 98 #[.agg #[.int .i64 x1, .int .i64 x2, .int .i64 x3]] w fun e w'=>e = .returned (.agg #[.int .i64 x1, .int .i64 x2, .int .i64 x3]) ∧ Below w.heap.size w w':=by
  go_enter Tryd.func98,Tryd.ntmps98
  go_wp2_with fail
  go_returns
  exact ⟨rfl,by go_grown⟩
set_option maxRecDepth 1000000 in
theorem rempty_any (a1 a2 a3 a4 a5 a6 : Int) (r : Bool) (w : World) (h : Pt.emp a1 a2 a3 a4 a5 a6 = r) :
    Calls Tryd.prog 76 #[.agg #[.int .i64 a1, .int .i64 a2, .int .i64 a3, .int .i64 a4, .int .i64 a5, .int .i64 a6]] w fun e w'=>e = .returned (.bool r) ∧ Below w.heap.size w w':=by
  have H:=Lib.hid h
  clear h
  go_enter Tryd.func76,Tryd.ntmps76
  go_wp2_with fail
  all_goals (go_ret;exact ⟨ret_bool (by rw [← H.out];unfold Pt.emp;first | (symm;apply decide_eq_true;omega) | (symm;apply decide_eq_false;omega) | (apply decide_eq_decide.2;omega) | (simp;omega) | (rw [Bool.eq_iff_iff];simp;omega)),by go_grown⟩)
end Go.Proofs.YtjdeaopdbenamaaDoor
/-
  Small contracts on symmetries; the table of orders.
-/
namespace Go.Proofs.YtjdeaopdbenamaaDoor
open Go.RowKit
set_option linter.unusedVariables false

def ords : List Value:=[.string ⟨#[120,121,122]⟩, .string ⟨#[120,122,121]⟩, .string ⟨#[121,120,122]⟩, .string ⟨#[121,122,120]⟩, .string ⟨#[122,120,121]⟩, .string ⟨#[122,121,120]⟩]
/-- the table of orders lies as it was laid -/
def Tab (w : World) : Prop:=w.rangeAt 0 0 ords
theorem Tab.below {w w' : World} (h : Tab w) (hb : Below w.heap.size w w') : Tab w' :=
  fun j v hj=>(hb.cell (World.block_lt_of_cell? w _ (h j v hj))).trans (h j v hj)

theorem symmetry_same (s : Int) (w : World) :
    Calls Tryd.prog 90 #[.int .i64 s] w fun e w'=>e = .returned (.bool (decide (0 ≤ s ∧ s < 48))) ∧ w' = w:=by
  go_enter Tryd.func90,Tryd.ntmps90
  go_wp2_with fail
  all_goals (go_ret;exact ⟨ret_bool (by first | (symm;apply decide_eq_true;omega) | (symm;apply decide_eq_false;omega) | (apply decide_eq_decide.2;omega) | (simp;omega)),rfl⟩)
theorem symmetry_any (s : Int) (w : World) :
    Calls Tryd.prog 90 #[.int .i64 s] w fun e w'=>e = .returned (.bool (decide (0 ≤ s ∧ s < 48))) ∧ Below w.heap.size w w':=by
  exact (symmetry_same s w).mono fun e w1 ⟨h1,h2⟩=>⟨h1,by rw [h2];exact Below.refl _ _⟩
theorem is_same (s : Int) (w : World) :
    Calls Tryd.prog 69 #[.int .i64 s] w fun e w'=>e = .returned (.bool (decide (0 ≤ s ∧ s < 48))) ∧ w' = w:=by
  go_enter Tryd.func69,Tryd.ntmps69
  go_wp2_with fail
  all_goals (go_ret;exact ⟨ret_bool (by first | (symm;apply decide_eq_true;omega) | (symm;apply decide_eq_false;omega) | (apply decide_eq_decide.2;omega) | (simp;omega)),rfl⟩)
theorem is_any (s : Int) (w : World) :
    Calls Tryd.prog 69 #[.int .i64 s] w fun e w'=>e = .returned (.bool (decide (0 ≤ s ∧ s < 48))) ∧ Below w.heap.size w w':=by
  exact (is_same s w).mono fun e w1 ⟨h1,h2⟩=>⟨h1,by rw [h2];exact Below.refl _ _⟩
theorem neg0_same (v : Int) (w : World) (h : -2097152 ≤ v ∧ v ≤ 2097152) :
    Calls Tryd.prog 108 #[.int .i64 v] w fun e w'=>e = .returned (.int .i64 (-v - 0)) ∧ w' = w:=by
  go_enter Tryd.func108,Tryd.ntmps108
  go_wp2_with fail
  go_ret
  exact ⟨ret_int (by omega),rfl⟩
theorem neg1_same (v : Int) (w : World) (h : -2097152 ≤ v ∧ v ≤ 2097152) :
    Calls Tryd.prog 94 #[.int .i64 v] w fun e w'=>e = .returned (.int .i64 (-v - 1)) ∧ w' = w:=by
  go_enter Tryd.func94,Tryd.ntmps94
  go_wp2_with fail
  go_ret
  exact ⟨ret_int (by omega),rfl⟩
theorem and_bit : ∀ s : Fin 48,∀ i : Fin 3,(bits .and .i64 ((s.val : Int) / 2 ^ i.val) 1 == 1) = Pt.bit s i:=by decide +kernel
theorem mod_bit : ∀ s : Fin 48,∀ i : Fin 3,(((s.val : Int) / 2 ^ i.val).tmod 2 == 1) = Pt.bit s i:=by decide +kernel
theorem negates_same (s i : Nat) (w : World) (hs : s < 48) (hi : i < 3) :
    Calls Tryd.prog 109 #[.int .i64 (s : Int), .int .i64 (i : Int)] w fun e w'=>e = .returned (.bool (Pt.bit s i)) ∧ w' = w:=by
  go_enter Tryd.func109,Tryd.ntmps109
  go_wp2_with fail
  go_ret
  exact ⟨ret_bool (and_bit ⟨s,hs⟩ ⟨i,hi⟩),rfl⟩
theorem rnegates_same (s i : Nat) (w : World) (hs : s < 48) (hi : i < 3) :
    Calls Tryd.prog 97 #[.int .i64 (s : Int), .int .i64 (i : Int)] w fun e w'=>e = .returned (.bool (Pt.bit s i)) ∧ w' = w:=by
  go_enter Tryd.func97,Tryd.ntmps97
  go_wp2_with fail
  go_ret
  exact ⟨ret_bool (mod_bit ⟨s,hs⟩ ⟨i,hi⟩),rfl⟩
theorem order_any (k : Nat) (w : World) (hk : k < 6) :
    Calls Tryd.prog 96 #[.int .i64 (k : Int)] w fun e w'=>e = .returned (.agg #[.int .i64 (Pt.axis k 0 : Nat), .int .i64 (Pt.axis k 1 : Nat), .int .i64 (Pt.axis k 2 : Nat)]) ∧ Below w.heap.size w w':=by
  have h : k = 0 ∨ k = 1 ∨ k = 2 ∨ k = 3 ∨ k = 4 ∨ k = 5:=by omega
  rcases h with rfl | rfl | rfl | rfl | rfl | rfl
  all_goals
    go_enter Tryd.func96,Tryd.ntmps96
    go_wp2_with fail
    go_returns
    exact ⟨rfl,by go_grown⟩
end Go.Proofs.YtjdeaopdbenamaaDoor
/-
  The state of turn's loop.
-/
namespace Go.Proofs.YtjdeaopdbenamaaDoor
open Go.RowKit
set_option linter.unusedVariables false

theorem Row.low {g b : Nat} {cs : List Value} {w w' : World} (h : Row g cs w) (hb : Below b w w') (hg : g < b) : Row g cs w':=fun j v hj=>by
  obtain ⟨q1,q2⟩:=h j v hj
  exact ⟨(hb.cell hg).trans q1,(hb.frozen hg).trans q2⟩
theorem Row.cell1 {g : Nat} {cs : List Value} {w : World} (h : Row g cs w) (j : Nat) (v : Value) (hj : cs[j]? = some v) : w.cell? ⟨g,j,none⟩ = some v:=(h j v hj).1
theorem Row.soft {g : Nat} {cs : List Value} {w : World} (h : Row g cs w) (j : Nat) (v : Value) (hj : cs[j]? = some v) : w.frozen? ⟨g,j,none⟩ = false:=(h j v hj).2
/-- block q: the iterator at i; p: what is read; t: what is written; r: the result -/
structure TR (q t p r : Nat) (S : ByteArray) (i : Nat) (X Z : List Value) (w wr : World) : Prop where
  it : wr.heap[q]? = some (.stringIter S i)
  rp : Row p X wr
  rt : Row t Z wr
  rr : Row r [.int .i64 0, .int .i64 0, .int .i64 0] wr
  bel : Below w.heap.size w wr
  tq : t < q
  pt : p < t
  rt' : r < t
  wt : w.heap.size ≤ t
theorem TR.next {q t p r : Nat} {S : ByteArray} {i : Nat} {X Z : List Value} {w wr : World} (h : TR q t p r S i X Z w wr) (j : Nat) : TR q t p r S j X Z w (wr.iterAt q S j):=by
  have hb : Below q wr (wr.iterAt q S j):=Lib.below_iterAt (Below.refl _ _) (Nat.le_refl _) S j
  have h1:=h.tq
  have h2:=h.pt
  have h3:=h.rt'
  exact ⟨Lib.iterAt_heap wr q S i j h.it,h.rp.low hb (by omega),h.rt.low hb h1,h.rr.low hb (by omega),Lib.below_iterAt h.bel (by have:=h.wt;omega) S j,h1,h2,h3,h.wt⟩
theorem TR.set {q t p r : Nat} {S : ByteArray} {i : Nat} {X Z : List Value} {w wr : World} (h : TR q t p r S i X Z w wr) (k : Nat) (v : Value) (hk : k < Z.length) : TR q t p r S i X (Z.set k v) w (wr.setCell ⟨t,k,none⟩ v):=by
  have h1:=h.tq
  have h2:=h.pt
  have h3:=h.rt'
  have fp : Row p X (wr.setCell ⟨t,k,none⟩ v):=h.rp.far (b:=t) (by omega) k [v]
  have fr : Row r _ (wr.setCell ⟨t,k,none⟩ v):=h.rr.far (b:=t) (by omega) k [v]
  have fb : Below w.heap.size w (wr.setCell ⟨t,k,none⟩ v):=below_setCells h.wt [v] k w wr h.bel
  exact ⟨by rw [Below.heap_setCell _ _ _ _ (by intro e;simp at e;omega)];exact h.it,fp,h.rt.set k v hk,fr,fb,h1,h2,h3,h.wt⟩
theorem TR.begin {t p r : Nat} {S : ByteArray} {X Z : List Value} {w V : World} (ty : TypeId) (ht : V.heap.size = t) (hp : Row p X V) (hr : Row r [.int .i64 0, .int .i64 0, .int .i64 0] V) (hpl : p < t) (hrl : r < t) (hb : Below w.heap.size w V) :
    TR (t + 1) t p r S 0 X Z w ((V.alloc (.cells Z.toArray ty)).iter S 0):=by
  subst ht
  have hn:=Row.newl V Z ty
  have hs : (V.alloc (.cells Z.toArray ty)).heap.size = V.heap.size + 1:=by simp
  have hb2 : Below (V.alloc (.cells Z.toArray ty)).heap.size (V.alloc (.cells Z.toArray ty)) ((V.alloc (.cells Z.toArray ty)).iter S 0):=(Below.refl _ _).alloc (Nat.le_refl _) _
  have g : Gr V ((V.alloc (.cells Z.toArray ty)).iter S 0):=(Gr.al V _).trans hb2
  refine ⟨?_,hp.below g,hn.below hb2,hr.below g,Gr.to hb g,by omega,hpl,hrl,hb.size⟩
  have:=World.iter_heap (V.alloc (.cells Z.toArray ty)) S 0
  rwa [hs] at this
theorem TR.pos {q t p r : Nat} {S : ByteArray} {i : Nat} {X Z : List Value} {w wr : World} (h : TR q t p r S i X Z w wr) : wr.iterPos q = i:=by
  unfold World.iterPos;rw [h.it]
end Go.Proofs.YtjdeaopdbenamaaDoor
/-
  The state of the specification's loop that turns a point.
-/
namespace Go.Proofs.YtjdeaopdbenamaaDoor
open Go.RowKit
set_option linter.unusedVariables false

/-- p: the coordinates; q: the axes; t: what is written; r: the result -/
structure RR (p q t r : Nat) (X A Z : List Value) (w wr : World) : Prop where
  rp : Row p X wr
  rq : Row q A wr
  rt : Row t Z wr
  rr : Row r [.int .i64 0, .int .i64 0, .int .i64 0] wr
  bel : Below w.heap.size w wr
  pt : p < t
  qt : q < t
  rt' : r < t
  wt : w.heap.size ≤ t
theorem RR.set {p q t r : Nat} {X A Z : List Value} {w wr : World} (h : RR p q t r X A Z w wr) (k : Nat) (v : Value) (hk : k < Z.length) : RR p q t r X A (Z.set k v) w (wr.setCell ⟨t,k,none⟩ v):=by
  have h1:=h.pt
  have h2:=h.qt
  have h3:=h.rt'
  have fp : Row p X (wr.setCell ⟨t,k,none⟩ v):=h.rp.far (b:=t) (by omega) k [v]
  have fq : Row q A (wr.setCell ⟨t,k,none⟩ v):=h.rq.far (b:=t) (by omega) k [v]
  have fr : Row r _ (wr.setCell ⟨t,k,none⟩ v):=h.rr.far (b:=t) (by omega) k [v]
  have fb : Below w.heap.size w (wr.setCell ⟨t,k,none⟩ v):=below_setCells h.wt [v] k w wr h.bel
  exact ⟨fp,fq,h.rt.set k v hk,fr,fb,h1,h2,h3,h.wt⟩
theorem RR.begin {p q r : Nat} {X A Z : List Value} {w V : World} (ty : TypeId) (hp : Row p X V) (hq : Row q A V) (hr : Row r [.int .i64 0, .int .i64 0, .int .i64 0] V) (hpl : p < V.heap.size) (hql : q < V.heap.size) (hrl : r < V.heap.size) (hb : Below w.heap.size w V) :
    RR p q V.heap.size r X A Z w (V.alloc (.cells Z.toArray ty)) :=
  ⟨hp.alloc _,hq.alloc _,Row.newl V Z ty,hr.alloc _,Gr.to hb (Gr.al V _),hpl,hql,hrl,hb.size⟩
theorem RR.below {p q t r : Nat} {X A Z : List Value} {w wr w2 : World} (h : RR p q t r X A Z w wr) (g : Gr wr w2) : RR p q t r X A Z w w2 :=
  ⟨h.rp.below g,h.rq.below g,h.rt.below g,h.rr.below g,Gr.to h.bel g,h.pt,h.qt,h.rt',h.wt⟩
end Go.Proofs.YtjdeaopdbenamaaDoor
/-
  Contracts of the laws' helpers: points in range.
-/
namespace Go.Proofs.YtjdeaopdbenamaaDoor
open Go.RowKit
set_option linter.unusedVariables false

def In64 (p : Int × Int × Int) : Prop:=(-9223372036854775808 ≤ p.1 ∧ p.1 ≤ 9223372036854775807) ∧ (-9223372036854775808 ≤ p.2.1 ∧ p.2.1 ≤ 9223372036854775807) ∧ (-9223372036854775808 ≤ p.2.2 ∧ p.2.2 ≤ 9223372036854775807)
def inR (p : Int × Int × Int) : Bool:=decide ((-1048575 ≤ p.1 ∧ p.1 ≤ 1048575) ∧ (-1048575 ≤ p.2.1 ∧ p.2.1 ≤ 1048575) ∧ (-1048575 ≤ p.2.2 ∧ p.2.2 ≤ 1048575))
def AllTo (l : List (Int × Int × Int)) (k : Nat) : Prop:=(l.take k).all inR = true
theorem AllTo.succ {l : List (Int × Int × Int)} {k : Nat} {p : Int × Int × Int} (h : AllTo l k) (hk : l[k]? = some p) (hp : inR p = true) : AllTo l (k + 1):=by
  unfold AllTo at *
  rw [List.take_add_one,hk]
  simp [List.all_append,hp,h]
end Go.Proofs.YtjdeaopdbenamaaDoor
