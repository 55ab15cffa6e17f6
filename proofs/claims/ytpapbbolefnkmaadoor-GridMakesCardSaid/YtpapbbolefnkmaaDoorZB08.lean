/-
  The symmetries of the cube as mathematics.
-/
import Derived.Test.YtpapbbolefnkmaaDoorZB03
import Derived.Handy
import Derived.Lib.OthersKept
import Derived.Deep.DeepCutAuto
namespace Go.Proofs.YtpapbbolefnkmaaDoor.Pt

def bit (s i : Nat) : Bool:=s / 2 ^ i % 2 == 1
def axis (k i : Nat) : Nat:=match k,i with
  | 0,0=>0 | 0,1=>1 | 0,_=>2
  | 1,0=>0 | 1,1=>2 | 1,_=>1
  | 2,0=>1 | 2,1=>0 | 2,_=>2
  | 3,0=>1 | 3,1=>2 | 3,_=>0
  | 4,0=>2 | 4,1=>0 | 4,_=>1
  | _,0=>2 | _,1=>1 | _,_=>0
def pick (j : Nat) (x y z : Int) : Int:=match j with
  | 0=>x
  | 1=>y
  | _=>z
def tc (less : Int) (s i : Nat) (x y z : Int) : Int:=bif bit s i then -(pick (axis (s / 8) i) x y z) - less else pick (axis (s / 8) i) x y z

theorem pick_bd {L : Int} {j : Nat} {x y z : Int} (h : (-L ≤ x ∧ x ≤ L) ∧ (-L ≤ y ∧ y ≤ L) ∧ (-L ≤ z ∧ z ≤ L)) : -L ≤ pick j x y z ∧ pick j x y z ≤ L:=by
  unfold pick;split <;> omega
theorem tc_bd0 {L : Int} {s i : Nat} {x y z : Int} (h : (-L ≤ x ∧ x ≤ L) ∧ (-L ≤ y ∧ y ≤ L) ∧ (-L ≤ z ∧ z ≤ L)) : -L ≤ tc 0 s i x y z ∧ tc 0 s i x y z ≤ L:=by
  have h1:=pick_bd (j:=axis (s / 8) i) h
  unfold tc
  cases bit s i
  · simp only [cond_false];omega
  · simp only [cond_true];omega

def mk (s : Nat) : Int × Int × Int:=(tc 0 s 0 1 2 3,tc 0 s 1 1 2 3,tc 0 s 2 1 2 3)
def mk2 (a b : Nat) : Int × Int × Int:=let p:=mk b;(tc 0 a 0 p.1 p.2.1 p.2.2,tc 0 a 1 p.1 p.2.1 p.2.2,tc 0 a 2 p.1 p.2.1 p.2.2)
def comp (a b : Nat) : Nat:=((List.range 48).find? fun s=>mk s == mk2 a b).getD 48
def inv (s : Nat) : Nat:=((List.range 48).find? fun t=>mk2 t s == (1,2,3)).getD 48
def chr (j : Nat) : UInt8:=UInt8.ofNat (120 + j)
def sgn (s i : Nat) : UInt8:=if bit s i then 45 else 43
def name (s : Nat) : List UInt8:=[sgn s 0,chr (axis (s / 8) 0),sgn s 1,chr (axis (s / 8) 1),sgn s 2,chr (axis (s / 8) 2)]

theorem comp_lt : ∀ a b : Fin 48,comp a b < 48 ∧ mk (comp a b) = mk2 a b:=by decide +kernel
theorem inv_lt : ∀ a : Fin 48,inv a < 48 ∧ mk2 (inv a) a = (1,2,3) ∧ mk2 a (inv a) = (1,2,3):=by decide +kernel
theorem comp_inv : ∀ a : Fin 48,comp a (inv a) = 0 ∧ comp (inv a) a = 0 ∧ comp a 0 = a ∧ comp 0 a = a:=by decide +kernel
def app (less n x y z : Int) : Int:=if n = 1 then x else if n = 2 then y else if n = 3 then z else if n = -1 then -x - less else if n = -2 then -y - less else -z - less
theorem tc_app (less x y z : Int) : ∀ s : Fin 48,∀ i : Fin 3,tc less s i x y z = app less (tc 0 s i 1 2 3) x y z:=by
  have h : ∀ s : Fin 48,∀ i : Fin 3,(tc 0 s i 1 2 3 = 1 ∧ bit s i = false ∧ axis (s.val / 8) i = 0) ∨ (tc 0 s i 1 2 3 = 2 ∧ bit s i = false ∧ axis (s.val / 8) i = 1) ∨ (tc 0 s i 1 2 3 = 3 ∧ bit s i = false ∧ axis (s.val / 8) i = 2) ∨ (tc 0 s i 1 2 3 = -1 ∧ bit s i = true ∧ axis (s.val / 8) i = 0) ∨ (tc 0 s i 1 2 3 = -2 ∧ bit s i = true ∧ axis (s.val / 8) i = 1) ∨ (tc 0 s i 1 2 3 = -3 ∧ bit s i = true ∧ axis (s.val / 8) i = 2):=by decide +kernel
  intro s i
  rcases h s i with ⟨e1,e2,e3⟩ | ⟨e1,e2,e3⟩ | ⟨e1,e2,e3⟩ | ⟨e1,e2,e3⟩ | ⟨e1,e2,e3⟩ | ⟨e1,e2,e3⟩ <;> rw [e1] <;> unfold tc app pick <;> rw [e2,e3] <;> rfl
theorem app_app (less x y z n u1 u2 u3 : Int) (hn : n = 1 ∨ n = 2 ∨ n = 3 ∨ n = -1 ∨ n = -2 ∨ n = -3)
    (h1 : u1 = 1 ∨ u1 = 2 ∨ u1 = 3 ∨ u1 = -1 ∨ u1 = -2 ∨ u1 = -3) (h2 : u2 = 1 ∨ u2 = 2 ∨ u2 = 3 ∨ u2 = -1 ∨ u2 = -2 ∨ u2 = -3) (h3 : u3 = 1 ∨ u3 = 2 ∨ u3 = 3 ∨ u3 = -1 ∨ u3 = -2 ∨ u3 = -3) :
    app less n (app less u1 x y z) (app less u2 x y z) (app less u3 x y z) = app less (app 0 n u1 u2 u3) x y z:=by
  have key : ∀ v : Int,(v = 1 ∨ v = 2 ∨ v = 3 ∨ v = -1 ∨ v = -2 ∨ v = -3) → app less (-v - 0) x y z = -(app less v x y z) - less:=by
    intro v hv
    rcases hv with rfl | rfl | rfl | rfl | rfl | rfl <;> simp only [app] <;> simp <;> omega
  rcases hn with rfl | rfl | rfl | rfl | rfl | rfl
  · rfl
  · rfl
  · rfl
  · exact (key u1 h1).symm
  · exact (key u2 h2).symm
  · exact (key u3 h3).symm
theorem tc_six : ∀ s : Fin 48,∀ i : Fin 3,tc 0 s i 1 2 3 = 1 ∨ tc 0 s i 1 2 3 = 2 ∨ tc 0 s i 1 2 3 = 3 ∨ tc 0 s i 1 2 3 = -1 ∨ tc 0 s i 1 2 3 = -2 ∨ tc 0 s i 1 2 3 = -3:=by decide +kernel
theorem tc_comp (less x y z : Int) (a b : Fin 48) (i : Fin 3) : tc less a i (tc less b 0 x y z) (tc less b 1 x y z) (tc less b 2 x y z) = tc less (comp a b) i x y z:=by
  obtain ⟨c1,c2⟩:=comp_lt a b
  have e:=tc_app less x y z ⟨comp a b,c1⟩ i
  simp only at e
  rw [e,tc_app less _ _ _ a i]
  have t0:=tc_app less x y z b 0
  have t1:=tc_app less x y z b 1
  have t2:=tc_app less x y z b 2
  simp only [Fin.isValue,Fin.val_zero,Fin.val_one,Fin.val_two] at t0 t1 t2
  rw [t0,t1,t2]
  have s0:=tc_six b 0
  have s1:=tc_six b 1
  have s2:=tc_six b 2
  simp only [Fin.isValue,Fin.val_zero,Fin.val_one,Fin.val_two] at s0 s1 s2
  rw [app_app less x y z _ _ _ _ (tc_six a i) s0 s1 s2,← tc_app 0 _ _ _ a i]
  congr 1
  unfold mk mk2 mk at c2
  simp only [Prod.mk.injEq] at c2
  match i with
  | 0=>exact c2.1.symm
  | 1=>exact c2.2.1.symm
  | 2=>exact c2.2.2.symm
end Go.Proofs.YtpapbbolefnkmaaDoor.Pt
/-
  Small contracts on symmetries; the table of orders.
-/
namespace Go.Proofs.YtpapbbolefnkmaaDoor
open Go.RowKit
set_option linter.unusedVariables false

def ords : List Value:=[.string ⟨#[120,121,122]⟩, .string ⟨#[120,122,121]⟩, .string ⟨#[121,120,122]⟩, .string ⟨#[121,122,120]⟩, .string ⟨#[122,120,121]⟩, .string ⟨#[122,121,120]⟩]
def Tab (w : World) : Prop:=w.rangeAt 0 0 ords
theorem Tab.below {w w' : World} (h : Tab w) (hb : Below w.heap.size w w') : Tab w' :=
  fun j v hj=>(hb.cell (World.block_lt_of_cell? w _ (h j v hj))).trans (h j v hj)

theorem symmetry_same (s : Int) (w : World) :
    Calls Tryd.prog 90 #[.int .i64 s] w fun e w'=>e = .returned (.bool (decide (0 ≤ s ∧ s < 48))) ∧ w' = w:=by
  go_enter Tryd.func90,Tryd.ntmps90
  go_wp2_with fail
  all_goals (go_ret;exact ⟨ret_bool (by first | (symm;apply decide_eq_true;omega) | (symm;apply decide_eq_false;omega) | (apply decide_eq_decide.2;omega) | (simp;omega)),rfl⟩)
theorem symmetry_any (s : Int) (w : World) :
    Calls Tryd.prog 90 #[.int .i64 s] w fun e w'=>e = .returned (.bool (decide (0 ≤ s ∧ s < 48))) ∧ Below w.heap.size w w':=by
  exact (symmetry_same s w).mono fun e w1 ⟨h1,h2⟩=>⟨h1,by rw [h2];exact Below.refl _ _⟩
theorem neg0_same (v : Int) (w : World) (h : -2097152 ≤ v ∧ v ≤ 2097152) :
    Calls Tryd.prog 108 #[.int .i64 v] w fun e w'=>e = .returned (.int .i64 (-v - 0)) ∧ w' = w:=by
  go_enter Tryd.func108,Tryd.ntmps108
  go_wp2_with fail
  go_ret
  exact ⟨ret_int (by omega),rfl⟩
theorem neg1_same (v : Int) (w : World) (h : -2097152 ≤ v ∧ v ≤ 2097152) :
    Calls Tryd.prog 94 #[.int .i64 v] w fun e w'=>e = .returned (.int .i64 (-v - 1)) ∧ w' = w:=by
  go_enter Tryd.func94,Tryd.ntmps94
  go_wp2_with fail
  go_ret
  exact ⟨ret_int (by omega),rfl⟩
theorem and_bit : ∀ s : Fin 48,∀ i : Fin 3,(bits .and .i64 ((s.val : Int) / 2 ^ i.val) 1 == 1) = Pt.bit s i:=by decide +kernel
theorem negates_same (s i : Nat) (w : World) (hs : s < 48) (hi : i < 3) :
    Calls Tryd.prog 109 #[.int .i64 (s : Int), .int .i64 (i : Int)] w fun e w'=>e = .returned (.bool (Pt.bit s i)) ∧ w' = w:=by
  go_enter Tryd.func109,Tryd.ntmps109
  go_wp2_with fail
  go_ret
  exact ⟨ret_bool (and_bit ⟨s,hs⟩ ⟨i,hi⟩),rfl⟩
end Go.Proofs.YtpapbbolefnkmaaDoor
/-
  The state of turn's loop.
-/
namespace Go.Proofs.YtpapbbolefnkmaaDoor
open Go.RowKit
set_option linter.unusedVariables false

theorem Row.low {g b : Nat} {cs : List Value} {w w' : World} (h : Row g cs w) (hb : Below b w w') (hg : g < b) : Row g cs w':=fun j v hj=>by
  obtain ⟨q1,q2⟩:=h j v hj
  exact ⟨(hb.cell hg).trans q1,(hb.frozen hg).trans q2⟩
theorem Row.cell1 {g : Nat} {cs : List Value} {w : World} (h : Row g cs w) (j : Nat) (v : Value) (hj : cs[j]? = some v) : w.cell? ⟨g,j,none⟩ = some v:=(h j v hj).1
theorem Row.soft {g : Nat} {cs : List Value} {w : World} (h : Row g cs w) (j : Nat) (v : Value) (hj : cs[j]? = some v) : w.frozen? ⟨g,j,none⟩ = false:=(h j v hj).2
structure TR (q t p r : Nat) (S : ByteArray) (i : Nat) (X Z : List Value) (w wr : World) : Prop where
  it : wr.heap[q]? = some (.stringIter S i)
  rp : Row p X wr
  rt : Row t Z wr
  rr : Row r [.int .i64 0, .int .i64 0, .int .i64 0] wr
  bel : Below w.heap.size w wr
  tq : t < q
  pt : p < t
  rt' : r < t
  wt : w.heap.size ≤ t
theorem TR.next {q t p r : Nat} {S : ByteArray} {i : Nat} {X Z : List Value} {w wr : World} (h : TR q t p r S i X Z w wr) (j : Nat) : TR q t p r S j X Z w (wr.iterAt q S j):=by
  have hb : Below q wr (wr.iterAt q S j):=Lib.below_iterAt (Below.refl _ _) (Nat.le_refl _) S j
  have h1:=h.tq
  have h2:=h.pt
  have h3:=h.rt'
  exact ⟨Lib.iterAt_heap wr q S i j h.it,h.rp.low hb (by omega),h.rt.low hb h1,h.rr.low hb (by omega),Lib.below_iterAt h.bel (by have:=h.wt;omega) S j,h1,h2,h3,h.wt⟩
theorem TR.set {q t p r : Nat} {S : ByteArray} {i : Nat} {X Z : List Value} {w wr : World} (h : TR q t p r S i X Z w wr) (k : Nat) (v : Value) (hk : k < Z.length) : TR q t p r S i X (Z.set k v) w (wr.setCell ⟨t,k,none⟩ v):=by
  have h1:=h.tq
  have h2:=h.pt
  have h3:=h.rt'
  have fp : Row p X (wr.setCell ⟨t,k,none⟩ v):=h.rp.far (b:=t) (by omega) k [v]
  have fr : Row r _ (wr.setCell ⟨t,k,none⟩ v):=h.rr.far (b:=t) (by omega) k [v]
  have fb : Below w.heap.size w (wr.setCell ⟨t,k,none⟩ v):=below_setCells h.wt [v] k w wr h.bel
  exact ⟨by rw [Below.heap_setCell _ _ _ _ (by intro e;simp at e;omega)];exact h.it,fp,h.rt.set k v hk,fr,fb,h1,h2,h3,h.wt⟩
theorem TR.begin {t p r : Nat} {S : ByteArray} {X Z : List Value} {w V : World} (ty : TypeId) (ht : V.heap.size = t) (hp : Row p X V) (hr : Row r [.int .i64 0, .int .i64 0, .int .i64 0] V) (hpl : p < t) (hrl : r < t) (hb : Below w.heap.size w V) :
    TR (t + 1) t p r S 0 X Z w ((V.alloc (.cells Z.toArray ty)).iter S 0):=by
  subst ht
  have hn:=Row.newl V Z ty
  have hs : (V.alloc (.cells Z.toArray ty)).heap.size = V.heap.size + 1:=by simp
  have hb2 : Below (V.alloc (.cells Z.toArray ty)).heap.size (V.alloc (.cells Z.toArray ty)) ((V.alloc (.cells Z.toArray ty)).iter S 0):=(Below.refl _ _).alloc (Nat.le_refl _) _
  have g : Gr V ((V.alloc (.cells Z.toArray ty)).iter S 0):=(Gr.al V _).trans hb2
  refine ⟨?_,hp.below g,hn.below hb2,hr.below g,Gr.to hb g,by omega,hpl,hrl,hb.size⟩
  have:=World.iter_heap (V.alloc (.cells Z.toArray ty)) S 0
  rwa [hs] at this
theorem TR.pos {q t p r : Nat} {S : ByteArray} {i : Nat} {X Z : List Value} {w wr : World} (h : TR q t p r S i X Z w wr) : wr.iterPos q = i:=by
  unfold World.iterPos;rw [h.it]
end Go.Proofs.YtpapbbolefnkmaaDoor
