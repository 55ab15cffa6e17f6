/-
  One cell of a block written.
-/
import Derived.Test.YtpapbbolefnkmaaDoorZB03
import Derived.Test.YtpapbbolefnkmaaDoorZB07
import Derived.Test.YtpapbbolefnkmaaDoorZB02
import Derived.Test.YtpapbbolefnkmaaDoorZB08
import Derived.Test.YtpapbbolefnkmaaDoorZB15
import Derived.Test.YtpapbbolefnkmaaDoorZB16
import Derived.KernelRfl
import Derived.Handy
import Derived.Laws.StructEq
namespace Go.Proofs.YtpapbbolefnkmaaDoor
open Go.RowKit

theorem Gr.put1 {w u W C : World} {q k : Nat} {v : Value} (h : Below w.heap.size w u) (g1 : Gr u W) (hq : w.heap.size ≤ q) (g2 : Gr (W.setCell ⟨q,k,none⟩ v) C) : Below w.heap.size w C:=by
  have h1 : Below w.heap.size w (W.setCell ⟨q,k,none⟩ v):=below_setCells hq [v] k w W (Gr.to h g1)
  exact Below.trans h1 (Below.mono g2 h1.size)
end Go.Proofs.YtpapbbolefnkmaaDoor
/-
  A part of a block, read; ends of functions.
-/
namespace Go.Proofs.YtpapbbolefnkmaaDoor
open Go.RowKit

theorem Row.part {g : Nat} {cs ds : List Value} {w : World} (h : Row g cs w) (o n : Nat) (e : (cs.drop o).take n = ds) : w.rangeAt g o ds:=fun j v hj=>by
  refine (h (o + j) v ?_).1
  rw [← e,List.getElem?_take] at hj
  split at hj
  · rwa [List.getElem?_drop] at hj
  · cases hj
theorem Row.at_ {g : Nat} {cs : List Value} {w : World} (h : Row g cs w) (j : Nat) (v : Value) (e : cs[j]? = some v) : w.cell? ⟨g,j,none⟩ = some v:=(h j v e).1
end Go.Proofs.YtpapbbolefnkmaaDoor
/-
  Contracts of the specification of package point: those without calls.
-/
namespace Go.Proofs.YtpapbbolefnkmaaDoor
open Go.RowKit
set_option linter.unusedVariables false
set_option maxRecDepth 1000000 in
theorem radd_any (x1 x2 x3 y1 y2 y3 : Int) (w : World) (h : (-2097152 ≤ x1 ∧ x1 ≤ 2097152) ∧ (-2097152 ≤ x2 ∧ x2 ≤ 2097152) ∧ (-2097152 ≤ x3 ∧ x3 ≤ 2097152) ∧ (-2097152 ≤ y1 ∧ y1 ≤ 2097152) ∧ (-2097152 ≤ y2 ∧ y2 ≤ 2097152) ∧ (-2097152 ≤ y3 ∧ y3 ≤ 2097152)) :
    Calls Tryd.prog 104 #[.agg #[.int .i64 x1, .int .i64 x2, .int .i64 x3], .agg #[.int .i64 y1, .int .i64 y2, .int .i64 y3]] w fun e w'=>e = .returned (.agg #[.int .i64 (x1 + y1), .int .i64 (x2 + y2), .int .i64 (x3 + y3)]) ∧ Below w.heap.size w w':=by
  go_enter Tryd.func104,Tryd.ntmps104
  go_wp2_with fail
  go_returns
  exact ⟨rfl,by go_grown⟩
set_option maxRecDepth 1000000 in
theorem rsub_any (x1 x2 x3 y1 y2 y3 : Int) (w : World) (h : (-2097152 ≤ x1 ∧ x1 ≤ 2097152) ∧ (-2097152 ≤ x2 ∧ x2 ≤ 2097152) ∧ (-2097152 ≤ x3 ∧ x3 ≤ 2097152) ∧ (-2097152 ≤ y1 ∧ y1 ≤ 2097152) ∧ (-2097152 ≤ y2 ∧ y2 ≤ 2097152) ∧ (-2097152 ≤ y3 ∧ y3 ≤ 2097152)) :
    Calls Tryd.prog 75 #[.agg #[.int .i64 x1, .int .i64 x2, .int .i64 x3], .agg #[.int .i64 y1, .int .i64 y2, .int .i64 y3]] w fun e w'=>e = .returned (.agg #[.int .i64 (x1 - y1), .int .i64 (x2 - y2), .int .i64 (x3 - y3)]) ∧ Below w.heap.size w w':=by
  go_enter Tryd.func75,Tryd.ntmps75
  go_wp2_with fail
  go_returns
  exact ⟨rfl,by go_grown⟩
set_option maxRecDepth 1000000 in
theorem rcube_any (n : Int) (w : World) :
    Calls Tryd.prog 43 #[.int .i64 n] w fun e w'=>e = .returned (.agg #[.int .i64 0, .int .i64 0, .int .i64 0, .int .i64 n, .int .i64 n, .int .i64 n]) ∧ Below w.heap.size w w':=by
  go_enter Tryd.func43,Tryd.ntmps43
  go_wp2_with fail
  go_returns
  exact ⟨rfl,by go_grown⟩
set_option maxRecDepth 1000000 in
theorem rempty_any (a1 a2 a3 a4 a5 a6 : Int) (r : Bool) (w : World) (h : Pt.emp a1 a2 a3 a4 a5 a6 = r) :
    Calls Tryd.prog 76 #[.agg #[.int .i64 a1, .int .i64 a2, .int .i64 a3, .int .i64 a4, .int .i64 a5, .int .i64 a6]] w fun e w'=>e = .returned (.bool r) ∧ Below w.heap.size w w':=by
  have H:=Lib.hid h
  clear h
  go_enter Tryd.func76,Tryd.ntmps76
  go_wp2_with fail
  all_goals (go_ret;exact ⟨ret_bool (by rw [← H.out];unfold Pt.emp;first | (symm;apply decide_eq_true;omega) | (symm;apply decide_eq_false;omega) | (apply decide_eq_decide.2;omega) | (simp;omega) | (rw [Bool.eq_iff_iff];simp;omega)),by go_grown⟩)
set_option maxRecDepth 1000000 in
theorem rin_any (x1 x2 x3 a1 a2 a3 a4 a5 a6 : Int) (r : Bool) (w : World) (h : Pt.inB x1 x2 x3 a1 a2 a3 a4 a5 a6 = r) :
    Calls Tryd.prog 23 #[.agg #[.int .i64 x1, .int .i64 x2, .int .i64 x3], .agg #[.int .i64 a1, .int .i64 a2, .int .i64 a3, .int .i64 a4, .int .i64 a5, .int .i64 a6]] w fun e w'=>e = .returned (.bool r) ∧ Below w.heap.size w w':=by
  have H:=Lib.hid h
  clear h
  go_enter Tryd.func23,Tryd.ntmps23
  go_wp2_with fail
  all_goals (go_ret;exact ⟨ret_bool (by rw [← H.out];unfold Pt.inB;first | (symm;apply decide_eq_true;omega) | (symm;apply decide_eq_false;omega) | (apply decide_eq_decide.2;omega) | (simp;omega) | (rw [Bool.eq_iff_iff];simp;omega)),by go_grown⟩)

end Go.Proofs.YtpapbbolefnkmaaDoor
/-
  Turned points and boxes: distances, cells, volumes.
-/
namespace Go.Proofs.YtpapbbolefnkmaaDoor.Pt

theorem six {s : Nat} (h : s < 48) : s / 8 = 0 ∨ s / 8 = 1 ∨ s / 8 = 2 ∨ s / 8 = 3 ∨ s / 8 = 4 ∨ s / 8 = 5:=by omega
def lo (s i : Nat) (a b c d e f : Int) : Int:=min (tc 0 s i a b c) (tc 0 s i d e f)
def hi (s i : Nat) (a b c d e f : Int) : Int:=max (tc 0 s i a b c) (tc 0 s i d e f)
theorem tc_in {s i : Nat} {x1 x2 x3 a b c d e f : Int} (h : pick (axis (s / 8) i) a b c < pick (axis (s / 8) i) d e f) :
    (min (tc 0 s i a b c) (tc 0 s i d e f) ≤ tc 1 s i x1 x2 x3 ∧ tc 1 s i x1 x2 x3 < max (tc 0 s i a b c) (tc 0 s i d e f)) ↔ (pick (axis (s / 8) i) a b c ≤ pick (axis (s / 8) i) x1 x2 x3 ∧ pick (axis (s / 8) i) x1 x2 x3 < pick (axis (s / 8) i) d e f):=by
  unfold tc
  cases bit s i
  · simp only [cond_false];omega
  · simp only [cond_true];omega
theorem tc_len {s i : Nat} {a b c d e f : Int} (h : pick (axis (s / 8) i) a b c < pick (axis (s / 8) i) d e f) :
    max (tc 0 s i a b c) (tc 0 s i d e f) - min (tc 0 s i a b c) (tc 0 s i d e f) = pick (axis (s / 8) i) d e f - pick (axis (s / 8) i) a b c:=by
  unfold tc
  cases bit s i
  · simp only [cond_false];omega
  · simp only [cond_true];omega
theorem pick_lt (k i : Nat) {a b c d e f : Int} (h : a < d ∧ b < e ∧ c < f) : pick (axis k i) a b c < pick (axis k i) d e f:=by
  unfold pick;split <;> omega
theorem in_turn (s : Nat) (hs : s < 48) (x1 x2 x3 a b c d e f : Int) (h : emp a b c d e f = false) :
    inB (tc 1 s 0 x1 x2 x3) (tc 1 s 1 x1 x2 x3) (tc 1 s 2 x1 x2 x3) (min (tc 0 s 0 a b c) (tc 0 s 0 d e f)) (min (tc 0 s 1 a b c) (tc 0 s 1 d e f)) (min (tc 0 s 2 a b c) (tc 0 s 2 d e f)) (max (tc 0 s 0 a b c) (tc 0 s 0 d e f)) (max (tc 0 s 1 a b c) (tc 0 s 1 d e f)) (max (tc 0 s 2 a b c) (tc 0 s 2 d e f)) = inB x1 x2 x3 a b c d e f:=by
  have hz:=emp_false.1 h
  unfold inB
  apply decide_eq_decide.2
  rw [tc_in (pick_lt _ _ hz),tc_in (pick_lt _ _ hz),tc_in (pick_lt _ _ hz)]
  rcases six hs with h | h | h | h | h | h <;> rw [h] <;> simp only [axis,pick] <;> omega
theorem vol_turn (s : Nat) (hs : s < 48) (a b c d e f : Int) (h : emp a b c d e f = false) :
    vol (min (tc 0 s 0 a b c) (tc 0 s 0 d e f)) (min (tc 0 s 1 a b c) (tc 0 s 1 d e f)) (min (tc 0 s 2 a b c) (tc 0 s 2 d e f)) (max (tc 0 s 0 a b c) (tc 0 s 0 d e f)) (max (tc 0 s 1 a b c) (tc 0 s 1 d e f)) (max (tc 0 s 2 a b c) (tc 0 s 2 d e f)) = vol a b c d e f:=by
  have hz:=emp_false.1 h
  have l0:=tc_len (s:=s) (i:=0) (pick_lt (s / 8) 0 hz)
  have l1:=tc_len (s:=s) (i:=1) (pick_lt (s / 8) 1 hz)
  have l2:=tc_len (s:=s) (i:=2) (pick_lt (s / 8) 2 hz)
  have p0:=pick_lt (s / 8) 0 hz
  have p1:=pick_lt (s / 8) 1 hz
  have p2:=pick_lt (s / 8) 2 hz
  rw [vol_full h,vol_full (emp_false.2 (by omega)),l0,l1,l2]
  clear l0 l1 l2 p0 p1 p2
  generalize hp : d - a = p
  generalize hq : e - b = q
  generalize hr : f - c = r
  rcases six hs with h | h | h | h | h | h <;> rw [h] <;> simp only [axis,pick,hp,hq,hr]
  · rw [Int.mul_assoc,Int.mul_comm r q,← Int.mul_assoc]
  · rw [Int.mul_comm q p]
  · rw [Int.mul_comm (q * r) p,Int.mul_assoc]
  · rw [Int.mul_comm r p,Int.mul_assoc,Int.mul_comm r q,← Int.mul_assoc]
  · rw [Int.mul_comm r q,Int.mul_comm (q * r) p,Int.mul_assoc]
end Go.Proofs.YtpapbbolefnkmaaDoor.Pt
/-
  The state of the specification's loop that turns a point.
-/
namespace Go.Proofs.YtpapbbolefnkmaaDoor
open Go.RowKit
set_option linter.unusedVariables false

structure RR (p q t r : Nat) (X A Z : List Value) (w wr : World) : Prop where
  rp : Row p X wr
  rq : Row q A wr
  rt : Row t Z wr
  rr : Row r [.int .i64 0, .int .i64 0, .int .i64 0] wr
  bel : Below w.heap.size w wr
  pt : p < t
  qt : q < t
  rt' : r < t
  wt : w.heap.size ≤ t
theorem RR.set {p q t r : Nat} {X A Z : List Value} {w wr : World} (h : RR p q t r X A Z w wr) (k : Nat) (v : Value) (hk : k < Z.length) : RR p q t r X A (Z.set k v) w (wr.setCell ⟨t,k,none⟩ v):=by
  have h1:=h.pt
  have h2:=h.qt
  have h3:=h.rt'
  have fp : Row p X (wr.setCell ⟨t,k,none⟩ v):=h.rp.far (b:=t) (by omega) k [v]
  have fq : Row q A (wr.setCell ⟨t,k,none⟩ v):=h.rq.far (b:=t) (by omega) k [v]
  have fr : Row r _ (wr.setCell ⟨t,k,none⟩ v):=h.rr.far (b:=t) (by omega) k [v]
  have fb : Below w.heap.size w (wr.setCell ⟨t,k,none⟩ v):=below_setCells h.wt [v] k w wr h.bel
  exact ⟨fp,fq,h.rt.set k v hk,fr,fb,h1,h2,h3,h.wt⟩
theorem RR.begin {p q r : Nat} {X A Z : List Value} {w V : World} (ty : TypeId) (hp : Row p X V) (hq : Row q A V) (hr : Row r [.int .i64 0, .int .i64 0, .int .i64 0] V) (hpl : p < V.heap.size) (hql : q < V.heap.size) (hrl : r < V.heap.size) (hb : Below w.heap.size w V) :
    RR p q V.heap.size r X A Z w (V.alloc (.cells Z.toArray ty)) :=
  ⟨hp.alloc _,hq.alloc _,Row.newl V Z ty,hr.alloc _,Gr.to hb (Gr.al V _),hpl,hql,hrl,hb.size⟩
theorem RR.below {p q t r : Nat} {X A Z : List Value} {w wr w2 : World} (h : RR p q t r X A Z w wr) (g : Gr wr w2) : RR p q t r X A Z w w2 :=
  ⟨h.rp.below g,h.rq.below g,h.rt.below g,h.rr.below g,Gr.to h.bel g,h.pt,h.qt,h.rt',h.wt⟩
end Go.Proofs.YtpapbbolefnkmaaDoor
/-
  Contracts of package point: compositions and inverses of symmetries.
-/
namespace Go.Proofs.YtpapbbolefnkmaaDoor
open Go.RowKit
set_option linter.unusedVariables false
def fst (g : Nat → Bool) : Int:=match (List.range 48).find? g with
  | some s=>(s : Int)
  | none=>-1
def NoneB (g : Nat → Bool) (k : Nat) : Prop:=∀ j,j < k → g j = false
theorem NoneB.succ {g : Nat → Bool} {k : Nat} (h : NoneB g k) (hk : g k = false) : NoneB g (k + 1):=fun j hj=>by
  rcases Nat.lt_or_ge j k with l | l
  · exact h j l
  · rw [show j = k by omega];exact hk
theorem NoneB.zero (g : Nat → Bool) : NoneB g 0:=fun _ h=>absurd h (Nat.not_lt_zero _)
end Go.Proofs.YtpapbbolefnkmaaDoor
/-
  The functions of symmetries, and those of their specification, with one answer each.
-/
namespace Go.Proofs.YtpapbbolefnkmaaDoor
open Go.RowKit
set_option linter.unusedVariables false
def isS (s : Int) : Bool:=decide (0 ≤ s ∧ s < 48)
theorem isS_nat {s : Int} (h : isS s = true) : s.toNat < 48 ∧ ((s.toNat : Nat) : Int) = s:=by
  have:=of_decide_eq_true h
  exact ⟨by omega,Int.toNat_of_nonneg this.1⟩
def tnB : Bool → Int → Nat → Nat → Int → Int → Int → Int
  | true,less,n,i,x,y,z=>Pt.tc less n i x y z
  | false,_,_,i,x,y,z=>Pt.pick i x y z
def tbB : Bool → Bool → Int → Int → Int
  | false,_,a,_=>a
  | true,true,_,_=>0
  | true,false,_,m=>m
theorem turncell_s (s x1 x2 x3 : Int) (w : World) (hT : Tab w) (b : (-2097152 ≤ x1 ∧ x1 ≤ 2097152) ∧ (-2097152 ≤ x2 ∧ x2 ≤ 2097152) ∧ (-2097152 ≤ x3 ∧ x3 ≤ 2097152)) :
    Calls Tryd.prog 67 #[.int .i64 s, .agg #[.int .i64 x1, .int .i64 x2, .int .i64 x3]] w fun e w'=>e = .returned (.agg #[.int .i64 (tnB (isS s) 1 s.toNat 0 x1 x2 x3), .int .i64 (tnB (isS s) 1 s.toNat 1 x1 x2 x3), .int .i64 (tnB (isS s) 1 s.toNat 2 x1 x2 x3)]) ∧ Below w.heap.size w w':=by
  cases h : isS s with
  | true =>
    obtain ⟨h1,h2⟩:=isS_nat h
    have c:=turncell_any s.toNat x1 x2 x3 w hT h1 b
    rw [h2] at c
    exact c
  | false=>exact turncell_out s x1 x2 x3 w h
theorem turnbox_s (s a1 a2 a3 a4 a5 a6 : Int) (w : World) (hT : Tab w) (b : (-1048575 ≤ a1 ∧ a1 ≤ 1048575) ∧ (-1048575 ≤ a2 ∧ a2 ≤ 1048575) ∧ (-1048575 ≤ a3 ∧ a3 ≤ 1048575) ∧ (-1048575 ≤ a4 ∧ a4 ≤ 1048575) ∧ (-1048575 ≤ a5 ∧ a5 ≤ 1048575) ∧ (-1048575 ≤ a6 ∧ a6 ≤ 1048575)) :
    Calls Tryd.prog 64 #[.int .i64 s, .agg #[.int .i64 a1, .int .i64 a2, .int .i64 a3, .int .i64 a4, .int .i64 a5, .int .i64 a6]] w fun e w'=>e = .returned (.agg #[.int .i64 (tbB (isS s) (Pt.emp a1 a2 a3 a4 a5 a6) a1 (min (Pt.tc 0 s.toNat 0 a1 a2 a3) (Pt.tc 0 s.toNat 0 a4 a5 a6))), .int .i64 (tbB (isS s) (Pt.emp a1 a2 a3 a4 a5 a6) a2 (min (Pt.tc 0 s.toNat 1 a1 a2 a3) (Pt.tc 0 s.toNat 1 a4 a5 a6))), .int .i64 (tbB (isS s) (Pt.emp a1 a2 a3 a4 a5 a6) a3 (min (Pt.tc 0 s.toNat 2 a1 a2 a3) (Pt.tc 0 s.toNat 2 a4 a5 a6))), .int .i64 (tbB (isS s) (Pt.emp a1 a2 a3 a4 a5 a6) a4 (max (Pt.tc 0 s.toNat 0 a1 a2 a3) (Pt.tc 0 s.toNat 0 a4 a5 a6))), .int .i64 (tbB (isS s) (Pt.emp a1 a2 a3 a4 a5 a6) a5 (max (Pt.tc 0 s.toNat 1 a1 a2 a3) (Pt.tc 0 s.toNat 1 a4 a5 a6))), .int .i64 (tbB (isS s) (Pt.emp a1 a2 a3 a4 a5 a6) a6 (max (Pt.tc 0 s.toNat 2 a1 a2 a3) (Pt.tc 0 s.toNat 2 a4 a5 a6)))]) ∧ Below w.heap.size w w':=by
  cases h : isS s with
  | true =>
    obtain ⟨h1,h2⟩:=isS_nat h
    cases k : Pt.emp a1 a2 a3 a4 a5 a6 with
    | true =>
      have c:=turnbox_t s.toNat a1 a2 a3 a4 a5 a6 w h1 k
      rw [h2] at c
      exact c
    | false =>
      have c:=turnbox_f s.toNat a1 a2 a3 a4 a5 a6 w hT h1 (by omega) k
      rw [h2] at c
      exact c
  | false=>exact turnbox_out s a1 a2 a3 a4 a5 a6 w h
end Go.Proofs.YtpapbbolefnkmaaDoor
/-
  Contracts of the laws' helpers: points in range.
-/
namespace Go.Proofs.YtpapbbolefnkmaaDoor
open Go.RowKit
set_option linter.unusedVariables false

def In64 (p : Int × Int × Int) : Prop:=(-9223372036854775808 ≤ p.1 ∧ p.1 ≤ 9223372036854775807) ∧ (-9223372036854775808 ≤ p.2.1 ∧ p.2.1 ≤ 9223372036854775807) ∧ (-9223372036854775808 ≤ p.2.2 ∧ p.2.2 ≤ 9223372036854775807)
def inR (p : Int × Int × Int) : Bool:=decide ((-1048575 ≤ p.1 ∧ p.1 ≤ 1048575) ∧ (-1048575 ≤ p.2.1 ∧ p.2.1 ≤ 1048575) ∧ (-1048575 ≤ p.2.2 ∧ p.2.2 ≤ 1048575))
def AllTo (l : List (Int × Int × Int)) (k : Nat) : Prop:=(l.take k).all inR = true
theorem AllTo.succ {l : List (Int × Int × Int)} {k : Nat} {p : Int × Int × Int} (h : AllTo l k) (hk : l[k]? = some p) (hp : inR p = true) : AllTo l (k + 1):=by
  unfold AllTo at *
  rw [List.take_add_one,hk]
  simp [List.all_append,hp,h]
end Go.Proofs.YtpapbbolefnkmaaDoor
