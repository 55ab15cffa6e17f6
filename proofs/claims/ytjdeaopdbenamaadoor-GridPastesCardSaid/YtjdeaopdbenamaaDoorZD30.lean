/-
  Turned points and boxes: distances, cells, volumes.
-/
import Derived.Test.YtjdeaopdbenamaaDoorZD01
import Derived.Test.YtjdeaopdbenamaaDoorZD09
import Derived.Test.YtjdeaopdbenamaaDoorZD26
import Derived.Test.YtjdeaopdbenamaaDoorZD29
import Derived.Test.YtjdeaopdbenamaaDoorZD10
import Derived.Test.YtjdeaopdbenamaaDoorZD08
import Derived.Test.YtjdeaopdbenamaaDoorZD03
import Derived.Handy
import Derived.Laws.StructEq
namespace Go.Proofs.YtjdeaopdbenamaaDoor.Pt

theorem six {s : Nat} (h : s < 48) : s / 8 = 0 ∨ s / 8 = 1 ∨ s / 8 = 2 ∨ s / 8 = 3 ∨ s / 8 = 4 ∨ s / 8 = 5:=by omega
/-- the corners of a turned box -/
def lo (s i : Nat) (a b c d e f : Int) : Int:=min (tc 0 s i a b c) (tc 0 s i d e f)
def hi (s i : Nat) (a b c d e f : Int) : Int:=max (tc 0 s i a b c) (tc 0 s i d e f)
theorem tc_in {s i : Nat} {x1 x2 x3 a b c d e f : Int} (h : pick (axis (s / 8) i) a b c < pick (axis (s / 8) i) d e f) :
    (min (tc 0 s i a b c) (tc 0 s i d e f) ≤ tc 1 s i x1 x2 x3 ∧ tc 1 s i x1 x2 x3 < max (tc 0 s i a b c) (tc 0 s i d e f)) ↔ (pick (axis (s / 8) i) a b c ≤ pick (axis (s / 8) i) x1 x2 x3 ∧ pick (axis (s / 8) i) x1 x2 x3 < pick (axis (s / 8) i) d e f):=by
  unfold tc
  cases bit s i
  · simp only [cond_false];omega
  · simp only [cond_true];omega
theorem tc_len {s i : Nat} {a b c d e f : Int} (h : pick (axis (s / 8) i) a b c < pick (axis (s / 8) i) d e f) :
    max (tc 0 s i a b c) (tc 0 s i d e f) - min (tc 0 s i a b c) (tc 0 s i d e f) = pick (axis (s / 8) i) d e f - pick (axis (s / 8) i) a b c:=by
  unfold tc
  cases bit s i
  · simp only [cond_false];omega
  · simp only [cond_true];omega
theorem pick_lt (k i : Nat) {a b c d e f : Int} (h : a < d ∧ b < e ∧ c < f) : pick (axis k i) a b c < pick (axis k i) d e f:=by
  unfold pick;split <;> omega
theorem in_turn (s : Nat) (hs : s < 48) (x1 x2 x3 a b c d e f : Int) (h : emp a b c d e f = false) :
    inB (tc 1 s 0 x1 x2 x3) (tc 1 s 1 x1 x2 x3) (tc 1 s 2 x1 x2 x3) (min (tc 0 s 0 a b c) (tc 0 s 0 d e f)) (min (tc 0 s 1 a b c) (tc 0 s 1 d e f)) (min (tc 0 s 2 a b c) (tc 0 s 2 d e f)) (max (tc 0 s 0 a b c) (tc 0 s 0 d e f)) (max (tc 0 s 1 a b c) (tc 0 s 1 d e f)) (max (tc 0 s 2 a b c) (tc 0 s 2 d e f)) = inB x1 x2 x3 a b c d e f:=by
  have hz:=emp_false.1 h
  unfold inB
  apply decide_eq_decide.2
  rw [tc_in (pick_lt _ _ hz),tc_in (pick_lt _ _ hz),tc_in (pick_lt _ _ hz)]
  rcases six hs with h | h | h | h | h | h <;> rw [h] <;> simp only [axis,pick] <;> omega
theorem vol_turn (s : Nat) (hs : s < 48) (a b c d e f : Int) (h : emp a b c d e f = false) :
    vol (min (tc 0 s 0 a b c) (tc 0 s 0 d e f)) (min (tc 0 s 1 a b c) (tc 0 s 1 d e f)) (min (tc 0 s 2 a b c) (tc 0 s 2 d e f)) (max (tc 0 s 0 a b c) (tc 0 s 0 d e f)) (max (tc 0 s 1 a b c) (tc 0 s 1 d e f)) (max (tc 0 s 2 a b c) (tc 0 s 2 d e f)) = vol a b c d e f:=by
  have hz:=emp_false.1 h
  have l0:=tc_len (s:=s) (i:=0) (pick_lt (s / 8) 0 hz)
  have l1:=tc_len (s:=s) (i:=1) (pick_lt (s / 8) 1 hz)
  have l2:=tc_len (s:=s) (i:=2) (pick_lt (s / 8) 2 hz)
  have p0:=pick_lt (s / 8) 0 hz
  have p1:=pick_lt (s / 8) 1 hz
  have p2:=pick_lt (s / 8) 2 hz
  rw [vol_full h,vol_full (emp_false.2 (by omega)),l0,l1,l2]
  clear l0 l1 l2 p0 p1 p2
  generalize hp : d - a = p
  generalize hq : e - b = q
  generalize hr : f - c = r
  rcases six hs with h | h | h | h | h | h <;> rw [h] <;> simp only [axis,pick,hp,hq,hr]
  · rw [Int.mul_assoc,Int.mul_comm r q,← Int.mul_assoc]
  · rw [Int.mul_comm q p]
  · rw [Int.mul_comm (q * r) p,Int.mul_assoc]
  · rw [Int.mul_comm r p,Int.mul_assoc,Int.mul_comm r q,← Int.mul_assoc]
  · rw [Int.mul_comm r q,Int.mul_comm (q * r) p,Int.mul_assoc]
end Go.Proofs.YtjdeaopdbenamaaDoor.Pt
/-
  Contracts of package point: compositions and inverses of symmetries.
-/
namespace Go.Proofs.YtjdeaopdbenamaaDoor
open Go.RowKit
set_option linter.unusedVariables false
/-- the first symmetry that fits, or -1 -/
def fst (g : Nat → Bool) : Int:=match (List.range 48).find? g with
  | some s => (s : Int)
  | none => -1
def NoneB (g : Nat → Bool) (k : Nat) : Prop:=∀ j,j < k → g j = false
theorem NoneB.succ {g : Nat → Bool} {k : Nat} (h : NoneB g k) (hk : g k = false) : NoneB g (k + 1):=fun j hj => by
  rcases Nat.lt_or_ge j k with l | l
  · exact h j l
  · rw [show j = k by omega];exact hk
theorem NoneB.zero (g : Nat → Bool) : NoneB g 0:=fun _ h => absurd h (Nat.not_lt_zero _)
end Go.Proofs.YtjdeaopdbenamaaDoor
/-
  The functions of symmetries, and those of their specification, with one answer each.
-/
namespace Go.Proofs.YtjdeaopdbenamaaDoor
open Go.RowKit
set_option linter.unusedVariables false
def isS (s : Int) : Bool:=decide (0 ≤ s ∧ s < 48)
theorem isS_nat {s : Int} (h : isS s = true) : s.toNat < 48 ∧ ((s.toNat : Nat) : Int) = s:=by
  have:=of_decide_eq_true h
  exact ⟨by omega,Int.toNat_of_nonneg this.1⟩
def tnB : Bool → Int → Nat → Nat → Int → Int → Int → Int
  | true,less,n,i,x,y,z => Pt.tc less n i x y z
  | false,_,_,i,x,y,z => Pt.pick i x y z
def tbB : Bool → Bool → Int → Int → Int
  | false,_,a,_ => a
  | true,true,_,_ => 0
  | true,false,_,m => m
theorem turncell_s (s x1 x2 x3 : Int) (w : World) (hT : Tab w) (b : (-2097152 ≤ x1 ∧ x1 ≤ 2097152) ∧ (-2097152 ≤ x2 ∧ x2 ≤ 2097152) ∧ (-2097152 ≤ x3 ∧ x3 ≤ 2097152)) :
    Calls Tryd.prog 67 #[.int .i64 s, .agg #[.int .i64 x1, .int .i64 x2, .int .i64 x3]] w fun e w' => e = .returned (.agg #[.int .i64 (tnB (isS s) 1 s.toNat 0 x1 x2 x3), .int .i64 (tnB (isS s) 1 s.toNat 1 x1 x2 x3), .int .i64 (tnB (isS s) 1 s.toNat 2 x1 x2 x3)]) ∧ Below w.heap.size w w':=by
  cases h : isS s with
  | true =>
    obtain ⟨h1,h2⟩:=isS_nat h
    have c:=turncell_any s.toNat x1 x2 x3 w hT h1 b
    rw [h2] at c
    exact c
  | false => exact turncell_out s x1 x2 x3 w h
theorem turnbox_s (s a1 a2 a3 a4 a5 a6 : Int) (w : World) (hT : Tab w) (b : (-1048575 ≤ a1 ∧ a1 ≤ 1048575) ∧ (-1048575 ≤ a2 ∧ a2 ≤ 1048575) ∧ (-1048575 ≤ a3 ∧ a3 ≤ 1048575) ∧ (-1048575 ≤ a4 ∧ a4 ≤ 1048575) ∧ (-1048575 ≤ a5 ∧ a5 ≤ 1048575) ∧ (-1048575 ≤ a6 ∧ a6 ≤ 1048575)) :
    Calls Tryd.prog 64 #[.int .i64 s, .agg #[.int .i64 a1, .int .i64 a2, .int .i64 a3, .int .i64 a4, .int .i64 a5, .int .i64 a6]] w fun e w' => e = .returned (.agg #[.int .i64 (tbB (isS s) (Pt.emp a1 a2 a3 a4 a5 a6) a1 (min (Pt.tc 0 s.toNat 0 a1 a2 a3) (Pt.tc 0 s.toNat 0 a4 a5 a6))), .int .i64 (tbB (isS s) (Pt.emp a1 a2 a3 a4 a5 a6) a2 (min (Pt.tc 0 s.toNat 1 a1 a2 a3) (Pt.tc 0 s.toNat 1 a4 a5 a6))), .int .i64 (tbB (isS s) (Pt.emp a1 a2 a3 a4 a5 a6) a3 (min (Pt.tc 0 s.toNat 2 a1 a2 a3) (Pt.tc 0 s.toNat 2 a4 a5 a6))), .int .i64 (tbB (isS s) (Pt.emp a1 a2 a3 a4 a5 a6) a4 (max (Pt.tc 0 s.toNat 0 a1 a2 a3) (Pt.tc 0 s.toNat 0 a4 a5 a6))), .int .i64 (tbB (isS s) (Pt.emp a1 a2 a3 a4 a5 a6) a5 (max (Pt.tc 0 s.toNat 1 a1 a2 a3) (Pt.tc 0 s.toNat 1 a4 a5 a6))), .int .i64 (tbB (isS s) (Pt.emp a1 a2 a3 a4 a5 a6) a6 (max (Pt.tc 0 s.toNat 2 a1 a2 a3) (Pt.tc 0 s.toNat 2 a4 a5 a6)))]) ∧ Below w.heap.size w w':=by
  cases h : isS s with
  | true =>
    obtain ⟨h1,h2⟩:=isS_nat h
    cases k : Pt.emp a1 a2 a3 a4 a5 a6 with
    | true =>
      have c:=turnbox_t s.toNat a1 a2 a3 a4 a5 a6 w h1 k
      rw [h2] at c
      exact c
    | false =>
      have c:=turnbox_f s.toNat a1 a2 a3 a4 a5 a6 w hT h1 (by omega) k
      rw [h2] at c
      exact c
  | false => exact turnbox_out s a1 a2 a3 a4 a5 a6 w h
end Go.Proofs.YtjdeaopdbenamaaDoor
