/-
  One cell of a block written.
-/
import Derived.Test.YtjdeaopdbenamaaDoorZD03
import Derived.Test.YtjdeaopdbenamaaDoorZD08
import Derived.Test.YtjdeaopdbenamaaDoorZD09
import Derived.Test.YtjdeaopdbenamaaDoorRows
import Derived.Test.YtjdeaopdbenamaaDoorZD01
import Derived.KernelRfl
import Derived.Handy
import Derived.Laws.StructEq
import Derived.ProofKit
import Derived.OpenShut
import Derived.ShutString
import Derived.ChangeOld
import Derived.SizedLaws
import Derived.LaidMore
import Derived.Stop.Joined
import Derived.Lib.LaidTab
import Derived.Stop.LaidErr
namespace Go.Proofs.YtjdeaopdbenamaaDoor
open Go.RowKit

/-- a cell of a block of the call's own, written -/
theorem Gr.put1 {w u W C : World} {q k : Nat} {v : Value} (h : Below w.heap.size w u) (g1 : Gr u W) (hq : w.heap.size ≤ q) (g2 : Gr (W.setCell ⟨q,k,none⟩ v) C) : Below w.heap.size w C:=by
  have h1 : Below w.heap.size w (W.setCell ⟨q,k,none⟩ v):=below_setCells hq [v] k w W (Gr.to h g1)
  exact Below.trans h1 (Below.mono g2 h1.size)
end Go.Proofs.YtjdeaopdbenamaaDoor
/-
  A part of a block, read; ends of functions.
-/
namespace Go.Proofs.YtjdeaopdbenamaaDoor
open Go.RowKit

theorem Row.part {g : Nat} {cs ds : List Value} {w : World} (h : Row g cs w) (o n : Nat) (e : (cs.drop o).take n = ds) : w.rangeAt g o ds:=fun j v hj => by
  refine (h (o + j) v ?_).1
  rw [← e,List.getElem?_take] at hj
  split at hj
  · rwa [List.getElem?_drop] at hj
  · cases hj
theorem Row.at_ {g : Nat} {cs : List Value} {w : World} (h : Row g cs w) (j : Nat) (v : Value) (e : cs[j]? = some v) : w.cell? ⟨g,j,none⟩ = some v:=(h j v e).1
end Go.Proofs.YtjdeaopdbenamaaDoor
/-
  Contracts of the specification of package point: those without calls.
-/
namespace Go.Proofs.YtjdeaopdbenamaaDoor
open Go.RowKit
set_option linter.unusedVariables false
set_option maxRecDepth 1000000 in
theorem rsub_any (x1 x2 x3 y1 y2 y3 : Int) (w : World) (h : (-2097152 ≤ x1 ∧ x1 ≤ 2097152) ∧ (-2097152 ≤ x2 ∧ x2 ≤ 2097152) ∧ (-2097152 ≤ x3 ∧ x3 ≤ 2097152) ∧ (-2097152 ≤ y1 ∧ y1 ≤ 2097152) ∧ (-2097152 ≤ y2 ∧ y2 ≤ 2097152) ∧ (-2097152 ≤ y3 ∧ y3 ≤ 2097152)) :
    Calls Tryd.prog 75 #[.agg #[.int .i64 x1, .int .i64 x2, .int .i64 x3], .agg #[.int .i64 y1, .int .i64 y2, .int .i64 y3]] w fun e w' => e = .returned (.agg #[.int .i64 (x1 - y1), .int .i64 (x2 - y2), .int .i64 (x3 - y3)]) ∧ Below w.heap.size w w':=by
  go_enter Tryd.func75,Tryd.ntmps75
  go_wp2_with fail
  go_returns
  exact ⟨rfl,by go_grown⟩
set_option maxRecDepth 1000000 in
theorem rcube_any (n : Int) (w : World) :
    Calls Tryd.prog 43 #[.int .i64 n] w fun e w' => e = .returned (.agg #[.int .i64 0, .int .i64 0, .int .i64 0, .int .i64 n, .int .i64 n, .int .i64 n]) ∧ Below w.heap.size w w':=by
  go_enter Tryd.func43,Tryd.ntmps43
  go_wp2_with fail
  go_returns
  exact ⟨rfl,by go_grown⟩
set_option maxRecDepth 1000000 in
theorem rempty_any (a1 a2 a3 a4 a5 a6 : Int) (r : Bool) (w : World) (h : Pt.emp a1 a2 a3 a4 a5 a6 = r) :
    Calls Tryd.prog 76 #[.agg #[.int .i64 a1, .int .i64 a2, .int .i64 a3, .int .i64 a4, .int .i64 a5, .int .i64 a6]] w fun e w' => e = .returned (.bool r) ∧ Below w.heap.size w w':=by
  have H:=Lib.hid h
  clear h
  go_enter Tryd.func76,Tryd.ntmps76
  go_wp2_with fail
  all_goals (go_ret;exact ⟨ret_bool (by rw [← H.out];unfold Pt.emp;first | (symm;apply decide_eq_true;omega) | (symm;apply decide_eq_false;omega) | (apply decide_eq_decide.2;omega) | (simp;omega) | (rw [Bool.eq_iff_iff];simp;omega)),by go_grown⟩)
set_option maxRecDepth 1000000 in
theorem rin_any (x1 x2 x3 a1 a2 a3 a4 a5 a6 : Int) (r : Bool) (w : World) (h : Pt.inB x1 x2 x3 a1 a2 a3 a4 a5 a6 = r) :
    Calls Tryd.prog 23 #[.agg #[.int .i64 x1, .int .i64 x2, .int .i64 x3], .agg #[.int .i64 a1, .int .i64 a2, .int .i64 a3, .int .i64 a4, .int .i64 a5, .int .i64 a6]] w fun e w' => e = .returned (.bool r) ∧ Below w.heap.size w w':=by
  have H:=Lib.hid h
  clear h
  go_enter Tryd.func23,Tryd.ntmps23
  go_wp2_with fail
  all_goals (go_ret;exact ⟨ret_bool (by rw [← H.out];unfold Pt.inB;first | (symm;apply decide_eq_true;omega) | (symm;apply decide_eq_false;omega) | (apply decide_eq_decide.2;omega) | (simp;omega) | (rw [Bool.eq_iff_iff];simp;omega)),by go_grown⟩)

end Go.Proofs.YtjdeaopdbenamaaDoor
/-
  The state of the specification's loop that turns a point.
-/
namespace Go.Proofs.YtjdeaopdbenamaaDoor
open Go.RowKit
set_option linter.unusedVariables false

/-- p: the coordinates; q: the axes; t: what is written; r: the result -/
structure RR (p q t r : Nat) (X A Z : List Value) (w wr : World) : Prop where
  rp : Row p X wr
  rq : Row q A wr
  rt : Row t Z wr
  rr : Row r [.int .i64 0, .int .i64 0, .int .i64 0] wr
  bel : Below w.heap.size w wr
  pt : p < t
  qt : q < t
  rt' : r < t
  wt : w.heap.size ≤ t
theorem RR.set {p q t r : Nat} {X A Z : List Value} {w wr : World} (h : RR p q t r X A Z w wr) (k : Nat) (v : Value) (hk : k < Z.length) : RR p q t r X A (Z.set k v) w (wr.setCell ⟨t,k,none⟩ v):=by
  have h1:=h.pt
  have h2:=h.qt
  have h3:=h.rt'
  have fp : Row p X (wr.setCell ⟨t,k,none⟩ v):=h.rp.far (b:=t) (by omega) k [v]
  have fq : Row q A (wr.setCell ⟨t,k,none⟩ v):=h.rq.far (b:=t) (by omega) k [v]
  have fr : Row r _ (wr.setCell ⟨t,k,none⟩ v):=h.rr.far (b:=t) (by omega) k [v]
  have fb : Below w.heap.size w (wr.setCell ⟨t,k,none⟩ v):=below_setCells h.wt [v] k w wr h.bel
  exact ⟨fp,fq,h.rt.set k v hk,fr,fb,h1,h2,h3,h.wt⟩
theorem RR.begin {p q r : Nat} {X A Z : List Value} {w V : World} (ty : TypeId) (hp : Row p X V) (hq : Row q A V) (hr : Row r [.int .i64 0, .int .i64 0, .int .i64 0] V) (hpl : p < V.heap.size) (hql : q < V.heap.size) (hrl : r < V.heap.size) (hb : Below w.heap.size w V) :
    RR p q V.heap.size r X A Z w (V.alloc (.cells Z.toArray ty)) :=
  ⟨hp.alloc _,hq.alloc _,Row.newl V Z ty,hr.alloc _,Gr.to hb (Gr.al V _),hpl,hql,hrl,hb.size⟩
theorem RR.below {p q t r : Nat} {X A Z : List Value} {w wr w2 : World} (h : RR p q t r X A Z w wr) (g : Gr wr w2) : RR p q t r X A Z w w2 :=
  ⟨h.rp.below g,h.rq.below g,h.rt.below g,h.rr.below g,Gr.to h.bel g,h.pt,h.qt,h.rt',h.wt⟩
end Go.Proofs.YtjdeaopdbenamaaDoor
/-
  Contracts of the laws' helpers: points in range.
-/
namespace Go.Proofs.YtjdeaopdbenamaaDoor
open Go.RowKit
set_option linter.unusedVariables false

def In64 (p : Int × Int × Int) : Prop:=(-9223372036854775808 ≤ p.1 ∧ p.1 ≤ 9223372036854775807) ∧ (-9223372036854775808 ≤ p.2.1 ∧ p.2.1 ≤ 9223372036854775807) ∧ (-9223372036854775808 ≤ p.2.2 ∧ p.2.2 ≤ 9223372036854775807)
def inR (p : Int × Int × Int) : Bool:=decide ((-1048575 ≤ p.1 ∧ p.1 ≤ 1048575) ∧ (-1048575 ≤ p.2.1 ∧ p.2.1 ≤ 1048575) ∧ (-1048575 ≤ p.2.2 ∧ p.2.2 ≤ 1048575))
def AllTo (l : List (Int × Int × Int)) (k : Nat) : Prop:=(l.take k).all inR = true
theorem AllTo.succ {l : List (Int × Int × Int)} {k : Nat} {p : Int × Int × Int} (h : AllTo l k) (hk : l[k]? = some p) (hp : inR p = true) : AllTo l (k + 1):=by
  unfold AllTo at *
  rw [List.take_add_one,hk]
  simp [List.all_append,hp,h]
end Go.Proofs.YtjdeaopdbenamaaDoor
/-
  From the row's condition to the table of orders; points and boxes that come in, opened.
-/
namespace Go.Proofs.YtjdeaopdbenamaaDoor
open Go.ChangeShapes Go.WideShapes Go.ChangeAt Go.RowKit
set_option linter.unusedVariables false

section
variable {H : Type} {enc : TypeId × Value → H} {W : World} {base : Nat} {sp : Nat → Bool} {held : Bool} {fuel : Nat} {cs : List Value} {x : DataW H × List MemPlace} {v : Value} {d : DataW H} {ps : List MemPlace}

theorem list3 {cs : List Value} (h : cs.length = 3) : ∃ a b c,cs = [a,b,c]:=by
  match cs,h with
  | [a,b,c],_ => exact ⟨a,b,c,rfl⟩
theorem list6 {cs : List Value} (h : cs.length = 6) : ∃ a b c d e f,cs = [a,b,c,d,e,f]:=by
  match cs,h with
  | [a,b,c,d,e,f],_ => exact ⟨a,b,c,d,e,f,rfl⟩
theorem pt_cells (h : DataW.trod enc Tryd.prog W base sp held fuel 23 cs = some x) : ∃ a b c : Int,cs = [.int .i64 a, .int .i64 b, .int .i64 c] ∧ In64 (a,b,c):=by
  obtain ⟨xs,m,_,_,hl,hxl,hall⟩:=DataW.trod_struct Tryd.underlying23 h
  rw [show Tryd.prog.cellsOf 23 = 3 by kernel_rfl] at hl
  obtain ⟨c0,c1,c2,rfl⟩:=list3 hl
  have h0 : DataW.trod enc Tryd.prog W base sp held m 3 (List.take (Tryd.prog.cellsOf 3) (List.drop 0 [c0,c1,c2])) = xs[0]?:=hall 0 _ rfl
  have h1 : DataW.trod enc Tryd.prog W base sp held m 3 (List.take (Tryd.prog.cellsOf 3) (List.drop 1 [c0,c1,c2])) = xs[1]?:=hall 1 _ rfl
  have h2 : DataW.trod enc Tryd.prog W base sp held m 3 (List.take (Tryd.prog.cellsOf 3) (List.drop 2 [c0,c1,c2])) = xs[2]?:=hall 2 _ rfl
  rw [show Tryd.prog.cellsOf 3 = 1 by kernel_rfl] at h0 h1 h2
  have hx : xs.length = 3:=hxl
  rw [List.getElem?_eq_getElem (by omega)] at h0 h1 h2
  obtain ⟨a,ha,_,wa⟩:=DataW.trod_int Tryd.underlying3 h0
  obtain ⟨b,hb,_,wb⟩:=DataW.trod_int Tryd.underlying3 h1
  obtain ⟨c,hc,_,wc⟩:=DataW.trod_int Tryd.underlying3 h2
  simp at ha hb hc
  exact ⟨a,b,c,by rw [ha,hb,hc],i64_wf wa,i64_wf wb,i64_wf wc⟩
theorem box_cells (h : DataW.trod enc Tryd.prog W base sp held fuel 25 cs = some x) : ∃ a b c d e f : Int,cs = [.int .i64 a, .int .i64 b, .int .i64 c, .int .i64 d, .int .i64 e, .int .i64 f] ∧ In64 (a,b,c) ∧ In64 (d,e,f):=by
  obtain ⟨xs,m,_,_,hl,hxl,hall⟩:=DataW.trod_struct Tryd.underlying25 h
  rw [show Tryd.prog.cellsOf 25 = 6 by kernel_rfl] at hl
  obtain ⟨c0,c1,c2,c3,c4,c5,rfl⟩:=list6 hl
  have h0 : DataW.trod enc Tryd.prog W base sp held m 23 (List.take (Tryd.prog.cellsOf 23) (List.drop 0 [c0,c1,c2,c3,c4,c5])) = xs[0]?:=hall 0 _ rfl
  have h1 : DataW.trod enc Tryd.prog W base sp held m 23 (List.take (Tryd.prog.cellsOf 23) (List.drop 3 [c0,c1,c2,c3,c4,c5])) = xs[1]?:=hall 1 _ rfl
  rw [show Tryd.prog.cellsOf 23 = 3 by kernel_rfl] at h0 h1
  have hx : xs.length = 2:=hxl
  rw [List.getElem?_eq_getElem (by omega)] at h0 h1
  obtain ⟨a,b,c,h1c,i1⟩:=pt_cells h0
  obtain ⟨d,e,f,h2c,i2⟩:=pt_cells h1
  simp at h1c h2c
  exact ⟨a,b,c,d,e,f,by rw [h1c.1,h1c.2.1,h1c.2.2,h2c.1,h2c.2.1,h2c.2.2],i1,i2⟩
theorem agg_of_cells {v : Value} {l : List Value} (h : v.cells.toList = l) (hl : 2 ≤ l.length) : v = .agg l.toArray:=by
  cases v with
  | agg cs =>
    have h2 : cs.toList = l:=h
    congr 1
    exact Array.ext' (by simpa using h2)
  | _ => rw [← h] at hl;simp [Value.cells] at hl
theorem open_pt (hd : DataW.Trod enc Tryd.prog W 0 (fun _ => true) true 23 v d ps) : ∃ a b c : Int,v = .agg #[.int .i64 a, .int .i64 b, .int .i64 c] ∧ In64 (a,b,c):=by
  obtain ⟨fuel,hf⟩:=hd
  obtain ⟨a,b,c,hcs,hi⟩:=pt_cells hf
  exact ⟨a,b,c,agg_of_cells hcs (by simp),hi⟩
/-- an array of strings, read -/
def strData {H : Type} (l : List (List UInt8)) : DataW H:=.agg (l.map fun z => .lit (.string z))
set_option maxRecDepth 100000 in
theorem str_cells {t e : TypeId} {n : Nat} {l : List (List UInt8)} {p : List MemPlace} (ht : Tryd.prog.underlying t = some (.array n e)) (he : Tryd.prog.underlying e = some .string) (hce : Tryd.prog.cellsOf e = 1) (hct : Tryd.prog.cellsOf t = n)
    (h : DataW.trod enc Tryd.prog W base sp held fuel t cs = some (strData l,p)) : cs = l.map fun z => Value.string (bstr z):=by
  obtain ⟨xs,m,_,hx,hl,hxl,hall⟩:=DataW.trod_array ht h
  rw [hct] at hl
  have hxs : xs.map (·.1) = l.map fun z => (DataW.lit (.string z) : DataW H):=by
    have:=congrArg Prod.fst hx
    simpa [strData] using this.symm
  have hll : l.length = n:=by
    have:=congrArg List.length hxs
    simp at this
    omega
  apply List.ext_getElem?
  intro i
  by_cases hi : i < n
  · have h0:=hall i hi
    rw [hce,Nat.mul_one] at h0
    obtain ⟨y,hy⟩ : ∃ y,xs[i]? = some y:=⟨xs[i],List.getElem?_eq_getElem (by omega)⟩
    rw [hy] at h0
    obtain ⟨s,hs,hys,_⟩:=DataW.trod_string he h0
    have h2 : ((cs.drop i).take 1)[0]? = some (.string s):=by rw [hs];rfl
    rw [List.getElem?_take_of_lt (by omega),List.getElem?_drop,Nat.add_zero] at h2
    have h3 : (xs.map (·.1))[i]? = some y.1:=by rw [List.getElem?_map,hy];rfl
    rw [hxs,List.getElem?_map] at h3
    cases hz : l[i]? with
    | none => rw [hz] at h3;cases h3
    | some z =>
      rw [hz] at h3
      simp only [Option.map_some,Option.some.injEq] at h3
      rw [h2,List.getElem?_map,hz]
      simp only [Option.map_some,Option.some.injEq]
      have h4 : (DataW.lit (.string z) : DataW H) = .lit (.string s.data.toList):=by rw [h3,hys]
      injection h4 with h5
      injection h5 with h6
      rw [h6]
      rfl
  · rw [List.getElem?_eq_none (by omega),List.getElem?_eq_none (by rw [List.length_map];omega)]
end

def ordZ : List (List UInt8):=[[120,121,122],[120,122,121],[121,120,122],[121,122,120],[122,120,121],[122,121,120]]
theorem ord_data : Rows.laid_voxel_point_orders (H:=Unit) = strData ordZ:=by kernel_rfl
theorem gO : Tryd.prog.globalNamed "voxel/point.orders" = some 0 := by kernel_rfl
theorem tab_of_laid {W : World} (h : laidMetH Tryd.prog [("voxel/point.orders", Rows.laid_voxel_point_orders)] W) : Tab W := by
  rw [MakeChecks.laidMetH_plain _ _ _ (by kernel_rfl)] at h
  rw [ord_data] at h
  obtain ⟨ps,⟨g',t',cs,fuel,p,q,hg',ht',hvar,hd,_,_⟩,_⟩:=h
  obtain rfl:=Option.some.inj (gO.symm.trans hg')
  obtain rfl:=Option.some.inj ((show (Tryd.prog.globals[0]?).map (·.type) = some 118 by kernel_rfl).symm.trans ht')
  have hc:=str_cells Tryd.underlying118 Tryd.underlying9 (by kernel_rfl) (by kernel_rfl) hd
  intro j v hj
  rw [Nat.zero_add]
  have h1:=World.var?_cell gO hvar j
  rw [h1,← Array.getElem?_toList,hc]
  exact hj
end Go.Proofs.YtjdeaopdbenamaaDoor
