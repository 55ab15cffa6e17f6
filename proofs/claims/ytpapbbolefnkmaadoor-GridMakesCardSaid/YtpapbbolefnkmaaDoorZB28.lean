/-
  Changes in memory; grids written, filled, pasted, step by step.
-/
import Derived.Test.YtpapbbolefnkmaaDoorZB27
import Derived.Test.YtpapbbolefnkmaaDoorRows
import Derived.Test.YtpapbbolefnkmaaDoorZB02
import Derived.Test.YtpapbbolefnkmaaDoorZB17
import Derived.Test.YtpapbbolefnkmaaDoorZB08
import Derived.ProofKit
import Derived.OpenShut
import Derived.ShutString
import Derived.ChangeOld
import Derived.SizedLaws
import Derived.LaidMore
import Derived.Stop.Joined
import Derived.Lib.LaidTab
import Derived.Stop.LaidErr
namespace Go.Proofs.YtpapbbolefnkmaaDoor
open Go Go.RowKit
set_option linter.unusedVariables false
open Gm (Bx Ch)
def cc (c : Ch) : List Value:=[.int .i64 c.x, .int .i64 c.y, .int .i64 c.z, .int .i64 c.o, .int .i64 c.n]
def ccs (l : List Ch) : List Value:=l.flatMap cc
def Gm.c0 : Ch:=⟨0,0,0,0,0⟩
def Gm.cat (l : List Ch) (k : Nat) : Ch:=l.getD k Gm.c0
theorem ccs_len (l : List Ch) : (ccs l).length = l.length * 5:=by
  induction l with
  | nil=>rfl
  | cons c r ih=>simp only [ccs,List.flatMap_cons,List.length_append] at ih ⊢;rw [ih];simp [cc];omega
theorem ccs_at : ∀ {l : List Ch} {k : Nat},k < l.length → ((ccs l).drop (k * 5)).take 5 = cc (Gm.cat l k)
  | c :: r,0,_=>by simp [ccs,cc,Gm.cat]
  | c :: r,k + 1,h=>by
    have ih:=ccs_at (l:=r) (k:=k) (by simpa using h)
    have e : ccs (c :: r) = cc c ++ ccs r:=rfl
    have e2 : (cc c ++ ccs r).drop ((k + 1) * 5) = (ccs r).drop (k * 5):=by
      rw [List.drop_append]
      have : (cc c).length = 5:=rfl
      rw [this,List.drop_of_length_le (by rw [this];omega),List.nil_append]
      congr 1
      omega
    rw [e,e2,ih];rfl
theorem SL.chg {w : World} {b o n c : Nat} {l : List Ch} (h : SL w 5 (some ⟨b,o,none⟩) n c (ccs l)) (k : Nat) (hk : k < l.length) : w.rangeAt b (o + k * 5) (cc (Gm.cat l k)):=h.elem (k * 5) (ds:=cc (Gm.cat l k)) (ccs_at hk)
theorem SL.ofBlk {w0 w : World} {F : Nat → Prop} {L : List HP} {g : Nat} {t : TypeId} {cs : List Value} (h : St w0 F L w) (i : Nat) (hL : L[i]? = some (blk g t cs)) (sz n : Nat) (xs : List Value) (hx : xs = cs) (hn : xs.length = n * sz) (hb : n ≤ 9223372036854775807) : SL w sz (some ⟨g,0,none⟩) n n xs :=
  ⟨hn,by rw [hx];exact h.liesBlk i hL,Nat.le_refl _,hb⟩
namespace Gm
variable {B C : Bx} {l m : List Int} {cs : List Ch} {k q : Nat} {v : Int}
def fill (B : Bx) (l : List Int) (C : Bx) (v : Int) : List Int:=mk B fun x y z=>if C.inb x y z then v else get B l x y z
def paste (B : Bx) (l : List Int) (C : Bx) (m : List Int) : List Int:=mk B fun x y z=>if C.inb x y z then get C m x y z else get B l x y z
theorem paste_upd (h : ok B l) : upd B (fun x y z=>C.inb x y z) (fun x y z=>get C m x y z) l l.length = paste B l C m:=upd_all h.len
end Gm
end Go.Proofs.YtpapbbolefnkmaaDoor
/-
  From the row's condition to the table of orders; points and boxes that come in, opened.
-/
namespace Go.Proofs.YtpapbbolefnkmaaDoor
open Go.ChangeShapes Go.WideShapes Go.ChangeAt Go.RowKit
set_option linter.unusedVariables false

section
variable {H : Type} {enc : TypeId × Value → H} {W : World} {base : Nat} {sp : Nat → Bool} {held : Bool} {fuel : Nat} {cs : List Value} {x : DataW H × List MemPlace} {v : Value} {d : DataW H} {ps : List MemPlace}

theorem list3 {cs : List Value} (h : cs.length = 3) : ∃ a b c,cs = [a,b,c]:=by
  match cs,h with
  | [a,b,c],_=>exact ⟨a,b,c,rfl⟩
theorem list6 {cs : List Value} (h : cs.length = 6) : ∃ a b c d e f,cs = [a,b,c,d,e,f]:=by
  match cs,h with
  | [a,b,c,d,e,f],_=>exact ⟨a,b,c,d,e,f,rfl⟩
theorem pt_cells (h : DataW.trod enc Tryd.prog W base sp held fuel 23 cs = some x) : ∃ a b c : Int,cs = [.int .i64 a, .int .i64 b, .int .i64 c] ∧ In64 (a,b,c):=by
  obtain ⟨xs,m,_,_,hl,hxl,hall⟩:=DataW.trod_struct Tryd.underlying23 h
  rw [show Tryd.prog.cellsOf 23 = 3 by kernel_rfl] at hl
  obtain ⟨c0,c1,c2,rfl⟩:=list3 hl
  have h0 : DataW.trod enc Tryd.prog W base sp held m 3 (List.take (Tryd.prog.cellsOf 3) (List.drop 0 [c0,c1,c2])) = xs[0]?:=hall 0 _ rfl
  have h1 : DataW.trod enc Tryd.prog W base sp held m 3 (List.take (Tryd.prog.cellsOf 3) (List.drop 1 [c0,c1,c2])) = xs[1]?:=hall 1 _ rfl
  have h2 : DataW.trod enc Tryd.prog W base sp held m 3 (List.take (Tryd.prog.cellsOf 3) (List.drop 2 [c0,c1,c2])) = xs[2]?:=hall 2 _ rfl
  rw [show Tryd.prog.cellsOf 3 = 1 by kernel_rfl] at h0 h1 h2
  have hx : xs.length = 3:=hxl
  rw [List.getElem?_eq_getElem (by omega)] at h0 h1 h2
  obtain ⟨a,ha,_,wa⟩:=DataW.trod_int Tryd.underlying3 h0
  obtain ⟨b,hb,_,wb⟩:=DataW.trod_int Tryd.underlying3 h1
  obtain ⟨c,hc,_,wc⟩:=DataW.trod_int Tryd.underlying3 h2
  simp at ha hb hc
  exact ⟨a,b,c,by rw [ha,hb,hc],i64_wf wa,i64_wf wb,i64_wf wc⟩
theorem box_cells (h : DataW.trod enc Tryd.prog W base sp held fuel 25 cs = some x) : ∃ a b c d e f : Int,cs = [.int .i64 a, .int .i64 b, .int .i64 c, .int .i64 d, .int .i64 e, .int .i64 f] ∧ In64 (a,b,c) ∧ In64 (d,e,f):=by
  obtain ⟨xs,m,_,_,hl,hxl,hall⟩:=DataW.trod_struct Tryd.underlying25 h
  rw [show Tryd.prog.cellsOf 25 = 6 by kernel_rfl] at hl
  obtain ⟨c0,c1,c2,c3,c4,c5,rfl⟩:=list6 hl
  have h0 : DataW.trod enc Tryd.prog W base sp held m 23 (List.take (Tryd.prog.cellsOf 23) (List.drop 0 [c0,c1,c2,c3,c4,c5])) = xs[0]?:=hall 0 _ rfl
  have h1 : DataW.trod enc Tryd.prog W base sp held m 23 (List.take (Tryd.prog.cellsOf 23) (List.drop 3 [c0,c1,c2,c3,c4,c5])) = xs[1]?:=hall 1 _ rfl
  rw [show Tryd.prog.cellsOf 23 = 3 by kernel_rfl] at h0 h1
  have hx : xs.length = 2:=hxl
  rw [List.getElem?_eq_getElem (by omega)] at h0 h1
  obtain ⟨a,b,c,h1c,i1⟩:=pt_cells h0
  obtain ⟨d,e,f,h2c,i2⟩:=pt_cells h1
  simp at h1c h2c
  exact ⟨a,b,c,d,e,f,by rw [h1c.1,h1c.2.1,h1c.2.2,h2c.1,h2c.2.1,h2c.2.2],i1,i2⟩
theorem agg_of_cells {v : Value} {l : List Value} (h : v.cells.toList = l) (hl : 2 ≤ l.length) : v = .agg l.toArray:=by
  cases v with
  | agg cs =>
    have h2 : cs.toList = l:=h
    congr 1
    exact Array.ext' (by simpa using h2)
  | _=>rw [← h] at hl;simp [Value.cells] at hl
theorem open_box (hd : DataW.Trod enc Tryd.prog W 0 (fun _=>true) true 25 v d ps) : ∃ a b c d e f : Int,v = .agg #[.int .i64 a, .int .i64 b, .int .i64 c, .int .i64 d, .int .i64 e, .int .i64 f] ∧ In64 (a,b,c) ∧ In64 (d,e,f):=by
  obtain ⟨fuel,hf⟩:=hd
  obtain ⟨a,b,c,d,e,f,hcs,hi⟩:=box_cells hf
  exact ⟨a,b,c,d,e,f,agg_of_cells hcs (by simp),hi⟩

def strData {H : Type} (l : List (List UInt8)) : DataW H:=.agg (l.map fun z=>.lit (.string z))
set_option maxRecDepth 100000 in
theorem str_cells {t e : TypeId} {n : Nat} {l : List (List UInt8)} {p : List MemPlace} (ht : Tryd.prog.underlying t = some (.array n e)) (he : Tryd.prog.underlying e = some .string) (hce : Tryd.prog.cellsOf e = 1) (hct : Tryd.prog.cellsOf t = n)
    (h : DataW.trod enc Tryd.prog W base sp held fuel t cs = some (strData l,p)) : cs = l.map fun z=>Value.string (bstr z):=by
  obtain ⟨xs,m,_,hx,hl,hxl,hall⟩:=DataW.trod_array ht h
  rw [hct] at hl
  have hxs : xs.map (·.1) = l.map fun z=>(DataW.lit (.string z) : DataW H):=by
    have:=congrArg Prod.fst hx
    simpa [strData] using this.symm
  have hll : l.length = n:=by
    have:=congrArg List.length hxs
    simp at this
    omega
  apply List.ext_getElem?
  intro i
  by_cases hi : i < n
  · have h0:=hall i hi
    rw [hce,Nat.mul_one] at h0
    obtain ⟨y,hy⟩ : ∃ y,xs[i]? = some y:=⟨xs[i],List.getElem?_eq_getElem (by omega)⟩
    rw [hy] at h0
    obtain ⟨s,hs,hys,_⟩:=DataW.trod_string he h0
    have h2 : ((cs.drop i).take 1)[0]? = some (.string s):=by rw [hs];rfl
    rw [List.getElem?_take_of_lt (by omega),List.getElem?_drop,Nat.add_zero] at h2
    have h3 : (xs.map (·.1))[i]? = some y.1:=by rw [List.getElem?_map,hy];rfl
    rw [hxs,List.getElem?_map] at h3
    cases hz : l[i]? with
    | none=>rw [hz] at h3;cases h3
    | some z =>
      rw [hz] at h3
      simp only [Option.map_some,Option.some.injEq] at h3
      rw [h2,List.getElem?_map,hz]
      simp only [Option.map_some,Option.some.injEq]
      have h4 : (DataW.lit (.string z) : DataW H) = .lit (.string s.data.toList):=by rw [h3,hys]
      injection h4 with h5
      injection h5 with h6
      rw [h6]
      rfl
  · rw [List.getElem?_eq_none (by omega),List.getElem?_eq_none (by rw [List.length_map];omega)]
end

def ordZ : List (List UInt8):=[[120,121,122],[120,122,121],[121,120,122],[121,122,120],[122,120,121],[122,121,120]]
theorem ord_data : Rows.laid_voxel_point_orders (H:=Unit) = strData ordZ:=by kernel_rfl
theorem gO : Tryd.prog.globalNamed "voxel/point.orders" = some 0 := by kernel_rfl
theorem tab_of_laid {W : World} (h : laidMetH Tryd.prog [("voxel/point.orders", Rows.laid_voxel_point_orders)] W) : Tab W := by
  rw [MakeChecks.laidMetH_plain _ _ _ (by kernel_rfl)] at h
  rw [ord_data] at h
  obtain ⟨ps,⟨g',t',cs,fuel,p,q,hg',ht',hvar,hd,_,_⟩,_⟩:=h
  obtain rfl:=Option.some.inj (gO.symm.trans hg')
  obtain rfl:=Option.some.inj ((show (Tryd.prog.globals[0]?).map (·.type) = some 118 by kernel_rfl).symm.trans ht')
  have hc:=str_cells Tryd.underlying118 Tryd.underlying9 (by kernel_rfl) (by kernel_rfl) hd
  intro j v hj
  rw [Nat.zero_add]
  have h1:=World.var?_cell gO hvar j
  rw [h1,← Array.getElem?_toList,hc]
  exact hj
end Go.Proofs.YtpapbbolefnkmaaDoor
/-
  Grids and lists of changes that come in, opened.
-/
namespace Go.Proofs.YtpapbbolefnkmaaDoor
open Go.ChangeShapes Go.WideShapes Go.ChangeAt Go.RowKit
set_option linter.unusedVariables false
section
variable {H : Type} {enc : TypeId × Value → H} {W : World} {base : Nat} {sp : Nat → Bool} {held : Bool} {fuel : Nat} {cs : List Value} {x : DataW H × List MemPlace} {v : Value} {d : DataW H} {ps : List MemPlace}
theorem list7 {cs : List Value} (h : cs.length = 7) : ∃ a b c d e f g,cs = [a,b,c,d,e,f,g]:=by
  match cs,h with
  | [a,b,c,d,e,f,g],_=>exact ⟨a,b,c,d,e,f,g,rfl⟩
theorem opened_ints {a : Option Addr} {len cap : Nat} (hd : DataW.Trod enc Tryd.prog W 0 (fun _=>true) true 26 (.slice a len cap) d ps) : ∃ l : List Int,SL W 1 a len cap (ic l):=by
  obtain ⟨l,h1,h2,h3,h4⟩:=opened_rows (fun x : Int=>[Value.int .i64 x]) 1 (by decide) hd Tryd.underlying26 (by kernel_rfl) (fun _=>rfl) (fun fuel cs x h=>by
    obtain ⟨p,hp,_,_⟩:=DataW.trod_int Tryd.underlying3 h
    exact ⟨p,hp⟩)
  have e : l.flatMap (fun x : Int=>[Value.int .i64 x]) = ic l:=by
    clear h1 h2
    unfold ic
    induction l with
    | nil=>rfl
    | cons y r ih=>simp [ih]
  rw [e] at h2
  exact ⟨l,by rw [ic_len];omega,h2,h3,Nat.le_trans h4 (by simp [maxLen])⟩
theorem open_grid (hd : DataW.Trod enc Tryd.prog W 0 (fun _=>true) true 28 v d ps) : ∃ (a b c d e f : Int) (A : Option Addr) (n k : Nat) (l : List Int),v = .agg #[.int .i64 a, .int .i64 b, .int .i64 c, .int .i64 d, .int .i64 e, .int .i64 f, .slice A n k] ∧ (In64 (a,b,c) ∧ In64 (d,e,f)) ∧ SL W 1 A n k (ic l):=by
  obtain ⟨fuel,h⟩:=hd
  obtain ⟨xs,m,_,_,hl,hxl,hall⟩:=DataW.trod_struct Tryd.underlying28 h
  rw [show Tryd.prog.cellsOf 28 = 7 by kernel_rfl] at hl
  generalize hcs : v.cells.toList = cs at hl hall
  obtain ⟨c0,c1,c2,c3,c4,c5,c6,rfl⟩:=list7 hl
  have h0 : DataW.trod enc Tryd.prog W 0 (fun _=>true) true m 25 (List.take (Tryd.prog.cellsOf 25) (List.drop 0 [c0,c1,c2,c3,c4,c5,c6])) = xs[0]?:=hall 0 _ rfl
  have h1 : DataW.trod enc Tryd.prog W 0 (fun _=>true) true m 26 (List.take (Tryd.prog.cellsOf 26) (List.drop 6 [c0,c1,c2,c3,c4,c5,c6])) = xs[1]?:=hall 1 _ rfl
  rw [show Tryd.prog.cellsOf 25 = 6 by kernel_rfl] at h0
  rw [show Tryd.prog.cellsOf 26 = 1 by kernel_rfl] at h1
  have hx : xs.length = 2:=hxl
  rw [List.getElem?_eq_getElem (by omega)] at h0 h1
  obtain ⟨a,b,c,d,e,f,h1c,i1⟩:=box_cells h0
  have hsl : ∃ A n k,c6 = .slice A n k:=by
    rcases DataW.trod_slice Tryd.underlying26 h1 with ⟨hs,_⟩ | ⟨x,l,c,elems,rest,n,_,hs,_⟩
    · simp at hs;exact ⟨_,_,_,hs⟩
    · simp at hs;exact ⟨_,_,_,hs⟩
  obtain ⟨A,n,k,rfl⟩:=hsl
  obtain ⟨l,hL⟩:=opened_ints (a:=A) (len:=n) (cap:=k) (d:=(xs[1]'(by omega)).1) (ps:=(xs[1]'(by omega)).2) ⟨m,h1⟩
  simp at h1c
  obtain ⟨rfl,rfl,rfl,rfl,rfl,rfl⟩:=h1c
  exact ⟨a,b,c,d,e,f,A,n,k,l,agg_of_cells hcs (by simp),i1,hL⟩
end
end Go.Proofs.YtpapbbolefnkmaaDoor
