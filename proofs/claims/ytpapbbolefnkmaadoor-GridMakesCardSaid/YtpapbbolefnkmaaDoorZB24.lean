/-
  Grids as mathematics: boxes of cells, what stands in a cell, grids made by a function. (No program.)
-/
import Derived.Test.YtpapbbolefnkmaaDoorZB00
import Derived.Test.YtpapbbolefnkmaaDoorZB02
import Derived.Test.YtpapbbolefnkmaaDoorZB20
import Derived.Test.YtpapbbolefnkmaaDoorZB23
import Derived.Test.YtpapbbolefnkmaaDoorZB21
import Derived.Test.YtpapbbolefnkmaaDoorZB22
import Derived.Test.YtpapbbolefnkmaaDoorZB07
import Derived.Test.YtpapbbolefnkmaaDoorZB03
import Derived.Test.YtpapbbolefnkmaaDoorZB17
import Derived.Test.YtpapbbolefnkmaaDoorZB06
import Derived.Handy
import Derived.Laws.StructEq
namespace Go.Proofs.YtpapbbolefnkmaaDoor.Gm
open Go.Proofs.YtpapbbolefnkmaaDoor
set_option linter.unusedVariables false
structure Bx where
  a : Int
  b : Int
  c : Int
  d : Int
  e : Int
  f : Int
deriving DecidableEq
def zb : Bx:=⟨0,0,0,0,0,0⟩
def Bx.inb (B : Bx) (x y z : Int) : Bool:=Pt.inB x y z B.a B.b B.c B.d B.e B.f
def Bx.emp (B : Bx) : Bool:=Pt.emp B.a B.b B.c B.d B.e B.f
def Bx.vol (B : Bx) : Int:=Pt.vol B.a B.b B.c B.d B.e B.f
def Bx.ix (B : Bx) (x y z : Int) : Int:=Pt.idx x y z B.a B.b B.c B.d B.e
def Bx.ax (B : Bx) (k : Int) : Int:=B.a + k % (B.d - B.a)
def Bx.ay (B : Bx) (k : Int) : Int:=B.b + k / (B.d - B.a) % (B.e - B.b)
def Bx.az (B : Bx) (k : Int) : Int:=B.c + k / (B.d - B.a) / (B.e - B.b)
def mk (B : Bx) (F : Int → Int → Int → Int) : List Int:=(List.range B.vol.toNat).map fun (k : Nat)=>F (B.ax k) (B.ay k) (B.az k)
def get (B : Bx) (l : List Int) (x y z : Int) : Int:=if B.inb x y z then l.getD (B.ix x y z).toNat 0 else 0
section
variable {B : Bx} {x y z k : Int} {F G : Int → Int → Int → Int} {l m : List Int}
theorem vol_nn (B : Bx) : 0 ≤ B.vol:=Pt.vol_nonneg _ _ _ _ _ _
theorem emp_of (h : 0 < B.vol) : B.emp = false:=by
  cases he : B.emp
  · rfl
  · have : B.vol = 0:=Pt.vol_emp he
    omega
theorem at_in (h0 : 0 ≤ k) (h : k < B.vol) : B.inb (B.ax k) (B.ay k) (B.az k) = true:=(Pt.idx_at (emp_of (by omega)) ⟨h0,h⟩).1
theorem ix_at (h0 : 0 ≤ k) (h : k < B.vol) : B.ix (B.ax k) (B.ay k) (B.az k) = k:=(Pt.idx_at (emp_of (by omega)) ⟨h0,h⟩).2
theorem ix_bd (h : B.inb x y z = true) : 0 ≤ B.ix x y z ∧ B.ix x y z < B.vol:=⟨(Pt.idx_bd h).2.1,(Pt.idx_bd h).2.2.1⟩
theorem at_ix (h : B.inb x y z = true) : B.ax (B.ix x y z) = x ∧ B.ay (B.ix x y z) = y ∧ B.az (B.ix x y z) = z:=by
  have h1:=Pt.at_idx h
  unfold Bx.ax Bx.ay Bx.az Bx.ix
  rw [h1.1,h1.2.1,h1.2.2]
  omega
theorem mk_len (B : Bx) (F : Int → Int → Int → Int) : (mk B F).length = B.vol.toNat:=by simp [mk]
theorem mk_at {j : Nat} (h : (j : Int) < B.vol) : (mk B F)[j]? = some (F (B.ax j) (B.ay j) (B.az j)):=by
  unfold mk
  rw [List.getElem?_map,List.getElem?_range (by omega)];rfl
theorem get_at {j : Nat} (hl : l.length = B.vol.toNat) (h : j < l.length) : get B l (B.ax j) (B.ay j) (B.az j) = l.getD j 0:=by
  have hj : (j : Int) < B.vol:=by omega
  unfold get
  rw [at_in (by omega) hj,if_pos rfl,ix_at (by omega) hj];rfl
theorem mk_congr (h : ∀ x y z,B.inb x y z = true → F x y z = G x y z) : mk B F = mk B G:=by
  unfold mk
  refine List.map_congr_left fun k hk=>?_
  have hk2 : k < B.vol.toNat:=by simpa using hk
  exact h _ _ _ (at_in (by omega) (by omega))
end
end Go.Proofs.YtpapbbolefnkmaaDoor.Gm
/-
  Grids as mathematics: writing, filling, pasting, counting, differences, step by step. (No program.)
-/
namespace Go.Proofs.YtpapbbolefnkmaaDoor.Gm
open Go.Proofs.YtpapbbolefnkmaaDoor
set_option linter.unusedVariables false
structure Ch where
  x : Int
  y : Int
  z : Int
  o : Int
  n : Int
deriving DecidableEq
def wr1 (B : Bx) (l : List Int) (c : Ch) : List Int:=if B.inb c.x c.y c.z then l.set (B.ix c.x c.y c.z).toNat c.n else l
def wr (B : Bx) (l : List Int) (cs : List Ch) : List Int:=cs.foldl (wr1 B) l
def upd (B : Bx) (P : Int → Int → Int → Bool) (V : Int → Int → Int → Int) (l : List Int) (k : Nat) : List Int :=
  (List.range l.length).map fun j=>if decide (j < k) && P (B.ax j) (B.ay j) (B.az j) then V (B.ax j) (B.ay j) (B.az j) else l.getD j 0
section
variable {B : Bx} {P : Int → Int → Int → Bool} {V : Int → Int → Int → Int} {l : List Int} {k : Nat} {cs : List Ch} {c : Ch}
theorem upd_len : (upd B P V l k).length = l.length:=by simp [upd]
theorem upd_at {j : Nat} (h : j < l.length) : (upd B P V l k)[j]? = some (if decide (j < k) && P (B.ax j) (B.ay j) (B.az j) then V (B.ax j) (B.ay j) (B.az j) else l.getD j 0):=by
  unfold upd
  rw [List.getElem?_map,List.getElem?_range h];rfl
theorem upd_zero : upd B P V l 0 = l:=by
  apply List.ext_getElem?
  intro j
  rcases Nat.lt_or_ge j l.length with h | h
  · rw [upd_at h,List.getD_eq_getElem?_getD,List.getElem?_eq_getElem h];simp
  · rw [List.getElem?_eq_none h,List.getElem?_eq_none (by rw [upd_len];omega)]
theorem upd_no (h : k < l.length) (hp : P (B.ax k) (B.ay k) (B.az k) = false) : upd B P V l (k + 1) = upd B P V l k:=by
  apply List.ext_getElem?
  intro j
  rcases Nat.lt_or_ge j l.length with hj | hj
  · rw [upd_at hj,upd_at hj]
    by_cases e : j = k
    · subst e;rw [hp];simp
    · have : (decide (j < k + 1)) = decide (j < k):=by rw [Bool.eq_iff_iff];simp;omega
      rw [this]
  · rw [List.getElem?_eq_none (by rw [upd_len];omega),List.getElem?_eq_none (by rw [upd_len];omega)]
theorem upd_yes (h : k < l.length) (hp : P (B.ax k) (B.ay k) (B.az k) = true) : upd B P V l (k + 1) = (upd B P V l k).set k (V (B.ax k) (B.ay k) (B.az k)):=by
  apply List.ext_getElem?
  intro j
  rcases Nat.lt_or_ge j l.length with hj | hj
  · rw [upd_at hj]
    by_cases e : j = k
    · subst e
      have e1 : ((upd B P V l j).set j (V (B.ax j) (B.ay j) (B.az j)))[j]? = some (V (B.ax j) (B.ay j) (B.az j)):=by rw [List.getElem?_set];simp [upd_len,hj]
      rw [e1,hp];simp
    · have e1 : ((upd B P V l k).set k (V (B.ax k) (B.ay k) (B.az k)))[j]? = (upd B P V l k)[j]?:=by rw [List.getElem?_set];simp [Ne.symm e]
      have e2 : (decide (j < k + 1)) = decide (j < k):=by rw [Bool.eq_iff_iff];simp;omega
      rw [e1,upd_at hj,e2]
  · rw [List.getElem?_eq_none (by rw [upd_len];omega),List.getElem?_eq_none (by rw [List.length_set,upd_len];omega)]
theorem upd_all (hl : l.length = B.vol.toNat) : upd B P V l l.length = mk B (fun x y z=>if P x y z then V x y z else get B l x y z):=by
  apply List.ext_getElem?
  intro j
  rcases Nat.lt_or_ge j l.length with hj | hj
  · rw [upd_at hj,mk_at (by omega),get_at hl hj,decide_eq_true hj];simp
  · rw [List.getElem?_eq_none (by rw [upd_len];omega),List.getElem?_eq_none (by rw [mk_len];omega)]
end
def cnt (l : List Int) (m : Int) : Nat:=l.countP (fun v=>decide (v = m))
theorem cnt_take {l : List Int} {k : Nat} {v m : Int} (h : l[k]? = some v) : cnt (l.take (k + 1)) m = cnt (l.take k) m + (if v = m then 1 else 0):=by
  obtain ⟨hk,rfl⟩:=List.getElem?_eq_some_iff.1 h
  unfold cnt
  rw [List.take_succ_eq_append_getElem hk,List.countP_append]
  by_cases e : l[k] = m <;> simp [e]
def dif1 (B : Bx) (l : List Int) (C : Bx) (m : List Int) (k : Nat) : Option Ch :=
  if C.inb (B.ax k) (B.ay k) (B.az k) && decide (get C m (B.ax k) (B.ay k) (B.az k) ≠ l.getD k 0) then some ⟨B.ax k,B.ay k,B.az k,l.getD k 0,get C m (B.ax k) (B.ay k) (B.az k)⟩ else none
def dif (B : Bx) (l : List Int) (C : Bx) (m : List Int) (k : Nat) : List Ch:=(List.range k).filterMap (dif1 B l C m)
end Go.Proofs.YtpapbbolefnkmaaDoor.Gm
/-
  The specification's boxes, in this text's words.
-/
namespace Go.Proofs.YtpapbbolefnkmaaDoor
open Go Go.RowKit
set_option linter.unusedVariables false
open Gm (Bx Ch)
namespace Gm
def rp (x : Int) : Prop:=-1048575 ≤ x ∧ x ≤ 1048575
def Bx.rg (B : Bx) : Prop:=(rp B.a ∧ rp B.b ∧ rp B.c) ∧ (rp B.d ∧ rp B.e ∧ rp B.f)
def rp3 (x y z : Int) : Prop:=rp x ∧ rp y ∧ rp z
def ixr (B : Bx) (x y z : Int) : Int:=if B.inb x y z then B.ix x y z else -1
structure ok (B : Bx) (l : List Int) : Prop where
  rg : B.rg
  len : l.length = B.vol.toNat
  max : B.vol ≤ 2097152
theorem ok.vol {B : Bx} {l : List Int} (h : ok B l) : (l.length : Int) = B.vol:=by
  have:=h.len
  have:=vol_nn B
  omega
theorem ixr_neg {B : Bx} {x y z : Int} {l : List Int} (h : ixr B x y z < 0) : get B l x y z = 0:=by
  unfold ixr at h
  cases hi : B.inb x y z
  · unfold get;rw [hi];rfl
  · rw [hi,if_pos rfl] at h
    have:=ix_bd hi;omega
theorem ixr_pos {B : Bx} {x y z : Int} (h : ¬ ixr B x y z < 0) : B.inb x y z = true ∧ ixr B x y z = B.ix x y z ∧ 0 ≤ B.ix x y z ∧ B.ix x y z < B.vol:=by
  unfold ixr at h ⊢
  cases hi : B.inb x y z
  · rw [hi] at h;simp at h
  · have:=ix_bd hi
    exact ⟨rfl,if_pos rfl,this⟩
theorem get_in {B : Bx} {x y z : Int} {l : List Int} (h : B.inb x y z = true) {q : Nat} (hq : B.ix x y z = (q : Int)) : get B l x y z = l.getD q 0:=by
  unfold get;rw [h,if_pos rfl,hq];rfl
end Gm
section
variable (w : World)
theorem vol_b (B : Bx) (h : B.rg) : Calls Tryd.prog 10 #[.agg #[B.a, B.b, B.c, B.d, B.e, B.f]] w fun e w'=>e = .returned B.vol ∧ Below w.heap.size w w' :=
  rvolume_any _ _ _ _ _ _ w ⟨h.1.1,h.1.2.1,h.1.2.2,h.2.1,h.2.2.1,h.2.2.2⟩
theorem index_b (B : Bx) (x y z : Int) (h : B.rg) (hp : Gm.rp3 x y z) : Calls Tryd.prog 36 #[.agg #[B.a, B.b, B.c, B.d, B.e, B.f], .agg #[x, y, z]] w fun e w'=>e = .returned (Gm.ixr B x y z) ∧ Below w.heap.size w w':=by
  cases hi : B.inb x y z
  · have e : Gm.ixr B x y z = -1:=by unfold Gm.ixr;rw [hi];rfl
    rw [e];exact rindex_f _ _ _ _ _ _ _ _ _ w hi
  · have e : Gm.ixr B x y z = B.ix x y z:=by unfold Gm.ixr;rw [hi];rfl
    rw [e];exact rindex_t _ _ _ _ _ _ _ _ _ w ⟨h.1.1,h.1.2.1,h.1.2.2,h.2.1,h.2.2.1,h.2.2.2,hp.1,hp.2.1,hp.2.2⟩ hi
theorem at_b (B : Bx) (k : Int) (h : B.rg) (h0 : 0 ≤ k) (hk : k < B.vol) : Calls Tryd.prog 83 #[.agg #[B.a, B.b, B.c, B.d, B.e, B.f], k] w fun e w'=>e = .returned (.tuple #[.agg #[(B.ax k:Int), (B.ay k:Int), (B.az k:Int)], .bool true]) ∧ Below w.heap.size w w' :=
  rat_ok _ _ _ _ _ _ _ w ⟨h.1.1,h.1.2.1,h.1.2.2,h.2.1,h.2.2.1,h.2.2.2⟩ h0 hk (Gm.emp_of (Int.lt_of_le_of_lt h0 hk))
theorem in_b (x y z : Int) (B : Bx) : Calls Tryd.prog 23 #[.agg #[x, y, z], .agg #[B.a, B.b, B.c, B.d, B.e, B.f]] w fun e w'=>e = .returned (.bool (B.inb x y z)) ∧ Below w.heap.size w w' :=
  rin_any _ _ _ _ _ _ _ _ _ _ w rfl
end
theorem Gm.at_rp {B : Bx} {k : Int} (h : B.rg) (h0 : 0 ≤ k) (hk : k < B.vol) : Gm.rp3 (B.ax k) (B.ay k) (B.az k):=by
  have h1:=Pt.inB_true.1 (Gm.at_in h0 hk)
  have h2:=h
  unfold Bx.rg Gm.rp at h2
  refine ⟨⟨?_, ?_⟩,⟨?_, ?_⟩,⟨?_, ?_⟩⟩ <;> omega
end Go.Proofs.YtpapbbolefnkmaaDoor
/-
  Points, boxes and changes compared.
-/
namespace Go.Proofs.YtpapbbolefnkmaaDoor
open Go Go.RowKit
set_option linter.unusedVariables false
set_option linter.unusedSimpArgs false
section
variable {ev : Operand → Value} {o : Oper} {x y : Operand} {t' : TypeId} (W : World)
set_option maxHeartbeats 2000000 in
theorem op_bx_eql (a0 a1 a2 a3 a4 a5 b0 b1 b2 b3 b4 b5 : Int) (ho : o.op = .binOp .eql 25 x y t') (hx : ev x = .agg #[a0, a1, a2, a3, a4, a5]) (hy : ev y = .agg #[b0, b1, b2, b3, b4, b5]) : (execOp ev o).run Tryd.prog W = .ok (.value (.bool (decide (a0 = b0 ∧ a1 = b1 ∧ a2 = b2 ∧ a3 = b3 ∧ a4 = b4 ∧ a5 = b5)))) W:=by
  unfold execOp
  rw [ho]
  simp only [hx,hy]
  by_cases h0 : a0 = b0
  · subst h0
    by_cases h1 : a1 = b1
    · subst h1
      by_cases h2 : a2 = b2
      · subst h2
        by_cases h3 : a3 = b3
        · subst h3
          by_cases h4 : a4 = b4
          · subst h4
            by_cases h5 : a5 = b5
            · subst h5
              go_simp
            · go_simp <;> (try simp [h5])
          · go_simp <;> (try simp [h4])
        · go_simp <;> (try simp [h3])
      · go_simp <;> (try simp [h2])
    · go_simp <;> (try simp [h1])
  · go_simp <;> (try simp [h0])
set_option maxHeartbeats 2000000 in
theorem op_bx_neq (a0 a1 a2 a3 a4 a5 b0 b1 b2 b3 b4 b5 : Int) (ho : o.op = .binOp .neq 25 x y t') (hx : ev x = .agg #[a0, a1, a2, a3, a4, a5]) (hy : ev y = .agg #[b0, b1, b2, b3, b4, b5]) : (execOp ev o).run Tryd.prog W = .ok (.value (.bool (decide (¬ (a0 = b0 ∧ a1 = b1 ∧ a2 = b2 ∧ a3 = b3 ∧ a4 = b4 ∧ a5 = b5))))) W:=by
  unfold execOp
  rw [ho]
  simp only [hx,hy]
  by_cases h0 : a0 = b0
  · subst h0
    by_cases h1 : a1 = b1
    · subst h1
      by_cases h2 : a2 = b2
      · subst h2
        by_cases h3 : a3 = b3
        · subst h3
          by_cases h4 : a4 = b4
          · subst h4
            by_cases h5 : a5 = b5
            · subst h5
              go_simp
            · go_simp <;> (try simp [h5])
          · go_simp <;> (try simp [h4])
        · go_simp <;> (try simp [h3])
      · go_simp <;> (try simp [h2])
    · go_simp <;> (try simp [h1])
  · go_simp <;> (try simp [h0])
set_option maxHeartbeats 2000000 in
theorem op_ch_neq (a0 a1 a2 a3 a4 b0 b1 b2 b3 b4 : Int) (ho : o.op = .binOp .neq 74 x y t') (hx : ev x = .agg #[a0, a1, a2, a3, a4]) (hy : ev y = .agg #[b0, b1, b2, b3, b4]) : (execOp ev o).run Tryd.prog W = .ok (.value (.bool (decide (¬ (a0 = b0 ∧ a1 = b1 ∧ a2 = b2 ∧ a3 = b3 ∧ a4 = b4))))) W:=by
  unfold execOp
  rw [ho]
  simp only [hx,hy]
  by_cases h0 : a0 = b0
  · subst h0
    by_cases h1 : a1 = b1
    · subst h1
      by_cases h2 : a2 = b2
      · subst h2
        by_cases h3 : a3 = b3
        · subst h3
          by_cases h4 : a4 = b4
          · subst h4
            go_simp
          · go_simp <;> (try simp [h4])
        · go_simp <;> (try simp [h3])
      · go_simp <;> (try simp [h2])
    · go_simp <;> (try simp [h1])
  · go_simp <;> (try simp [h0])
end
end Go.Proofs.YtpapbbolefnkmaaDoor
/-
  Contracts of the specification of package point for boxes of any range: the differences wrap.
-/
namespace Go.Proofs.YtpapbbolefnkmaaDoor
open Go.RowKit
set_option linter.unusedVariables false
set_option maxRecDepth 1000000 in
theorem rsub_w (x1 x2 x3 y1 y2 y3 : Int) (w : World) :
    Calls Tryd.prog 75 #[.agg #[x1, x2, x3], .agg #[y1, y2, y3]] w fun e w'=>e = .returned (.agg #[(wrap64 (x1 - y1):Int), (wrap64 (x2 - y2):Int), (wrap64 (x3 - y3):Int)]) ∧ Below w.heap.size w w':=by
  go_enter Tryd.func75,Tryd.ntmps75
  go_wp2_with fail
  go_returns
  exact ⟨rfl,by go_grown⟩
set_option maxRecDepth 1000000 in
set_option maxHeartbeats 4000000 in
theorem rsize_w (a1 a2 a3 a4 a5 a6 : Int) (w : World) (h : Pt.emp a1 a2 a3 a4 a5 a6 = false) :
    Calls Tryd.prog 39 #[.agg #[a1, a2, a3, a4, a5, a6]] w fun e w'=>e = .returned (.agg #[(wrap64 (a4 - a1):Int), (wrap64 (a5 - a2):Int), (wrap64 (a6 - a3):Int)]) ∧ Below w.heap.size w w':=by
  have HE:=Lib.hid h
  clear h
  obtain ⟨u,hu,r0,r1,g0⟩:=rows2 w [.int .i64 a1, .int .i64 a2, .int .i64 a3, .int .i64 a4, .int .i64 a5, .int .i64 a6] 25 [.int .i64 0, .int .i64 0, .int .i64 0] 23
  have R0:=Lib.hid r0
  have R1:=Lib.hid r1
  have G0:=Lib.hid g0
  have HU:=Lib.hid hu
  clear hu g0 r0 r1
  go_enter Tryd.func39,Tryd.ntmps39
  go_upto_region 1 with fail
  rw [← HU.out]
  refine wpG_region ?_
  refine @wpG_tk _ _ _ _ _ (some 4) (.agg #[a1, a2, a3, a4, a5, a6]) _ _ rfl (.load_mid (by rfl) 25 (.tmp 1) rfl (w.heap.size) 0 rfl [.int .i64 a1, .int .i64 a2, .int .i64 a3, .int .i64 a4, .int .i64 a5, .int .i64 a6] _ (fun W hg=>(R0.out.below hg).range) Tryd.underlying25 rfl (by kernel_rfl)) ?_
  simp only [Act.put,zA,zB,zC]
  refine @wpG_tk _ _ _ _ _ (some 5) (.bool false) _ _ rfl (.call (f:=76) (args:=#[.agg #[a1, a2, a3, a4, a5, a6]]) (by rfl) (fun W=>by go_simp) (fun W hg=>rempty_any a1 a2 a3 a4 a5 a6 false W HE.out)) ?_
  simp only [Act.put,zA,zB,zC]
  refine @wpG_tk _ _ _ _ _ (some 3) (.bool false) _ _ rfl (.val (by rfl) (fun _ _=>rfl)) ?_
  simp only [Act.put,zA,zB,zC]
  refine wpG_done (fun V1 hv2=>?_)
  have GC3:=Lib.hid hv2
  clear hv2
  go_upto_region 2 with fail
  refine wpG_region ?_
  refine @wpG_tk _ _ _ _ _ (some 6) (.bool false) _ _ rfl (.val (by rfl) (fun _ _=>rfl)) ?_
  simp only [Act.put,zA,zB,zC]
  refine wpG_done (fun V4 hv5=>?_)
  have GC6:=Lib.hid (GC3.out.trans hv5)
  clear hv5
  go_upto_region 4 with fail
  refine wpG_region ?_
  refine @wpG_tk _ _ _ _ _ (some 8) (.pointer (some ⟨w.heap.size,3,none⟩)) _ _ rfl (.val (by rfl) (fun W hg=>by go_simp)) ?_
  simp only [Act.put,zA,zB,zC]
  refine @wpG_tk _ _ _ _ _ (some 9) (.agg #[a4, a5, a6]) _ _ rfl (.load_mid (by rfl) 23 (.tmp 8) rfl (w.heap.size) 3 rfl [.int .i64 a4, .int .i64 a5, .int .i64 a6] _ (fun W hg=>((R0.out.below (GC6.out.trans hg)).part 3 3 rfl)) Tryd.underlying23 rfl (by kernel_rfl)) ?_
  simp only [Act.put,zA,zB,zC]
  refine @wpG_tk _ _ _ _ _ (some 10) (.pointer (some ⟨w.heap.size,0,none⟩)) _ _ rfl (.val (by rfl) (fun W hg=>by go_simp)) ?_
  simp only [Act.put,zA,zB,zC]
  refine @wpG_tk _ _ _ _ _ (some 11) (.agg #[a1, a2, a3]) _ _ rfl (.load_mid (by rfl) 23 (.tmp 10) rfl (w.heap.size) 0 rfl [.int .i64 a1, .int .i64 a2, .int .i64 a3] _ (fun W hg=>((R0.out.below (GC6.out.trans hg)).part 0 3 rfl)) Tryd.underlying23 rfl (by kernel_rfl)) ?_
  simp only [Act.put,zA,zB,zC]
  refine @wpG_tk _ _ _ _ _ (some 12) (.agg #[(wrap64 (a4 - a1):Int), (wrap64 (a5 - a2):Int), (wrap64 (a6 - a3):Int)]) _ _ rfl (.call (f:=75) (args:=#[.agg #[a4, a5, a6], .agg #[a1, a2, a3]]) (by rfl) (fun W=>by go_simp) (fun W hg=>rsub_w a4 a5 a6 a1 a2 a3 W)) ?_
  simp only [Act.put,zA,zB,zC]
  refine wpG_store (none) rfl (by rfl) (fun W7 hg8=>⟨_,run_store_mid 23 (.tmp 2) (.tmp 12) rfl (w.heap.size + 1) 0 #[(wrap64 (a4 - a1):Int), (wrap64 (a5 - a2):Int), (wrap64 (a6 - a3):Int)] rfl rfl (((R1.out.below (GC6.out.trans hg8)).there 0 3 (by simp))) (by kernel_rfl) (by kernel_rfl), ?_⟩)
  simp only [Act.put]
  refine wpG_done (fun V9 hv10=>?_)
  have R12:=Lib.hid (Row.put (ds:=[.int .i64 (wrap64 (a4 - a1)), .int .i64 (wrap64 (a5 - a2)), .int .i64 (wrap64 (a6 - a3))]) R1.out (GC6.out.trans hg8) rfl hv10)
  have G11:=Lib.hid (Gr.put G0.out (GC6.out.trans hg8) (by omega) hv10)
  go_wp2_with fail
  refine bodyPost_ret (results_cell_mid rfl _ _ _ (w.heap.size + 1) 0 [.int .i64 (wrap64 (a4 - a1)), .int .i64 (wrap64 (a5 - a2)), .int .i64 (wrap64 (a6 - a3))] _ rfl R12.out.range Tryd.underlying23 rfl (by kernel_rfl)) rfl ?_
  exact ⟨rfl,G11.out⟩
set_option maxRecDepth 1000000 in
set_option maxHeartbeats 4000000 in
theorem rvolw_t (a1 a2 a3 a4 a5 a6 : Int) (w : World) (h : Pt.emp a1 a2 a3 a4 a5 a6 = true) :
    Calls Tryd.prog 10 #[.agg #[a1, a2, a3, a4, a5, a6]] w fun e w'=>e = .returned () ∧ Below w.heap.size w w':=by
  have HE:=Lib.hid h
  clear h
  obtain ⟨u,hu,r0,g0⟩:=rows1 w [.int .i64 a1, .int .i64 a2, .int .i64 a3, .int .i64 a4, .int .i64 a5, .int .i64 a6] 25
  have R0:=Lib.hid r0
  have G0:=Lib.hid g0
  have HU:=Lib.hid hu
  clear hu g0 r0
  go_enter Tryd.func10,Tryd.ntmps10
  go_upto_region 1 with fail
  rw [← HU.out]
  refine wpG_region ?_
  refine @wpG_tk _ _ _ _ _ (some 4) (.agg #[a1, a2, a3, a4, a5, a6]) _ _ rfl (.load_mid (by rfl) 25 (.tmp 1) rfl (w.heap.size) 0 rfl [.int .i64 a1, .int .i64 a2, .int .i64 a3, .int .i64 a4, .int .i64 a5, .int .i64 a6] _ (fun W hg=>(R0.out.below hg).range) Tryd.underlying25 rfl (by kernel_rfl)) ?_
  simp only [Act.put,zA,zB,zC]
  refine @wpG_tk _ _ _ _ _ (some 5) (.agg #[(), (), ()]) _ _ rfl (.call (f:=39) (args:=#[.agg #[a1, a2, a3, a4, a5, a6]]) (by rfl) (fun W=>by go_simp) (fun W hg=>rsize_t a1 a2 a3 a4 a5 a6 W HE.out)) ?_
  simp only [Act.put,zA,zB,zC]
  refine wpG_val (some 3) rfl (by rfl) (fun W1 hg2=>⟨.pointer (some ⟨W1.heap.size,0,none⟩),W1.alloc (.cells #[(), (), ()] 23),by (go_simp <;> rfl), ?_⟩)
  simp only [Act.put,zA,zB,zC]
  refine wpG_store (none) rfl (by rfl) (fun W3 hg4=>⟨_,run_store_mid 23 (.tmp 3) (.tmp 5) rfl (W1.heap.size) 0 #[(), (), ()] rfl rfl (Row.room hg4 3 rfl) (by kernel_rfl) (by kernel_rfl), ?_⟩)
  simp only [Act.put]
  refine wpG_done (fun V5 hv6=>?_)
  have l8 : w.heap.size < W1.heap.size:=(R0.out.below hg2).lt
  have l9 : w.heap.size ≤ W1.heap.size:=(Gr.to G0.out hg2).size
  have R10:=Lib.hid ((R0.out.below hg2).past hg4 hv6)
  have R11:=Lib.hid (Row.made (zs:=[.int .i64 0, .int .i64 0, .int .i64 0]) (ds:=[.int .i64 0, .int .i64 0, .int .i64 0]) rfl hg4 hv6)
  have G7:=Lib.hid (Gr.to (Gr.to G0.out hg2) (Gr.past hg4 hv6))
  clear hg4 hv6 
  go_upto_region 2 with fail
  have c0:=(R11.out 0 _ rfl).1
  have c1:=(R11.out 1 _ rfl).1
  have c2:=(R11.out 2 _ rfl).1
  clear HU
  go_wp2_with fail
  go_ret
  exact ⟨rfl,G7.out⟩
set_option maxRecDepth 1000000 in
set_option maxHeartbeats 4000000 in
theorem rvolw_f (a1 a2 a3 a4 a5 a6 : Int) (w : World) (h : Pt.emp a1 a2 a3 a4 a5 a6 = false) :
    Calls Tryd.prog 10 #[.agg #[a1, a2, a3, a4, a5, a6]] w fun e w'=>e = .returned (wrap64 ((wrap64 ((wrap64 (a4 - a1)) * (wrap64 (a5 - a2)))) * (wrap64 (a6 - a3))):Int) ∧ Below w.heap.size w w':=by
  have HE:=Lib.hid h
  clear h
  obtain ⟨u,hu,r0,g0⟩:=rows1 w [.int .i64 a1, .int .i64 a2, .int .i64 a3, .int .i64 a4, .int .i64 a5, .int .i64 a6] 25
  have R0:=Lib.hid r0
  have G0:=Lib.hid g0
  have HU:=Lib.hid hu
  clear hu g0 r0
  go_enter Tryd.func10,Tryd.ntmps10
  go_upto_region 1 with fail
  rw [← HU.out]
  refine wpG_region ?_
  refine @wpG_tk _ _ _ _ _ (some 4) (.agg #[a1, a2, a3, a4, a5, a6]) _ _ rfl (.load_mid (by rfl) 25 (.tmp 1) rfl (w.heap.size) 0 rfl [.int .i64 a1, .int .i64 a2, .int .i64 a3, .int .i64 a4, .int .i64 a5, .int .i64 a6] _ (fun W hg=>(R0.out.below hg).range) Tryd.underlying25 rfl (by kernel_rfl)) ?_
  simp only [Act.put,zA,zB,zC]
  refine @wpG_tk _ _ _ _ _ (some 5) (.agg #[(wrap64 (a4 - a1):Int), (wrap64 (a5 - a2):Int), (wrap64 (a6 - a3):Int)]) _ _ rfl (.call (f:=39) (args:=#[.agg #[a1, a2, a3, a4, a5, a6]]) (by rfl) (fun W=>by go_simp) (fun W hg=>rsize_w a1 a2 a3 a4 a5 a6 W HE.out)) ?_
  simp only [Act.put,zA,zB,zC]
  refine wpG_val (some 3) rfl (by rfl) (fun W1 hg2=>⟨.pointer (some ⟨W1.heap.size,0,none⟩),W1.alloc (.cells #[(), (), ()] 23),by (go_simp <;> rfl), ?_⟩)
  simp only [Act.put,zA,zB,zC]
  refine wpG_store (none) rfl (by rfl) (fun W3 hg4=>⟨_,run_store_mid 23 (.tmp 3) (.tmp 5) rfl (W1.heap.size) 0 #[(wrap64 (a4 - a1):Int), (wrap64 (a5 - a2):Int), (wrap64 (a6 - a3):Int)] rfl rfl (Row.room hg4 3 rfl) (by kernel_rfl) (by kernel_rfl), ?_⟩)
  simp only [Act.put]
  refine wpG_done (fun V5 hv6=>?_)
  have l8 : w.heap.size < W1.heap.size:=(R0.out.below hg2).lt
  have l9 : w.heap.size ≤ W1.heap.size:=(Gr.to G0.out hg2).size
  have R10:=Lib.hid ((R0.out.below hg2).past hg4 hv6)
  have R11:=Lib.hid (Row.made (zs:=[.int .i64 0, .int .i64 0, .int .i64 0]) (ds:=[.int .i64 (wrap64 (a4 - a1)), .int .i64 (wrap64 (a5 - a2)), .int .i64 (wrap64 (a6 - a3))]) rfl hg4 hv6)
  have G7:=Lib.hid (Gr.to (Gr.to G0.out hg2) (Gr.past hg4 hv6))
  clear hg4 hv6 
  go_upto_region 2 with fail
  have c0:=(R11.out 0 _ rfl).1
  have c1:=(R11.out 1 _ rfl).1
  have c2:=(R11.out 2 _ rfl).1
  clear HU
  obtain ⟨s,hs⟩ : ∃ x,x = (wrap64 (a4 - a1)):=⟨_,rfl⟩
  obtain ⟨t,ht⟩ : ∃ x,x = (wrap64 (a5 - a2)):=⟨_,rfl⟩
  obtain ⟨v,hv⟩ : ∃ x,x = (wrap64 (a6 - a3)):=⟨_,rfl⟩
  rw [← hs] at c0
  rw [← ht] at c1
  rw [← hv] at c2
  have HS:=Lib.hid hs
  have HTT:=Lib.hid ht
  have HV:=Lib.hid hv
  clear hs ht hv
  go_wp2_with fail
  go_ret
  exact ⟨by rw [← HS.out,← HTT.out,← HV.out];rfl,G7.out⟩
def Gm.volw (B : Gm.Bx) : Int:=if Pt.emp B.a B.b B.c B.d B.e B.f = true then 0 else (wrap64 ((wrap64 ((wrap64 (B.d - B.a)) * (wrap64 (B.e - B.b)))) * (wrap64 (B.f - B.c))))
theorem volw_b (B : Gm.Bx) (w : World) : Calls Tryd.prog 10 #[.agg #[B.a, B.b, B.c, B.d, B.e, B.f]] w fun e w'=>e = .returned (Gm.volw B) ∧ Below w.heap.size w w':=by
  unfold Gm.volw
  cases h : Pt.emp B.a B.b B.c B.d B.e B.f with
  | true=>rw [if_pos rfl];exact rvolw_t _ _ _ _ _ _ w h
  | false=>rw [if_neg (by decide)];exact rvolw_f _ _ _ _ _ _ w h

end Go.Proofs.YtpapbbolefnkmaaDoor
