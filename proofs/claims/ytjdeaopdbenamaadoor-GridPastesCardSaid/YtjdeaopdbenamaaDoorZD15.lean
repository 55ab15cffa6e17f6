/-
  Grids as mathematics: boxes of cells, what stands in a cell, grids made by a function. (No program.)
-/
import Derived.Test.YtjdeaopdbenamaaDoorZD01
import Derived.Test.YtjdeaopdbenamaaDoorZD14
namespace Go.Proofs.YtjdeaopdbenamaaDoor.Gm
open Go.Proofs.YtjdeaopdbenamaaDoor
set_option linter.unusedVariables false
/-- a box: its least corner and the one behind its greatest -/
structure Bx where
  a : Int
  b : Int
  c : Int
  d : Int
  e : Int
  f : Int
deriving DecidableEq
def zb : Bx:=⟨0,0,0,0,0,0⟩
def Bx.inb (B : Bx) (x y z : Int) : Bool:=Pt.inB x y z B.a B.b B.c B.d B.e B.f
def Bx.emp (B : Bx) : Bool:=Pt.emp B.a B.b B.c B.d B.e B.f
def Bx.vol (B : Bx) : Int:=Pt.vol B.a B.b B.c B.d B.e B.f
def Bx.ix (B : Bx) (x y z : Int) : Int:=Pt.idx x y z B.a B.b B.c B.d B.e
def Bx.ax (B : Bx) (k : Int) : Int:=B.a + k % (B.d - B.a)
def Bx.ay (B : Bx) (k : Int) : Int:=B.b + k / (B.d - B.a) % (B.e - B.b)
def Bx.az (B : Bx) (k : Int) : Int:=B.c + k / (B.d - B.a) / (B.e - B.b)
/-- the grid of a box by a function -/
def mk (B : Bx) (F : Int → Int → Int → Int) : List Int:=(List.range B.vol.toNat).map fun (k : Nat) => F (B.ax k) (B.ay k) (B.az k)
def get (B : Bx) (l : List Int) (x y z : Int) : Int:=if B.inb x y z then l.getD (B.ix x y z).toNat 0 else 0
section
variable {B : Bx} {x y z k : Int} {F G : Int → Int → Int → Int} {l m : List Int}
theorem vol_nn (B : Bx) : 0 ≤ B.vol:=Pt.vol_nonneg _ _ _ _ _ _
theorem emp_of (h : 0 < B.vol) : B.emp = false:=by
  cases he : B.emp
  · rfl
  · have : B.vol = 0:=Pt.vol_emp he
    omega
theorem at_in (h0 : 0 ≤ k) (h : k < B.vol) : B.inb (B.ax k) (B.ay k) (B.az k) = true:=(Pt.idx_at (emp_of (by omega)) ⟨h0,h⟩).1
theorem ix_at (h0 : 0 ≤ k) (h : k < B.vol) : B.ix (B.ax k) (B.ay k) (B.az k) = k:=(Pt.idx_at (emp_of (by omega)) ⟨h0,h⟩).2
theorem ix_bd (h : B.inb x y z = true) : 0 ≤ B.ix x y z ∧ B.ix x y z < B.vol:=⟨(Pt.idx_bd h).2.1,(Pt.idx_bd h).2.2.1⟩
theorem at_ix (h : B.inb x y z = true) : B.ax (B.ix x y z) = x ∧ B.ay (B.ix x y z) = y ∧ B.az (B.ix x y z) = z:=by
  have h1:=Pt.at_idx h
  unfold Bx.ax Bx.ay Bx.az Bx.ix
  rw [h1.1,h1.2.1,h1.2.2]
  omega
theorem mk_len (B : Bx) (F : Int → Int → Int → Int) : (mk B F).length = B.vol.toNat:=by simp [mk]
theorem mk_at {j : Nat} (h : (j : Int) < B.vol) : (mk B F)[j]? = some (F (B.ax j) (B.ay j) (B.az j)):=by
  unfold mk
  rw [List.getElem?_map,List.getElem?_range (by omega)];rfl
theorem get_mk : get B (mk B F) x y z = if B.inb x y z then F x y z else 0:=by
  unfold get
  cases h : B.inb x y z
  · rfl
  · have hb:=ix_bd h
    have e : ((B.ix x y z).toNat : Int) = B.ix x y z:=by omega
    have h2:=at_ix h
    rw [if_pos rfl,if_pos rfl,List.getD_eq_getElem?_getD,mk_at (by omega),e,h2.1,h2.2.1,h2.2.2];rfl
theorem get_at {j : Nat} (hl : l.length = B.vol.toNat) (h : j < l.length) : get B l (B.ax j) (B.ay j) (B.az j) = l.getD j 0:=by
  have hj : (j : Int) < B.vol:=by omega
  unfold get
  rw [at_in (by omega) hj,if_pos rfl,ix_at (by omega) hj];rfl
theorem mk_congr (h : ∀ x y z,B.inb x y z = true → F x y z = G x y z) : mk B F = mk B G:=by
  unfold mk
  refine List.map_congr_left fun k hk => ?_
  have hk2 : k < B.vol.toNat:=by simpa using hk
  exact h _ _ _ (at_in (by omega) (by omega))
end
end Go.Proofs.YtjdeaopdbenamaaDoor.Gm
/-
  Grids as mathematics: writing, filling, pasting, counting, differences, step by step. (No program.)
-/
namespace Go.Proofs.YtjdeaopdbenamaaDoor.Gm
open Go.Proofs.YtjdeaopdbenamaaDoor
set_option linter.unusedVariables false
/-- a change: the cell, what was, what is to be -/
structure Ch where
  x : Int
  y : Int
  z : Int
  o : Int
  n : Int
deriving DecidableEq
def wr1 (B : Bx) (l : List Int) (c : Ch) : List Int:=if B.inb c.x c.y c.z then l.set (B.ix c.x c.y c.z).toNat c.n else l
def wr (B : Bx) (l : List Int) (cs : List Ch) : List Int:=cs.foldl (wr1 B) l
/-- a grid with cells replaced up to number k -/
def upd (B : Bx) (P : Int → Int → Int → Bool) (V : Int → Int → Int → Int) (l : List Int) (k : Nat) : List Int :=
  (List.range l.length).map fun j => if decide (j < k) && P (B.ax j) (B.ay j) (B.az j) then V (B.ax j) (B.ay j) (B.az j) else l.getD j 0
section
variable {B : Bx} {P : Int → Int → Int → Bool} {V : Int → Int → Int → Int} {l : List Int} {k : Nat} {cs : List Ch} {c : Ch}
theorem wr1_len : (wr1 B l c).length = l.length:=by unfold wr1;split <;> simp
theorem wr_len : ∀ (cs : List Ch) (l : List Int),(wr B l cs).length = l.length
  | [],_ => rfl
  | c :: r,l => (wr_len r (wr1 B l c)).trans wr1_len
theorem wr_snoc : wr B l (cs ++ [c]) = wr1 B (wr B l cs) c:=by unfold wr;rw [List.foldl_append];rfl
theorem upd_len : (upd B P V l k).length = l.length:=by simp [upd]
theorem upd_at {j : Nat} (h : j < l.length) : (upd B P V l k)[j]? = some (if decide (j < k) && P (B.ax j) (B.ay j) (B.az j) then V (B.ax j) (B.ay j) (B.az j) else l.getD j 0):=by
  unfold upd
  rw [List.getElem?_map,List.getElem?_range h];rfl
theorem upd_zero : upd B P V l 0 = l:=by
  apply List.ext_getElem?
  intro j
  rcases Nat.lt_or_ge j l.length with h | h
  · rw [upd_at h,List.getD_eq_getElem?_getD,List.getElem?_eq_getElem h];simp
  · rw [List.getElem?_eq_none h,List.getElem?_eq_none (by rw [upd_len];omega)]
theorem upd_no (h : k < l.length) (hp : P (B.ax k) (B.ay k) (B.az k) = false) : upd B P V l (k + 1) = upd B P V l k:=by
  apply List.ext_getElem?
  intro j
  rcases Nat.lt_or_ge j l.length with hj | hj
  · rw [upd_at hj,upd_at hj]
    by_cases e : j = k
    · subst e;rw [hp];simp
    · have : (decide (j < k + 1)) = decide (j < k):=by rw [Bool.eq_iff_iff];simp;omega
      rw [this]
  · rw [List.getElem?_eq_none (by rw [upd_len];omega),List.getElem?_eq_none (by rw [upd_len];omega)]
theorem upd_yes (h : k < l.length) (hp : P (B.ax k) (B.ay k) (B.az k) = true) : upd B P V l (k + 1) = (upd B P V l k).set k (V (B.ax k) (B.ay k) (B.az k)):=by
  apply List.ext_getElem?
  intro j
  rcases Nat.lt_or_ge j l.length with hj | hj
  · rw [upd_at hj]
    by_cases e : j = k
    · subst e
      have e1 : ((upd B P V l j).set j (V (B.ax j) (B.ay j) (B.az j)))[j]? = some (V (B.ax j) (B.ay j) (B.az j)):=by rw [List.getElem?_set];simp [upd_len,hj]
      rw [e1,hp];simp
    · have e1 : ((upd B P V l k).set k (V (B.ax k) (B.ay k) (B.az k)))[j]? = (upd B P V l k)[j]?:=by rw [List.getElem?_set];simp [Ne.symm e]
      have e2 : (decide (j < k + 1)) = decide (j < k):=by rw [Bool.eq_iff_iff];simp;omega
      rw [e1,upd_at hj,e2]
  · rw [List.getElem?_eq_none (by rw [upd_len];omega),List.getElem?_eq_none (by rw [List.length_set,upd_len];omega)]
theorem upd_all (hl : l.length = B.vol.toNat) : upd B P V l l.length = mk B (fun x y z => if P x y z then V x y z else get B l x y z):=by
  apply List.ext_getElem?
  intro j
  rcases Nat.lt_or_ge j l.length with hj | hj
  · rw [upd_at hj,mk_at (by omega),get_at hl hj,decide_eq_true hj];simp
  · rw [List.getElem?_eq_none (by rw [upd_len];omega),List.getElem?_eq_none (by rw [mk_len];omega)]
end
/-- how many cells have a material -/
def cnt (l : List Int) (m : Int) : Nat:=l.countP (fun v => decide (v = m))
theorem cnt_take {l : List Int} {k : Nat} {v m : Int} (h : l[k]? = some v) : cnt (l.take (k + 1)) m = cnt (l.take k) m + (if v = m then 1 else 0):=by
  obtain ⟨hk,rfl⟩:=List.getElem?_eq_some_iff.1 h
  unfold cnt
  rw [List.take_succ_eq_append_getElem hk,List.countP_append]
  by_cases e : l[k] = m <;> simp [e]
/-- the differences in the first k cells -/
def dif1 (B : Bx) (l : List Int) (C : Bx) (m : List Int) (k : Nat) : Option Ch :=
  if C.inb (B.ax k) (B.ay k) (B.az k) && decide (get C m (B.ax k) (B.ay k) (B.az k) ≠ l.getD k 0) then some ⟨B.ax k,B.ay k,B.az k,l.getD k 0,get C m (B.ax k) (B.ay k) (B.az k)⟩ else none
def dif (B : Bx) (l : List Int) (C : Bx) (m : List Int) (k : Nat) : List Ch:=(List.range k).filterMap (dif1 B l C m)
theorem dif_succ {B C : Bx} {l m : List Int} {k : Nat} : dif B l C m (k + 1) = dif B l C m k ++ (match dif1 B l C m k with | some c => [c] | none => []):=by
  unfold dif
  rw [List.range_succ,List.filterMap_append]
  cases h : dif1 B l C m k <;> simp [h]
end Go.Proofs.YtjdeaopdbenamaaDoor.Gm
