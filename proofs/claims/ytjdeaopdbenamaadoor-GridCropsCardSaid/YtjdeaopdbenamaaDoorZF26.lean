/-
  Grids as mathematics: boxes of cells, what stands in a cell, grids made by a function. (No program.)
-/
import Derived.Test.YtjdeaopdbenamaaDoorZF00
import Derived.Test.YtjdeaopdbenamaaDoorZF02
import Derived.Test.YtjdeaopdbenamaaDoorZF22
import Derived.Test.YtjdeaopdbenamaaDoorZF25
import Derived.Test.YtjdeaopdbenamaaDoorZF24
import Derived.Test.YtjdeaopdbenamaaDoorZF08
import Derived.Test.YtjdeaopdbenamaaDoorZF03
import Derived.Handy
import Derived.Laws.StructEq
namespace Go.Proofs.YtjdeaopdbenamaaDoor.Gm
open Go.Proofs.YtjdeaopdbenamaaDoor
set_option linter.unusedVariables false
/-- a box: its least corner and the one behind its greatest -/
structure Bx where
  a : Int
  b : Int
  c : Int
  d : Int
  e : Int
  f : Int
deriving DecidableEq
def zb : Bx:=⟨0,0,0,0,0,0⟩
def Bx.inb (B : Bx) (x y z : Int) : Bool:=Pt.inB x y z B.a B.b B.c B.d B.e B.f
def Bx.emp (B : Bx) : Bool:=Pt.emp B.a B.b B.c B.d B.e B.f
def Bx.vol (B : Bx) : Int:=Pt.vol B.a B.b B.c B.d B.e B.f
def Bx.ix (B : Bx) (x y z : Int) : Int:=Pt.idx x y z B.a B.b B.c B.d B.e
def Bx.ax (B : Bx) (k : Int) : Int:=B.a + k % (B.d - B.a)
def Bx.ay (B : Bx) (k : Int) : Int:=B.b + k / (B.d - B.a) % (B.e - B.b)
def Bx.az (B : Bx) (k : Int) : Int:=B.c + k / (B.d - B.a) / (B.e - B.b)
/-- the grid of a box by a function -/
def mk (B : Bx) (F : Int → Int → Int → Int) : List Int:=(List.range B.vol.toNat).map fun (k : Nat)=>F (B.ax k) (B.ay k) (B.az k)
def get (B : Bx) (l : List Int) (x y z : Int) : Int:=if B.inb x y z then l.getD (B.ix x y z).toNat 0 else 0
section
variable {B : Bx} {x y z k : Int} {F G : Int → Int → Int → Int} {l m : List Int}
theorem vol_nn (B : Bx) : 0 ≤ B.vol:=Pt.vol_nonneg _ _ _ _ _ _
theorem emp_of (h : 0 < B.vol) : B.emp = false:=by
  cases he : B.emp
  · rfl
  · have : B.vol = 0:=Pt.vol_emp he
    omega
theorem at_in (h0 : 0 ≤ k) (h : k < B.vol) : B.inb (B.ax k) (B.ay k) (B.az k) = true:=(Pt.idx_at (emp_of (by omega)) ⟨h0,h⟩).1
theorem ix_at (h0 : 0 ≤ k) (h : k < B.vol) : B.ix (B.ax k) (B.ay k) (B.az k) = k:=(Pt.idx_at (emp_of (by omega)) ⟨h0,h⟩).2
theorem ix_bd (h : B.inb x y z = true) : 0 ≤ B.ix x y z ∧ B.ix x y z < B.vol:=⟨(Pt.idx_bd h).2.1,(Pt.idx_bd h).2.2.1⟩
theorem at_ix (h : B.inb x y z = true) : B.ax (B.ix x y z) = x ∧ B.ay (B.ix x y z) = y ∧ B.az (B.ix x y z) = z:=by
  have h1:=Pt.at_idx h
  unfold Bx.ax Bx.ay Bx.az Bx.ix
  rw [h1.1,h1.2.1,h1.2.2]
  omega
theorem mk_len (B : Bx) (F : Int → Int → Int → Int) : (mk B F).length = B.vol.toNat:=by simp [mk]
theorem mk_at {j : Nat} (h : (j : Int) < B.vol) : (mk B F)[j]? = some (F (B.ax j) (B.ay j) (B.az j)):=by
  unfold mk
  rw [List.getElem?_map,List.getElem?_range (by omega)];rfl
theorem get_mk : get B (mk B F) x y z = if B.inb x y z then F x y z else 0:=by
  unfold get
  cases h : B.inb x y z
  · rfl
  · have hb:=ix_bd h
    have e : ((B.ix x y z).toNat : Int) = B.ix x y z:=by omega
    have h2:=at_ix h
    rw [if_pos rfl,if_pos rfl,List.getD_eq_getElem?_getD,mk_at (by omega),e,h2.1,h2.2.1,h2.2.2];rfl
theorem get_at {j : Nat} (hl : l.length = B.vol.toNat) (h : j < l.length) : get B l (B.ax j) (B.ay j) (B.az j) = l.getD j 0:=by
  have hj : (j : Int) < B.vol:=by omega
  unfold get
  rw [at_in (by omega) hj,if_pos rfl,ix_at (by omega) hj];rfl
theorem mk_get (hl : l.length = B.vol.toNat) : mk B (get B l) = l:=by
  apply List.ext_getElem?
  intro j
  rcases Nat.lt_or_ge j l.length with h | h
  · rw [mk_at (by omega),get_at hl h,List.getD_eq_getElem?_getD,List.getElem?_eq_getElem h];rfl
  · rw [List.getElem?_eq_none h,List.getElem?_eq_none (by rw [mk_len];omega)]
theorem mk_congr (h : ∀ x y z,B.inb x y z = true → F x y z = G x y z) : mk B F = mk B G:=by
  unfold mk
  refine List.map_congr_left fun k hk=>?_
  have hk2 : k < B.vol.toNat:=by simpa using hk
  exact h _ _ _ (at_in (by omega) (by omega))
theorem eq_of_get (hl : l.length = B.vol.toNat) (hm : m.length = B.vol.toNat) (h : ∀ x y z,B.inb x y z = true → get B l x y z = get B m x y z) : l = m:=by
  rw [← mk_get hl,← mk_get hm];exact mk_congr h
end
end Go.Proofs.YtjdeaopdbenamaaDoor.Gm
/-
  The least index at which something fails. (No program.)
-/
namespace Go.Proofs.YtjdeaopdbenamaaDoor.Ff
set_option linter.unusedVariables false
/-- the least index below n at which p fails, else n -/
def ff (p : Nat → Bool) (n : Nat) : Nat:=(List.range n).findIdx (fun i=>!p i)
section
variable {p : Nat → Bool} {n k : Nat}
theorem ff_le : ff p n ≤ n:=by have:=List.findIdx_le_length (p:=fun i=>!p i) (xs:=List.range n);simpa [ff] using this
theorem ff_before {j : Nat} (h : j < ff p n) : p j = true:=by
  have:=List.not_of_lt_findIdx (p:=fun i=>!p i) (xs:=List.range n) h
  simpa using this
theorem ff_at (h : ff p n < n) : p (ff p n) = false:=by
  have h1 : ff p n < (List.range n).length:=by simpa using h
  have:=List.findIdx_getElem (p:=fun i=>!p i) (xs:=List.range n) (w:=h1)
  have e : (List.range n)[ff p n]'h1 = ff p n:=by simp
  change (!p ((List.range n)[ff p n]'h1)) = true at this
  rw [e] at this
  simpa using this
theorem ff_hit (h : k ≤ ff p n) (hk : k < n) (hp : p k = false) : ff p n = k:=by
  rcases Nat.lt_or_ge k (ff p n) with h1 | h1
  · rw [ff_before h1] at hp;cases hp
  · omega
theorem ff_step (h : k ≤ ff p n) (hk : k < n) (hp : p k = true) : k + 1 ≤ ff p n:=by
  rcases Nat.lt_or_ge k (ff p n) with h1 | h1
  · exact h1
  · have e : ff p n = k:=by omega
    have:=ff_at (p:=p) (n:=n) (by omega)
    rw [e,hp] at this;cases this
theorem ff_end (h : n ≤ ff p n) : ff p n = n:=Nat.le_antisymm ff_le h
theorem ff_all : ff p n = n ↔ ∀ i,i < n → p i = true:=by
  constructor
  · intro h i hi;exact ff_before (n:=n) (by omega)
  · intro h
    rcases Nat.lt_or_ge (ff p n) n with h1 | h1
    · have:=ff_at h1
      rw [h _ h1] at this;cases this
    · exact ff_end h1
/-- all below n -/
def al (p : Nat → Bool) (n : Nat) : Bool:=decide (ff p n = n)
theorem al_yes (h : n ≤ ff p n) : al p n = true:=decide_eq_true (ff_end h)
theorem al_no (hk : k ≤ ff p n) (h : k < n) (hp : p k = false) : al p n = false:=by
  unfold al;rw [ff_hit hk h hp];exact decide_eq_false (by omega)
theorem al_iff : al p n = true ↔ ∀ i,i < n → p i = true:=by unfold al;rw [decide_eq_true_iff];exact ff_all
end
end Go.Proofs.YtjdeaopdbenamaaDoor.Ff
/-
  Grids as mathematics: writing, filling, pasting, counting, differences, step by step. (No program.)
-/
namespace Go.Proofs.YtjdeaopdbenamaaDoor.Gm
open Go.Proofs.YtjdeaopdbenamaaDoor
set_option linter.unusedVariables false
/-- a change: the cell, what was, what is to be -/
structure Ch where
  x : Int
  y : Int
  z : Int
  o : Int
  n : Int
deriving DecidableEq
def wr1 (B : Bx) (l : List Int) (c : Ch) : List Int:=if B.inb c.x c.y c.z then l.set (B.ix c.x c.y c.z).toNat c.n else l
def wr (B : Bx) (l : List Int) (cs : List Ch) : List Int:=cs.foldl (wr1 B) l
section
variable {B : Bx} {P : Int → Int → Int → Bool} {V : Int → Int → Int → Int} {l : List Int} {k : Nat} {cs : List Ch} {c : Ch}
end
/-- how many cells have a material -/
def cnt (l : List Int) (m : Int) : Nat:=l.countP (fun v=>decide (v = m))
theorem cnt_take {l : List Int} {k : Nat} {v m : Int} (h : l[k]? = some v) : cnt (l.take (k + 1)) m = cnt (l.take k) m + (if v = m then 1 else 0):=by
  obtain ⟨hk,rfl⟩:=List.getElem?_eq_some_iff.1 h
  unfold cnt
  rw [List.take_succ_eq_append_getElem hk,List.countP_append]
  by_cases e : l[k] = m <;> simp [e]
/-- the differences in the first k cells -/
def dif1 (B : Bx) (l : List Int) (C : Bx) (m : List Int) (k : Nat) : Option Ch :=
  if C.inb (B.ax k) (B.ay k) (B.az k) && decide (get C m (B.ax k) (B.ay k) (B.az k) ≠ l.getD k 0) then some ⟨B.ax k,B.ay k,B.az k,l.getD k 0,get C m (B.ax k) (B.ay k) (B.az k)⟩ else none
def dif (B : Bx) (l : List Int) (C : Bx) (m : List Int) (k : Nat) : List Ch:=(List.range k).filterMap (dif1 B l C m)
end Go.Proofs.YtjdeaopdbenamaaDoor.Gm
/-
  The specification's boxes, in this text's words.
-/
namespace Go.Proofs.YtjdeaopdbenamaaDoor
open Go Go.RowKit
set_option linter.unusedVariables false
open Gm (Bx Ch)
namespace Gm
def rp (x : Int) : Prop:=-1048575 ≤ x ∧ x ≤ 1048575
def Bx.rg (B : Bx) : Prop:=(rp B.a ∧ rp B.b ∧ rp B.c) ∧ (rp B.d ∧ rp B.e ∧ rp B.f)
def rp3 (x y z : Int) : Prop:=rp x ∧ rp y ∧ rp z
def ixr (B : Bx) (x y z : Int) : Int:=if B.inb x y z then B.ix x y z else -1
/-- a grid whose cells are those of its box -/
structure ok (B : Bx) (l : List Int) : Prop where
  rg : B.rg
  len : l.length = B.vol.toNat
  max : B.vol ≤ 2097152
theorem ok.vol {B : Bx} {l : List Int} (h : ok B l) : (l.length : Int) = B.vol:=by
  have:=h.len
  have:=vol_nn B
  omega
theorem ixr_neg {B : Bx} {x y z : Int} {l : List Int} (h : ixr B x y z < 0) : get B l x y z = 0:=by
  unfold ixr at h
  cases hi : B.inb x y z
  · unfold get;rw [hi];rfl
  · rw [hi,if_pos rfl] at h
    have:=ix_bd hi;omega
theorem ixr_pos {B : Bx} {x y z : Int} (h : ¬ ixr B x y z < 0) : B.inb x y z = true ∧ ixr B x y z = B.ix x y z ∧ 0 ≤ B.ix x y z ∧ B.ix x y z < B.vol:=by
  unfold ixr at h ⊢
  cases hi : B.inb x y z
  · rw [hi] at h;simp at h
  · have:=ix_bd hi
    exact ⟨rfl,if_pos rfl,this⟩
theorem get_in {B : Bx} {x y z : Int} {l : List Int} (h : B.inb x y z = true) {q : Nat} (hq : B.ix x y z = (q : Int)) : get B l x y z = l.getD q 0:=by
  unfold get;rw [h,if_pos rfl,hq];rfl
end Gm
section
variable (w : World)
theorem vol_b (B : Bx) (h : B.rg) : Calls Tryd.prog 10 #[.agg #[B.a, B.b, B.c, B.d, B.e, B.f]] w fun e w'=>e = .returned B.vol ∧ Below w.heap.size w w' :=
  rvolume_any _ _ _ _ _ _ w ⟨h.1.1,h.1.2.1,h.1.2.2,h.2.1,h.2.2.1,h.2.2.2⟩
theorem in_b (x y z : Int) (B : Bx) : Calls Tryd.prog 23 #[.agg #[x, y, z], .agg #[B.a, B.b, B.c, B.d, B.e, B.f]] w fun e w'=>e = .returned (.bool (B.inb x y z)) ∧ Below w.heap.size w w' :=
  rin_any _ _ _ _ _ _ _ _ _ _ w rfl
end
theorem Gm.at_rp {B : Bx} {k : Int} (h : B.rg) (h0 : 0 ≤ k) (hk : k < B.vol) : Gm.rp3 (B.ax k) (B.ay k) (B.az k):=by
  have h1:=Pt.inB_true.1 (Gm.at_in h0 hk)
  have h2:=h
  unfold Bx.rg Gm.rp at h2
  refine ⟨⟨?_, ?_⟩,⟨?_, ?_⟩,⟨?_, ?_⟩⟩ <;> omega
end Go.Proofs.YtjdeaopdbenamaaDoor
/-
  Points, boxes and changes compared.
-/
namespace Go.Proofs.YtjdeaopdbenamaaDoor
open Go Go.RowKit
set_option linter.unusedVariables false
set_option linter.unusedSimpArgs false
section
variable {ev : Operand → Value} {o : Oper} {x y : Operand} {t' : TypeId} (W : World)
set_option maxHeartbeats 2000000 in
theorem op_bx_eql (a0 a1 a2 a3 a4 a5 b0 b1 b2 b3 b4 b5 : Int) (ho : o.op = .binOp .eql 25 x y t') (hx : ev x = .agg #[a0, a1, a2, a3, a4, a5]) (hy : ev y = .agg #[b0, b1, b2, b3, b4, b5]) : (execOp ev o).run Tryd.prog W = .ok (.value (.bool (decide (a0 = b0 ∧ a1 = b1 ∧ a2 = b2 ∧ a3 = b3 ∧ a4 = b4 ∧ a5 = b5)))) W:=by
  unfold execOp
  rw [ho]
  simp only [hx,hy]
  by_cases h0 : a0 = b0
  · subst h0
    by_cases h1 : a1 = b1
    · subst h1
      by_cases h2 : a2 = b2
      · subst h2
        by_cases h3 : a3 = b3
        · subst h3
          by_cases h4 : a4 = b4
          · subst h4
            by_cases h5 : a5 = b5
            · subst h5
              go_simp
            · go_simp <;> (try simp [h5])
          · go_simp <;> (try simp [h4])
        · go_simp <;> (try simp [h3])
      · go_simp <;> (try simp [h2])
    · go_simp <;> (try simp [h1])
  · go_simp <;> (try simp [h0])
set_option maxHeartbeats 2000000 in
theorem op_bx_neq (a0 a1 a2 a3 a4 a5 b0 b1 b2 b3 b4 b5 : Int) (ho : o.op = .binOp .neq 25 x y t') (hx : ev x = .agg #[a0, a1, a2, a3, a4, a5]) (hy : ev y = .agg #[b0, b1, b2, b3, b4, b5]) : (execOp ev o).run Tryd.prog W = .ok (.value (.bool (decide (¬ (a0 = b0 ∧ a1 = b1 ∧ a2 = b2 ∧ a3 = b3 ∧ a4 = b4 ∧ a5 = b5))))) W:=by
  unfold execOp
  rw [ho]
  simp only [hx,hy]
  by_cases h0 : a0 = b0
  · subst h0
    by_cases h1 : a1 = b1
    · subst h1
      by_cases h2 : a2 = b2
      · subst h2
        by_cases h3 : a3 = b3
        · subst h3
          by_cases h4 : a4 = b4
          · subst h4
            by_cases h5 : a5 = b5
            · subst h5
              go_simp
            · go_simp <;> (try simp [h5])
          · go_simp <;> (try simp [h4])
        · go_simp <;> (try simp [h3])
      · go_simp <;> (try simp [h2])
    · go_simp <;> (try simp [h1])
  · go_simp <;> (try simp [h0])
set_option maxHeartbeats 2000000 in
theorem op_ch_neq (a0 a1 a2 a3 a4 b0 b1 b2 b3 b4 : Int) (ho : o.op = .binOp .neq 74 x y t') (hx : ev x = .agg #[a0, a1, a2, a3, a4]) (hy : ev y = .agg #[b0, b1, b2, b3, b4]) : (execOp ev o).run Tryd.prog W = .ok (.value (.bool (decide (¬ (a0 = b0 ∧ a1 = b1 ∧ a2 = b2 ∧ a3 = b3 ∧ a4 = b4))))) W:=by
  unfold execOp
  rw [ho]
  simp only [hx,hy]
  by_cases h0 : a0 = b0
  · subst h0
    by_cases h1 : a1 = b1
    · subst h1
      by_cases h2 : a2 = b2
      · subst h2
        by_cases h3 : a3 = b3
        · subst h3
          by_cases h4 : a4 = b4
          · subst h4
            go_simp
          · go_simp <;> (try simp [h4])
        · go_simp <;> (try simp [h3])
      · go_simp <;> (try simp [h2])
    · go_simp <;> (try simp [h1])
  · go_simp <;> (try simp [h0])
end
end Go.Proofs.YtjdeaopdbenamaaDoor
