/-
  Append in a region that draws; a store into a slice of the call's own; slices that are read. (No program.)
-/
import Derived.Test.YtjdeaopdbenamaaDoorZD14
import Derived.Test.YtjdeaopdbenamaaDoorZD15
import Derived.Test.YtjdeaopdbenamaaDoorZD10
import Derived.Test.YtjdeaopdbenamaaDoorZD06
import Derived.Test.YtjdeaopdbenamaaDoorZD07
import Derived.Test.YtjdeaopdbenamaaDoorZD03
import Derived.Test.YtjdeaopdbenamaaDoorZD16
import Derived.Test.YtjdeaopdbenamaaDoorZD08
import Derived.Handy
import Derived.Laws.StructEq
namespace Go.Proofs.YtjdeaopdbenamaaDoor
open Go Go.RowKit
set_option linter.unusedVariables false
section
variable {P : Program} {ops : Array Oper} {md : Region.Mode} {Q : Exit → Act → World → Prop}
end
section
variable {w0 w w' : World} {F : Nat → Prop} {L M : List HP} {g n c k : Nat} {e : TypeId} {xs : List Value}
theorem own_cur {base : Nat} (h : w.ownsRow base e 1 (.slice (some ⟨g,0,none⟩) n c) n xs) : ∃ cur,w.heap[g]? = some (.cells cur e (0,0)) ∧ n ≤ c ∧ c ≤ maxLen ∧ cur.size = c * 1 ∧ cur.toList.take (n * 1) = xs ∧ xs.length = n:=by
  rcases h.2 with ⟨hv,_⟩ | ⟨g',cap,cur,hv,hb,hg,h1,h2,h3,h4⟩
  · cases hv
  · injection hv with e1 e2 e3
    injection e1 with e1
    injection e1 with e1
    subst e1
    subst e3
    have:=h.1
    exact ⟨cur,hg,h1,h2,h3,h4,by omega⟩
theorem own_cell {base : Nat} (h : w.ownsRow base e 1 (.slice (some ⟨g,0,none⟩) n c) n xs) (hk : k < n) : (∃ v,w.cell? ⟨g,k,none⟩ = some v) ∧ w.frozen? ⟨g,k,none⟩ = false:=by
  obtain ⟨cur,hg,h1,_,h3,h4,h5⟩:=own_cur h
  refine ⟨⟨cur[k]'(by omega), ?_⟩, ?_⟩
  · unfold World.cell?;rw [hg];simp [show k < cur.size by omega]
  · unfold World.frozen?;rw [hg];simp
/-- a store into a slice of the call's own -/
theorem St.ownPut (h : St w0 F (own (.slice (some ⟨g,0,none⟩) n c) e 1 n xs :: M) w) (hk : k < n) (u : Value) : St w0 F (own (.slice (some ⟨g,0,none⟩) n c) e 1 n (xs.set k u) :: M) (w.setCell ⟨g,k,none⟩ u):=by
  obtain ⟨f,⟨a,r,ha,hr,hd,hf⟩,_,hb⟩:=St.lend (L:=[own (.slice (some ⟨g,0,none⟩) n c) e 1 n xs]) (M:=M) h
  obtain ⟨cur,hg,h1,h2,h3,h4,h5⟩:=own_cur ha.1
  have hag : ∀ j,a j ↔ j = g:=fun j => (ha.2 j).trans (by simp [Value.ownBlock,eq_comm])
  refine hb (N:=[own (.slice (some ⟨g,0,none⟩) n c) e 1 n (xs.set k u)]) ⟨(Chg.setCell w g k u).mono (fun j _ hj => (hf j).2 (.inl ((hag j).2 hj))),fun j => j = g,⟨fun j => j = g,noB,⟨⟨by simp [h5], .inr ⟨g,c,cur.set! k u,rfl,Nat.zero_le _, ?_,h1,h2,by simp [h3], ?_⟩⟩,fun j => by simp [Value.ownBlock,eq_comm]⟩,fun _ h => h,fun _ _ h => h,fun j => by simp [noB]⟩,fun j hj => .inl ((hf j).2 (.inl ((hag j).2 hj)))⟩
  · simp [World.setCell,Array.getElem?_modify,hg]
  · rw [← h4];simp only [Array.set!_eq_setIfInBounds,Array.toList_setIfInBounds,List.take_set]
theorem St.ownPutAt {L : List HP} (h : St w0 F L w) (i : Nat) (hL : L[i]? = some (own (.slice (some ⟨g,0,none⟩) n c) e 1 n xs)) (hk : k < n) (u : Value) : St w0 F (L.set i (own (.slice (some ⟨g,0,none⟩) n c) e 1 n (xs.set k u))) (w.setCell ⟨g,k,none⟩ u) :=
  ((h.perm (perm_at hL)).ownPut hk u).perm (perm_set _ hL)
theorem rangeAt_part {w : World} {b o : Nat} {cs ds : List Value} (h : w.rangeAt b o cs) (f n : Nat) (e : (cs.drop f).take n = ds) : w.rangeAt b (o + f) ds:=fun j v hj => by
  rw [Nat.add_assoc]
  refine h (f + j) v ?_
  rw [← e,List.getElem?_take] at hj
  split at hj
  · rwa [List.getElem?_drop] at hj
  · cases hj
end
/-- a slice that is read: n elements of sz cells each -/
structure SL (w : World) (sz : Nat) (A : Option Addr) (n c : Nat) (xs : List Value) : Prop where
  len : xs.length = n * sz
  lies : Lies w A xs
  cap : n ≤ c
  bnd : c ≤ 9223372036854775807
section
variable {w w' : World} {sz : Nat} {A : Option Addr} {n c k : Nat} {xs : List Value}
theorem SL.gr (h : SL w sz A n c xs) (g : Gr w w') : SL w' sz A n c xs:=⟨h.len,h.lies.below g,h.cap,h.bnd⟩
theorem SL.addr (h : SL w sz A n c xs) (hs : 0 < sz) (hn : 0 < n) : ∃ b o,A = some ⟨b,o,none⟩:=by
  have hne : xs ≠ []:=by
    intro e
    have:=h.len
    rw [e] at this
    have h2 : 0 < n * sz:=Nat.mul_pos hn hs
    simp at this
    omega
  obtain ⟨b,o,hA,_⟩:=h.lies.at_ hne
  exact ⟨b,o,hA⟩
theorem SL.elem {b o : Nat} (h : SL w sz (some ⟨b,o,none⟩) n c xs) (j : Nat) {ds : List Value} (e : (xs.drop j).take ds.length = ds) : w.rangeAt b (o + j) ds:=by
  intro i v hi
  have h1 : xs[j + i]? = some v:=by
    have h2 : ds[i]? = some v:=hi
    rw [← e,List.getElem?_take] at h2
    split at h2
    · rwa [List.getElem?_drop] at h2
    · cases h2
  rcases h.lies with h0 | ⟨b',o',hA,hc⟩
  · rw [h0] at h1;simp at h1
  · injection hA with hA;injection hA with e1 e2;subst e1;subst e2
    have:=hc (j + i) _ h1
    rwa [← Nat.add_assoc] at this
theorem SL.nil (w : World) (sz c : Nat) (A : Option Addr) (hc : c ≤ 9223372036854775807) : SL w sz A 0 c []:=⟨by simp,Lies.nil _ _,Nat.zero_le _,hc⟩
theorem SL.ofOwn {base : Nat} {e : TypeId} (h : w.ownsRow base e sz (.slice A n c) n xs) : SL w sz A n c xs:=by
  obtain ⟨A',c',hv,h1,h2,_⟩:=own_shape h
  injection hv with e1 e2 e3
  subst e3
  exact ⟨h.1,Lies.own h,h1,Nat.le_trans h2 (by simp [maxLen])⟩
end
theorem SL.none0 {w : World} {A : Option Addr} {n c : Nat} {xs : List Value} (h : SL w 1 A n c xs) : A = none → n = 0:=by
  rintro rfl
  have:=h.len
  rcases h.lies with h0 | ⟨b,o,hA,_⟩
  · rw [h0] at this;simp at this;omega
  · cases hA
theorem ownAdr {w : World} {base : Nat} {e : TypeId} {A : Option Addr} {n c size : Nat} {xs : List Value} (h : w.ownsRow base e size (.slice A n c) n xs) (h0 : 0 < n) : ∃ g,A = some ⟨g,0,none⟩:=by
  rcases h.2 with ⟨_,hn⟩ | ⟨g,cap,cur,hv,_⟩
  · omega
  · injection hv with hA;exact ⟨g,hA⟩
theorem own_icl {w : World} {base : Nat} {e : TypeId} {A : Option Addr} {n c : Nat} {l : List Int} (h : w.ownsRow base e 1 (.slice A n c) n (l.map fun z => Value.int .i64 z)) : n = l.length:=by
  have:=h.1
  rw [List.length_map] at this
  omega
/-- integers as cells -/
def ic (l : List Int) : List Value:=l.map fun z => Value.int .i64 z
theorem ic_len (l : List Int) : (ic l).length = l.length:=by simp [ic]
theorem ic_set (l : List Int) (k : Nat) (z : Int) : (ic l).set k (.int .i64 z) = ic (l.set k z):=by simp [ic,List.map_set]
theorem ic_at {l : List Int} {k : Nat} (h : k < l.length) : ((ic l).drop k).take 1 = [.int .i64 (l.getD k 0)]:=by
  unfold ic
  rw [← List.map_drop,← List.map_take,List.drop_eq_getElem_cons h,List.getD_eq_getElem?_getD,List.getElem?_eq_getElem h];rfl
theorem SL.int {w : World} {b o n c : Nat} {l : List Int} (h : SL w 1 (some ⟨b,o,none⟩) n c (ic l)) (k : Nat) (hk : k < l.length) : w.rangeAt b (o + k) [.int .i64 (l.getD k 0)]:=h.elem k (ds:=[.int .i64 (l.getD k 0)]) (ic_at hk)
theorem ic_one (l : List Int) : ∀ u ∈ ic l,u.oneCell' = true:=by
  intro u hu
  obtain ⟨z,_,rfl⟩:=List.mem_map.1 hu
  rfl
end Go.Proofs.YtjdeaopdbenamaaDoor
/-
  The specification's boxes, in this text's words.
-/
namespace Go.Proofs.YtjdeaopdbenamaaDoor
open Go Go.RowKit
set_option linter.unusedVariables false
open Gm (Bx Ch)
namespace Gm
def rp (x : Int) : Prop:=-1048575 ≤ x ∧ x ≤ 1048575
def Bx.rg (B : Bx) : Prop:=(rp B.a ∧ rp B.b ∧ rp B.c) ∧ (rp B.d ∧ rp B.e ∧ rp B.f)
def rp3 (x y z : Int) : Prop:=rp x ∧ rp y ∧ rp z
def ixr (B : Bx) (x y z : Int) : Int:=if B.inb x y z then B.ix x y z else -1
/-- a grid whose cells are those of its box -/
structure ok (B : Bx) (l : List Int) : Prop where
  rg : B.rg
  len : l.length = B.vol.toNat
  max : B.vol ≤ 2097152
theorem ok.vol {B : Bx} {l : List Int} (h : ok B l) : (l.length : Int) = B.vol:=by
  have:=h.len
  have:=vol_nn B
  omega
theorem ixr_neg {B : Bx} {x y z : Int} {l : List Int} (h : ixr B x y z < 0) : get B l x y z = 0:=by
  unfold ixr at h
  cases hi : B.inb x y z
  · unfold get;rw [hi];rfl
  · rw [hi,if_pos rfl] at h
    have:=ix_bd hi;omega
theorem ixr_pos {B : Bx} {x y z : Int} (h : ¬ ixr B x y z < 0) : B.inb x y z = true ∧ ixr B x y z = B.ix x y z ∧ 0 ≤ B.ix x y z ∧ B.ix x y z < B.vol:=by
  unfold ixr at h ⊢
  cases hi : B.inb x y z
  · rw [hi] at h;simp at h
  · have:=ix_bd hi
    exact ⟨rfl,if_pos rfl,this⟩
theorem get_in {B : Bx} {x y z : Int} {l : List Int} (h : B.inb x y z = true) {q : Nat} (hq : B.ix x y z = (q : Int)) : get B l x y z = l.getD q 0:=by
  unfold get;rw [h,if_pos rfl,hq];rfl
end Gm
section
variable (w : World)
theorem vol_b (B : Bx) (h : B.rg) : Calls Tryd.prog 10 #[.agg #[.int .i64 B.a, .int .i64 B.b, .int .i64 B.c, .int .i64 B.d, .int .i64 B.e, .int .i64 B.f]] w fun e w' => e = .returned (.int .i64 B.vol) ∧ Below w.heap.size w w' :=
  rvolume_any _ _ _ _ _ _ w ⟨h.1.1,h.1.2.1,h.1.2.2,h.2.1,h.2.2.1,h.2.2.2⟩
theorem in_b (x y z : Int) (B : Bx) : Calls Tryd.prog 23 #[.agg #[.int .i64 x, .int .i64 y, .int .i64 z], .agg #[.int .i64 B.a, .int .i64 B.b, .int .i64 B.c, .int .i64 B.d, .int .i64 B.e, .int .i64 B.f]] w fun e w' => e = .returned (.bool (B.inb x y z)) ∧ Below w.heap.size w w' :=
  rin_any _ _ _ _ _ _ _ _ _ _ w rfl
end
theorem Gm.at_rp {B : Bx} {k : Int} (h : B.rg) (h0 : 0 ≤ k) (hk : k < B.vol) : Gm.rp3 (B.ax k) (B.ay k) (B.az k):=by
  have h1:=Pt.inB_true.1 (Gm.at_in h0 hk)
  have h2:=h
  unfold Bx.rg Gm.rp at h2
  refine ⟨⟨?_, ?_⟩,⟨?_, ?_⟩,⟨?_, ?_⟩⟩ <;> omega
end Go.Proofs.YtjdeaopdbenamaaDoor
/-
  Points, boxes and changes compared.
-/
namespace Go.Proofs.YtjdeaopdbenamaaDoor
open Go Go.RowKit
set_option linter.unusedVariables false
set_option linter.unusedSimpArgs false
section
variable {ev : Operand → Value} {o : Oper} {x y : Operand} {t' : TypeId} (W : World)
set_option maxHeartbeats 2000000 in
theorem op_bx_eql (a0 a1 a2 a3 a4 a5 b0 b1 b2 b3 b4 b5 : Int) (ho : o.op = .binOp .eql 25 x y t') (hx : ev x = .agg #[.int .i64 a0, .int .i64 a1, .int .i64 a2, .int .i64 a3, .int .i64 a4, .int .i64 a5]) (hy : ev y = .agg #[.int .i64 b0, .int .i64 b1, .int .i64 b2, .int .i64 b3, .int .i64 b4, .int .i64 b5]) : (execOp ev o).run Tryd.prog W = .ok (.value (.bool (decide (a0 = b0 ∧ a1 = b1 ∧ a2 = b2 ∧ a3 = b3 ∧ a4 = b4 ∧ a5 = b5)))) W:=by
  unfold execOp
  rw [ho]
  simp only [hx,hy]
  by_cases h0 : a0 = b0
  · subst h0
    by_cases h1 : a1 = b1
    · subst h1
      by_cases h2 : a2 = b2
      · subst h2
        by_cases h3 : a3 = b3
        · subst h3
          by_cases h4 : a4 = b4
          · subst h4
            by_cases h5 : a5 = b5
            · subst h5
              go_simp
            · go_simp <;> (try simp [h5])
          · go_simp <;> (try simp [h4])
        · go_simp <;> (try simp [h3])
      · go_simp <;> (try simp [h2])
    · go_simp <;> (try simp [h1])
  · go_simp <;> (try simp [h0])
set_option maxHeartbeats 2000000 in
theorem op_bx_neq (a0 a1 a2 a3 a4 a5 b0 b1 b2 b3 b4 b5 : Int) (ho : o.op = .binOp .neq 25 x y t') (hx : ev x = .agg #[.int .i64 a0, .int .i64 a1, .int .i64 a2, .int .i64 a3, .int .i64 a4, .int .i64 a5]) (hy : ev y = .agg #[.int .i64 b0, .int .i64 b1, .int .i64 b2, .int .i64 b3, .int .i64 b4, .int .i64 b5]) : (execOp ev o).run Tryd.prog W = .ok (.value (.bool (decide (¬ (a0 = b0 ∧ a1 = b1 ∧ a2 = b2 ∧ a3 = b3 ∧ a4 = b4 ∧ a5 = b5))))) W:=by
  unfold execOp
  rw [ho]
  simp only [hx,hy]
  by_cases h0 : a0 = b0
  · subst h0
    by_cases h1 : a1 = b1
    · subst h1
      by_cases h2 : a2 = b2
      · subst h2
        by_cases h3 : a3 = b3
        · subst h3
          by_cases h4 : a4 = b4
          · subst h4
            by_cases h5 : a5 = b5
            · subst h5
              go_simp
            · go_simp <;> (try simp [h5])
          · go_simp <;> (try simp [h4])
        · go_simp <;> (try simp [h3])
      · go_simp <;> (try simp [h2])
    · go_simp <;> (try simp [h1])
  · go_simp <;> (try simp [h0])
set_option maxHeartbeats 2000000 in
theorem op_ch_neq (a0 a1 a2 a3 a4 b0 b1 b2 b3 b4 : Int) (ho : o.op = .binOp .neq 74 x y t') (hx : ev x = .agg #[.int .i64 a0, .int .i64 a1, .int .i64 a2, .int .i64 a3, .int .i64 a4]) (hy : ev y = .agg #[.int .i64 b0, .int .i64 b1, .int .i64 b2, .int .i64 b3, .int .i64 b4]) : (execOp ev o).run Tryd.prog W = .ok (.value (.bool (decide (¬ (a0 = b0 ∧ a1 = b1 ∧ a2 = b2 ∧ a3 = b3 ∧ a4 = b4))))) W:=by
  unfold execOp
  rw [ho]
  simp only [hx,hy]
  by_cases h0 : a0 = b0
  · subst h0
    by_cases h1 : a1 = b1
    · subst h1
      by_cases h2 : a2 = b2
      · subst h2
        by_cases h3 : a3 = b3
        · subst h3
          by_cases h4 : a4 = b4
          · subst h4
            go_simp
          · go_simp <;> (try simp [h4])
        · go_simp <;> (try simp [h3])
      · go_simp <;> (try simp [h2])
    · go_simp <;> (try simp [h1])
  · go_simp <;> (try simp [h0])
end
end Go.Proofs.YtjdeaopdbenamaaDoor
