/-
  Differences in the order of the shared box are differences in the order of the first one. (No program.)
-/
import Derived.Test.YtjdeaopdbenamaaDoorZD33
import Derived.Test.YtjdeaopdbenamaaDoorZD27
namespace Go.Proofs.YtjdeaopdbenamaaDoor.Gm
open Go Go.Proofs.YtjdeaopdbenamaaDoor
set_option linter.unusedVariables false
/-- lists that are strictly sorted and have the same members -/
theorem srt_eq {α : Type} {lt : α → α → Prop} (ha : ∀ a b,lt a b → ¬ lt b a) : ∀ {l m : List α},l.Pairwise lt → m.Pairwise lt → (∀ x,x ∈ l ↔ x ∈ m) → l = m
  | [],[],_,_,_ => rfl
  | [],b :: m,_,_,h => by have:=(h b).2 List.mem_cons_self;cases this
  | a :: l,[],_,_,h => by have:=(h a).1 List.mem_cons_self;cases this
  | a :: l,b :: m,hl,hm,h => by
    have hl2:=List.pairwise_cons.1 hl
    have hm2:=List.pairwise_cons.1 hm
    have e : a = b:=by
      rcases List.mem_cons.1 ((h a).1 List.mem_cons_self) with e | h1
      · exact e
      · rcases List.mem_cons.1 ((h b).2 List.mem_cons_self) with e | h2
        · exact e.symm
        · exact absurd (hl2.1 b h2) (ha _ _ (hm2.1 a h1))
    subst e
    rw [srt_eq ha hl2.2 hm2.2 (fun x => ⟨fun hx => ?_,fun hx => ?_⟩)]
    · rcases List.mem_cons.1 ((h x).1 (List.mem_cons_of_mem _ hx)) with e | h1
      · subst e;exact absurd (hl2.1 x hx) (ha _ _ (hl2.1 x hx))
      · exact h1
    · rcases List.mem_cons.1 ((h x).2 (List.mem_cons_of_mem _ hx)) with e | h1
      · subst e;exact absurd (hm2.1 x hx) (ha _ _ (hm2.1 x hx))
      · exact h1
def plt (p q : Int × Int × Int) : Prop:=p.2.2 < q.2.2 ∨ (p.2.2 = q.2.2 ∧ (p.2.1 < q.2.1 ∨ (p.2.1 = q.2.1 ∧ p.1 < q.1)))
theorem plt_as (p q : Int × Int × Int) (h : plt p q) : ¬ plt q p:=by unfold plt at *;omega
def atp (B : Bx) (k : Nat) : Int × Int × Int:=(B.ax k,B.ay k,B.az k)
theorem dm_lt {i j X : Int} (hX : 0 < X) (h : i < j) : i / X < j / X ∨ (i / X = j / X ∧ i % X < j % X):=by
  have h1 : i / X ≤ j / X:=Int.ediv_le_ediv hX (by omega)
  rcases Int.lt_or_eq_of_le h1 with h2 | h2
  · exact .inl h2
  · refine .inr ⟨h2, ?_⟩
    have e1:=Int.mul_ediv_add_emod i X
    have e2:=Int.mul_ediv_add_emod j X
    rw [h2] at e1
    omega
theorem atp_lt {B : Bx} {i j : Nat} (h : i < j) (hj : (j : Int) < B.vol) : plt (atp B i) (atp B j):=by
  have he:=Pt.emp_false.1 (emp_of (B:=B) (by omega))
  have hX : 0 < B.d - B.a:=by omega
  have hY : 0 < B.e - B.b:=by omega
  unfold plt atp Bx.ax Bx.ay Bx.az
  simp only
  rcases dm_lt (i:=i) (j:=j) hX (by omega) with h1 | ⟨h1,h2⟩
  · rcases dm_lt hY h1 with h3 | ⟨h3,h4⟩
    · exact .inl (by omega)
    · exact .inr ⟨by omega, .inl (by omega)⟩
  · rw [h1]
    exact .inr ⟨rfl, .inr ⟨rfl,by omega⟩⟩
def pts (B : Bx) : List (Int × Int × Int):=(List.range B.vol.toNat).map (atp B)
theorem pts_srt (B : Bx) : (pts B).Pairwise plt:=by
  unfold pts
  rw [List.pairwise_map]
  refine (List.pairwise_lt_range (n:=B.vol.toNat)).imp_of_mem (fun {i j} hi hj h => atp_lt h ?_)
  have:=List.mem_range.1 hj
  omega
theorem pts_mem {B : Bx} {p : Int × Int × Int} : p ∈ pts B ↔ B.inb p.1 p.2.1 p.2.2 = true:=by
  unfold pts
  rw [List.mem_map]
  constructor
  · rintro ⟨k,hk,rfl⟩
    have:=List.mem_range.1 hk
    exact at_in (by omega) (by omega)
  · intro h
    have h1:=ix_bd h
    have h2:=at_ix h
    refine ⟨(B.ix p.1 p.2.1 p.2.2).toNat,List.mem_range.2 (by omega), ?_⟩
    have e : ((B.ix p.1 p.2.1 p.2.2).toNat : Int) = B.ix p.1 p.2.1 p.2.2:=by omega
    unfold atp
    rw [e,h2.1,h2.2.1,h2.2.2]
theorem pts_cap (B C : Bx) : pts (cap B C) = (pts B).filter (fun p => C.inb p.1 p.2.1 p.2.2):=by
  refine srt_eq plt_as (pts_srt _) ((pts_srt B).filter _) (fun p => ?_)
  rw [List.mem_filter,pts_mem,pts_mem,cap_in,Bool.and_eq_true]
theorem fm_congr {α β : Type} {f g : α → Option β} : ∀ {l : List α},(∀ x ∈ l,f x = g x) → l.filterMap f = l.filterMap g
  | [],_ => rfl
  | a :: l,h => by rw [List.filterMap_cons,List.filterMap_cons,h a List.mem_cons_self,fm_congr (fun x hx => h x (List.mem_cons_of_mem _ hx))]
/-- the differences along the shared box -/
def dfc1 (B : Bx) (l : List Int) (C : Bx) (m : List Int) (p : Int × Int × Int) : Option Ch :=
  if get B l p.1 p.2.1 p.2.2 = get C m p.1 p.2.1 p.2.2 then none else some ⟨p.1,p.2.1,p.2.2,get B l p.1 p.2.1 p.2.2,get C m p.1 p.2.1 p.2.2⟩
def dfc (B : Bx) (l : List Int) (C : Bx) (m : List Int) (k : Nat) : List Ch:=(List.range k).filterMap (fun j => dfc1 B l C m (atp (cap B C) j))
section
variable {B C : Bx} {l m : List Int} {k : Nat}
theorem dfc_eq (h : get B l ((cap B C).ax k) ((cap B C).ay k) ((cap B C).az k) = get C m ((cap B C).ax k) ((cap B C).ay k) ((cap B C).az k)) : dfc B l C m (k + 1) = dfc B l C m k:=by
  unfold dfc
  rw [List.range_succ,List.filterMap_append]
  have : dfc1 B l C m (atp (cap B C) k) = none:=if_pos h
  simp [this]
theorem dfc_ne (h : ¬ get B l ((cap B C).ax k) ((cap B C).ay k) ((cap B C).az k) = get C m ((cap B C).ax k) ((cap B C).ay k) ((cap B C).az k)) :
    dfc B l C m (k + 1) = dfc B l C m k ++ [⟨(cap B C).ax k,(cap B C).ay k,(cap B C).az k,get B l ((cap B C).ax k) ((cap B C).ay k) ((cap B C).az k),get C m ((cap B C).ax k) ((cap B C).ay k) ((cap B C).az k)⟩]:=by
  unfold dfc
  rw [List.range_succ,List.filterMap_append]
  have : dfc1 B l C m (atp (cap B C) k) = some ⟨(cap B C).ax k,(cap B C).ay k,(cap B C).az k,get B l ((cap B C).ax k) ((cap B C).ay k) ((cap B C).az k),get C m ((cap B C).ax k) ((cap B C).ay k) ((cap B C).az k)⟩:=if_neg h
  simp [this]
theorem dfc_all (h : ok B l) : dfc B l C m (cap B C).vol.toNat = dif B l C m l.length:=by
  have e1 : dfc B l C m (cap B C).vol.toNat = (pts (cap B C)).filterMap (dfc1 B l C m):=by
    unfold dfc pts;rw [List.filterMap_map];rfl
  have e2 : dif B l C m l.length = (pts B).filterMap (fun p => if C.inb p.1 p.2.1 p.2.2 = true then dfc1 B l C m p else none):=by
    unfold dif pts
    rw [h.len,List.filterMap_map]
    refine fm_congr (fun j hj => ?_)
    have hj2 : j < l.length:=by have:=List.mem_range.1 hj;have:=h.len;omega
    unfold dif1 dfc1 atp
    simp only [Function.comp]
    rw [get_at h.len hj2]
    cases hc : C.inb (B.ax j) (B.ay j) (B.az j)
    · rfl
    · generalize get C m (B.ax j) (B.ay j) (B.az j) = u
      generalize l.getD j 0 = v
      by_cases e : v = u
      · subst e;simp
      · have e2 : ¬ u = v:=fun h_ => e h_.symm
        simp [e,e2]
  rw [e1,e2,pts_cap,List.filterMap_filter]
end
end Go.Proofs.YtjdeaopdbenamaaDoor.Gm
