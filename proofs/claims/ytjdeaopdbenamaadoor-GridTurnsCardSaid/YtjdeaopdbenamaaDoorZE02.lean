/-
  Words for slices that are read, and append onto a row of the call's own from any source: no program is mentioned here.
-/
import Derived.WalkKit
import Derived.WalkSpells
import Derived.WalkLawsBesides
import Derived.Deep.AppendSrc
import Derived.Deep.Upon
import Derived.Deep.AppendLies
import Derived.Lib.Hide
import Derived.Deep.MidRow
import Derived.Deep.WholeRow
import Derived.ProofKit
import Derived.OpenShut
import Derived.ShutString
import Derived.ChangeOld
import Derived.SizedLaws
import Derived.LaidMore
import Derived.Stop.Joined
import Derived.Lib.LaidTab
import Derived.Stop.LaidErr
namespace Go.Proofs.YtjdeaopdbenamaaDoor
open Go.RowKit

/-- cell number j of the slice with address A holds xs[j] -/
def Lies (w : World) (A : Option Addr) (xs : List Value) : Prop :=
  xs = [] ∨ ∃ b o,A = some ⟨b,o,none⟩ ∧ ∀ j u,xs[j]? = some u → w.cell? ⟨b,o + j,none⟩ = some u

section
variable {w w' : World} {A : Option Addr} {xs : List Value}

theorem Lies.nil (w : World) (A : Option Addr) : Lies w A []:=.inl rfl
theorem Lies.keep (h : Lies w A xs) (hk : ∀ p : Addr,p.block < w.heap.size → w'.cell? p = w.cell? p) : Lies w' A xs:=by
  rcases h with h | ⟨b,o,hA,hc⟩
  · exact .inl h
  · exact .inr ⟨b,o,hA,fun j u hu=>(hk _ (World.block_lt_of_cell? w _ (hc j u hu))).trans (hc j u hu)⟩
theorem Lies.below (h : Lies w A xs) (hb : Below w.heap.size w w') : Lies w' A xs:=h.keep fun _ hp=>hb.cell hp
theorem Lies.alloc (h : Lies w A xs) (o : Obj) : Lies (w.alloc o) A xs:=h.below ((Below.refl _ _).alloc (Nat.le_refl _) o)
theorem Lies.drew (h : Lies w A xs) : Lies w.drew A xs:=h
theorem Lies.at_ (h : Lies w A xs) (hne : xs ≠ []) : ∃ b o,A = some ⟨b,o,none⟩ ∧ ∀ j u,xs[j]? = some u → w.cell? ⟨b,o + j,none⟩ = some u:=by
  rcases h with h | h
  · exact absurd h hne
  · exact h
theorem Lies.take (h : Lies w A xs) (k : Nat) : Lies w A (xs.take k):=by
  rcases h with rfl | ⟨b,o,hA,hc⟩
  · exact .inl (by simp)
  · refine .inr ⟨b,o,hA,fun j u hu=>hc j u ?_⟩
    rw [List.getElem?_take] at hu
    split at hu
    · exact hu
    · cases hu
theorem Lies.drop {b o : Nat} (h : Lies w (some ⟨b,o,none⟩) xs) (k : Nat) : Lies w (some ⟨b,o + k,none⟩) (xs.drop k):=by
  rcases h with rfl | ⟨b',o',hA,hc⟩
  · exact .inl (by simp)
  · injection hA with hA
    injection hA with h1 h2
    subst h1 h2
    refine .inr ⟨_,_,rfl,fun j u hu=>?_⟩
    rw [Nat.add_assoc]
    exact hc (k + j) u (by rw [← hu,List.getElem?_drop])
theorem Lies.own {base : Nat} {e : TypeId} {size n c : Nat} (h : w.ownsRow base e size (.slice A n c) n xs) : Lies w A xs:=by
  by_cases hn : n = 0
  · subst hn
    exact .inl (List.eq_nil_of_length_eq_zero (by simpa using h.1))
  · rcases h.2 with ⟨_,h0⟩ | ⟨g,cap,cur,hv,_⟩
    · exact absurd h0 hn
    · injection hv with hA _ _
      subst hA
      refine .inr ⟨g,0,rfl,fun j u hu=>?_⟩
      have:=h.cells (g:=g) rfl j u hu
      rwa [Addr.add_lit] at this
end

/-- the value of a slice of the call's own has n elements -/
theorem own_shape {w : World} {base : Nat} {e : TypeId} {size : Nat} {v : Value} {n : Nat} {xs : List Value} (h : w.ownsRow base e size v n xs) :
    ∃ A c,v = .slice A n c ∧ n ≤ c ∧ c ≤ maxLen ∧ Lies w A xs:=by
  rcases h.2 with ⟨rfl,rfl⟩ | ⟨g,cap,cur,rfl,_,_,h1,h2,_⟩
  · exact ⟨none,0,rfl,Nat.le_refl _,by simp [maxLen],Lies.own h⟩
  · exact ⟨_,cap,rfl,h1,h2,Lies.own h⟩

theorem own_below {w w' : World} {base : Nat} {e : TypeId} {size : Nat} {v : Value} {n : Nat} {xs : List Value} (h : w.ownsRow base e size v n xs) (hb : Below w.heap.size w w') : w'.ownsRow base e size v n xs :=
  h.kept (row:=none) ⟨hb.os,hb.tape,hb.output,hb.size,fun k hk _=>hb.block k hk⟩ (by cases hv : v.ownBlock <;> simp)
section
variable {P : Program} (w : World)

theorem Src.of_lies {size : Nat} {tx e' : TypeId} (hk : P.underlying tx = some (.slice e')) {A : Option Addr} {n : Nat} (c : Nat) {news : List Value} (hl : news.length = n * size) (hA : A = none → n = 0) (h : Lies w A news)
    (h1 : ∀ u ∈ news,u.oneCell' = true) : Src P size tx (.slice A n c) n news w:=by
  cases A with
  | none =>
    have:=hA rfl
    subst this
    have hn : news = []:=List.eq_nil_of_length_eq_zero (by simpa using hl)
    subst hn
    exact Src.ofNil w hk c
  | some a =>
    refine Src.ofSlice w hk a n c news hl ?_ h1
    intro j u hu
    rcases h with rfl | ⟨b,o,hA',hc⟩
    · simp at hu
    · injection hA' with hA'
      subst hA'
      rw [Addr.add_lit]
      exact hc j u hu

end

/-- a part of a slice of one-cell elements -/
theorem Lies.part {w : World} {A : Option Addr} {xs : List Value} (h : Lies w A xs) {lo hi mx : Nat} (h1 : hi ≤ mx) : Lies w (if mx = lo then A else A.map (·.add lo)) ((xs.take hi).drop lo):=by
  by_cases he : mx = lo
  · refine .inl (List.drop_eq_nil_of_le ?_)
    rw [List.length_take];omega
  · rw [if_neg he]
    rcases h.take hi with h' | ⟨b,o,rfl,hc⟩
    · rw [h'];exact .inl (by simp)
    · have : Lies w (some ⟨b,o,none⟩) (xs.take hi):=.inr ⟨b,o,rfl,hc⟩
      have:=this.drop lo
      simpa [Addr.add_lit] using this

/-- bytes as a string -/
def bstr (l : List UInt8) : ByteArray:=⟨l.toArray⟩
theorem ret_int {k : IntKind} {a b : Int} (h : a = b) : Ending.returned (.int k a) = .returned (.int k b):=by rw [h]
theorem ret_bool {a b : Bool} (h : a = b) : Ending.returned (.bool a) = .returned (.bool b):=by rw [h]

end Go.Proofs.YtjdeaopdbenamaaDoor
/-
  Laws for the walk: a conversion of bytes to a string; append of a string.
-/
namespace Go.Proofs.YtjdeaopdbenamaaDoor
open Go.RowKit

theorem Lies.new (w : World) (l : List Value) (t : TypeId) : Lies (w.alloc (.cells l.toArray t)) (some ⟨w.heap.size,0,none⟩) l :=
  .inr ⟨_,_,rfl,fun j u hu=>by rw [cell_of_row _ _ _ _ _ _ (heap_alloc_last w _)];simpa using hu⟩
theorem Lies.range {w : World} {b o : Nat} {l : List Value} (h : Lies w (some ⟨b,o,none⟩) l) : w.rangeAt b o l:=by
  rcases h with h | ⟨b',o',hA,hc⟩
  · subst h;intro j v hj;simp at hj
  · injection hA with hA
    injection hA with h1 h2
    subst h1 h2
    exact hc

end Go.Proofs.YtjdeaopdbenamaaDoor
/-
  Laws: copy of a whole array's bytes into the block that was made last; a function whose first of three results is an array.
-/
namespace Go.Proofs.YtjdeaopdbenamaaDoor
open Go.RowKit

theorem below_setCells {B b : Nat} (hb : B ≤ b) : ∀ (vs : List Value) (o : Nat) (w0 w : World),Below B w0 w → Below B w0 (w.setCells b o vs)
  | [],_,_,_,h=>h
  | v :: vs,o,w0,_,h=>below_setCells hb vs (o + 1) w0 _ (h.setCell (p:=⟨b,o,none⟩) hb v)

end Go.Proofs.YtjdeaopdbenamaaDoor
/-
  Laws: append onto a slice whose capacity is its length; rows of bytes and integers that came in.
-/
namespace Go.Proofs.YtjdeaopdbenamaaDoor
open Go.RowKit

/-- the cells of a slice of integers that came in, as a list -/
theorem lies_of_cells {w : World} {x : Addr} {len : Nat} {us : List Value} (_hl : us.length = len) (hc : ∀ i u,us[i]? = some u → w.cell? (x.add i) = some u) : Lies w (some x) us:=by
  by_cases h0 : us = []
  · exact .inl h0
  · obtain ⟨b,o,sp⟩:=x
    have hpos : 0 < us.length:=List.length_pos_iff.2 h0
    have h1:=hc 0 us[0] (List.getElem?_eq_getElem hpos)
    have hsp : sp = none:=by simpa [Addr.add] using World.cell?_spot h1
    subst hsp
    exact .inr ⟨b,o,rfl,fun j u hu=>by have:=hc j u hu;rwa [Addr.add_lit] at this⟩

theorem u8_wf {z : Int} (h : (Lit.int .u8 z).wf = true) : 0 ≤ z ∧ z < 256:=by
  simp only [Lit.wf,Bool.and_eq_true,decide_eq_true_eq] at h
  have h1 : IntKind.u8.min = 0:=rfl
  have h2 : IntKind.u8.max = 255:=rfl
  omega
theorem i64_wf {z : Int} (h : (Lit.int .i64 z).wf = true) : -9223372036854775808 ≤ z ∧ z ≤ 9223372036854775807:=by
  simp only [Lit.wf,Bool.and_eq_true,decide_eq_true_eq] at h
  have h1 : IntKind.i64.min = -9223372036854775808:=rfl
  have h2 : IntKind.i64.max = 9223372036854775807:=rfl
  omega

end Go.Proofs.YtjdeaopdbenamaaDoor
/-
  A slice that comes in, whose elements take several cells each, read as a list. (No program.)
-/
namespace Go.Proofs.YtjdeaopdbenamaaDoor
open Go.ChangeShapes Go.WideShapes Go.ChangeAt Go.RowKit
set_option linter.unusedVariables false
theorem flatMap_at {α β : Type} {f : α → List β} {sz : Nat} (hf : ∀ a,(f a).length = sz) (h0 : 0 < sz) : ∀ (l : List α) (t : Nat),(l.flatMap f)[t]? = (l[t / sz]?).bind fun a=>(f a)[t % sz]?
  | [],t=>by simp
  | a :: r,t=>by
    rw [List.flatMap_cons]
    rcases Nat.lt_or_ge t sz with h | h
    · rw [List.getElem?_append_left (by rw [hf];exact h),Nat.div_eq_of_lt h,Nat.mod_eq_of_lt h];rfl
    · rw [List.getElem?_append_right (by rw [hf];exact h),hf,flatMap_at hf h0 r (t - sz)]
      have e1 : t / sz = (t - sz) / sz + 1:=Nat.div_eq_sub_div h0 h
      have e2 : (t - sz) % sz = t % sz:=by rw [← Nat.mod_eq_sub_mod h]
      rw [e1,e2];rfl
section
variable {H : Type} {enc : TypeId × Value → H} {P : Program} {W : World} {a : Option Addr} {len cap : Nat} {T E : TypeId} {d : DataW H} {ps : List MemPlace}
theorem pick_list {α : Type} {p : Nat → α → Prop} : ∀ n : Nat,(∀ i,i < n → ∃ x,p i x) → ∃ l : List α,l.length = n ∧ ∀ i x,l[i]? = some x → p i x
  | 0,_=>⟨[],rfl,fun i x h=>by simp at h⟩
  | n + 1,h=>by
    obtain ⟨l,hl,hp⟩:=pick_list n (fun i hi=>h i (by omega))
    obtain ⟨x,hx⟩:=h n (by omega)
    refine ⟨l ++ [x],by simp [hl],fun i y hy=>?_⟩
    rcases Nat.lt_or_ge i l.length with hi | hi
    · rw [List.getElem?_append_left hi] at hy;exact hp i y hy
    · rw [List.getElem?_append_right hi] at hy
      have h0 : i - l.length = 0:=by
        have:=(List.getElem?_eq_some_iff.1 hy).1
        simp at this;omega
      rw [h0] at hy
      simp at hy
      subst hy
      rw [show i = n by omega];exact hx
theorem opened_rows {α : Type} (cells : α → List Value) (sz : Nat) (h0 : 0 < sz)
    (hd : DataW.Trod enc P W 0 (fun _=>true) true T (.slice a len cap) d ps) (hT : P.underlying T = some (.slice E)) (hc : P.cellsOf E = sz) (hcl : ∀ m,(cells m).length = sz)
    (hel : ∀ fuel cs x,DataW.trod enc P W 0 (fun _=>true) true fuel E cs = some x → ∃ m,cs = cells m) :
    ∃ l : List α,l.length = len ∧ Lies W a (l.flatMap cells) ∧ len ≤ cap ∧ cap ≤ maxLen:=by
  obtain ⟨fuel,hf⟩:=hd
  rcases DataW.trod_slice hT hf with ⟨hcs,_⟩ | ⟨x,l,c,elems,rest,n,_,hcs,_,_,hl,hm,hlen,hE,_⟩
  · simp [Value.cells] at hcs
    obtain ⟨rfl,rfl,rfl⟩:=hcs
    exact ⟨[],rfl,Lies.nil _ _,Nat.le_refl _,Nat.zero_le _⟩
  · simp [Value.cells] at hcs
    obtain ⟨rfl,rfl,rfl⟩:=hcs
    have each : ∀ i,i < len → ∃ m : α,∀ j u,(cells m)[j]? = some u → W.cell? (x.add (i * sz + j)) = some u:=by
      intro i hi
      have h1:=hE i hi
      rw [hc,List.getElem?_eq_getElem (by omega)] at h1
      obtain ⟨cs,hcs,ht⟩:=Option.bind_eq_some_iff.1 h1
      obtain ⟨m,rfl⟩:=hel _ _ _ ht
      refine ⟨m,fun j u hu=>?_⟩
      have hj : j < sz:=by
        have:=(List.getElem?_eq_some_iff.1 hu).1
        rw [hcl] at this;exact this
      have h2:=(World.cells?_some hcs).2.2 j hj
      rw [hu] at h2
      rw [← h2]
      exact congrArg W.cell? (Addr.add_add x (i * sz) j).symm
    obtain ⟨ls,hll,hlp⟩:=pick_list len each
    refine ⟨ls,hll, ?_,hl,hm⟩
    refine lies_of_cells (len:=(ls.flatMap cells).length) rfl ?_
    intro t u hu
    rw [flatMap_at hcl h0] at hu
    obtain ⟨m,hm1,hm2⟩:=Option.bind_eq_some_iff.1 hu
    have h3:=hlp (t / sz) m hm1 (t % sz) u hm2
    rwa [show t / sz * sz + t % sz = t by rw [Nat.mul_comm];exact Nat.div_add_mod t sz] at h3
end
end Go.Proofs.YtjdeaopdbenamaaDoor
