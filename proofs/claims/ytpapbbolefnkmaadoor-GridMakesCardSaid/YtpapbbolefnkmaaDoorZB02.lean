/-
  Points, boxes and symmetries as mathematics.
-/
import Derived.WalkKit
import Derived.WalkSpells
import Derived.WalkLawsBesides
import Derived.Deep.AppendSrc
import Derived.Deep.Upon
import Derived.Deep.AppendLies
import Derived.Lib.Hide
import Derived.Deep.MidRow
import Derived.Deep.WholeRow
import Derived.ProofKit
import Derived.OpenShut
import Derived.ShutString
import Derived.ChangeOld
import Derived.SizedLaws
import Derived.LaidMore
import Derived.Stop.Joined
import Derived.Lib.LaidTab
import Derived.Stop.LaidErr
namespace Go.Proofs.YtpapbbolefnkmaaDoor.Pt

def inB (x y z a b c d e f : Int) : Bool:=decide ((a ≤ x ∧ x < d) ∧ (b ≤ y ∧ y < e) ∧ (c ≤ z ∧ z < f))
def emp (a b c d e f : Int) : Bool:=decide (d ≤ a ∨ e ≤ b ∨ f ≤ c)
def sz (n : Bool) (a d : Int) : Int:=if n = true then 0 else d - a
def vol (a b c d e f : Int) : Int:=sz (emp a b c d e f) a d * sz (emp a b c d e f) b e * sz (emp a b c d e f) c f
def near (x y z a b c d e f : Int) : Int:=max (max (max 0 (max (a - x) (x - d))) (max (b - y) (y - e))) (max (c - z) (z - f))
def idx (x y z a b c d e : Int) : Int:=((z - c) * (e - b) + (y - b)) * (d - a) + (x - a)

theorem emp_in (a b c d e f : Int) : emp a b c d e f = !(inB a b c a b c d e f):=by
  unfold emp inB
  by_cases h1 : a < d <;> by_cases h2 : b < e <;> by_cases h3 : c < f <;>
    simp [h1,h2,h3,Int.not_le.2,Int.not_lt.1] <;> omega

theorem inB_true {x y z a b c d e f : Int} : inB x y z a b c d e f = true ↔ (a ≤ x ∧ x < d) ∧ (b ≤ y ∧ y < e) ∧ (c ≤ z ∧ z < f):=by
  unfold inB;exact decide_eq_true_iff
theorem emp_true {a b c d e f : Int} : emp a b c d e f = true ↔ d ≤ a ∨ e ≤ b ∨ f ≤ c:=by
  unfold emp;exact decide_eq_true_iff
theorem emp_false {a b c d e f : Int} : emp a b c d e f = false ↔ a < d ∧ b < e ∧ c < f:=by
  unfold emp;rw [decide_eq_false_iff_not];omega
theorem inB_false {x y z a b c d e f : Int} : inB x y z a b c d e f = false ↔ ¬ ((a ≤ x ∧ x < d) ∧ (b ≤ y ∧ y < e) ∧ (c ≤ z ∧ z < f)):=by
  unfold inB;exact decide_eq_false_iff_not

theorem vol_emp {a b c d e f : Int} (h : emp a b c d e f = true) : vol a b c d e f = 0:=by
  unfold vol sz;rw [h];simp
theorem vol_full {a b c d e f : Int} (h : emp a b c d e f = false) : vol a b c d e f = (d - a) * (e - b) * (f - c):=by
  unfold vol sz;rw [h];simp

theorem mul3_pos {a b c : Int} (h1 : 0 < a) (h2 : 0 < b) (h3 : 0 < c) : 0 < a * b * c:=Int.mul_pos (Int.mul_pos h1 h2) h3
theorem mul3_le {a b c x y z : Int} (h1 : 0 ≤ a) (h2 : 0 ≤ b) (h3 : 0 ≤ c) (k1 : a ≤ x) (k2 : b ≤ y) (k3 : c ≤ z) : a * b * c ≤ x * y * z:=by
  have e1 : a * b ≤ x * y:=Int.mul_le_mul k1 k2 h2 (by omega)
  exact Int.mul_le_mul e1 k3 h3 (Int.mul_nonneg (by omega) (by omega))
theorem vol_pos {a b c d e f : Int} (h : emp a b c d e f = false) : 0 < vol a b c d e f:=by
  rw [vol_full h]
  have:=emp_false.1 h
  exact mul3_pos (by omega) (by omega) (by omega)
theorem vol_nonneg (a b c d e f : Int) : 0 ≤ vol a b c d e f:=by
  cases h : emp a b c d e f with
  | true=>rw [vol_emp h];decide
  | false=>exact Int.le_of_lt (vol_pos h)
def meet (a b c d e f a' b' c' d' e' f' : Int) : Bool:=emp (max a a') (max b b') (max c c') (min d d') (min e e') (min f f')

theorem sub_vol {a b c d e f a' b' c' d' e' f' : Int} (h : emp a b c d e f = false) (k1 : a' ≤ a) (k2 : b' ≤ b) (k3 : c' ≤ c) (k4 : d ≤ d') (k5 : e ≤ e') (k6 : f ≤ f') : vol a b c d e f ≤ vol a' b' c' d' e' f':=by
  have h1:=emp_false.1 h
  have h2 : emp a' b' c' d' e' f' = false:=emp_false.2 (by omega)
  rw [vol_full h,vol_full h2]
  exact mul3_le (by omega) (by omega) (by omega) (by omega) (by omega) (by omega)
theorem pair_bd {x y n m : Int} (hx : 0 ≤ x ∧ x < n) (hy : 0 ≤ y ∧ y < m) : 0 ≤ y * n + x ∧ y * n + x < m * n:=by
  have h1 : 0 ≤ y * n:=Int.mul_nonneg hy.1 (by omega)
  have h2 : (y + 1) * n ≤ m * n:=Int.mul_le_mul_of_nonneg_right (by omega) (by omega)
  rw [Int.add_mul,Int.one_mul] at h2
  omega
theorem pair_div {x y n : Int} (hx : 0 ≤ x ∧ x < n) : (y * n + x) / n = y ∧ (y * n + x) % n = x:=by
  have hn : n ≠ 0:=by omega
  rw [Int.add_comm,Int.add_mul_ediv_right _ _ hn,Int.add_mul_emod_self_right,Int.ediv_eq_zero_of_lt hx.1 hx.2,Int.emod_eq_of_lt hx.1 hx.2]
  exact ⟨Int.zero_add _,rfl⟩
theorem pair_back {i n : Int} : (i / n) * n + i % n = i:=by
  rw [Int.mul_comm];exact Int.mul_ediv_add_emod i n

theorem idx_bd {x y z a b c d e f : Int} (h : inB x y z a b c d e f = true) : 0 ≤ (z - c) * (e - b) + (y - b) ∧ 0 ≤ idx x y z a b c d e ∧ idx x y z a b c d e < vol a b c d e f ∧ emp a b c d e f = false:=by
  have h1:=inB_true.1 h
  have h2 : emp a b c d e f = false:=emp_false.2 (by omega)
  have e1:=pair_bd (x:=y - b) (y:=z - c) (n:=e - b) (m:=f - c) (by omega) (by omega)
  have e2:=pair_bd (x:=x - a) (n:=d - a) (by omega) e1
  refine ⟨e1.1,e2.1, ?_,h2⟩
  rw [vol_full h2]
  have : (d - a) * (e - b) * (f - c) = (f - c) * (e - b) * (d - a):=by
    rw [Int.mul_comm (d - a) (e - b),Int.mul_comm _ (f - c),Int.mul_assoc,← Int.mul_assoc]
  rw [this]
  exact e2.2

theorem at_idx {x y z a b c d e f : Int} (h : inB x y z a b c d e f = true) :
    idx x y z a b c d e % (d - a) = x - a ∧ idx x y z a b c d e / (d - a) % (e - b) = y - b ∧ idx x y z a b c d e / (d - a) / (e - b) = z - c:=by
  have h1:=inB_true.1 h
  unfold idx
  have e2:=pair_div (x:=x - a) (y:=(z - c) * (e - b) + (y - b)) (n:=d - a) (by omega)
  have e1:=pair_div (x:=y - b) (y:=z - c) (n:=e - b) (by omega)
  rw [e2.1,e2.2]
  exact ⟨rfl,e1.2,e1.1⟩
theorem at_bd {a b c d e f i : Int} (h : emp a b c d e f = false) (hi : 0 ≤ i ∧ i < vol a b c d e f) :
    (0 ≤ i % (d - a) ∧ i % (d - a) < d - a) ∧ (0 ≤ i / (d - a) % (e - b) ∧ i / (d - a) % (e - b) < e - b) ∧ (0 ≤ i / (d - a) / (e - b) ∧ i / (d - a) / (e - b) < f - c) ∧ 0 ≤ i / (d - a):=by
  have h1:=emp_false.1 h
  rw [vol_full h] at hi
  have p1 : 0 < d - a:=by omega
  have p2 : 0 < e - b:=by omega
  have q0 : 0 ≤ i / (d - a):=Int.ediv_nonneg hi.1 (by omega)
  refine ⟨⟨Int.emod_nonneg _ (by omega),Int.emod_lt_of_pos _ p1⟩,⟨Int.emod_nonneg _ (by omega),Int.emod_lt_of_pos _ p2⟩,⟨Int.ediv_nonneg q0 (by omega), ?_⟩,q0⟩
  rw [Int.ediv_lt_iff_lt_mul p2,Int.ediv_lt_iff_lt_mul p1]
  have : (f - c) * (e - b) * (d - a) = (d - a) * (e - b) * (f - c):=by
    rw [Int.mul_comm (d - a) (e - b),Int.mul_comm _ (f - c),Int.mul_assoc,← Int.mul_assoc]
  omega
theorem idx_at {a b c d e f i : Int} (h : emp a b c d e f = false) (hi : 0 ≤ i ∧ i < vol a b c d e f) :
    inB (a + i % (d - a)) (b + i / (d - a) % (e - b)) (c + i / (d - a) / (e - b)) a b c d e f = true ∧ idx (a + i % (d - a)) (b + i / (d - a) % (e - b)) (c + i / (d - a) / (e - b)) a b c d e = i:=by
  have h1:=at_bd h hi
  refine ⟨inB_true.2 (by omega), ?_⟩
  unfold idx
  rw [show c + i / (d - a) / (e - b) - c = i / (d - a) / (e - b) by omega,show b + i / (d - a) % (e - b) - b = i / (d - a) % (e - b) by omega,show a + i % (d - a) - a = i % (d - a) by omega,pair_back,pair_back]
end Go.Proofs.YtpapbbolefnkmaaDoor.Pt
/-
  Words for slices that are read, and append onto a row of the call's own from any source: no program is mentioned here.
-/
namespace Go.Proofs.YtpapbbolefnkmaaDoor
open Go.RowKit

def Lies (w : World) (A : Option Addr) (xs : List Value) : Prop :=
  xs = [] ∨ ∃ b o,A = some ⟨b,o,none⟩ ∧ ∀ j u,xs[j]? = some u → w.cell? ⟨b,o + j,none⟩ = some u

section
variable {w w' : World} {A : Option Addr} {xs : List Value}

theorem Lies.nil (w : World) (A : Option Addr) : Lies w A []:=.inl rfl
theorem Lies.keep (h : Lies w A xs) (hk : ∀ p : Addr,p.block < w.heap.size → w'.cell? p = w.cell? p) : Lies w' A xs:=by
  rcases h with h | ⟨b,o,hA,hc⟩
  · exact .inl h
  · exact .inr ⟨b,o,hA,fun j u hu=>(hk _ (World.block_lt_of_cell? w _ (hc j u hu))).trans (hc j u hu)⟩
theorem Lies.below (h : Lies w A xs) (hb : Below w.heap.size w w') : Lies w' A xs:=h.keep fun _ hp=>hb.cell hp
theorem Lies.alloc (h : Lies w A xs) (o : Obj) : Lies (w.alloc o) A xs:=h.below ((Below.refl _ _).alloc (Nat.le_refl _) o)
theorem Lies.drew (h : Lies w A xs) : Lies w.drew A xs:=h
theorem Lies.at_ (h : Lies w A xs) (hne : xs ≠ []) : ∃ b o,A = some ⟨b,o,none⟩ ∧ ∀ j u,xs[j]? = some u → w.cell? ⟨b,o + j,none⟩ = some u:=by
  rcases h with h | h
  · exact absurd h hne
  · exact h
theorem Lies.take (h : Lies w A xs) (k : Nat) : Lies w A (xs.take k):=by
  rcases h with rfl | ⟨b,o,hA,hc⟩
  · exact .inl (by simp)
  · refine .inr ⟨b,o,hA,fun j u hu=>hc j u ?_⟩
    rw [List.getElem?_take] at hu
    split at hu
    · exact hu
    · cases hu
theorem Lies.drop {b o : Nat} (h : Lies w (some ⟨b,o,none⟩) xs) (k : Nat) : Lies w (some ⟨b,o + k,none⟩) (xs.drop k):=by
  rcases h with rfl | ⟨b',o',hA,hc⟩
  · exact .inl (by simp)
  · injection hA with hA
    injection hA with h1 h2
    subst h1 h2
    refine .inr ⟨_,_,rfl,fun j u hu=>?_⟩
    rw [Nat.add_assoc]
    exact hc (k + j) u (by rw [← hu,List.getElem?_drop])
theorem Lies.own {base : Nat} {e : TypeId} {size n c : Nat} (h : w.ownsRow base e size (.slice A n c) n xs) : Lies w A xs:=by
  by_cases hn : n = 0
  · subst hn
    exact .inl (List.eq_nil_of_length_eq_zero (by simpa using h.1))
  · rcases h.2 with ⟨_,h0⟩ | ⟨g,cap,cur,hv,_⟩
    · exact absurd h0 hn
    · injection hv with hA _ _
      subst hA
      refine .inr ⟨g,0,rfl,fun j u hu=>?_⟩
      have:=h.cells (g:=g) rfl j u hu
      rwa [Addr.add_lit] at this
end

theorem own_shape {w : World} {base : Nat} {e : TypeId} {size : Nat} {v : Value} {n : Nat} {xs : List Value} (h : w.ownsRow base e size v n xs) :
    ∃ A c,v = .slice A n c ∧ n ≤ c ∧ c ≤ maxLen ∧ Lies w A xs:=by
  rcases h.2 with ⟨rfl,rfl⟩ | ⟨g,cap,cur,rfl,_,_,h1,h2,_⟩
  · exact ⟨none,0,rfl,Nat.le_refl _,by simp [maxLen],Lies.own h⟩
  · exact ⟨_,cap,rfl,h1,h2,Lies.own h⟩

theorem own_below {w w' : World} {base : Nat} {e : TypeId} {size : Nat} {v : Value} {n : Nat} {xs : List Value} (h : w.ownsRow base e size v n xs) (hb : Below w.heap.size w w') : w'.ownsRow base e size v n xs :=
  h.kept (row:=none) ⟨hb.os,hb.tape,hb.output,hb.size,fun k hk _=>hb.block k hk⟩ (by cases hv : v.ownBlock <;> simp)
section
variable {P : Program} (w : World)

theorem Src.of_lies {size : Nat} {tx e' : TypeId} (hk : P.underlying tx = some (.slice e')) {A : Option Addr} {n : Nat} (c : Nat) {news : List Value} (hl : news.length = n * size) (hA : A = none → n = 0) (h : Lies w A news)
    (h1 : ∀ u ∈ news,u.oneCell' = true) : Src P size tx (.slice A n c) n news w:=by
  cases A with
  | none =>
    have:=hA rfl
    subst this
    have hn : news = []:=List.eq_nil_of_length_eq_zero (by simpa using hl)
    subst hn
    exact Src.ofNil w hk c
  | some a =>
    refine Src.ofSlice w hk a n c news hl ?_ h1
    intro j u hu
    rcases h with rfl | ⟨b,o,hA',hc⟩
    · simp at hu
    · injection hA' with hA'
      subst hA'
      rw [Addr.add_lit]
      exact hc j u hu

end

theorem Lies.part {w : World} {A : Option Addr} {xs : List Value} (h : Lies w A xs) {lo hi mx : Nat} (h1 : hi ≤ mx) : Lies w (if mx = lo then A else A.map (·.add lo)) ((xs.take hi).drop lo):=by
  by_cases he : mx = lo
  · refine .inl (List.drop_eq_nil_of_le ?_)
    rw [List.length_take];omega
  · rw [if_neg he]
    rcases h.take hi with h' | ⟨b,o,rfl,hc⟩
    · rw [h'];exact .inl (by simp)
    · have : Lies w (some ⟨b,o,none⟩) (xs.take hi):=.inr ⟨b,o,rfl,hc⟩
      have:=this.drop lo
      simpa [Addr.add_lit] using this

def bstr (l : List UInt8) : ByteArray:=⟨l.toArray⟩
theorem ret_int {k : IntKind} {a b : Int} (h : a = b) : Ending.returned (.int k a) = .returned (.int k b):=by rw [h]
theorem ret_bool {a b : Bool} (h : a = b) : Ending.returned (.bool a) = .returned (.bool b):=by rw [h]

end Go.Proofs.YtpapbbolefnkmaaDoor
/-
  Laws for the walk: a conversion of bytes to a string; append of a string.
-/
namespace Go.Proofs.YtpapbbolefnkmaaDoor
open Go.RowKit

theorem Lies.new (w : World) (l : List Value) (t : TypeId) : Lies (w.alloc (.cells l.toArray t)) (some ⟨w.heap.size,0,none⟩) l :=
  .inr ⟨_,_,rfl,fun j u hu=>by rw [cell_of_row _ _ _ _ _ _ (heap_alloc_last w _)];simpa using hu⟩
theorem Lies.range {w : World} {b o : Nat} {l : List Value} (h : Lies w (some ⟨b,o,none⟩) l) : w.rangeAt b o l:=by
  rcases h with h | ⟨b',o',hA,hc⟩
  · subst h;intro j v hj;simp at hj
  · injection hA with hA
    injection hA with h1 h2
    subst h1 h2
    exact hc

end Go.Proofs.YtpapbbolefnkmaaDoor
/-
  Laws: copy of a whole array's bytes into the block that was made last; a function whose first of three results is an array.
-/
namespace Go.Proofs.YtpapbbolefnkmaaDoor
open Go.RowKit

theorem below_setCells {B b : Nat} (hb : B ≤ b) : ∀ (vs : List Value) (o : Nat) (w0 w : World),Below B w0 w → Below B w0 (w.setCells b o vs)
  | [],_,_,_,h=>h
  | v :: vs,o,w0,_,h=>below_setCells hb vs (o + 1) w0 _ (h.setCell (p:=⟨b,o,none⟩) hb v)

end Go.Proofs.YtpapbbolefnkmaaDoor
/-
  Laws: append onto a slice whose capacity is its length; rows of bytes and integers that came in.
-/
namespace Go.Proofs.YtpapbbolefnkmaaDoor
open Go.RowKit

theorem lies_of_cells {w : World} {x : Addr} {len : Nat} {us : List Value} (_hl : us.length = len) (hc : ∀ i u,us[i]? = some u → w.cell? (x.add i) = some u) : Lies w (some x) us:=by
  by_cases h0 : us = []
  · exact .inl h0
  · obtain ⟨b,o,sp⟩:=x
    have hpos : 0 < us.length:=List.length_pos_iff.2 h0
    have h1:=hc 0 us[0] (List.getElem?_eq_getElem hpos)
    have hsp : sp = none:=by simpa [Addr.add] using World.cell?_spot h1
    subst hsp
    exact .inr ⟨b,o,rfl,fun j u hu=>by have:=hc j u hu;rwa [Addr.add_lit] at this⟩

theorem i64_wf {z : Int} (h : (Lit.int .i64 z).wf = true) : -9223372036854775808 ≤ z ∧ z ≤ 9223372036854775807:=by
  simp only [Lit.wf,Bool.and_eq_true,decide_eq_true_eq] at h
  have h1 : IntKind.i64.min = -9223372036854775808:=rfl
  have h2 : IntKind.i64.max = 9223372036854775807:=rfl
  omega

end Go.Proofs.YtpapbbolefnkmaaDoor
/-
  A slice that comes in, whose elements take several cells each, read as a list. (No program.)
-/
namespace Go.Proofs.YtpapbbolefnkmaaDoor
open Go.ChangeShapes Go.WideShapes Go.ChangeAt Go.RowKit
set_option linter.unusedVariables false
theorem flatMap_at {α β : Type} {f : α → List β} {sz : Nat} (hf : ∀ a,(f a).length = sz) (h0 : 0 < sz) : ∀ (l : List α) (t : Nat),(l.flatMap f)[t]? = (l[t / sz]?).bind fun a=>(f a)[t % sz]?
  | [],t=>by simp
  | a :: r,t=>by
    rw [List.flatMap_cons]
    rcases Nat.lt_or_ge t sz with h | h
    · rw [List.getElem?_append_left (by rw [hf];exact h),Nat.div_eq_of_lt h,Nat.mod_eq_of_lt h];rfl
    · rw [List.getElem?_append_right (by rw [hf];exact h),hf,flatMap_at hf h0 r (t - sz)]
      have e1 : t / sz = (t - sz) / sz + 1:=Nat.div_eq_sub_div h0 h
      have e2 : (t - sz) % sz = t % sz:=by rw [← Nat.mod_eq_sub_mod h]
      rw [e1,e2];rfl
section
variable {H : Type} {enc : TypeId × Value → H} {P : Program} {W : World} {a : Option Addr} {len cap : Nat} {T E : TypeId} {d : DataW H} {ps : List MemPlace}
theorem pick_list {α : Type} {p : Nat → α → Prop} : ∀ n : Nat,(∀ i,i < n → ∃ x,p i x) → ∃ l : List α,l.length = n ∧ ∀ i x,l[i]? = some x → p i x
  | 0,_=>⟨[],rfl,fun i x h=>by simp at h⟩
  | n + 1,h=>by
    obtain ⟨l,hl,hp⟩:=pick_list n (fun i hi=>h i (by omega))
    obtain ⟨x,hx⟩:=h n (by omega)
    refine ⟨l ++ [x],by simp [hl],fun i y hy=>?_⟩
    rcases Nat.lt_or_ge i l.length with hi | hi
    · rw [List.getElem?_append_left hi] at hy;exact hp i y hy
    · rw [List.getElem?_append_right hi] at hy
      have h0 : i - l.length = 0:=by
        have:=(List.getElem?_eq_some_iff.1 hy).1
        simp at this;omega
      rw [h0] at hy
      simp at hy
      subst hy
      rw [show i = n by omega];exact hx
theorem opened_rows {α : Type} (cells : α → List Value) (sz : Nat) (h0 : 0 < sz)
    (hd : DataW.Trod enc P W 0 (fun _=>true) true T (.slice a len cap) d ps) (hT : P.underlying T = some (.slice E)) (hc : P.cellsOf E = sz) (hcl : ∀ m,(cells m).length = sz)
    (hel : ∀ fuel cs x,DataW.trod enc P W 0 (fun _=>true) true fuel E cs = some x → ∃ m,cs = cells m) :
    ∃ l : List α,l.length = len ∧ Lies W a (l.flatMap cells) ∧ len ≤ cap ∧ cap ≤ maxLen:=by
  obtain ⟨fuel,hf⟩:=hd
  rcases DataW.trod_slice hT hf with ⟨hcs,_⟩ | ⟨x,l,c,elems,rest,n,_,hcs,_,_,hl,hm,hlen,hE,_⟩
  · simp [Value.cells] at hcs
    obtain ⟨rfl,rfl,rfl⟩:=hcs
    exact ⟨[],rfl,Lies.nil _ _,Nat.le_refl _,Nat.zero_le _⟩
  · simp [Value.cells] at hcs
    obtain ⟨rfl,rfl,rfl⟩:=hcs
    have each : ∀ i,i < len → ∃ m : α,∀ j u,(cells m)[j]? = some u → W.cell? (x.add (i * sz + j)) = some u:=by
      intro i hi
      have h1:=hE i hi
      rw [hc,List.getElem?_eq_getElem (by omega)] at h1
      obtain ⟨cs,hcs,ht⟩:=Option.bind_eq_some_iff.1 h1
      obtain ⟨m,rfl⟩:=hel _ _ _ ht
      refine ⟨m,fun j u hu=>?_⟩
      have hj : j < sz:=by
        have:=(List.getElem?_eq_some_iff.1 hu).1
        rw [hcl] at this;exact this
      have h2:=(World.cells?_some hcs).2.2 j hj
      rw [hu] at h2
      rw [← h2]
      exact congrArg W.cell? (Addr.add_add x (i * sz) j).symm
    obtain ⟨ls,hll,hlp⟩:=pick_list len each
    refine ⟨ls,hll, ?_,hl,hm⟩
    refine lies_of_cells (len:=(ls.flatMap cells).length) rfl ?_
    intro t u hu
    rw [flatMap_at hcl h0] at hu
    obtain ⟨m,hm1,hm2⟩:=Option.bind_eq_some_iff.1 hu
    have h3:=hlp (t / sz) m hm1 (t % sz) u hm2
    rwa [show t / sz * sz + t % sz = t by rw [Nat.mul_comm];exact Nat.div_add_mod t sz] at h3
end
end Go.Proofs.YtpapbbolefnkmaaDoor
