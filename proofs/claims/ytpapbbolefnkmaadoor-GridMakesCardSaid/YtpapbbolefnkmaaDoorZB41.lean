/-
  A function with a mark: the block for deferred calls as an assertion; lists of assertions of cells. (No program.)
-/
import Derived.Test.YtpapbbolefnkmaaDoorZB34
namespace Go.Proofs.YtpapbbolefnkmaaDoor
open Go Go.RowKit
set_option linter.unusedVariables false
def dfr (D : Nat) : HP where
  holds w f:=w.heap[D]? = some (.deferred (some [])) ∧ ∀ k,f k ↔ k = D
  lt h k hk:=by rw [(h.2 k).1 hk];exact (Array.getElem?_eq_some_iff.1 h.1).1
  keep h hk:=⟨(hk D ((h.2 D).2 rfl)).trans h.1,h.2⟩
section
variable {w0 W : World} {F : Nat → Prop} {L : List HP} {D : Nat}
theorem St.defer (h : St w0 F L W) (hc : ∀ A ∈ L,Cel A) (hB : w0.heap.size ≤ D) (hD : W.heap[D]? = some (.deferred (some []))) : St w0 F (dfr D :: L) W:=by
  obtain ⟨f,hs,hf⟩:=h.sts
  refine ⟨h.chg,fun k=>k = D ∨ f k,⟨fun k=>k = D,f,⟨hD,fun k=>Iff.rfl⟩,hs,fun k e hk=>?_,fun k=>Iff.rfl⟩,fun k hk=>?_⟩
  · subst e
    obtain ⟨o,ho,hoc⟩:=cels_sts hc hs k hk
    rw [hD] at ho;cases ho;cases hoc
  · rcases hk with rfl | hk
    · exact .inr hB
    · exact hf k hk
theorem St.dfrd (h : St w0 F L W) (i : Nat) (hL : L[i]? = some (dfr D)) : W.heap[D]? = some (.deferred (some [])):=by
  obtain ⟨f,hs,_⟩:=h.sts
  obtain ⟨_,h1,_⟩:=hs.nth hL
  exact h1
theorem St.dfrs (h : St w0 F (dfr D :: L) W) (hc : ∀ A ∈ L,Cel A) (hB : w0.heap.size ≤ D) : W.heap[D]? = some (.deferred (some [])) ∧ St w0 F L (W.putObj D (.deferred none)) :=
  ⟨h.dfrd 0 rfl,h.drop.shut hc hB (h.dfrd 0 rfl)⟩
theorem blk_lt (h : St w0 F L W) (i : Nat) {g : Nat} {t : TypeId} {cs : List Value} (hL : L[i]? = some (blk g t cs)) : g < W.heap.size:=(Array.getElem?_eq_some_iff.1 (h.heap i hL)).1
end
theorem wpJI_region_k {P : Program} {ro : Option Nat} {n : Nat} {Q : Exit → Act → World → Prop} {a : Act} {w : World} {id : Nat} {l : List Oper} (st : Nat → Bool) (hd : l.all noDef = true) (hm : P.follows .mixedOrders = true)
    (h : ∀ K : Act → World → Prop,(∀ a w,Q .normal a w → K a w) → J.wpK P .any l.toArray st (onN K) l.toArray.size (Array.replicate l.toArray.size false) a w.drew) : (Code.region id l.toArray true).wpIn (WF ro) n P Q a w:=by
  have hd2 : ∀ (i : Nat) (o : Oper),l.toArray[i]? = some o → noDef o = true:=fun i o ho=>List.all_eq_true.1 hd o (List.mem_of_getElem? (i:=i) (by rw [List.getElem?_toArray] at ho;exact ho))
  exact wpIn_mono (wpIn_region_any hm (wpAnyIn_of hd2 _ _ _ _ (J.wpAny_of_wpK _ _ _ _ (h _ fun _ _ h=>h)))) (fun e a w ⟨he,hk⟩=>by subst he;exact hk)
theorem zip1 (p : Tmp) (v : Value) (l : List Value) : ((#[p] : Array Tmp).zip #[v]).foldl (fun t (p,v)=>t.setIfInBounds p v) l.toArray = (l.set p v).toArray:=by simp
theorem zip2 (p q : Tmp) (v u : Value) (l : List Value) : ((#[p,q] : Array Tmp).zip #[v,u]).foldl (fun t (p,v)=>t.setIfInBounds p v) l.toArray = ((l.set p v).set q u).toArray:=by simp
theorem cels_nil : ∀ A ∈ ([] : List HP),Cel A:=fun A h=>by cases h
theorem cels_cons {A : HP} {L : List HP} (h : Cel A) (k : ∀ B ∈ L,Cel B) : ∀ B ∈ A :: L,Cel B:=fun B hB=>by
  rcases List.mem_cons.1 hB with rfl | hB
  · exact h
  · exact k B hB
end Go.Proofs.YtpapbbolefnkmaaDoor
/-
  Regions that draw their order and hold a call of yield: as Krq, with a word of one's own (X) for the operations of the list. (No program.)
-/
namespace Go.Proofs.YtpapbbolefnkmaaDoor.Y
open Go Go.RowKit
section
variable {P : Program} {ops : Array Oper} {md : Region.Mode} {st : Nat → Bool} {X : Nat → (Act → World → Prop) → Act → World → Prop} {Q : Exit → Act → World → Prop}
def XOp (P : Program) (ops : Array Oper) (st : Nat → Bool) (X : Nat → (Act → World → Prop) → Act → World → Prop) (Q : Exit → Act → World → Prop) (i : Nat) (K : Act → World → Prop) (a : Act) (w : World) : Prop:=if st i = true then X i K a w else wpOp P ops Q i K a w
def storesWait (md : Region.Mode) (ops : Array Oper) (st : Nat → Bool) (listed : Array Bool) (i : Nat) : Bool :=
  (List.range ops.size).all fun j=>j == i || !st j || listed.getD j false || needs md ops ops.size j i

def wpK (P : Program) (md : Region.Mode) (ops : Array Oper) (st : Nat → Bool) (X : Nat → (Act → World → Prop) → Act → World → Prop) (Q : Exit → Act → World → Prop) : Nat → Array Bool → Act → World → Prop
  | 0,listed,a,w=>∀ w',Gr w w' → Region.ready md ops listed = [] ∧ Q .normal a w'
  | fuel + 1,listed,a,w=>∀ w',Gr w w' →
    (Region.ready md ops listed = [] → Q .normal a w') ∧
    ∀ i ∈ Region.ready md ops listed,XOp P ops st X Q i (fun a' w1=>(st i = true ∨ Gr w' w1) ∧ wpK P md ops st X Q fuel (listed.setIfInBounds i true) a' w1) a w'

theorem wpK_mono : ∀ (fuel : Nat) {listed : Array Bool} {a : Act} {w w' : World},Gr w w' → wpK P md ops st X Q fuel listed a w → wpK P md ops st X Q fuel listed a w'
  | 0,_,_,_,_,hg,h=>fun w2 h2=>h w2 (hg.trans h2)
  | _ + 1,_,_,_,_,hg,h=>fun w2 h2=>h w2 (hg.trans h2)

theorem wpK_first {i : Nat} {oi : Oper} {v : Value} (hsi : st i = false) (hi : ops[i]? = some oi) (hsel : ∀ (j : Nat) (o : Oper) cs b,ops[j]? = some o → o.op ≠ .select cs b)
    (hQ : ∀ c a w,Q (.panic c) (a.put oi.dst v) w → Q (.panic c) a w) :
    ∀ (fuel : Nat) (listed : Array Bool) (a : Act) (w : World),
      (∀ j oj,ops[j]? = some oj → j ≠ i → listed.getD j true = false → (∀ e ∈ oj.after,Region.binds md e = true → e.on ≠ i) → oi.apart ops oj = true) →
      closedL md ops listed →
      (∀ j,j < ops.size → st j = true → j ≠ i → listed.getD j true = false → needs md ops ops.size j i = true) →
      i ∈ Region.ready md ops listed → YieldsK P ops oi v a w →
      wpK P md ops st X Q fuel (listed.setIfInBounds i true) (a.put oi.dst v) w → wpK P md ops st X Q (fuel + 1) listed a w:=by
  have toX : ∀ {K : Act → World → Prop} {a : Act} {w : World},wpOp P ops Q i K a w → XOp P ops st X Q i K a w:=fun h=>by unfold XOp;rw [if_neg (by rw [hsi];decide)];exact h
  intro fuel
  induction fuel with
  | zero =>
    intro listed a w _ _ _ hr hy H w' hg
    refine ⟨fun h=>(by rw [h] at hr;cases hr),fun j hj=>?_⟩
    by_cases hji : j = i
    · subst hji;exact toX ((hy.mono hg).wpOp hi (fun w2 h2=>⟨.inr h2,wpK_mono 0 (hg.trans h2) H⟩))
    · have:=ready_mono hj hji
      rw [(H w' hg).1] at this
      cases this
  | succ fuel ih =>
    intro listed a w hfree hc hst hr hy H w' hg
    refine ⟨fun h=>(by rw [h] at hr;cases hr),fun j hj=>?_⟩
    by_cases hji : j = i
    · subst hji;exact toX ((hy.mono hg).wpOp hi (fun w2 h2=>⟨.inr h2,wpK_mono (fuel + 1) (hg.trans h2) H⟩))
    · have h1:=(H w' hg).2 j (ready_mono hj hji)
      obtain ⟨hjun,oj,hoj,hall⟩:=mem_ready.1 hj
      have hi0:=(mem_ready.1 hr).1
      have hnot : ∀ e ∈ oj.after,Region.binds md e = true → e.on ≠ i:=fun e he hb heq=>by
        have h1:=hall e he hb
        rw [heq] at h1
        rcases Nat.lt_or_ge i listed.size with h' | h'
        · simp [h'] at hi0 h1;rw [hi0] at h1;cases h1
        · simp [Array.getElem?_eq_none h'] at h1
      have hns : st j ≠ true:=fun hs=>by
        have hn:=hst j (Array.getElem?_eq_some_iff.1 hoj).1 hs hji hjun
        have hl:=needs_listed hc _ j i hn hji (fun o ho e he hb=>by rw [hoj] at ho;cases ho;exact hall e he hb)
        rcases Nat.lt_or_ge i listed.size with h' | h'
        · simp [h'] at hi0 hl;rw [hi0] at hl;cases hl
        · simp [Array.getElem?_eq_none h'] at hl
      unfold XOp at h1;rw [if_neg hns] at h1
      have h2:=wpOp_putK hoj (hfree j oj hoj hji hjun hnot) (fun cs b=>hsel i oi cs b hi) (fun cs b=>hsel j oj cs b hoj) hQ hy h1
      have hfree' : ∀ k ok,ops[k]? = some ok → k ≠ i → (listed.setIfInBounds j true).getD k true = false →
          (∀ e ∈ ok.after,Region.binds md e = true → e.on ≠ i) → oi.apart ops ok = true:=fun k ok hk hki hun hno=>by
        refine hfree k ok hk hki ?_ hno
        by_cases hjk : j = k
        · subst hjk;exact hjun
        · rw [getD_set_ne true hjk] at hun;exact hun
      have hst' : ∀ k,k < ops.size → st k = true → k ≠ i → (listed.setIfInBounds j true).getD k true = false → needs md ops ops.size k i = true:=fun k hkz hs hki hun=>by
        refine hst k hkz hs hki ?_
        by_cases hjk : j = k
        · subst hjk;exact hjun
        · rw [getD_set_ne true hjk] at hun;exact hun
      unfold XOp;rw [if_neg hns]
      refine wpOp_mono (fun a' w1 h3=>?_) h2
      obtain ⟨h3,h4,h5⟩:=h3
      have hg1 : Gr w' w1:=h4.resolve_left hns
      refine ⟨.inr hg1,ih (listed.setIfInBounds j true) a' w1 hfree' (closed_put hc hj) hst' (ready_mono hr (Ne.symm hji)) (h3.mono (hg.trans hg1)) ?_⟩
      rw [Array.setIfInBounds_comm _ _ hji]
      exact h5

theorem wpK_take {i : Nat} {oi : Oper} {v : Value} {fuel : Nat} {listed : Array Bool} {a : Act} {w : World} (hi : ops[i]? = some oi)
    (hB : (Region.noSelect ops && Region.free md ops listed i && closedB md ops listed && storesWait md ops st listed i && ((Region.ready md ops listed).contains i && !st i)) = true)
    (hQ : ∀ c a w,Q (.panic c) (a.put oi.dst v) w → Q (.panic c) a w) (hy : YieldsK P ops oi v a w)
    (h : wpK P md ops st X Q fuel (listed.setIfInBounds i true) (a.put oi.dst v) w) : wpK P md ops st X Q (fuel + 1) listed a w:=by
  simp only [Bool.and_eq_true] at hB
  obtain ⟨⟨⟨⟨h1,h2⟩,h3⟩,h4⟩,h5⟩:=hB
  refine wpK_first (by simpa using h5.2) hi (Region.noSelect_spec h1) hQ fuel listed a w (Region.free_spec hi h2) (closed_of h3) ?_ (by simpa using h5.1) hy h
  intro j hj hs hji hun
  simp only [storesWait,List.all_eq_true,List.mem_range] at h4
  have h6:=h4 j hj
  have hun2 : listed.getD j false = false:=by
    rcases Nat.lt_or_ge j listed.size with h' | h'
    · simp [h'] at hun ⊢;exact hun
    · simp [Array.getElem?_eq_none h']
  simp only [Bool.or_eq_true,beq_iff_eq,hs,hun2,Bool.not_true,Bool.false_eq_true,or_false,hji,false_or] at h6
  exact h6

theorem wpK_done {listed : Array Bool} {a : Act} {w : World} (hr : Region.ready md ops listed = []) (h : ∀ w',Gr w w' → Q .normal a w') :
    ∀ fuel,wpK P md ops st X Q fuel listed a w
  | 0=>fun w' hg=>⟨hr,h w' hg⟩
  | _ + 1=>fun w' hg=>⟨fun _=>h w' hg,by rw [hr];simp⟩

theorem wpK_tk {i : Nat} (d : Option Tmp) {oi : Oper} {v : Value} {fuel : Nat} {listed : Array Bool} {a : Act} {w : World} (hi : ops[i]? = some oi) (hd : oi.dst = d)
    (hB : (Region.noSelect ops && Region.free md ops listed i && closedB md ops listed && storesWait md ops st listed i && ((Region.ready md ops listed).contains i && !st i)) = true)
    (hQ : ∀ c a w,Q (.panic c) (a.put oi.dst v) w → Q (.panic c) a w) (hy : YieldsK P ops oi v a w)
    (h : wpK P md ops st X Q fuel (listed.setIfInBounds i true) (a.put d v) w) : wpK P md ops st X Q (fuel + 1) listed a w:=by
  subst hd;exact wpK_take hi hB hQ hy h


theorem wpK_one {i : Nat} {oi : Oper} {fuel : Nat} {listed : Array Bool} {a : Act} {w : World} (hi : ops[i]? = some oi) (hr : Region.ready md ops listed = [i])
    (h : ∀ w',Gr w w' → st i = true → X i (fun a' w1=>(st i = true ∨ Gr w' w1) ∧ wpK P md ops st X Q fuel (listed.setIfInBounds i true) a' w1) a w') (hs : st i = true) :
    wpK P md ops st X Q (fuel + 1) listed a w:=by
  intro w' hg
  refine ⟨fun h0=>(by rw [hr] at h0;cases h0),fun j hj=>?_⟩
  rw [hr] at hj
  obtain rfl:=List.mem_singleton.1 hj
  unfold XOp
  rw [if_pos hs]
  exact h w' hg hs
end
end Go.Proofs.YtpapbbolefnkmaaDoor.Y
namespace Go.Proofs.YtpapbbolefnkmaaDoor
open Go Go.RowKit
section
variable {P : Program} {ops : Array Oper} {md : Region.Mode} {st : Nat → Bool} {Q : Exit → Act → World → Prop} {ro : Option Nat} {n : Nat}
def inX (P : Program) (ro : Option Nat) (n : Nat) (ops : Array Oper) (K0 : Act → World → Prop) (i : Nat) (K : Act → World → Prop) (a : Act) (w : World) : Prop:=wpOpIn (WF ro) n P ops (onN K0) i K a w
theorem wpAnyIn_of_wpY {K0 : Act → World → Prop} (hd : ∀ (i : Nat) (o : Oper),ops[i]? = some o → noDef o = true) : ∀ (fuel : Nat) (listed : Array Bool) (a : Act) (w : World),Y.wpK P md ops st (inX P ro n ops K0) (onN K0) fuel listed a w → wpAnyIn (WF ro) n P md ops (onN K0) fuel listed a w
  | 0,_,_,w,h=>h w (Gr.refl w)
  | fuel + 1,listed,a,w,h=>⟨(h w (Gr.refl w)).1,fun i hi=>by
    have h1:=(h w (Gr.refl w)).2 i hi
    unfold Y.XOp at h1
    cases hs : st i
    · rw [if_neg (by rw [hs];decide)] at h1
      exact wpOpIn_mono (fun a' w' h'=>wpAnyIn_of_wpY hd fuel _ a' w' h'.2) (wpOpIn_of_wpOp hd h1)
    · rw [if_pos hs] at h1
      exact wpOpIn_mono (fun a' w' h'=>wpAnyIn_of_wpY hd fuel _ a' w' h'.2) h1⟩
theorem wpYK_region_k {a : Act} {w : World} {id : Nat} {l : List Oper} (st : Nat → Bool) (hd : l.all noDef = true) (hm : P.follows .mixedOrders = true)
    (h : ∀ K : Act → World → Prop,(∀ a w,Q .normal a w → K a w) → Y.wpK P .any l.toArray st (inX P ro n l.toArray K) (onN K) l.toArray.size (Array.replicate l.toArray.size false) a w.drew) : (Code.region id l.toArray true).wpIn (WF ro) n P Q a w:=by
  have hd2 : ∀ (i : Nat) (o : Oper),l.toArray[i]? = some o → noDef o = true:=fun i o ho=>List.all_eq_true.1 hd o (List.mem_of_getElem? (i:=i) (by rw [List.getElem?_toArray] at ho;exact ho))
  exact wpIn_mono (wpIn_region_any hm (wpAnyIn_of_wpY hd2 _ _ _ _ (h _ fun _ _ h=>h))) (fun e a w ⟨he,hk⟩=>by subst he;exact hk)
theorem wpYK_yield {K0 : Act → World → Prop} {i : Nat} (d : Option Tmp) {oi : Oper} {fuel : Nat} {listed : Array Bool} {a : Act} {w : World} {l : Nat} {args : Array Value} {R : Ending → World → Prop} (hi : ops[i]? = some oi) (hdst : oi.dst = d) (hr : Region.ready md ops listed = [i])
    (hw : Region.wanted oi (yielded ops a.tmps) = true) (hnd : noDef oi = true) (hs : st i = true)
    (hy : ∀ w',Gr w w' → YieldAt Fence.wide 0 P l args w' R)
    (he : ∀ w' fn tmps asg body,(Instr.yield l args).run P w' = .ok (.round l fn tmps asg body) w' → (execOp a.eval oi).run P w' = .ok (.round l fn tmps asg body) w')
    (h : ∀ e w',R e w' → ∃ v,e = .returned v ∧ Y.wpK P md ops st (inX P ro n ops K0) (onN K0) fuel (listed.setIfInBounds i true) (a.put d v) w') :
    Y.wpK P md ops st (inX P ro n ops K0) (onN K0) (fuel + 1) listed a w:=by
  refine Y.wpK_one hi hr (fun w' hg _=>?_) hs
  obtain ⟨fn,tmps,asg,body,h1,h2⟩:=hy w' hg
  unfold inX wpOpIn
  rw [hi]
  simp only [hw,if_true]
  refine ⟨fun _ _=>trivial, ?_⟩
  rw [Oper.semAt_eq _ _ _ (noDef_spec hnd),he _ _ _ _ _ h1]
  refine ⟨(fun h=>(by cases h)),(roundIn_wf (ro:=none) (m:=n - 1) (n:=0) (ro':=ro) h2).mono ?_⟩
  intro e w2 hR
  obtain ⟨v,rfl,hk⟩:=h e w2 hR
  rw [hdst]
  exact ⟨.inl hs,hk⟩
end
end Go.Proofs.YtpapbbolefnkmaaDoor
