/-
  Ranges over a function under the walk of operations: rounds (a fence that lets everything in), an iterator's contract by the number of its cells, the law of the statement, what a function with a mark leaves. (No program.)
-/
import Derived.Test.YtpapbbolefnkmaaDoorZB23
import Derived.RangeFuncNested
import Derived.OrdersIn
import Derived.Handy
namespace Go.Proofs.YtpapbbolefnkmaaDoor
open Go Go.RowKit
set_option linter.unusedVariables false

def WF (ro : Option Nat) : Fence:={ Fence.wide with round:=ro }
def noDef (o : Oper) : Bool:=match o.op with | .defer _=>false | _=>true
theorem noDef_spec {o : Oper} (h : noDef o = true) : ∀ c,o.op ≠ .defer c:=by
  intro c hc;unfold noDef at h;rw [hc] at h;cases h
section
variable {P : Program} {ro : Option Nat} {n : Nat} {a : Act} {w : World}
theorem callsIn_wf {f : FuncId} {args : Array Value} {R : Ending → World → Prop} : CallsIn (WF ro) n P f args w R ↔ Calls P f args w R :=
  Iff.trans (b:=CallsIn Fence.wide n P f args w R) Iff.rfl callsIn_wide
theorem rowsIn_wf {row : String} {args : Array Value} {R : Value → World → Prop} (h : Rows P row args w R) : RowsIn (WF ro) n P row args w R :=
  fun c cs _=>let ⟨v,w',r,s⟩:=h c cs;⟨v,w',r,stepsIn_wide.2 s⟩
theorem roundIn_wf {ro' : Option Nat} {m l : Nat} {f : FuncId} {tmps : Array Value} {asg body : Code} {R : Ending → World → Prop} (h : RoundIn (WF ro) n P l f tmps asg body w R) : RoundIn (WF ro') m P l f tmps asg body w R :=
  ⟨trivial,fun c cs _=>h.2 c cs (fun d hd=>by cases hd)⟩
theorem wpIn_of_wp_op {o : Oper} (hd : noDef o = true) {K K' : Act → World → Prop} (h : o.wp P a w K (onN K')) : o.wpIn (WF ro) n P a w K (onN K'):=by
  refine ⟨fun _ _=>trivial, ?_⟩
  rw [Oper.semAt_eq _ _ _ (noDef_spec hd)]
  unfold Oper.wp at h
  generalize (execOp a.eval o).run P w = r at *
  cases r with
  | ok x w' =>
    cases x <;> simp only [Oper.upon] at h <;> simp only [Oper.uponIn]
    case value=>exact h
    case skip=>exact h
    case defer=>exact h
    case enter f args=>exact ⟨(fun h=>(by cases h)),callsIn_wf.2 h⟩
    case row row args=>exact ⟨(fun h=>(by cases h)),rowsIn_wf h⟩
  | halt x w' =>
    cases x <;> simp only [Oper.upon] at h <;> simp only [Oper.uponIn]
    case panic=>exact h
theorem not_letsOut {K : Act → World → Prop} (h : LetsOut (onN K)) : False:=by obtain ⟨_,_,h,_⟩:=h;cases h
theorem wpListIn_part {ops : Array Oper} {K : Act → World → Prop} : ∀ (l1 : List Oper) {l2 : List Oper} {a : Act} {w : World},l1.all noDef = true →
    wpList P ops (onN (fun a w=>wpListIn (WF ro) n P ops (onN K) l2 a w)) l1 a w → wpListIn (WF ro) n P ops (onN K) (l1 ++ l2) a w
  | [],l2,a,w,_,h=>h.2
  | o :: l1,l2,a,w,hd,h=>by
    simp only [List.all_cons,Bool.and_eq_true] at hd
    unfold wpList at h
    simp only [List.cons_append]
    unfold wpListIn
    split
    · rename_i hw
      rw [if_pos hw] at h
      rcases h with h | h
      · refine Oper.wpIn_mono (fun a w h=>wpListIn_part l1 hd.2 h) (Q:=onN K) ?_
        have:=wpIn_of_wp_op (ro:=ro) (n:=n) hd.1 h
        refine ⟨this.1, ?_⟩
        have h2:=this.2
        generalize (o.semAt (WF ro).round a.eval).run P w = r at *
        cases r with
        | ok x w' =>
          cases x <;> simp only [Oper.uponIn] at h2 ⊢
          case value=>exact h2
          case skip=>exact h2
          case defer=>exact h2
          case enter f args=>exact ⟨h2.1,h2.2.mono (fun e w'' he=>by cases e with | returned v=>exact he | panicked ch=>cases he.1 | outgrown=>exact (not_letsOut he).elim)⟩
          case row row args=>exact h2
          case round l f tmps asg body=>exact ⟨h2.1,h2.2.mono (fun e w'' he=>by cases e with | returned v=>exact he | panicked ch=>cases he.1 | outgrown=>exact (not_letsOut he).elim)⟩
        | halt x w' =>
          cases x <;> simp only [Oper.uponIn] at h2 ⊢
          case panic=>cases h2.1
      · exact (not_letsOut h.2).elim
    · rename_i hw
      rw [if_neg hw] at h
      exact ⟨fun _ _=>trivial,wpListIn_part l1 hd.2 h⟩
theorem wpListIn_all {ops : Array Oper} {K : Act → World → Prop} {l : List Oper} (hd : l.all noDef = true) (h : wpList P ops (onN K) l a w) : wpListIn (WF ro) n P ops (onN K) l a w:=by
  have:=wpListIn_part (P:=P) (ro:=ro) (n:=n) (ops:=ops) (K:=K) l (l2:=[]) hd (a:=a) (w:=w)
  rw [List.append_nil] at this
  refine this ?_
  have : (onN (fun a w=>wpListIn (WF ro) n P ops (onN K) [] a w)) = onN K:=by
    funext e a w;apply propext;constructor
    · rintro ⟨h1,_,h2⟩;exact ⟨h1,h2⟩
    · rintro ⟨h1,h2⟩;exact ⟨h1,rfl,h2⟩
  rw [this];exact h
theorem wpOpIn_of_wpOp {ops : Array Oper} {i : Nat} (hd : ∀ (i : Nat) (o : Oper),ops[i]? = some o → noDef o = true) {K K' : Act → World → Prop} (h : wpOp P ops (onN K') i K a w) : wpOpIn (WF ro) n P ops (onN K') i K a w:=by
  unfold wpOp at h
  unfold wpOpIn
  cases ho : ops[i]? with
  | none=>rw [ho] at h;exact h
  | some o =>
    rw [ho] at h
    simp only at h ⊢
    split
    · rename_i hw
      rw [if_pos hw] at h
      rcases h with h | h
      · exact wpIn_of_wp_op (hd i o ho) h
      · exact (not_letsOut h.2).elim
    · rename_i hw
      rw [if_neg hw] at h
      exact ⟨fun _ _=>trivial,h⟩
theorem wpAnyIn_of {md : Region.Mode} {ops : Array Oper} (hd : ∀ (i : Nat) (o : Oper),ops[i]? = some o → noDef o = true) {K : Act → World → Prop} : ∀ (fuel : Nat) (listed : Array Bool) (a : Act) (w : World),wpAny P md ops (onN K) fuel listed a w → wpAnyIn (WF ro) n P md ops (onN K) fuel listed a w
  | 0,_,_,_,h=>h
  | fuel + 1,_,_,_,h=>⟨h.1,fun i hi=>wpOpIn_mono (fun a w h=>wpAnyIn_of hd fuel _ a w h) (wpOpIn_of_wpOp hd (h.2 i hi))⟩
variable {Q : Exit → Act → World → Prop}
theorem wpGI_region_k {id : Nat} {l : List Oper} (hd : l.all noDef = true) (h : ∀ K : Act → World → Prop,(∀ a w,Q .normal a w → K a w) → wpG P l.toArray (onN K) l a w) : (Code.region id l.toArray false).wpIn (WF ro) n P Q a w :=
  wpIn_mono (wpIn_region_lit (wpListIn_all hd (h _ (fun _ _ h=>h) w (Gr.refl w)))) (fun e a w ⟨he,hk⟩=>by subst he;exact hk)
theorem wpKI_region_k {id : Nat} {l : List Oper} (hd : l.all noDef = true) (hm : P.follows .mixedOrders = true) (h : ∀ K : Act → World → Prop,(∀ a w,Q .normal a w → K a w) → wpK P .any l.toArray (onN K) l.toArray.size (Array.replicate l.toArray.size false) a w.drew) : (Code.region id l.toArray true).wpIn (WF ro) n P Q a w:=by
  have hd2 : ∀ (i : Nat) (o : Oper),l.toArray[i]? = some o → noDef o = true:=fun i o ho=>List.all_eq_true.1 hd o (List.mem_of_getElem? (i:=i) (by rw [List.getElem?_toArray] at ho;exact ho))
  exact wpIn_mono (wpIn_region_any hm (wpAnyIn_of hd2 _ _ _ _ (wpAny_of_wpK _ _ _ _ (h _ fun _ _ h=>h)))) (fun e a w ⟨he,hk⟩=>by subst he;exact hk)
theorem wpYI_region_k {id : Nat} (l1 : List Oper) {o : Oper} {l2 : List Oper} (hd : l1.all noDef = true)
    (h : ∀ K : Act → World → Prop,(∀ a w,Q .normal a w → K a w) → wpG P (l1 ++ o :: l2).toArray (onN (fun a w=>wpListIn (WF ro) n P (l1 ++ o :: l2).toArray (onN K) (o :: l2) a w)) l1 a w) :
    (Code.region id (l1 ++ o :: l2).toArray false).wpIn (WF ro) n P Q a w :=
  wpIn_mono (wpIn_region_lit (wpListIn_part l1 hd (h _ (fun _ _ h=>h) w (Gr.refl w)))) (fun e a w ⟨he,hk⟩=>by subst he;exact hk)
theorem wpYI_region_j {id : Nat} {l : List Oper} (j : Nat) {o : Oper} (hl : l = l.take j ++ o :: l.drop (j + 1)) (hd : (l.take j).all noDef = true)
    (h : ∀ K : Act → World → Prop,(∀ a w,Q .normal a w → K a w) → wpG P l.toArray (onN (fun a w=>wpListIn (WF ro) n P l.toArray (onN K) (o :: l.drop (j + 1)) a w)) (l.take j) a w) :
    (Code.region id l.toArray false).wpIn (WF ro) n P Q a w:=by
  have h2:=wpYI_region_k (P:=P) (ro:=ro) (n:=n) (id:=id) (Q:=Q) (a:=a) (w:=w) (l.take j) (o:=o) (l2:=l.drop (j + 1)) hd
  rw [← hl] at h2
  exact h2 h
theorem wpYI_yield {ops : Array Oper} {o : Oper} {l2 : List Oper} {K : Act → World → Prop} (d : Option Tmp) {l : Nat} {args : Array Value} {R : Ending → World → Prop} (hdst : o.dst = d) (hnd : noDef o = true)
    (hw : Region.wanted o (yielded ops a.tmps) = true) (hy : YieldAt Fence.wide 0 P l args w R)
    (he : ∀ fn tmps asg body,(Instr.yield l args).run P w = .ok (.round l fn tmps asg body) w → (execOp a.eval o).run P w = .ok (.round l fn tmps asg body) w)
    (hd2 : l2.all noDef = true)
    (hr : ∀ e w',R e w' → ∃ v,e = .returned v ∧ wpG P ops (onN K) l2 (a.put d v) w') : wpListIn (WF ro) n P ops (onN K) (o :: l2) a w:=by
  obtain ⟨fn,tmps,asg,body,h1,h2⟩:=hy
  unfold wpListIn
  rw [if_pos hw]
  refine ⟨fun _ _=>trivial, ?_⟩
  rw [Oper.semAt_eq _ _ _ (noDef_spec hnd),he _ _ _ _ h1]
  refine ⟨(fun h=>(by cases h)),(roundIn_wf (ro:=none) (m:=n - 1) (n:=0) (ro':=ro) h2).mono ?_⟩
  intro e w' hR
  obtain ⟨v,rfl,hk⟩:=hr e w' hR
  rw [hdst]
  exact wpListIn_all hd2 (hk w' (Gr.refl _))
end

/-! ### what an iterator leaves alone -/
structure Keep (T : Nat → Prop) (W W' : World) : Prop where
  size : W.heap.size ≤ W'.heap.size
  same : ∀ k,T k → k < W.heap.size → W'.heap[k]? = W.heap[k]?
theorem Keep.trans {T : Nat → Prop} {X Y Z : World} (h : Keep T X Y) (g : Keep T Y Z) : Keep T X Z :=
  ⟨Nat.le_trans h.size g.size,fun k hk hl=>(g.same k hk (Nat.lt_of_lt_of_le hl h.size)).trans (h.same k hk hl)⟩
theorem Keep.of_gr {T : Nat → Prop} {W W' : World} (h : Gr W W') : Keep T W W':=⟨h.size,fun k _ hl=>h.block k hl⟩
theorem Keep.mono {T T' : Nat → Prop} {W W' : World} (h : Keep T W W') (hT : ∀ k,T' k → T k) : Keep T' W W':=⟨h.size,fun k hk hl=>h.same k (hT k hk) hl⟩
theorem Keep.of_chg {S T : Nat → Prop} {W W' : World} (h : Chg S W W') (hS : ∀ k,S k → ¬ T k) : Keep T W W' :=
  ⟨h.size,fun k hk hl=>h.block k hl (fun hs=>hS k hs hk)⟩
theorem Keep.putObj {T : Nat → Prop} {W : World} {l : Nat} (o : Obj) (hl : ¬ T l) : Keep T W (W.putObj l o) :=
  ⟨by simp,fun k hk _=>World.putObj_heap_other (fun e=>by subst e;exact hl hk)⟩

def Seq (P : Program) (g : Nat) (lb : Array Value) (enc : Nat → Array Value) (N : Nat) (T : World → Nat → Prop) (w : World) : Prop :=
  ∀ (l : Nat) (J Jx : Nat → World → Prop) (W : World),Gr w W → OwnFrom W.heap.size J → OwnFrom W.heap.size Jx →
    (∀ k W1,k < N → J k W1 → YieldAt Fence.wide 0 P l (enc k) W1 fun e W' =>
      (e = .returned (.bool true) ∧ J (k + 1) W' ∧ Keep (T W) W1 W') ∨ (e = .returned (.bool false) ∧ Jx (k + 1) W')) →
    J 0 W →
    Calls P g (#[.func (.yield l) #[] #[]] ++ lb) W fun e W'=>(∃ v,e = .returned v) ∧ (J N W' ∨ ∃ k,k < N ∧ Jx (k + 1) W')

def rPost (T : Nat → Prop) (I : Nat → World → Prop) (Ix : Code → Nat → World → Prop) (k : Nat) (W : World) : Exit → Act → World → Prop
  | .normal,_,W'=>Keep T W W' ∧ I k W'
  | .ret,_,W'=>Keep T W W' ∧ Ix .ret k W'
  | .exit id,_,W'=>Keep T W W' ∧ Ix (.exit id) k W'
  | .goto t,_,W'=>Keep T W W' ∧ Ix (.goto t) k W'
  | .panic _,_,_=>False
  | .outgrown,_,_=>False

variable {P : Program}
theorem range_law {g : Operand} {ps : Array Tmp} {assign body : Code} {Q : Exit → Act → World → Prop} {a : Act} {w : World}
    {gf : Nat} {lb : Array Value} (hg : a.eval g = .func (.func gf) #[] lb) (eg : ∀ args w,(callFunc gf args).run P w = .ok (.enter gf args) w)
    {enc : Nat → Array Value} {N : Nat} {T : World → Nat → Prop} {T' : Nat → Prop} (hseq : Seq P gf lb enc N T w) (hT : ∀ W1,W1.heap.size = w.heap.size + 2 → ∀ k,T W1 k → T' k ∧ k ≠ w.heap.size ∧ k ≠ w.heap.size + 1) (hT0 : T' w.heap.size) (hT1 : T' (w.heap.size + 1)) (hps : ∀ k,(enc k).size = ps.size)
    (I : Nat → World → Prop) (Ix : Code → Nat → World → Prop) (Ax : Nat → Act → World → Prop) (hI : OwnFrom w.heap.size I) (hIx : ∀ c,OwnFrom w.heap.size (Ix c)) (hAx : ∀ k a',OwnFrom w.heap.size (fun (_ : Unit) W=>Ax k a' W)) (h0 : I 0 w)
    (hassign : ∀ (l k : Nat) (W : World),k < N → I k W → (∀ j,j = w.heap.size ∨ j = w.heap.size + 1 → ∃ o : Obj,W.heap[j]? = some o ∧ o.isCells = false) → assign.wpIn (WF (some l)) 0 P (Exit.then (fun a' W'=>Keep T' W W' ∧ Ax k a' W') (fun _ _ _=>False)) { tmps:=(ps.zip (enc k)).foldl (fun t (p,v)=>t.setIfInBounds p v) a.tmps,defers:=[] } W)
    (hbody : ∀ (l k : Nat) (a' : Act) (W : World),k < N → Ax k a' W → (∀ j,j = w.heap.size ∨ j = w.heap.size + 1 → ∃ o : Obj,W.heap[j]? = some o ∧ o.isCells = false) → body.wpIn (WF (some l)) 0 P (rPost T' I Ix (k + 1) W) a' W)
    (hdone : ∀ (D : Nat) (W : World),w.heap.size ≤ D → I N W → W.heap[D]? = some (.deferred (some [])) → Q .normal { a with defers:={ target:=.collected D,args:=#[] } :: a.defers } W)
    (hstop : ∀ (D : Nat) (c : Code) (k : Nat) (W : World),w.heap.size ≤ D → k < N → Ix c (k + 1) W → W.heap[D]? = some (.deferred (some [])) → c.wp P Q { a with defers:={ target:=.collected D,args:=#[] } :: a.defers } W) :
    (Code.rangeFunc g ps assign body).wp P Q a w:=by
  refine (wpIn_wide (n:=1)).1 ?_
  refine wpIn_rangeFunc ?_
  intro fn hfn
  obtain ⟨rec,hrec⟩ : ∃ rec : LoopState → Option Code → Loop,rec = fun st pe=>{ state:=st,pending:=pe,fn,tmps:=a.tmps,params:=ps,assign,body,defers:=w.heap.size }:=⟨_,rfl⟩
  obtain ⟨W1,hW1⟩ : ∃ W1,(w.alloc (.deferred (some []))).alloc (.loop (rec .ready none)) = W1:=⟨_,rfl⟩
  have hs1 : W1.heap.size = w.heap.size + 2:=by rw [← hW1];simp
  have hL1 : W1.heap[w.heap.size + 1]? = some (.loop (rec .ready none)):=by
    rw [← hW1];have:=World.alloc_heap_new (w.alloc (.deferred (some []))) (.loop (rec .ready none));rwa [World.size_alloc] at this
  have hK1 : W1.heap[w.heap.size]? = some (.deferred (some [])):=by
    rw [← hW1];exact (Below.heap_alloc _ _ _ (by simp)).trans (World.alloc_heap_new w _)
  have hI1 : I 0 W1:=by rw [← hW1];exact hI.alloc _ (hI.alloc _ h0)
  have hG1 : Gr w W1:=by rw [← hW1];exact (Gr.al _ _).trans (Gr.al _ _)
  refine ⟨w.heap.size + 1,[{ target:=.collected w.heap.size,args:=#[] }],W1,{ target:=.fn (.func gf) lb,args:=#[.func (.yield (w.heap.size + 1)) #[] #[]] },W1,gf,
    #[.func (.yield (w.heap.size + 1)) #[] #[]] ++ lb,W1, ?_, ?_, ?_, ?_,fun _=>Nat.le_refl _, ?_⟩
  · rw [← hW1,hrec];exact run_enterLoop_outer _ _ _ _ _
  · simp only [resolve,hg]
    simp [go_sem]
  · intro f' hf';trivial
  · simp [invoke,go_sem,eg]
  · refine callsIn_wide.2 ?_
    have hnw : ∀ {A : World} {row : Option Nat},(∀ r,row = some r → W1.heap.size ≤ r ∧ ∃ o : Obj,A.heap[r]? = some o ∧ o.isCells = false) → (∀ r,row = some r → w.heap.size ≤ r ∧ ∃ o : Obj,A.heap[r]? = some o ∧ o.isCells = false) :=
      fun hr r e=>by obtain ⟨hB,ho⟩:=hr r e;exact ⟨by omega,ho⟩
    have hne : ∀ {A : World} {row : Option Nat} {k : Nat},k < W1.heap.size → (∀ r,row = some r → W1.heap.size ≤ r ∧ ∃ o : Obj,A.heap[r]? = some o ∧ o.isCells = false) → row ≠ some k :=
      fun hk hr e=>by have:=(hr _ e).1;omega
    refine (hseq (w.heap.size + 1)
      (fun k W=>I k W ∧ W.heap[w.heap.size + 1]? = some (.loop (rec .ready none)) ∧ W.heap[w.heap.size]? = some (.deferred (some [])))
      (fun k W=>∃ c,Ix c k W ∧ W.heap[w.heap.size + 1]? = some (.loop (rec .done (some c))) ∧ W.heap[w.heap.size]? = some (.deferred (some [])))
      W1 hG1
      (fun s A B row hs hg' hr=>⟨hI s A B row hs.1 hg' (hnw hr),(hg'.block _ (Array.getElem?_eq_some_iff.1 hs.2.1).1 (fun e=>hne (by omega) hr e.symm)).trans hs.2.1,(hg'.block _ (Array.getElem?_eq_some_iff.1 hs.2.2).1 (fun e=>hne (by omega) hr e.symm)).trans hs.2.2⟩)
      (fun s A B row hs hg' hr=>by
        obtain ⟨c,hc,hl,hk⟩:=hs
        exact ⟨c,hIx c s A B row hc hg' (hnw hr),(hg'.block _ (Array.getElem?_eq_some_iff.1 hl).1 (fun e=>hne (by omega) hr e.symm)).trans hl,(hg'.block _ (Array.getElem?_eq_some_iff.1 hk).1 (fun e=>hne (by omega) hr e.symm)).trans hk⟩)
      ?_ ⟨hI1,hL1,hK1⟩).mono ?_
    · -- one round
      rintro k W hk0 ⟨hi,hl,hk⟩
      have hlt : w.heap.size + 1 < W.heap.size:=(Array.getElem?_eq_some_iff.1 hl).1
      have hy:=run_yield (P:=P) (args:=enc k) hl (by rw [hrec];exact hps k)
      rw [hrec] at hy
      refine ⟨fn,_,assign,body,hy, ?_⟩
      refine roundIn_of_wpIn hfn (wpIn_mono (hassign _ k W hk0 hi (by rintro j (rfl | rfl);exact ⟨_,hk,rfl⟩;exact ⟨_,hl,rfl⟩)) ?_)
      clear hy
      rintro e a' Wa he
      cases e with
      | normal =>
        obtain ⟨hga,hax⟩:=he
        have hlA : Wa.heap[w.heap.size + 1]? = some (.loop (rec .ready none)):=(hga.same _ hT1 hlt).trans hl
        have hkA : Wa.heap[w.heap.size]? = some (.deferred (some [])):=(hga.same _ hT0 (by omega)).trans hk
        have hltA : w.heap.size + 1 < Wa.heap.size:=(Array.getElem?_eq_some_iff.1 hlA).1
        refine ⟨_,run_beginRound hlA (by rw [hrec]), ?_⟩
        obtain ⟨W2,hW2⟩ : ∃ W2,W2 = Wa.putObj (w.heap.size + 1) (.loop { rec .ready none with state:=.busy }):=⟨_,rfl⟩
        have hl2 : W2.heap[w.heap.size + 1]? = some (.loop { rec .ready none with state:=.busy }):=by rw [hW2];exact World.putObj_heap_same hltA
        have hk2 : W2.heap[w.heap.size]? = some (.deferred (some [])):=by rw [hW2];exact (World.putObj_heap_other (by omega)).trans hkA
        have hsz2 : Wa.heap.size = W2.heap.size:=by rw [hW2];simp
        have kp2 : Keep (T W1) Wa W2:=by rw [hW2];exact Keep.putObj _ (fun h=>(hT _ hs1 _ h).2.2 rfl)
        have ax2 : Ax k a' W2:=by rw [hW2];exact (hAx k a').putObj (s:=()) _ hax (by omega) hlA rfl
        rw [← hW2]
        refine wpIn_mono (hbody _ k a' W2 hk0 ax2 (by rintro j (rfl | rfl);exact ⟨_,hk2,rfl⟩;exact ⟨_,hl2,rfl⟩)) ?_
        have fin : ∀ (jump : Option Code) (W3 : World),Keep T' W2 W3 →
            (Instr.endRound (w.heap.size + 1) jump).run P W3 = .ok (.bool jump.isNone) (W3.putObj (w.heap.size + 1) (.loop (rec (if jump.isNone then .ready else .done) jump))) ∧
            W3.heap[w.heap.size + 1]? = some (.loop { rec .ready none with state:=.busy }) ∧
            (W3.putObj (w.heap.size + 1) (.loop (rec (if jump.isNone then .ready else .done) jump))).heap[w.heap.size + 1]? = some (.loop (rec (if jump.isNone then .ready else .done) jump)) ∧
            (W3.putObj (w.heap.size + 1) (.loop (rec (if jump.isNone then .ready else .done) jump))).heap[w.heap.size]? = some (.deferred (some [])):=fun jump W3 hk3=>by
          have hl3:=(hk3.same (w.heap.size + 1) hT1 (by omega)).trans hl2
          have hd3:=(hk3.same w.heap.size hT0 (by omega)).trans hk2
          have:=run_endRound (P:=P) jump hl3
          rw [hrec] at this ⊢
          exact ⟨this,by rw [hrec] at hl3;exact hl3,World.putObj_heap_same (Array.getElem?_eq_some_iff.1 hl3).1,(World.putObj_heap_other (by omega)).trans hd3⟩
        rintro e a3 W3 hp
        cases e with
        | normal =>
          obtain ⟨hk3,hi3⟩:=hp
          obtain ⟨hr,hl3,hl4,hk4⟩:=fin none W3 hk3
          refine ⟨_,_,hr, .inl ⟨rfl,⟨hI.putObj _ hi3 (by omega) hl3 rfl,hl4,hk4⟩, ?_⟩⟩
          exact ((hga.mono (fun k h=>(hT _ hs1 k h).1)).trans kp2).trans ((hk3.mono (fun k h=>(hT _ hs1 k h).1)).trans (Keep.putObj _ (fun h=>(hT _ hs1 _ h).2.2 rfl)))
        | ret =>
          obtain ⟨hk3,hi3⟩:=hp
          obtain ⟨hr,hl3,hl4,hk4⟩:=fin (some .ret) W3 hk3
          exact ⟨_,_,hr, .inr ⟨rfl, .ret,(hIx _).putObj _ hi3 (by omega) hl3 rfl,hl4,hk4⟩⟩
        | exit id =>
          obtain ⟨hk3,hi3⟩:=hp
          obtain ⟨hr,hl3,hl4,hk4⟩:=fin (some (.exit id)) W3 hk3
          exact ⟨_,_,hr, .inr ⟨rfl, .exit id,(hIx _).putObj _ hi3 (by omega) hl3 rfl,hl4,hk4⟩⟩
        | goto t =>
          obtain ⟨hk3,hi3⟩:=hp
          obtain ⟨hr,hl3,hl4,hk4⟩:=fin (some (.goto t)) W3 hk3
          exact ⟨_,_,hr, .inr ⟨rfl, .goto t,(hIx _).putObj _ hi3 (by omega) hl3 rfl,hl4,hk4⟩⟩
        | panic ch=>exact hp.elim
        | outgrown=>exact hp.elim
      | exit id=>exact he.elim
      | goto t=>exact he.elim
      | ret=>exact he.elim
      | panic ch=>exact he.elim
      | outgrown=>exact he.elim
    · rintro e W2 ⟨⟨v,rfl⟩,(⟨hi,hl,hk⟩ | ⟨k,hkN,c,hi,hl,hk⟩)⟩
      · exact ⟨none,_,by have:=run_endLoop (P:=P) hl (by rw [hrec];simp);rw [hrec] at this;exact this,hdone _ _ (Nat.le_refl _) (hI.putObj _ hi (by omega) hl rfl) ((World.putObj_heap_other (by omega)).trans hk)⟩
      · exact ⟨some c,_,by have:=run_endLoop (P:=P) hl (by rw [hrec];simp);rw [hrec] at this;exact this,wpIn_wide.2 (hstop _ c k _ (Nat.le_refl _) hkN ((hIx c).putObj _ hi (by omega) hl rfl) ((World.putObj_heap_other (by omega)).trans hk))⟩

/-! ### a function with a mark -/
def postM (P : Program) (fn : Func) (R : Ending → World → Prop) : Exit → Act → World → Prop:=bodyPostM Fence.wide 0 P fn R
theorem calls_marks {f : FuncId} {fn : Func} {c : Code} {args : Array Value} {w : World} {R : Ending → World → Prop} (hf : P.funcs[f]? = some fn) (hb : fn.body = some c)
    (h : c.wp P (postM P fn R) { tmps:=args ++ Array.replicate (fn.ntmps - args.size) undef,defers:=[] } w) : Calls P f args w R :=
  (callsIn_wide (n:=0)).1 (callsIn_of_wp_marks hf hb trivial (wpIn_wide.2 h))
theorem postM_one {fn : Func} {R : Ending → World → Prop} {e : Exit} {tmps : Array Value} {w w' : World} {v : Value} {D : Nat} (he : e = .normal ∨ e = .ret) (hD : w.heap[D]? = some (.deferred (some []))) (hw : w' = w.putObj D (.deferred none)) (hr : (results fn tmps).run P w' = .ok v w') (h : R (.returned v) w') :
    postM P fn R e ⟨tmps,[{ target:=.collected D,args:=#[] }]⟩ w:=by
  subst hw
  rcases he with rfl | rfl <;> exact ⟨by simp, .inl ⟨D,_,rfl,run_takeDeferred hD,⟨v,hr,h⟩⟩⟩

/-! ### assertions abide the turn of a block that holds no cells -/
def Cel (A : HP) : Prop:=∀ w f,A.holds w f → ∀ k,f k → ∃ o : Obj,w.heap[k]? = some o ∧ o.isCells = true
theorem cel_blk (g : Nat) (t : TypeId) (cs : List Value) : Cel (blk g t cs):=fun w f h k hk=>by
  have e:=(h.2 k).1 hk
  subst e
  exact ⟨_,h.1,rfl⟩
theorem cel_own (v : Value) (e : TypeId) (size n : Nat) (xs : List Value) : Cel (own v e size n xs):=fun w f h k hk=>by
  have hv:=(h.2 k).1 hk
  rcases h.1.2 with ⟨h1,_⟩ | ⟨g,cap,cur,h1,_,hgg,_⟩
  · rw [h1] at hv;cases hv
  · rw [h1] at hv;cases hv;exact ⟨_,hgg,rfl⟩
theorem cels_sts : ∀ {L : List HP} {w : World} {f : Nat → Prop},(∀ A ∈ L,Cel A) → Sts L w f → ∀ k,f k → ∃ o : Obj,w.heap[k]? = some o ∧ o.isCells = true
  | [],_,_,_,h,k,hk=>absurd hk (h k)
  | A :: L,w,f,hc,⟨a,r,ha,hr,_,hf⟩,k,hk=>by
    rcases (hf k).1 hk with h1 | h1
    · exact hc A List.mem_cons_self w a ha k h1
    · exact cels_sts (fun B hB=>hc B (List.mem_cons_of_mem _ hB)) hr k h1
theorem St.turned {w0 W W' : World} {F : Nat → Prop} {L : List HP} {B : Nat} {row : Option Nat} (h : St w0 F L W) (hc : ∀ A ∈ L,Cel A) (hB : w0.heap.size ≤ B) (hg : W.grownBy W' row) (hr : ∀ r,row = some r → B ≤ r ∧ ∃ o : Obj,W.heap[r]? = some o ∧ o.isCells = false) : St w0 F L W':=by
  obtain ⟨f,hs,hf⟩:=h.sts
  refine ⟨h.chg.trans (Chg.of_grown hg) (fun k hk e=>absurd hk (Nat.not_lt.2 (Nat.le_trans hB (hr k e).1))),f,hs.keep (fun k hk=>hg.block k (hs.lt k hk) (fun e=>?_)),hf⟩
  obtain ⟨o,ho,hoc⟩:=cels_sts hc hs k hk
  obtain ⟨_,o',ho',hoc'⟩:=hr k e.symm
  rw [ho] at ho';cases ho';rw [hoc] at hoc';cases hoc'
theorem St.shut {w0 W : World} {F : Nat → Prop} {L : List HP} {D : Nat} (h : St w0 F L W) (hc : ∀ A ∈ L,Cel A) (hB : w0.heap.size ≤ D) (hD : W.heap[D]? = some (.deferred (some []))) : St w0 F L (W.putObj D (.deferred none)) :=
  h.turned hc hB (grownBy_putObj' W D _) (fun r e=>by cases e;exact ⟨Nat.le_refl _,_,hD,rfl⟩)
theorem St.anew {w0 W : World} {F : Nat → Prop} {L : List HP} (h : St w0 F L W) : ∃ f,St W f L W ∧ Sts L W f ∧ (∀ k,f k → F k ∨ w0.heap.size ≤ k) ∧ ∀ {N : List HP} {w' : World},St W f N w' → St w0 F N w':=by
  obtain ⟨f,h1,h2,h3⟩:=St.lend (L:=L) (M:=[]) (by rw [List.append_nil];exact h)
  exact ⟨f,St.borrow h1,h1,h2,fun h=>by have:=h3 h;rwa [List.append_nil] at this⟩
def blocks : List HP → Nat → Prop
  | [],_=>False
  | A :: L,k=>(∃ w f,A.holds w f ∧ f k) ∨ blocks L k
theorem sts_blocks : ∀ {L : List HP} {w : World} {f : Nat → Prop},Sts L w f → ∀ k,f k → blocks L k
  | [],_,_,h,k,hk=>absurd hk (h k)
  | A :: L,w,f,⟨a,r,ha,hr,_,hf⟩,k,hk=>by
    rcases (hf k).1 hk with h1 | h1
    · exact .inl ⟨w,a,ha,h1⟩
    · exact .inr (sts_blocks hr k h1)
theorem blocks_blk {g : Nat} {t : TypeId} {cs : List Value} {k : Nat} (h : ∃ w f,(blk g t cs).holds w f ∧ f k) : k = g:=by obtain ⟨w,f,h1,h2⟩:=h;exact (h1.2 k).1 h2
theorem blocks_own {v : Value} {e : TypeId} {size n : Nat} {xs : List Value} {k : Nat} (h : ∃ w f,(own v e size n xs).holds w f ∧ f k) : v.ownBlock = some k:=by obtain ⟨w,f,h1,h2⟩:=h;exact (h1.2 k).1 h2
theorem keep_st {f : Nat → Prop} {L L' : List HP} {W W' : World} {B bb : Nat} {t : TypeId} {cs : List Value} (h : St W f L' W') (hs : Sts L W f) (hc : ∀ A ∈ L,Cel A) (hR : ∀ j,j = B ∨ j = B + 1 → ∃ o : Obj,W.heap[j]? = some o ∧ o.isCells = false)
    (hb : W.heap[bb]? = some (.cells cs.toArray t (0,0))) (i : Nat) (hi : L'[i]? = some (blk bb t cs)) : Keep (fun k=>k = B ∨ k = B + 1 ∨ k = bb) W W' :=
  ⟨h.size,fun k hk hl=>by
    by_cases e : k = bb
    · subst e;exact (h.heap i hi).trans hb.symm
    · refine h.chg.block k hl (fun hf=>?_)
      obtain ⟨o,ho,hoc⟩:=cels_sts hc hs k hf
      obtain ⟨o',ho',hoc'⟩:=hR k (by rcases hk with hk | hk | hk;exact .inl hk;exact .inr hk;exact absurd hk e)
      rw [ho] at ho';cases ho';rw [hoc] at hoc';cases hoc'⟩
theorem St.belo {w00 w W : World} {F : Nat → Prop} {L : List HP} (h : St w F L W) (h0 : Gr w00 w) (hF : ∀ k,F k → w00.heap.size ≤ k) : Gr w00 W :=
  Below.trans h0 (h.chg.below (B:=w00.heap.size) h0.size (fun k hk hf=>absurd hk (Nat.not_lt.2 (hF k hf))))
theorem Row.keep {T : Nat → Prop} {g : Nat} {v : Value} {cs : List Value} {W W' : World} (h : Row g (v :: cs) W) (k : Keep T W W') (hT : T g) : Row g (v :: cs) W':=by
  have hb:=k.same g hT h.lt
  intro j u hj
  obtain ⟨h1,h2⟩:=h j u hj
  exact ⟨(World.cell?_of_block (w:=W) (a:=⟨g,j,none⟩) hb).trans h1,(World.frozen?_of_block (w:=W) (a:=⟨g,j,none⟩) hb).trans h2⟩
theorem OwnFrom.gr {β : Type} {B : Nat} {I : β → World → Prop} (h : OwnFrom B I) {s : β} {W W' : World} (hs : I s W) (hg : Gr W W') : I s W' :=
  h s W W' none hs ⟨hg.os,hg.tape,hg.output,hg.size,fun k hk _=>hg.block k hk⟩ (fun r e=>by cases e)
end Go.Proofs.YtpapbbolefnkmaaDoor
