/-
  Iterators that keep cells of their own: the invariant of the caller rests on older blocks alone. (No program.)
-/
import Derived.Test.YtpapbbolefnkmaaDoorZB41
namespace Go.Proofs.YtpapbbolefnkmaaDoor
open Go Go.RowKit
set_option linter.unusedVariables false
def LowFrom {β : Type} (B : Nat) (I : β → World → Prop) : Prop:=∀ s X Y,I s X → Below B X Y → I s Y
theorem LowFrom.alloc {β : Type} {B : Nat} {I : β → World → Prop} (h : LowFrom B I) {s : β} {W : World} (o : Obj) (hs : I s W) (hB : B ≤ W.heap.size:=by (first | omega | (simp;omega) | simp)) : I s (W.alloc o):=h s W _ hs (Below.alloc (Below.refl _ _) hB o)
theorem LowFrom.putObj {β : Type} {B : Nat} {I : β → World → Prop} (h : LowFrom B I) {s : β} {W : World} {l : Nat} (o : Obj) (hs : I s W) (hB : B ≤ l) : I s (W.putObj l o) :=
  h s W _ hs ⟨rfl,rfl,rfl,by simp,fun k hk=>World.putObj_heap_other (by omega)⟩
def Seq2 (P : Program) (g : Nat) (lb : Array Value) (enc : Nat → Array Value) (N : Nat) (T : World → Nat → Prop) (w : World) : Prop :=
  ∀ (l : Nat) (J Jx : Nat → World → Prop) (W : World),Gr w W → LowFrom W.heap.size J → LowFrom W.heap.size Jx →
    (∀ k W1,k < N → J k W1 → YieldAt Fence.wide 0 P l (enc k) W1 fun e W' =>
      (e = .returned (.bool true) ∧ J (k + 1) W' ∧ Keep (T W) W1 W') ∨ (e = .returned (.bool false) ∧ Jx (k + 1) W' ∧ Keep (T W) W1 W')) →
    J 0 W →
    Calls P g (#[.func (.yield l) #[] #[]] ++ lb) W fun e W'=>(∃ v,e = .returned v) ∧ (J N W' ∨ ∃ k,k < N ∧ Jx (k + 1) W')

variable {P : Program}
theorem range_law2 {g : Operand} {ps : Array Tmp} {assign body : Code} {Q : Exit → Act → World → Prop} {a : Act} {w : World}
    {gf : Nat} {lb : Array Value} (hg : a.eval g = .func (.func gf) #[] lb) (eg : ∀ args w,(callFunc gf args).run P w = .ok (.enter gf args) w)
    {enc : Nat → Array Value} {N : Nat} {T : World → Nat → Prop} {T' : Nat → Prop} (hseq : Seq2 P gf lb enc N T w) (hT : ∀ W1,W1.heap.size = w.heap.size + 2 → ∀ k,T W1 k → T' k ∧ k ≠ w.heap.size ∧ k ≠ w.heap.size + 1) (hT0 : T' w.heap.size) (hT1 : T' (w.heap.size + 1)) (hps : ∀ k,(enc k).size = ps.size)
    (I : Nat → World → Prop) (Ix : Code → Nat → World → Prop) (Ax : Nat → Act → World → Prop) (hI : LowFrom w.heap.size I) (hIx : ∀ c,LowFrom w.heap.size (Ix c)) (hAx : ∀ k a',OwnFrom w.heap.size (fun (_ : Unit) W=>Ax k a' W)) (h0 : I 0 w)
    (hassign : ∀ (l k : Nat) (W : World),k < N → I k W → (∀ j,j = w.heap.size ∨ j = w.heap.size + 1 → ∃ o : Obj,W.heap[j]? = some o ∧ o.isCells = false) → assign.wpIn (WF (some l)) 0 P (Exit.then (fun a' W'=>Keep T' W W' ∧ Ax k a' W') (fun _ _ _=>False)) { tmps:=(ps.zip (enc k)).foldl (fun t (p,v)=>t.setIfInBounds p v) a.tmps,defers:=[] } W)
    (hbody : ∀ (l k : Nat) (a' : Act) (W : World),k < N → Ax k a' W → (∀ j,j = w.heap.size ∨ j = w.heap.size + 1 → ∃ o : Obj,W.heap[j]? = some o ∧ o.isCells = false) → body.wpIn (WF (some l)) 0 P (rPost T' I Ix (k + 1) W) a' W)
    (hdone : ∀ (D : Nat) (W : World),w.heap.size ≤ D → I N W → W.heap[D]? = some (.deferred (some [])) → Q .normal { a with defers:={ target:=.collected D,args:=#[] } :: a.defers } W)
    (hstop : ∀ (D : Nat) (c : Code) (k : Nat) (W : World),w.heap.size ≤ D → k < N → Ix c (k + 1) W → W.heap[D]? = some (.deferred (some [])) → c.wp P Q { a with defers:={ target:=.collected D,args:=#[] } :: a.defers } W) :
    (Code.rangeFunc g ps assign body).wp P Q a w:=by
  refine (wpIn_wide (n:=1)).1 ?_
  refine wpIn_rangeFunc ?_
  intro fn hfn
  obtain ⟨rec,hrec⟩ : ∃ rec : LoopState → Option Code → Loop,rec = fun st pe=>{ state:=st,pending:=pe,fn,tmps:=a.tmps,params:=ps,assign,body,defers:=w.heap.size }:=⟨_,rfl⟩
  obtain ⟨W1,hW1⟩ : ∃ W1,(w.alloc (.deferred (some []))).alloc (.loop (rec .ready none)) = W1:=⟨_,rfl⟩
  have hs1 : W1.heap.size = w.heap.size + 2:=by rw [← hW1];simp
  have hL1 : W1.heap[w.heap.size + 1]? = some (.loop (rec .ready none)):=by
    rw [← hW1];have:=World.alloc_heap_new (w.alloc (.deferred (some []))) (.loop (rec .ready none));rwa [World.size_alloc] at this
  have hK1 : W1.heap[w.heap.size]? = some (.deferred (some [])):=by
    rw [← hW1];exact (Below.heap_alloc _ _ _ (by simp)).trans (World.alloc_heap_new w _)
  have hI1 : I 0 W1:=by rw [← hW1];exact hI.alloc _ (hI.alloc _ h0)
  have hG1 : Gr w W1:=by rw [← hW1];exact (Gr.al _ _).trans (Gr.al _ _)
  refine ⟨w.heap.size + 1,[{ target:=.collected w.heap.size,args:=#[] }],W1,{ target:=.fn (.func gf) lb,args:=#[.func (.yield (w.heap.size + 1)) #[] #[]] },W1,gf,
    #[.func (.yield (w.heap.size + 1)) #[] #[]] ++ lb,W1, ?_, ?_, ?_, ?_,fun _=>Nat.le_refl _, ?_⟩
  · rw [← hW1,hrec];exact run_enterLoop_outer _ _ _ _ _
  · simp only [resolve,hg]
    simp [go_sem]
  · intro f' hf';trivial
  · simp [invoke,go_sem,eg]
  · refine callsIn_wide.2 ?_
    refine (hseq (w.heap.size + 1)
      (fun k W=>I k W ∧ W.heap[w.heap.size + 1]? = some (.loop (rec .ready none)) ∧ W.heap[w.heap.size]? = some (.deferred (some [])))
      (fun k W=>∃ c,Ix c k W ∧ W.heap[w.heap.size + 1]? = some (.loop (rec .done (some c))) ∧ W.heap[w.heap.size]? = some (.deferred (some [])))
      W1 hG1
      (fun s A B hs hb=>⟨hI s A B hs.1 (hb.mono (by omega)),(hb.block _ (by omega)).trans hs.2.1,(hb.block _ (by omega)).trans hs.2.2⟩)
      (fun s A B hs hb=>by
        obtain ⟨c,hc,hl,hk⟩:=hs
        exact ⟨c,hIx c s A B hc (hb.mono (by omega)),(hb.block _ (by omega)).trans hl,(hb.block _ (by omega)).trans hk⟩)
      ?_ ⟨hI1,hL1,hK1⟩).mono ?_
    · -- one round
      rintro k W hk0 ⟨hi,hl,hk⟩
      have hlt : w.heap.size + 1 < W.heap.size:=(Array.getElem?_eq_some_iff.1 hl).1
      have hy:=run_yield (P:=P) (args:=enc k) hl (by rw [hrec];exact hps k)
      rw [hrec] at hy
      refine ⟨fn,_,assign,body,hy, ?_⟩
      refine roundIn_of_wpIn hfn (wpIn_mono (hassign _ k W hk0 hi (by rintro j (rfl | rfl);exact ⟨_,hk,rfl⟩;exact ⟨_,hl,rfl⟩)) ?_)
      clear hy
      rintro e a' Wa he
      cases e with
      | normal =>
        obtain ⟨hga,hax⟩:=he
        have hlA : Wa.heap[w.heap.size + 1]? = some (.loop (rec .ready none)):=(hga.same _ hT1 hlt).trans hl
        have hkA : Wa.heap[w.heap.size]? = some (.deferred (some [])):=(hga.same _ hT0 (by omega)).trans hk
        have hltA : w.heap.size + 1 < Wa.heap.size:=(Array.getElem?_eq_some_iff.1 hlA).1
        refine ⟨_,run_beginRound hlA (by rw [hrec]), ?_⟩
        obtain ⟨W2,hW2⟩ : ∃ W2,W2 = Wa.putObj (w.heap.size + 1) (.loop { rec .ready none with state:=.busy }):=⟨_,rfl⟩
        have hl2 : W2.heap[w.heap.size + 1]? = some (.loop { rec .ready none with state:=.busy }):=by rw [hW2];exact World.putObj_heap_same hltA
        have hk2 : W2.heap[w.heap.size]? = some (.deferred (some [])):=by rw [hW2];exact (World.putObj_heap_other (by omega)).trans hkA
        have hsz2 : Wa.heap.size = W2.heap.size:=by rw [hW2];simp
        have kp2 : Keep (T W1) Wa W2:=by rw [hW2];exact Keep.putObj _ (fun h=>(hT _ hs1 _ h).2.2 rfl)
        have ax2 : Ax k a' W2:=by rw [hW2];exact (hAx k a').putObj (s:=()) _ hax (by omega) hlA rfl
        rw [← hW2]
        refine wpIn_mono (hbody _ k a' W2 hk0 ax2 (by rintro j (rfl | rfl);exact ⟨_,hk2,rfl⟩;exact ⟨_,hl2,rfl⟩)) ?_
        have fin : ∀ (jump : Option Code) (W3 : World),Keep T' W2 W3 →
            (Instr.endRound (w.heap.size + 1) jump).run P W3 = .ok (.bool jump.isNone) (W3.putObj (w.heap.size + 1) (.loop (rec (if jump.isNone then .ready else .done) jump))) ∧
            W3.heap[w.heap.size + 1]? = some (.loop { rec .ready none with state:=.busy }) ∧
            (W3.putObj (w.heap.size + 1) (.loop (rec (if jump.isNone then .ready else .done) jump))).heap[w.heap.size + 1]? = some (.loop (rec (if jump.isNone then .ready else .done) jump)) ∧
            (W3.putObj (w.heap.size + 1) (.loop (rec (if jump.isNone then .ready else .done) jump))).heap[w.heap.size]? = some (.deferred (some [])):=fun jump W3 hk3=>by
          have hl3:=(hk3.same (w.heap.size + 1) hT1 (by omega)).trans hl2
          have hd3:=(hk3.same w.heap.size hT0 (by omega)).trans hk2
          have:=run_endRound (P:=P) jump hl3
          rw [hrec] at this ⊢
          exact ⟨this,by rw [hrec] at hl3;exact hl3,World.putObj_heap_same (Array.getElem?_eq_some_iff.1 hl3).1,(World.putObj_heap_other (by omega)).trans hd3⟩
        rintro e a3 W3 hp
        cases e with
        | normal =>
          obtain ⟨hk3,hi3⟩:=hp
          obtain ⟨hr,hl3,hl4,hk4⟩:=fin none W3 hk3
          refine ⟨_,_,hr, .inl ⟨rfl,⟨hI.putObj _ hi3 (by omega),hl4,hk4⟩, ?_⟩⟩
          exact ((hga.mono (fun k h=>(hT _ hs1 k h).1)).trans kp2).trans ((hk3.mono (fun k h=>(hT _ hs1 k h).1)).trans (Keep.putObj _ (fun h=>(hT _ hs1 _ h).2.2 rfl)))
        | ret =>
          obtain ⟨hk3,hi3⟩:=hp
          obtain ⟨hr,hl3,hl4,hk4⟩:=fin (some .ret) W3 hk3
          exact ⟨_,_,hr, .inr ⟨rfl,⟨.ret,(hIx _).putObj _ hi3 (by omega),hl4,hk4⟩,((hga.mono (fun k h=>(hT _ hs1 k h).1)).trans kp2).trans ((hk3.mono (fun k h=>(hT _ hs1 k h).1)).trans (Keep.putObj _ (fun h=>(hT _ hs1 _ h).2.2 rfl)))⟩⟩
        | exit id =>
          obtain ⟨hk3,hi3⟩:=hp
          obtain ⟨hr,hl3,hl4,hk4⟩:=fin (some (.exit id)) W3 hk3
          exact ⟨_,_,hr, .inr ⟨rfl,⟨.exit id,(hIx _).putObj _ hi3 (by omega),hl4,hk4⟩,((hga.mono (fun k h=>(hT _ hs1 k h).1)).trans kp2).trans ((hk3.mono (fun k h=>(hT _ hs1 k h).1)).trans (Keep.putObj _ (fun h=>(hT _ hs1 _ h).2.2 rfl)))⟩⟩
        | goto t =>
          obtain ⟨hk3,hi3⟩:=hp
          obtain ⟨hr,hl3,hl4,hk4⟩:=fin (some (.goto t)) W3 hk3
          exact ⟨_,_,hr, .inr ⟨rfl,⟨.goto t,(hIx _).putObj _ hi3 (by omega),hl4,hk4⟩,((hga.mono (fun k h=>(hT _ hs1 k h).1)).trans kp2).trans ((hk3.mono (fun k h=>(hT _ hs1 k h).1)).trans (Keep.putObj _ (fun h=>(hT _ hs1 _ h).2.2 rfl)))⟩⟩
        | panic ch=>exact hp.elim
        | outgrown=>exact hp.elim
      | exit id=>exact he.elim
      | goto t=>exact he.elim
      | ret=>exact he.elim
      | panic ch=>exact he.elim
      | outgrown=>exact he.elim
    · rintro e W2 ⟨⟨v,rfl⟩,(⟨hi,hl,hk⟩ | ⟨k,hkN,c,hi,hl,hk⟩)⟩
      · exact ⟨none,_,by have:=run_endLoop (P:=P) hl (by rw [hrec];simp);rw [hrec] at this;exact this,hdone _ _ (Nat.le_refl _) (hI.putObj _ hi (by omega)) ((World.putObj_heap_other (by omega)).trans hk)⟩
      · exact ⟨some c,_,by have:=run_endLoop (P:=P) hl (by rw [hrec];simp);rw [hrec] at this;exact this,wpIn_wide.2 (hstop _ c k _ (Nat.le_refl _) hkN ((hIx c).putObj _ hi (by omega)) ((World.putObj_heap_other (by omega)).trans hk))⟩

def StL (B : Nat) (w0 : World) (F : Nat → Prop) (L : List HP) (W : World) : Prop:=St w0 F L W ∧ ∀ k,blocks L k → k < B
theorem StL.low {β : Type} {B : Nat} {w0 : World} {F : Nat → Prop} {L : β → List HP} (hB : w0.heap.size ≤ B) : LowFrom B (fun s W=>StL B w0 F (L s) W):=fun s X Y hs hb=>by
  obtain ⟨⟨hc,f,h1,h2⟩,h3⟩:=hs
  refine ⟨⟨⟨hb.os.trans hc.os,hb.tape.trans hc.tape,hb.output.trans hc.output,Nat.le_trans hc.size hb.size,fun k hk hn=>(hb.block k (by omega)).trans (hc.block k hk hn)⟩,f,h1.keep (fun k hk=>hb.block k (h3 k (sts_blocks h1 k hk))),h2⟩,h3⟩
theorem bl_nil {B : Nat} : ∀ k,blocks [] k → k < B:=fun _ h=>h.elim
theorem bl_blk {B g : Nat} {t : TypeId} {cs : List Value} {L : List HP} (h : g < B) (k : ∀ q,blocks L q → q < B) : ∀ q,blocks (blk g t cs :: L) q → q < B:=fun q hq=>by
  rcases hq with hq | hq
  · rw [blocks_blk hq];exact h
  · exact k q hq
theorem bl_own {B : Nat} {v : Value} {e : TypeId} {size n : Nat} {xs : List Value} {L : List HP} (h : ∀ q,v.ownBlock = some q → q < B) (k : ∀ q,blocks L q → q < B) : ∀ q,blocks (own v e size n xs :: L) q → q < B:=fun q hq=>by
  rcases hq with hq | hq
  · exact h q (blocks_own hq)
  · exact k q hq
theorem own_lt {w0 W : World} {F : Nat → Prop} {L : List HP} (h : St w0 F L W) (i : Nat) {v : Value} {e : TypeId} {size n : Nat} {xs : List Value} (hL : L[i]? = some (own v e size n xs)) : ∀ q,v.ownBlock = some q → q < W.heap.size:=fun q hq=>((h.ownr i hL).lt q hq).2
theorem keep_sl {f : Nat → Prop} {L L' : List HP} {W W' : World} {B gb : Nat} {t : TypeId} {cs : List Value} {KA : Nat → Prop} (h : St W f L' W') (hs : Sts L W f) (hb : ∀ k,f k → k = gb ∨ k < B ∧ ¬ KA k)
    (hg : W.heap[gb]? = some (.cells cs.toArray t (0,0))) (i : Nat) (hi : L'[i]? = some (blk gb t cs)) (hgB : gb < B) : Keep (fun k=>B ≤ k ∨ k = gb ∨ KA k) W W' :=
  ⟨h.size,fun k hk hl=>by
    by_cases e : k = gb
    · subst e;exact (h.heap i hi).trans hg.symm
    · refine h.chg.block k hl (fun hf=>?_)
      rcases hb k hf with h1 | ⟨h1,h2⟩
      · exact e h1
      · rcases hk with hk | hk | hk
        · omega
        · exact e hk
        · exact h2 hk⟩
theorem nocell_keep {T : Nat → Prop} {W W' : World} {j : Nat} (h : ∃ o : Obj,W.heap[j]? = some o ∧ o.isCells = false) (k : Keep T W W') (hT : T j) : ∃ o : Obj,W'.heap[j]? = some o ∧ o.isCells = false:=by
  obtain ⟨o,h1,h2⟩:=h
  exact ⟨o,(k.same j hT (Array.getElem?_eq_some_iff.1 h1).1).trans h1,h2⟩
theorem YieldAt.monoR {F : Fence} {m : Nat} {P : Program} {l : Nat} {args : Array Value} {W : World} {R R' : Ending → World → Prop} (h : YieldAt F m P l args W R) (hr : ∀ e w',R e w' → R' e w') : YieldAt F m P l args W R':=by
  obtain ⟨fn,tmps,asg,body,h1,h2⟩:=h
  exact ⟨fn,tmps,asg,body,h1,h2.mono hr⟩
structure VI (J : Nat → World → Prop) (gb : Nat) (g0 : Value) (G : List Value) (A : Option Addr) (n c : Nat) (xs : List Value) (B0 : Nat) (L : List HP) (k : Nat) (W : World) : Prop where
  j : J k W
  row : Row gb (g0 :: G) W
  sl : SL W 1 A n c xs
  size : B0 ≤ W.heap.size
  sts : ∃ f,Sts L W f ∧ ∀ q,f q → B0 ≤ q
theorem row_turned {W W' : World} {row : Option Nat} {g : Nat} {v : Value} {cs : List Value} (h : Row g (v :: cs) W) (hg : W.grownBy W' row) (hr : ∀ r,row = some r → ∃ o : Obj,W.heap[r]? = some o ∧ o.isCells = false) : Row g (v :: cs) W':=by
  have hb:=hg.block g h.lt (fun e=>by
    obtain ⟨o,ho,hoc⟩:=hr g e.symm
    obtain ⟨o',ho',hoc'⟩:=cells_of_cell (h 0 v rfl).1
    rw [ho] at ho';cases ho';rw [hoc] at hoc';cases hoc')
  intro j u hj
  obtain ⟨h1,h2⟩:=h j u hj
  exact ⟨(World.cell?_of_block (w:=W) (a:=⟨g,j,none⟩) hb).trans h1,(World.frozen?_of_block (w:=W) (a:=⟨g,j,none⟩) hb).trans h2⟩
theorem SL.turned {W W' : World} {row : Option Nat} {sz : Nat} {A : Option Addr} {n c : Nat} {xs : List Value} (h : SL W sz A n c xs) (hg : W.grownBy W' row) (hr : ∀ r,row = some r → ∃ o : Obj,W.heap[r]? = some o ∧ o.isCells = false) : SL W' sz A n c xs:=by
  refine ⟨h.len, ?_,h.cap,h.bnd⟩
  rcases h.lies with h0 | ⟨b,o,hA,hc⟩
  · exact .inl h0
  · exact .inr ⟨b,o,hA,fun j v hj=>cell_kept (hc j v hj) hg hr⟩
def sblk (A : Option Addr) (k : Nat) : Prop:=∃ b o,A = some ⟨b,o,none⟩ ∧ k = b
theorem SL.keep {W W' : World} {T : Nat → Prop} {sz : Nat} {A : Option Addr} {n c : Nat} {xs : List Value} (h : SL W sz A n c xs) (k : Keep T W W') (hT : ∀ q,sblk A q → T q) : SL W' sz A n c xs:=by
  refine ⟨h.len, ?_,h.cap,h.bnd⟩
  rcases h.lies with h0 | ⟨b,o,hA,hc⟩
  · exact .inl h0
  · refine .inr ⟨b,o,hA,fun j v hj=>?_⟩
    have h1:=hc j v hj
    exact (World.cell?_of_block (w:=W) (a:=⟨b,o + j,none⟩) (k.same b (hT b ⟨b,o,hA,rfl⟩) (World.block_lt_of_cell? W ⟨b,o + j,none⟩ h1))).trans h1
section
variable {J : Nat → World → Prop} {gb : Nat} {g0 : Value} {G : List Value} {A : Option Addr} {n c : Nat} {xs : List Value} {B0 : Nat} {L L' : List HP} {k : Nat} {W W' : World}
theorem VI.turned (hJ : LowFrom B0 J) (h : VI J gb g0 G A n c xs B0 L k W) (hc : ∀ A ∈ L,Cel A) {row : Option Nat} (hg : W.grownBy W' row) (hr : ∀ r,row = some r → B0 ≤ r ∧ ∃ o : Obj,W.heap[r]? = some o ∧ o.isCells = false) : VI J gb g0 G A n c xs B0 L k W':=by
  obtain ⟨f,h1,h2⟩:=h.sts
  refine ⟨hJ k W W' h.j ⟨hg.os,hg.tape,hg.output,hg.size,fun q hq=>hg.block q (Nat.lt_of_lt_of_le hq h.size) (fun e=>by have:=(hr q e.symm).1;omega)⟩,row_turned h.row hg (fun r e=>(hr r e).2),h.sl.turned hg (fun r e=>(hr r e).2),Nat.le_trans h.size hg.size,f,h1.keep (fun q hq=>hg.block q (h1.lt q hq) (fun e=>?_)),h2⟩
  obtain ⟨o,ho,hoc⟩:=cels_sts hc h1 q hq
  obtain ⟨_,o',ho',hoc'⟩:=hr q e.symm
  rw [ho] at ho';cases ho';rw [hoc] at hoc';cases hoc'
theorem VI.round {T : Nat → Prop} {k' : Nat} (hj : J k' W') (h : VI J gb g0 G A n c xs B0 L k W) (hk : Keep T W W') (hT : ∀ q,(B0 ≤ q ∨ q = gb ∨ sblk A q) → T q) : VI J gb g0 G A n c xs B0 L k' W':=by
  obtain ⟨f,h1,h2⟩:=h.sts
  exact ⟨hj,h.row.keep hk (hT gb (.inr (.inl rfl))),h.sl.keep hk (fun q hq=>hT q (.inr (.inr hq))),Nat.le_trans h.size hk.size,f,h1.keep (fun q hq=>hk.same q (hT q (.inl (h2 q hq))) (h1.lt q hq)),h2⟩
theorem VI.step (hJ : LowFrom B0 J) (h : VI J gb g0 G A n c xs B0 L k W) (hgb : gb < B0) (hA : ∀ q,sblk A q → q < B0) : ∃ f,St W f L W ∧ Sts L W f ∧ (∀ q,f q → B0 ≤ q) ∧ ∀ {L' : List HP} {W' : World},St W f L' W' → VI J gb g0 G A n c xs B0 L' k W':=by
  obtain ⟨f,h1,h2⟩:=h.sts
  refine ⟨f,St.borrow h1,h1,h2,fun {L' W'} hs=>?_⟩
  have hb : Below B0 W W':=hs.chg.below h.size (fun q hq hf=>by have:=h2 q hf;omega)
  have kp : Keep (fun q=>q < B0) W W':=Keep.of_chg hs.chg (fun q hf hq=>by have:=h2 q hf;omega)
  obtain ⟨f',h3,h4⟩:=hs.sts
  exact ⟨hJ k W W' h.j hb,h.row.keep kp hgb,h.sl.keep kp hA,Nat.le_trans h.size hs.size,f',h3,fun q hq=>by
    rcases h4 q hq with h5 | h5
    · exact h2 q h5
    · exact Nat.le_trans h.size h5⟩
end
end Go.Proofs.YtpapbbolefnkmaaDoor
