/-
  Regions that draw their order and hold calls that change memory: as Krip, with the list of what writes given from outside. (No program.)
-/
import Derived.Test.YtpapbbolefnkmaaDoorZB17
namespace Go.Proofs.YtpapbbolefnkmaaDoor.J
open Go Go.RowKit
section
variable {P : Program} {ops : Array Oper} {md : Region.Mode} {st : Nat → Bool} {Q : Exit → Act → World → Prop}
def storesWait (md : Region.Mode) (ops : Array Oper) (st : Nat → Bool) (listed : Array Bool) (i : Nat) : Bool :=
  (List.range ops.size).all fun j=>j == i || !st j || listed.getD j false || needs md ops ops.size j i

def wpK (P : Program) (md : Region.Mode) (ops : Array Oper) (st : Nat → Bool) (Q : Exit → Act → World → Prop) : Nat → Array Bool → Act → World → Prop
  | 0,listed,a,w=>∀ w',Gr w w' → Region.ready md ops listed = [] ∧ Q .normal a w'
  | fuel + 1,listed,a,w=>∀ w',Gr w w' →
    (Region.ready md ops listed = [] → Q .normal a w') ∧
    ∀ i ∈ Region.ready md ops listed,wpOp P ops Q i (fun a' w1=>(st i = true ∨ Gr w' w1) ∧ wpK P md ops st Q fuel (listed.setIfInBounds i true) a' w1) a w'

theorem wpK_mono : ∀ (fuel : Nat) {listed : Array Bool} {a : Act} {w w' : World},Gr w w' → wpK P md ops st Q fuel listed a w → wpK P md ops st Q fuel listed a w'
  | 0,_,_,_,_,hg,h=>fun w2 h2=>h w2 (hg.trans h2)
  | _ + 1,_,_,_,_,hg,h=>fun w2 h2=>h w2 (hg.trans h2)

theorem wpAny_of_wpK : ∀ (fuel : Nat) (listed : Array Bool) (a : Act) (w : World),wpK P md ops st Q fuel listed a w → wpAny P md ops Q fuel listed a w
  | 0,_,_,w,h=>h w (Gr.refl w)
  | fuel + 1,_,_,w,h=>⟨(h w (Gr.refl w)).1,fun i hi=>wpOp_mono (fun a' w' h'=>wpAny_of_wpK fuel _ a' w' h'.2) ((h w (Gr.refl w)).2 i hi)⟩

theorem wpK_first {i : Nat} {oi : Oper} {v : Value} (hi : ops[i]? = some oi) (hsel : ∀ (j : Nat) (o : Oper) cs b,ops[j]? = some o → o.op ≠ .select cs b)
    (hQ : ∀ c a w,Q (.panic c) (a.put oi.dst v) w → Q (.panic c) a w) :
    ∀ (fuel : Nat) (listed : Array Bool) (a : Act) (w : World),
      (∀ j oj,ops[j]? = some oj → j ≠ i → listed.getD j true = false → (∀ e ∈ oj.after,Region.binds md e = true → e.on ≠ i) → oi.apart ops oj = true) →
      closedL md ops listed →
      (∀ j,j < ops.size → st j = true → j ≠ i → listed.getD j true = false → needs md ops ops.size j i = true) →
      i ∈ Region.ready md ops listed → YieldsK P ops oi v a w →
      wpK P md ops st Q fuel (listed.setIfInBounds i true) (a.put oi.dst v) w → wpK P md ops st Q (fuel + 1) listed a w:=by
  intro fuel
  induction fuel with
  | zero =>
    intro listed a w _ _ _ hr hy H w' hg
    refine ⟨fun h=>(by rw [h] at hr;cases hr),fun j hj=>?_⟩
    by_cases hji : j = i
    · subst hji;exact (hy.mono hg).wpOp hi (fun w2 h2=>⟨.inr h2,wpK_mono 0 (hg.trans h2) H⟩)
    · have:=ready_mono hj hji
      rw [(H w' hg).1] at this
      cases this
  | succ fuel ih =>
    intro listed a w hfree hc hst hr hy H w' hg
    refine ⟨fun h=>(by rw [h] at hr;cases hr),fun j hj=>?_⟩
    by_cases hji : j = i
    · subst hji;exact (hy.mono hg).wpOp hi (fun w2 h2=>⟨.inr h2,wpK_mono (fuel + 1) (hg.trans h2) H⟩)
    · have h1:=(H w' hg).2 j (ready_mono hj hji)
      obtain ⟨hjun,oj,hoj,hall⟩:=mem_ready.1 hj
      have hi0:=(mem_ready.1 hr).1
      have hnot : ∀ e ∈ oj.after,Region.binds md e = true → e.on ≠ i:=fun e he hb heq=>by
        have h1:=hall e he hb
        rw [heq] at h1
        rcases Nat.lt_or_ge i listed.size with h' | h'
        · simp [h'] at hi0 h1;rw [hi0] at h1;cases h1
        · simp [Array.getElem?_eq_none h'] at h1
      have hns : st j ≠ true:=fun hs=>by
        have hn:=hst j (Array.getElem?_eq_some_iff.1 hoj).1 hs hji hjun
        have hl:=needs_listed hc _ j i hn hji (fun o ho e he hb=>by rw [hoj] at ho;cases ho;exact hall e he hb)
        rcases Nat.lt_or_ge i listed.size with h' | h'
        · simp [h'] at hi0 hl;rw [hi0] at hl;cases hl
        · simp [Array.getElem?_eq_none h'] at hl
      have h2:=wpOp_putK hoj (hfree j oj hoj hji hjun hnot) (fun cs b=>hsel i oi cs b hi) (fun cs b=>hsel j oj cs b hoj) hQ hy h1
      have hfree' : ∀ k ok,ops[k]? = some ok → k ≠ i → (listed.setIfInBounds j true).getD k true = false →
          (∀ e ∈ ok.after,Region.binds md e = true → e.on ≠ i) → oi.apart ops ok = true:=fun k ok hk hki hun hno=>by
        refine hfree k ok hk hki ?_ hno
        by_cases hjk : j = k
        · subst hjk;exact hjun
        · rw [getD_set_ne true hjk] at hun;exact hun
      have hst' : ∀ k,k < ops.size → st k = true → k ≠ i → (listed.setIfInBounds j true).getD k true = false → needs md ops ops.size k i = true:=fun k hkz hs hki hun=>by
        refine hst k hkz hs hki ?_
        by_cases hjk : j = k
        · subst hjk;exact hjun
        · rw [getD_set_ne true hjk] at hun;exact hun
      refine wpOp_mono (fun a' w1 h3=>?_) h2
      obtain ⟨h3,h4,h5⟩:=h3
      have hg1 : Gr w' w1:=h4.resolve_left hns
      refine ⟨.inr hg1,ih (listed.setIfInBounds j true) a' w1 hfree' (closed_put hc hj) hst' (ready_mono hr (Ne.symm hji)) (h3.mono (hg.trans hg1)) ?_⟩
      rw [Array.setIfInBounds_comm _ _ hji]
      exact h5

theorem wpK_take {i : Nat} {oi : Oper} {v : Value} {fuel : Nat} {listed : Array Bool} {a : Act} {w : World} (hi : ops[i]? = some oi)
    (hB : (Region.noSelect ops && Region.free md ops listed i && closedB md ops listed && storesWait md ops st listed i && (Region.ready md ops listed).contains i) = true)
    (hQ : ∀ c a w,Q (.panic c) (a.put oi.dst v) w → Q (.panic c) a w) (hy : YieldsK P ops oi v a w)
    (h : wpK P md ops st Q fuel (listed.setIfInBounds i true) (a.put oi.dst v) w) : wpK P md ops st Q (fuel + 1) listed a w:=by
  simp only [Bool.and_eq_true] at hB
  obtain ⟨⟨⟨⟨h1,h2⟩,h3⟩,h4⟩,h5⟩:=hB
  refine wpK_first hi (Region.noSelect_spec h1) hQ fuel listed a w (Region.free_spec hi h2) (closed_of h3) ?_ (by simpa using h5) hy h
  intro j hj hs hji hun
  simp only [storesWait,List.all_eq_true,List.mem_range] at h4
  have h6:=h4 j hj
  have hun2 : listed.getD j false = false:=by
    rcases Nat.lt_or_ge j listed.size with h' | h'
    · simp [h'] at hun ⊢;exact hun
    · simp [Array.getElem?_eq_none h']
  simp only [Bool.or_eq_true,beq_iff_eq,hs,hun2,Bool.not_true,Bool.false_eq_true,or_false,hji,false_or] at h6
  exact h6

theorem wpK_first_all {i : Nat} {oi : Oper} {v : Value} (hi : ops[i]? = some oi) (hsel : ∀ (j : Nat) (o : Oper) cs b,ops[j]? = some o → o.op ≠ .select cs b)
    (hQ : ∀ c a w,Q (.panic c) (a.put oi.dst v) w → Q (.panic c) a w) :
    ∀ (fuel : Nat) (listed : Array Bool) (a : Act) (w : World),
      (∀ j oj,ops[j]? = some oj → j ≠ i → listed.getD j true = false → (∀ e ∈ oj.after,Region.binds md e = true → e.on ≠ i) → oi.apart ops oj = true) →
      i ∈ Region.ready md ops listed → Yields P ops oi v a →
      wpK P md ops st Q fuel (listed.setIfInBounds i true) (a.put oi.dst v) w → wpK P md ops st Q (fuel + 1) listed a w:=by
  intro fuel
  induction fuel with
  | zero =>
    intro listed a w _ hr hy H w' hg
    refine ⟨fun h=>(by rw [h] at hr;cases hr),fun j hj=>?_⟩
    by_cases hji : j = i
    · subst hji;exact hy.wpOp hi ⟨.inr (Gr.refl _),wpK_mono 0 hg H⟩
    · have:=ready_mono hj hji
      rw [(H w' hg).1] at this
      cases this
  | succ fuel ih =>
    intro listed a w hfree hr hy H w' hg
    refine ⟨fun h=>(by rw [h] at hr;cases hr),fun j hj=>?_⟩
    by_cases hji : j = i
    · subst hji;exact hy.wpOp hi ⟨.inr (Gr.refl _),wpK_mono (fuel + 1) hg H⟩
    · have h1:=(H w' hg).2 j (ready_mono hj hji)
      obtain ⟨hjun,oj,hoj,hall⟩:=mem_ready.1 hj
      have hi0:=(mem_ready.1 hr).1
      have hnot : ∀ e ∈ oj.after,Region.binds md e = true → e.on ≠ i:=fun e he hb heq=>by
        have h1:=hall e he hb
        rw [heq] at h1
        rcases Nat.lt_or_ge i listed.size with h' | h'
        · simp [h'] at hi0 h1;rw [hi0] at h1;cases h1
        · simp [Array.getElem?_eq_none h'] at h1
      have h2:=wpOp_put hoj (hfree j oj hoj hji hjun hnot) (fun cs b=>hsel i oi cs b hi) (fun cs b=>hsel j oj cs b hoj) hQ hy h1
      have hfree' : ∀ k ok,ops[k]? = some ok → k ≠ i → (listed.setIfInBounds j true).getD k true = false →
          (∀ e ∈ ok.after,Region.binds md e = true → e.on ≠ i) → oi.apart ops ok = true:=fun k ok hk hki hun hno=>by
        refine hfree k ok hk hki ?_ hno
        by_cases hjk : j = k
        · subst hjk;exact hjun
        · rw [getD_set_ne true hjk] at hun;exact hun
      refine wpOp_mono (fun a' w1 h3=>?_) h2
      obtain ⟨h3,h4,h5⟩:=h3
      refine ⟨h4,ih (listed.setIfInBounds j true) a' w1 hfree' (ready_mono hr (Ne.symm hji)) h3 ?_⟩
      rw [Array.setIfInBounds_comm _ _ hji]
      exact h5

theorem wpK_ta {i : Nat} (d : Option Tmp) {oi : Oper} {v : Value} {fuel : Nat} {listed : Array Bool} {a : Act} {w : World} (hi : ops[i]? = some oi) (hd : oi.dst = d)
    (hB : (Region.noSelect ops && Region.free md ops listed i && (Region.ready md ops listed).contains i) = true)
    (hQ : ∀ c a w,Q (.panic c) (a.put oi.dst v) w → Q (.panic c) a w) (hy : Yields P ops oi v a)
    (h : wpK P md ops st Q fuel (listed.setIfInBounds i true) (a.put d v) w) : wpK P md ops st Q (fuel + 1) listed a w:=by
  subst hd
  simp only [Bool.and_eq_true] at hB
  obtain ⟨⟨h1,h2⟩,h5⟩:=hB
  exact wpK_first_all hi (Region.noSelect_spec h1) hQ fuel listed a w (Region.free_spec hi h2) (by simpa using h5) hy h

theorem wpK_one {i : Nat} {oi : Oper} {fuel : Nat} {listed : Array Bool} {a : Act} {w : World} (hi : ops[i]? = some oi) (hr : Region.ready md ops listed = [i])
    (hw : Region.wanted oi (yielded ops a.tmps) = true)
    (h : ∀ w',Gr w w' → ∀ K : Act → World → Prop,(∀ a' w1,(st i = true ∨ Gr w' w1) → wpK P md ops st Q fuel (listed.setIfInBounds i true) a' w1 → K a' w1) → oi.wp P a w' K Q) :
    wpK P md ops st Q (fuel + 1) listed a w:=by
  intro w' hg
  refine ⟨fun h0=>(by rw [hr] at h0;cases h0),fun j hj=>?_⟩
  rw [hr] at hj
  obtain rfl:=List.mem_singleton.1 hj
  unfold wpOp
  rw [hi]
  simp only [hw,if_true]
  exact .inl (h w' hg _ (fun a' w1 h1 h2=>⟨h1,h2⟩))

theorem wpK_done {listed : Array Bool} {a : Act} {w : World} (hr : Region.ready md ops listed = []) (h : ∀ w',Gr w w' → Q .normal a w') :
    ∀ fuel,wpK P md ops st Q fuel listed a w
  | 0=>fun w' hg=>⟨hr,h w' hg⟩
  | _ + 1=>fun w' hg=>⟨fun _=>h w' hg,by rw [hr];simp⟩

theorem wpK_region {id : Nat} {a : Act} {w : World} (hm : P.follows .mixedOrders = true)
    (h : wpK P .any ops st Q ops.size (Array.replicate ops.size false) a w.drew) : (Code.region id ops true).wp P Q a w :=
  wp_region_any hm (wpAny_of_wpK _ _ _ _ h)

theorem wpK_tk {i : Nat} (d : Option Tmp) {oi : Oper} {v : Value} {fuel : Nat} {listed : Array Bool} {a : Act} {w : World} (hi : ops[i]? = some oi) (hd : oi.dst = d)
    (hB : (Region.noSelect ops && Region.free md ops listed i && closedB md ops listed && storesWait md ops st listed i && (Region.ready md ops listed).contains i) = true)
    (hQ : ∀ c a w,Q (.panic c) (a.put oi.dst v) w → Q (.panic c) a w) (hy : YieldsK P ops oi v a w)
    (h : wpK P md ops st Q fuel (listed.setIfInBounds i true) (a.put d v) w) : wpK P md ops st Q (fuel + 1) listed a w:=by
  subst hd;exact wpK_take hi hB hQ hy h


theorem wpK_call {i : Nat} (d : Option Tmp) {oi : Oper} {fuel : Nat} {listed : Array Bool} {a : Act} {w : World} (f : FuncId) (args : Array Value) (hi : ops[i]? = some oi) (hd : oi.dst = d) (hr : Region.ready md ops listed = [i])
    (hw : Region.wanted oi (yielded ops a.tmps) = true) (hs : st i = true) (he : ∀ w',(execOp a.eval oi).run P w' = .ok (.enter f args) w')
    (h : ∀ w',Gr w w' → Calls P f args w' fun e w1=>∃ v,e = .returned v ∧ wpK P md ops st Q fuel (listed.setIfInBounds i true) (a.put d v) w1) :
    wpK P md ops st Q (fuel + 1) listed a w:=by
  subst hd
  refine wpK_one hi hr hw fun w' hg K hK=>?_
  unfold Oper.wp
  rw [he w']
  refine (h w' hg).mono fun e w1 hx=>?_
  obtain ⟨v,rfl,h3⟩:=hx
  exact hK _ _ (.inl hs) h3
end
end Go.Proofs.YtpapbbolefnkmaaDoor.J
/-
  Worlds in which some blocks have changed; append onto a row of the call's own, and where the row lies then. (No program.)
-/
namespace Go.Proofs.YtpapbbolefnkmaaDoor
open Go Go.RowKit
set_option linter.unusedVariables false

structure Chg (S : Nat → Prop) (w w' : World) : Prop where
  os : w'.os = w.os
  tape : w'.tape = w.tape
  output : w'.output = w.output
  size : w.heap.size ≤ w'.heap.size
  block : ∀ k,k < w.heap.size → ¬ S k → w'.heap[k]? = w.heap[k]?

theorem Chg.of_gr {S : Nat → Prop} {w w' : World} (h : Gr w w') : Chg S w w':=⟨h.os,h.tape,h.output,h.size,fun k hk _=>h.block k hk⟩
theorem Chg.refl (S : Nat → Prop) (w : World) : Chg S w w:=Chg.of_gr (Gr.refl w)
theorem Chg.trans {S T : Nat → Prop} {a b c : World} (h : Chg S a b) (g : Chg T b c) (hT : ∀ k,k < a.heap.size → T k → S k) : Chg S a c :=
  ⟨g.os.trans h.os,g.tape.trans h.tape,g.output.trans h.output,Nat.le_trans h.size g.size,fun k hk hn=>(g.block k (Nat.lt_of_lt_of_le hk h.size) (fun ht=>hn (hT k hk ht))).trans (h.block k hk hn)⟩
theorem Chg.mono {S T : Nat → Prop} {a b : World} (h : Chg S a b) (hT : ∀ k,k < a.heap.size → S k → T k) : Chg T a b:=(Chg.refl T a).trans h hT
theorem Chg.of_grown {w w' : World} {r : Option Nat} (h : w.grownBy w' r) : Chg (fun k=>r = some k) w w' :=
  ⟨h.os,h.tape,h.output,h.size,fun k hk hn=>h.block k hk (fun e=>hn e.symm)⟩
theorem Chg.setCell (w : World) (b o : Nat) (v : Value) : Chg (fun k=>k = b) w (w.setCell ⟨b,o,none⟩ v) :=
  ⟨rfl,rfl,rfl,by simp [World.setCell],fun k _ hn=>Below.heap_setCell _ _ _ _ hn⟩
theorem Chg.below {S : Nat → Prop} {w w' : World} (h : Chg S w w') {B : Nat} (hB : B ≤ w.heap.size) (hS : ∀ k,k < B → ¬ S k) : Below B w w' :=
  ⟨h.os,h.tape,h.output,h.size,fun k hk=>h.block k (Nat.lt_of_lt_of_le hk hB) (hS k hk)⟩
theorem Chg.row {S : Nat → Prop} {w w' : World} (h : Chg S w w') {g : Nat} {v : Value} {cs : List Value} (r : Row g (v :: cs) w) (hn : ¬ S g) : Row g (v :: cs) w':=by
  have hb:=h.block g r.lt hn
  intro j u hj
  obtain ⟨h1,h2⟩:=r j u hj
  exact ⟨(World.cell?_of_block (w:=w) (a:=⟨g,j,none⟩) hb).trans h1,(World.frozen?_of_block (w:=w) (a:=⟨g,j,none⟩) hb).trans h2⟩
theorem Chg.own {S : Nat → Prop} {w w' : World} (h : Chg S w w') {base : Nat} {e : TypeId} {size : Nat} {v : Value} {n : Nat} {xs : List Value} (o : w.ownsRow base e size v n xs) (hn : ∀ k,v.ownBlock = some k → ¬ S k) : w'.ownsRow base e size v n xs:=by
  refine ⟨o.1, ?_⟩
  rcases o.2 with hv | ⟨g,cap,cur,rfl,hb,hgg,rest⟩
  · exact .inl hv
  · refine .inr ⟨g,cap,cur,rfl,hb, ?_,rest⟩
    rw [h.block g (Array.getElem?_eq_some_iff.1 hgg).1 (hn g rfl)]
    exact hgg
theorem Chg.gr {S : Nat → Prop} {w u V : World} (h : Chg S w u) (g : Gr u V) : Chg S w V:=h.trans (Chg.of_gr (S:=S) g) (fun _ _ h=>h)
theorem Chg.put {S : Nat → Prop} {w u W C : World} {q k : Nat} {v : Value} (h : Chg S w u) (g1 : Gr u W) (hq : w.heap.size ≤ q ∨ S q) (g2 : Gr (W.setCell ⟨q,k,none⟩ v) C) : Chg S w C :=
  ((h.gr g1).trans (Chg.setCell W q k v) (fun j hj e=>by subst e;rcases hq with h1 | h1;exact absurd hj (Nat.not_lt.2 h1);exact h1)).gr g2
theorem Chg.app {S : Nat → Prop} {w u W0 W1 : World} {r : Option Nat} (h : Chg S w u) (g : Gr u W0) (gb : W0.grownBy W1 r) (hr : ∀ k,r = some k → S k ∨ w.heap.size ≤ k) : Chg S w W1 :=
  (h.gr g).trans (Chg.of_grown gb) (fun j hj e=>by rcases hr j e with h1 | h1;exact h1;exact absurd hj (Nat.not_lt.2 h1))
theorem own_gr {w w' : World} {base : Nat} {e : TypeId} {size : Nat} {v : Value} {n : Nat} {xs : List Value} (h : w.ownsRow base e size v n xs) (hb : Gr w w') : w'.ownsRow base e size v n xs:=own_below h hb

section
variable {u W0 W1 W2 V : World} {r : Option Nat} {q : Nat} {v x y : Value}
end
section
variable {P : Program} (w : World)
theorem run_append_where (B : Nat) (t tx ty e : TypeId) (i : TypeInfo) (z : Value) (size bytes : Nat) (ht : P.underlying t = some (.slice e)) (hi : P.info? e = some i) (hz : i.zero = some z)
    (hsize : i.size = size) (hby : i.bytes = bytes) (hzs : z.cells.size = size)
    (v : Value) (n : Nat) (xs : List Value) (hown : w.ownsRow B e size v n xs) (x : Value) (m : Nat) (news : List Value) (hs : Src P size tx x m news w)
    (h63 : n + m ≤ maxLen) (hbytes : (n + m) * bytes ≤ 140737488355328) (hB : B ≤ w.heap.size) :
    ∃ v' w',(Builtin.append_ #[t,tx] ty #[v,x]).run P w = .ok v' w' ∧ w'.ownsRow B e size v' (n + m) (xs ++ news) ∧ w.grownBy w' v.ownBlock ∧ (v'.ownBlock = v.ownBlock ∨ v'.ownBlock = some w.heap.size):=by
  subst hsize hby
  have hnl:=hs.newsLen
  have hlen : (xs ++ news).length = (n + m) * i.size:=by rw [List.length_append,hown.1,hnl,Nat.add_mul]
  have hm63 : ((n + m : Nat) : Int) ≤ 9223372036854775807:=by simp only [maxLen] at h63;omega
  have fresh : ∀ (A : Option Addr) (cap : Nat),cap < n + m → (Builtin.firstCells i.size n (.slice A n cap)).run P w.drew = .ok xs.toArray w.drew →
      ∃ v' w',(Builtin.append_ #[t,tx] ty #[.slice A n cap,x]).run P w = .ok v' w' ∧ w'.ownsRow B e i.size v' (n + m) (xs ++ news) ∧ w.grownBy w' (Value.slice A n cap).ownBlock ∧ (v'.ownBlock = (Value.slice A n cap).ownBlock ∨ v'.ownBlock = some w.heap.size):=by
    intro A cap hg hold
    have hr:=run_append_grow_src (P:=P) w t tx ty e i z ht hi hz A n cap xs hold x m news hs hg hm63 (growslice_fits hg hbytes)
    have hge:=grownCap_ge w (n + m) cap e
    have hcm:=grownCap_le_maxLen w (n + m) cap e h63
    refine ⟨_,_,hr,⟨hlen, .inr ⟨w.heap.size,_,_,rfl,hB,heap_alloc_new w.drew _,hge,hcm, ?_, ?_⟩⟩,⟨rfl,rfl,rfl,by simp,fun k hk _=>Below.heap_alloc w.drew _ k hk⟩, .inr rfl⟩
    · rw [Array.size_append,List.size_toArray,hlen,size_zeroCells,hzs,← Nat.add_mul]
      congr 1;omega
    · rw [Array.toList_append,← hlen]
      exact List.take_left
  rcases hown.2 with ⟨rfl,rfl⟩ | ⟨g,cap,cur,rfl,hBg,hg,hnc,hcm,hcs,htake⟩
  · have hx : xs = []:=List.eq_nil_of_length_eq_zero (by simpa using hown.1)
    subst hx
    by_cases hm : m = 0
    · subst hm
      have hn : news = []:=List.eq_nil_of_length_eq_zero (by simpa using hnl)
      subst hn
      exact ⟨_,w,run_append_nothing w t tx ty e i ht hi none 0 0 (Nat.le_refl _) x hs,World.ownsRow_nil w B e i.size,World.grownBy.refl w _, .inl rfl⟩
    · exact fresh none 0 (by omega) (run_firstCells_none w.drew i.size 0 0 0)
  · by_cases hroom : n + m ≤ cap
    · by_cases hm : m = 0
      · subst hm
        have hn : news = []:=List.eq_nil_of_length_eq_zero (by simpa using hnl)
        subst hn
        exact ⟨_,w,run_append_nothing w t tx ty e i ht hi (some ⟨g,0,none⟩) n cap hnc x hs,by simpa using hown,World.grownBy.refl w _, .inl rfl⟩
      · have hfit : n * i.size + news.length ≤ cur.size:=by rw [hnl,hcs,← Nat.add_mul];exact Nat.mul_le_mul_right _ hroom
        have hst:=run_storeCells_at P g (n * i.size) e news 0 cur w hg (by simpa using hfit) hs.one
        simp only [Nat.add_zero] at hst
        have hr : (Builtin.append_ #[t,tx] ty #[.slice (some ⟨g,0,none⟩) n cap,x]).run P w = .ok (.slice (some ⟨g,0,none⟩) (n + m) cap) (w.setRow g (cur.toList.take (n * i.size) ++ news ++ cur.toList.drop (n * i.size + news.length)).toArray):=by
          rcases hs.kind with ⟨e',hk⟩ | hk <;> simp [Builtin.append_,run_underlying ht,run_underlying hk,sizeOf,typeInfo,hi,hs.len,hroom,hs.cells,Addr.add_lit,hst]
        refine ⟨_,_,hr,⟨hlen, .inr ⟨g,cap,_,rfl,hBg,setRow_heap w g cur _ e _ hg,hroom,hcm, ?_, ?_⟩⟩,⟨rfl,rfl,rfl,by simp,fun k _ hk=>setRow_other w g k _ (fun e=>hk (by simp [Value.ownBlock,e]))⟩, .inl rfl⟩
        · simp only [List.size_toArray,List.length_append,List.length_take,List.length_drop,Array.length_toList]
          omega
        · rw [htake,← hlen]
          exact List.take_left
    · have hold:=run_firstCells_some (P:=P) w.drew i.size n ⟨g,0,none⟩ n cap xs hown.1 (by simpa using hown.cells (g:=g) rfl)
      exact fresh _ cap (by omega) hold

theorem wpG_app {ops : Array Oper} {l : List Oper} {o : Oper} {a : Act} {Q : Exit → Act → World → Prop} (d : Option Tmp) (hd : o.dst = d) (hgd : o.guard = none) (s x : Operand) (t tx : TypeId)
    (ho : o.op = .call { callee:=.builtin .append,args:=#[s,x],argTypes:=#[t,tx] })
    (B : Nat) (e : TypeId) (i : TypeInfo) (z : Value) (size bytes : Nat) (ht : P.underlying t = some (.slice e)) (hi : P.info? e = some i) (hz : i.zero = some z)
    (hsize : i.size = size) (hby : i.bytes = bytes) (hzs : z.cells.size = size)
    (v : Value) (n : Nat) (xs : List Value) (hown : w.ownsRow B e size v n xs) (xv : Value) (m : Nat) (news : List Value) (hs : ∀ w',Gr w w' → Src P size tx xv m news w') (hsv : a.eval s = v) (hxv : a.eval x = xv)
    (h63 : n + m ≤ maxLen) (hbytes : (n + m) * bytes ≤ 140737488355328) (hB : B ≤ w.heap.size)
    (h : ∀ v' w0 w1,Gr w w0 → w1.ownsRow B e size v' (n + m) (xs ++ news) → w0.grownBy w1 v.ownBlock → (v'.ownBlock = v.ownBlock ∨ v'.ownBlock = some w0.heap.size) → wpG P ops Q l (a.put d v') w1) : wpG P ops Q (o :: l) a w:=by
  subst hd
  intro w0 hg
  obtain ⟨v',w1,hrun,h2,h3,h4⟩:=run_append_where (P:=P) w0 B t tx o.type e i z size bytes ht hi hz hsize hby hzs v n xs (own_gr hown hg) xv m news (hs w0 hg) h63 hbytes (Nat.le_trans hB hg.size)
  refine wpList_plain hgd fun K hK=>?_
  unfold Oper.wp execOp
  simp only [ho,resolve,invoke,builtin,Sem.run_bind,Sem.run_pure,Result.andThen_ok,List.map_toArray,List.map_cons,List.map_nil,hsv,hxv,hrun]
  exact hK _ _ (h v' w0 w1 hg h2 h3 h4 w1 (Gr.refl w1))
end
end Go.Proofs.YtpapbbolefnkmaaDoor
