/-
  Regions that draw their order and hold calls that make memory: an operation that yields ONE value in every world that grows out of the present one may be taken first, a call too. (No program; the proofs follow the library's own for wpAny_first.)
-/
import Derived.Below
import Derived.Orders
import Derived.RegionTactic
import Derived.Deep.Quiet
import Derived.Deep.MidRow
namespace Go.Proofs.Ytfomieekdbkcnaa
open Go Go.RowKit

/-- the world has grown: nothing that was there has changed -/
def Gr (w w' : World) : Prop := Below w.heap.size w w'
theorem Gr.refl (w : World) : Gr w w := Below.refl _ _
theorem Gr.trans {a b c : World} (h : Gr a b) (g : Gr b c) : Gr a c := Below.trans h (Below.mono g h.size)
theorem Gr.size {a b : World} (h : Gr a b) : a.heap.size ≤ b.heap.size := Below.size h

/-- a store, or an append (which may write in place) -/
def stB (ops : Array Oper) (i : Nat) : Bool := match ops[i]? with
  | some o => (match o.op with | .store .. => true | .call { callee := .builtin .append, .. } => true | _ => false)
  | none => false

/-- operation z waits for operation i, through others too -/
def needs (md : Region.Mode) (ops : Array Oper) : Nat → Nat → Nat → Bool
  | 0, z, i => z == i
  | f + 1, z, i => z == i || (match ops[z]? with | some o => o.after.any (fun e => Region.binds md e && needs md ops f e.on i) | none => false)

/-- what is listed is closed under waiting -/
def closedL (md : Region.Mode) (ops : Array Oper) (listed : Array Bool) : Prop :=
  ∀ k o, ops[k]? = some o → listed.getD k false = true → ∀ e ∈ o.after, Region.binds md e = true → listed.getD e.on false = true
def closedB (md : Region.Mode) (ops : Array Oper) (listed : Array Bool) : Bool :=
  (List.range ops.size).all fun k => !listed.getD k false || (match ops[k]? with | some o => o.after.all (fun e => !Region.binds md e || listed.getD e.on false) | none => true)

section
variable {P : Program} {ops : Array Oper} {md : Region.Mode} {Q : Exit → Act → World → Prop}

theorem closed_of {listed : Array Bool} (h : closedB md ops listed = true) : closedL md ops listed := by
  intro k o ho hk e he hb
  simp only [closedB, List.all_eq_true, List.mem_range] at h
  have h1 := h k (Array.getElem?_eq_some_iff.1 ho).1
  rw [ho, hk] at h1
  simp only [Bool.not_true, Bool.false_or] at h1
  have h2 := (Array.all_eq_true_iff_forall_mem.1 h1) e he
  rw [hb] at h2
  simpa using h2

theorem closed_put {listed : Array Bool} {j : Nat} (hc : closedL md ops listed) (hj : j ∈ Region.ready md ops listed) : closedL md ops (listed.setIfInBounds j true) := by
  intro k o ho hk e he hb
  by_cases hkj : k = j
  · subst hkj
    obtain ⟨_, o', ho', hall⟩ := mem_ready.1 hj
    rw [ho] at ho'; cases ho'
    exact getD_set_true (hall e he hb)
  · rw [getD_set_ne false (Ne.symm hkj)] at hk
    exact getD_set_true (hc k o ho hk e he hb)

theorem needs_listed {listed : Array Bool} (hc : closedL md ops listed) : ∀ (f z i : Nat), needs md ops f z i = true → z ≠ i → (∀ o, ops[z]? = some o → ∀ e ∈ o.after, Region.binds md e = true → listed.getD e.on false = true) → listed.getD i false = true
  | 0, z, i, h, hne, _ => by simp [needs] at h; exact absurd h hne
  | f + 1, z, i, h, hne, hall => by
    simp only [needs, Bool.or_eq_true, beq_iff_eq] at h
    rcases h with h | h
    · exact absurd h hne
    · cases ho : ops[z]? with
      | none => rw [ho] at h; cases h
      | some o =>
        rw [ho] at h
        obtain ⟨e, he, h2⟩ := Array.any_eq_true'.1 h
        simp only [Bool.and_eq_true] at h2
        have hl := hall o ho e he h2.1
        by_cases hei : e.on = i
        · rw [← hei]; exact hl
        · exact needs_listed hc f e.on i h2.2 hei (fun o' ho' e' he' hb' => hc e.on o' ho' hl e' he' hb')

/-- every store that has not come up yet waits for i -/
def storesWait (md : Region.Mode) (ops : Array Oper) (listed : Array Bool) (i : Nat) : Bool :=
  (List.range ops.size).all fun j => j == i || !stB ops j || listed.getD j false || needs md ops ops.size j i

/-- whatever order is picked, in whatever world has grown out of this one -/
def wpK (P : Program) (md : Region.Mode) (ops : Array Oper) (Q : Exit → Act → World → Prop) : Nat → Array Bool → Act → World → Prop
  | 0, listed, a, w => ∀ w', Gr w w' → Region.ready md ops listed = [] ∧ Q .normal a w'
  | fuel + 1, listed, a, w => ∀ w', Gr w w' →
    (Region.ready md ops listed = [] → Q .normal a w') ∧
    ∀ i ∈ Region.ready md ops listed, wpOp P ops Q i (fun a' w1 => (stB ops i = true ∨ Gr w' w1) ∧ wpK P md ops Q fuel (listed.setIfInBounds i true) a' w1) a w'

theorem wpK_mono : ∀ (fuel : Nat) {listed : Array Bool} {a : Act} {w w' : World}, Gr w w' → wpK P md ops Q fuel listed a w → wpK P md ops Q fuel listed a w'
  | 0, _, _, _, _, hg, h => fun w2 h2 => h w2 (hg.trans h2)
  | _ + 1, _, _, _, _, hg, h => fun w2 h2 => h w2 (hg.trans h2)

theorem wpAny_of_wpK : ∀ (fuel : Nat) (listed : Array Bool) (a : Act) (w : World), wpK P md ops Q fuel listed a w → wpAny P md ops Q fuel listed a w
  | 0, _, _, w, h => h w (Gr.refl w)
  | fuel + 1, _, _, w, h => ⟨(h w (Gr.refl w)).1, fun i hi => wpOp_mono (fun a' w' h' => wpAny_of_wpK fuel _ a' w' h'.2) ((h w (Gr.refl w)).2 i hi)⟩

/-- in state 'a', in every world that has grown out of w, the operation leaves v, in a world that has grown further -/
def YieldsK (P : Program) (ops : Array Oper) (o : Oper) (v : Value) (a : Act) (w : World) : Prop :=
  (Region.wanted o (yielded ops a.tmps) = true ∧ ∀ w', Gr w w' → o.quietAt P a (Gr w') w' v) ∨
  (Region.wanted o (yielded ops a.tmps) = false ∧ v = undef)

theorem YieldsK.mono {o : Oper} {v : Value} {a : Act} {w w' : World} (h : YieldsK P ops o v a w) (hg : Gr w w') : YieldsK P ops o v a w' := by
  rcases h with ⟨h1, h2⟩ | h
  · exact .inl ⟨h1, fun w2 h3 => h2 w2 (hg.trans h3)⟩
  · exact .inr h

theorem YieldsK.of_same {o : Oper} {v : Value} {a a' : Act} {w : World} (hy : YieldsK P ops o v a w) (he : execOp a'.eval o = execOp a.eval o)
    (hw : Region.wanted o (yielded ops a'.tmps) = Region.wanted o (yielded ops a.tmps)) : YieldsK P ops o v a' w := by
  unfold YieldsK Oper.quietAt at *
  rw [he, hw]
  exact hy

theorem YieldsK.wpOp {i : Nat} {o : Oper} {v : Value} {a : Act} {w : World} (hi : ops[i]? = some o) (hy : YieldsK P ops o v a w)
    {K : Act → World → Prop} (h : ∀ w', Gr w w' → K (a.put o.dst v) w') : wpOp P ops Q i K a w := by
  unfold Go.wpOp
  simp only [hi]
  rcases hy with ⟨hw, hv⟩ | ⟨hw, rfl⟩
  · simp only [hw, if_true]
    refine .inl ?_
    have h3 := hv w (Gr.refl w)
    unfold Oper.quietAt at h3
    unfold Oper.wp
    generalize (execOp a.eval o).run P w = r at *
    cases r with
    | ok n w' =>
      cases n <;> simp only [Oper.quietUpon] at h3 <;> simp only [Oper.upon]
      case value u =>
        obtain ⟨e1, e2⟩ := h3
        rw [e1, e2]
        exact h _ (Gr.refl w)
      case skip =>
        obtain ⟨e1, e2⟩ := h3
        rw [e1, ← e2]
        exact h _ (Gr.refl w)
      case enter f args =>
        obtain ⟨e1, hc⟩ := h3
        rw [e1]
        exact hc.mono fun e w'' ⟨he, hw''⟩ => by subst he; exact h _ hw''
    | halt x w' => simp only [Oper.quietUpon] at h3
  · simp only [hw, Bool.false_eq_true, if_false]; exact h _ (Gr.refl w)

theorem wpOp_putK {j : Nat} {oi oj : Oper} {v : Value} (hj : ops[j]? = some oj) (hap : oi.apart ops oj = true)
    (hsi : ∀ cs b, oi.op ≠ .select cs b) (hsj : ∀ cs b, oj.op ≠ .select cs b)
    (hQ : ∀ c a w, Q (.panic c) (a.put oi.dst v) w → Q (.panic c) a w) {K : Act → World → Prop} {a : Act} {w w0 : World}
    (hy : YieldsK P ops oi v a w0) (h : wpOp P ops Q j K (a.put oi.dst v) w) :
    wpOp P ops Q j (fun a' w' => YieldsK P ops oi v a' w0 ∧ K (a'.put oi.dst v) w') a w := by
  obtain ⟨h1, h2, h3⟩ := Oper.apart_spec hap
  have keep : ∀ (a : Act), YieldsK P ops oi v a w0 → ∀ u, YieldsK P ops oi v (a.put oj.dst u) w0 := fun a hy u =>
    hy.of_same (execOp_put oi hsi a oj.dst u h3) (wanted_put oi a oj.dst u h3)
  have keepD : ∀ d, YieldsK P ops oi v { a with defers := d :: a.defers } w0 := fun d => hy.of_same rfl rfl
  unfold wpOp at *
  simp only [hj] at *
  rw [wanted_put oj a oi.dst v h1] at h
  split
  · rename_i hw
    simp only [hw, if_true] at h
    rcases h with h | ⟨hasks, hlets⟩
    case inr => exact .inr ⟨by unfold Oper.asks at *; rw [execOp_put oj hsj a oi.dst v h1] at hasks; exact hasks, hlets⟩
    refine .inl ?_
    unfold Oper.wp at *
    rw [execOp_put oj hsj a oi.dst v h1] at h
    generalize (execOp a.eval oj).run P w = r at *
    cases r with
    | ok n w' =>
      cases n <;> simp only [Oper.upon] at h ⊢
      case value u => exact ⟨keep a hy u, by rw [← Act.put_comm a v u h2]; exact h⟩
      case skip => exact ⟨keep a hy _, by rw [← Act.put_comm a v undef h2]; exact h⟩
      case defer d =>
        refine ⟨keep _ (keepD d) _, ?_⟩
        rw [← Act.put_comm _ v undef h2, ← Act.put_defers]
        exact h
      case enter f args =>
        refine Calls.mono h fun e w'' he => ?_
        cases e with
        | returned u => exact ⟨keep a hy u, by rw [← Act.put_comm a v u h2]; exact he⟩
        | panicked c => exact hQ _ _ _ he
        | outgrown => exact he
      case row row args => exact Rows.mono h fun u w'' he => ⟨keep a hy u, by rw [← Act.put_comm a v u h2]; exact he⟩
    | halt x w' =>
      cases x <;> simp only [Oper.upon] at h ⊢
      case panic u => exact hQ _ _ _ h
  · rename_i hw
    simp only [hw] at h
    exact ⟨keep a hy _, by rw [← Act.put_comm a v undef h2]; exact h⟩

theorem wpK_first {i : Nat} {oi : Oper} {v : Value} (hi : ops[i]? = some oi) (hsel : ∀ (j : Nat) (o : Oper) cs b, ops[j]? = some o → o.op ≠ .select cs b)
    (hQ : ∀ c a w, Q (.panic c) (a.put oi.dst v) w → Q (.panic c) a w) :
    ∀ (fuel : Nat) (listed : Array Bool) (a : Act) (w : World),
      (∀ j oj, ops[j]? = some oj → j ≠ i → listed.getD j true = false → (∀ e ∈ oj.after, Region.binds md e = true → e.on ≠ i) → oi.apart ops oj = true) →
      closedL md ops listed →
      (∀ j, stB ops j = true → j ≠ i → listed.getD j true = false → needs md ops ops.size j i = true) →
      i ∈ Region.ready md ops listed → YieldsK P ops oi v a w →
      wpK P md ops Q fuel (listed.setIfInBounds i true) (a.put oi.dst v) w → wpK P md ops Q (fuel + 1) listed a w := by
  intro fuel
  induction fuel with
  | zero =>
    intro listed a w _ _ _ hr hy H w' hg
    refine ⟨fun h => (by rw [h] at hr; cases hr), fun j hj => ?_⟩
    by_cases hji : j = i
    · subst hji; exact (hy.mono hg).wpOp hi (fun w2 h2 => ⟨.inr h2, wpK_mono 0 (hg.trans h2) H⟩)
    · have := ready_mono hj hji
      rw [(H w' hg).1] at this
      cases this
  | succ fuel ih =>
    intro listed a w hfree hc hst hr hy H w' hg
    refine ⟨fun h => (by rw [h] at hr; cases hr), fun j hj => ?_⟩
    by_cases hji : j = i
    · subst hji; exact (hy.mono hg).wpOp hi (fun w2 h2 => ⟨.inr h2, wpK_mono (fuel + 1) (hg.trans h2) H⟩)
    · have h1 := (H w' hg).2 j (ready_mono hj hji)
      obtain ⟨hjun, oj, hoj, hall⟩ := mem_ready.1 hj
      have hi0 := (mem_ready.1 hr).1
      have hnot : ∀ e ∈ oj.after, Region.binds md e = true → e.on ≠ i := fun e he hb heq => by
        have h1 := hall e he hb
        rw [heq] at h1
        rcases Nat.lt_or_ge i listed.size with h' | h'
        · simp [h'] at hi0 h1; rw [hi0] at h1; cases h1
        · simp [Array.getElem?_eq_none h'] at h1
      have hns : stB ops j ≠ true := fun hs => by
        have hn := hst j hs hji hjun
        have hl := needs_listed hc _ j i hn hji (fun o ho e he hb => by rw [hoj] at ho; cases ho; exact hall e he hb)
        rcases Nat.lt_or_ge i listed.size with h' | h'
        · simp [h'] at hi0 hl; rw [hi0] at hl; cases hl
        · simp [Array.getElem?_eq_none h'] at hl
      have h2 := wpOp_putK hoj (hfree j oj hoj hji hjun hnot) (fun cs b => hsel i oi cs b hi) (fun cs b => hsel j oj cs b hoj) hQ hy h1
      have hfree' : ∀ k ok, ops[k]? = some ok → k ≠ i → (listed.setIfInBounds j true).getD k true = false →
          (∀ e ∈ ok.after, Region.binds md e = true → e.on ≠ i) → oi.apart ops ok = true := fun k ok hk hki hun hno => by
        refine hfree k ok hk hki ?_ hno
        by_cases hjk : j = k
        · subst hjk; exact hjun
        · rw [getD_set_ne true hjk] at hun; exact hun
      have hst' : ∀ k, stB ops k = true → k ≠ i → (listed.setIfInBounds j true).getD k true = false → needs md ops ops.size k i = true := fun k hs hki hun => by
        refine hst k hs hki ?_
        by_cases hjk : j = k
        · subst hjk; exact hjun
        · rw [getD_set_ne true hjk] at hun; exact hun
      refine wpOp_mono (fun a' w1 h3 => ?_) h2
      obtain ⟨h3, h4, h5⟩ := h3
      have hg1 : Gr w' w1 := h4.resolve_left hns
      refine ⟨.inr hg1, ih (listed.setIfInBounds j true) a' w1 hfree' (closed_put hc hj) hst' (ready_mono hr (Ne.symm hji)) (h3.mono (hg.trans hg1)) ?_⟩
      rw [Array.setIfInBounds_comm _ _ hji]
      exact h5

/-- AN OPERATION THAT YIELDS ONE VALUE FROM HERE ON IS TAKEN FIRST. -/
theorem wpK_take {i : Nat} {oi : Oper} {v : Value} {fuel : Nat} {listed : Array Bool} {a : Act} {w : World} (hi : ops[i]? = some oi)
    (hB : (Region.noSelect ops && Region.free md ops listed i && closedB md ops listed && storesWait md ops listed i && (Region.ready md ops listed).contains i) = true)
    (hQ : ∀ c a w, Q (.panic c) (a.put oi.dst v) w → Q (.panic c) a w) (hy : YieldsK P ops oi v a w)
    (h : wpK P md ops Q fuel (listed.setIfInBounds i true) (a.put oi.dst v) w) : wpK P md ops Q (fuel + 1) listed a w := by
  simp only [Bool.and_eq_true] at hB
  obtain ⟨⟨⟨⟨h1, h2⟩, h3⟩, h4⟩, h5⟩ := hB
  refine wpK_first hi (Region.noSelect_spec h1) hQ fuel listed a w (Region.free_spec hi h2) (closed_of h3) ?_ (by simpa using h5) hy h
  intro j hs hji hun
  simp only [storesWait, List.all_eq_true, List.mem_range] at h4
  have hj : j < ops.size := by
    unfold stB at hs
    cases ho : ops[j]? with
    | none => rw [ho] at hs; cases hs
    | some o => exact (Array.getElem?_eq_some_iff.1 ho).1
  have h6 := h4 j hj
  have hun2 : listed.getD j false = false := by
    rcases Nat.lt_or_ge j listed.size with h' | h'
    · simp [h'] at hun ⊢; exact hun
    · simp [Array.getElem?_eq_none h']
  simp only [Bool.or_eq_true, beq_iff_eq, hs, hun2, Bool.not_true, Bool.false_eq_true, or_false, hji, false_or] at h6
  exact h6

theorem wpK_first_all {i : Nat} {oi : Oper} {v : Value} (hi : ops[i]? = some oi) (hsel : ∀ (j : Nat) (o : Oper) cs b, ops[j]? = some o → o.op ≠ .select cs b)
    (hQ : ∀ c a w, Q (.panic c) (a.put oi.dst v) w → Q (.panic c) a w) :
    ∀ (fuel : Nat) (listed : Array Bool) (a : Act) (w : World),
      (∀ j oj, ops[j]? = some oj → j ≠ i → listed.getD j true = false → (∀ e ∈ oj.after, Region.binds md e = true → e.on ≠ i) → oi.apart ops oj = true) →
      i ∈ Region.ready md ops listed → Yields P ops oi v a →
      wpK P md ops Q fuel (listed.setIfInBounds i true) (a.put oi.dst v) w → wpK P md ops Q (fuel + 1) listed a w := by
  intro fuel
  induction fuel with
  | zero =>
    intro listed a w _ hr hy H w' hg
    refine ⟨fun h => (by rw [h] at hr; cases hr), fun j hj => ?_⟩
    by_cases hji : j = i
    · subst hji; exact hy.wpOp hi ⟨.inr (Gr.refl _), wpK_mono 0 hg H⟩
    · have := ready_mono hj hji
      rw [(H w' hg).1] at this
      cases this
  | succ fuel ih =>
    intro listed a w hfree hr hy H w' hg
    refine ⟨fun h => (by rw [h] at hr; cases hr), fun j hj => ?_⟩
    by_cases hji : j = i
    · subst hji; exact hy.wpOp hi ⟨.inr (Gr.refl _), wpK_mono (fuel + 1) hg H⟩
    · have h1 := (H w' hg).2 j (ready_mono hj hji)
      obtain ⟨hjun, oj, hoj, hall⟩ := mem_ready.1 hj
      have hi0 := (mem_ready.1 hr).1
      have hnot : ∀ e ∈ oj.after, Region.binds md e = true → e.on ≠ i := fun e he hb heq => by
        have h1 := hall e he hb
        rw [heq] at h1
        rcases Nat.lt_or_ge i listed.size with h' | h'
        · simp [h'] at hi0 h1; rw [hi0] at h1; cases h1
        · simp [Array.getElem?_eq_none h'] at h1
      have h2 := wpOp_put hoj (hfree j oj hoj hji hjun hnot) (fun cs b => hsel i oi cs b hi) (fun cs b => hsel j oj cs b hoj) hQ hy h1
      have hfree' : ∀ k ok, ops[k]? = some ok → k ≠ i → (listed.setIfInBounds j true).getD k true = false →
          (∀ e ∈ ok.after, Region.binds md e = true → e.on ≠ i) → oi.apart ops ok = true := fun k ok hk hki hun hno => by
        refine hfree k ok hk hki ?_ hno
        by_cases hjk : j = k
        · subst hjk; exact hjun
        · rw [getD_set_ne true hjk] at hun; exact hun
      refine wpOp_mono (fun a' w1 h3 => ?_) h2
      obtain ⟨h3, h4, h5⟩ := h3
      refine ⟨h4, ih (listed.setIfInBounds j true) a' w1 hfree' (ready_mono hr (Ne.symm hji)) h3 ?_⟩
      rw [Array.setIfInBounds_comm _ _ hji]
      exact h5

/-- AN OPERATION THAT YIELDS ONE VALUE IN EVERY WORLD WHATEVER is taken first, stores and appends beside it or not. -/
theorem wpK_ta {i : Nat} (d : Option Tmp) {oi : Oper} {v : Value} {fuel : Nat} {listed : Array Bool} {a : Act} {w : World} (hi : ops[i]? = some oi) (hd : oi.dst = d)
    (hB : (Region.noSelect ops && Region.free md ops listed i && (Region.ready md ops listed).contains i) = true)
    (hQ : ∀ c a w, Q (.panic c) (a.put oi.dst v) w → Q (.panic c) a w) (hy : Yields P ops oi v a)
    (h : wpK P md ops Q fuel (listed.setIfInBounds i true) (a.put d v) w) : wpK P md ops Q (fuel + 1) listed a w := by
  subst hd
  simp only [Bool.and_eq_true] at hB
  obtain ⟨⟨h1, h2⟩, h5⟩ := hB
  exact wpK_first_all hi (Region.noSelect_spec h1) hQ fuel listed a w (Region.free_spec hi h2) (by simpa using h5) hy h

/-- ONE OPERATION ALONE MAY COME UP: it is carried out, in whatever world has grown out of this one. -/
theorem wpK_one {i : Nat} {oi : Oper} {fuel : Nat} {listed : Array Bool} {a : Act} {w : World} (hi : ops[i]? = some oi) (hr : Region.ready md ops listed = [i])
    (hw : Region.wanted oi (yielded ops a.tmps) = true)
    (h : ∀ w', Gr w w' → ∀ K : Act → World → Prop, (∀ a' w1, (stB ops i = true ∨ Gr w' w1) → wpK P md ops Q fuel (listed.setIfInBounds i true) a' w1 → K a' w1) → oi.wp P a w' K Q) :
    wpK P md ops Q (fuel + 1) listed a w := by
  intro w' hg
  refine ⟨fun h0 => (by rw [hr] at h0; cases h0), fun j hj => ?_⟩
  rw [hr] at hj
  obtain rfl := List.mem_singleton.1 hj
  unfold wpOp
  rw [hi]
  simp only [hw, if_true]
  exact .inl (h w' hg _ (fun a' w1 h1 h2 => ⟨h1, h2⟩))

theorem wpK_done {listed : Array Bool} {a : Act} {w : World} (hr : Region.ready md ops listed = []) (h : ∀ w', Gr w w' → Q .normal a w') :
    ∀ fuel, wpK P md ops Q fuel listed a w
  | 0 => fun w' hg => ⟨hr, h w' hg⟩
  | _ + 1 => fun w' hg => ⟨fun _ => h w' hg, by rw [hr]; simp⟩

/-- a region that draws its order -/
theorem wpK_region {id : Nat} {a : Act} {w : World} (hm : P.follows .mixedOrders = true)
    (h : wpK P .any ops Q ops.size (Array.replicate ops.size false) a w.drew) : (Code.region id ops true).wp P Q a w :=
  wp_region_any hm (wpAny_of_wpK _ _ _ _ h)

/-- the same, the slot given -/
theorem wpK_tk {i : Nat} (d : Option Tmp) {oi : Oper} {v : Value} {fuel : Nat} {listed : Array Bool} {a : Act} {w : World} (hi : ops[i]? = some oi) (hd : oi.dst = d)
    (hB : (Region.noSelect ops && Region.free md ops listed i && closedB md ops listed && storesWait md ops listed i && (Region.ready md ops listed).contains i) = true)
    (hQ : ∀ c a w, Q (.panic c) (a.put oi.dst v) w → Q (.panic c) a w) (hy : YieldsK P ops oi v a w)
    (h : wpK P md ops Q fuel (listed.setIfInBounds i true) (a.put d v) w) : wpK P md ops Q (fuel + 1) listed a w := by
  subst hd; exact wpK_take hi hB hQ hy h

/-- one operation alone may come up, and yields a value -/
theorem wpK_val {i : Nat} (d : Option Tmp) {oi : Oper} {fuel : Nat} {listed : Array Bool} {a : Act} {w : World} (hi : ops[i]? = some oi) (hd : oi.dst = d) (hr : Region.ready md ops listed = [i])
    (hw : Region.wanted oi (yielded ops a.tmps) = true)
    (h : ∀ w', Gr w w' → ∃ v w1, (execOp a.eval oi).run P w' = .ok (.value v) w1 ∧ Gr w' w1 ∧ wpK P md ops Q fuel (listed.setIfInBounds i true) (a.put d v) w1) :
    wpK P md ops Q (fuel + 1) listed a w := by
  subst hd
  refine wpK_one hi hr hw fun w' hg K hK => ?_
  obtain ⟨v, w1, h1, h2, h3⟩ := h w' hg
  unfold Oper.wp
  rw [h1]
  exact hK _ _ (.inr h2) h3

/-- one operation alone may come up, and calls -/
theorem wpK_call {i : Nat} (d : Option Tmp) {oi : Oper} {fuel : Nat} {listed : Array Bool} {a : Act} {w : World} (f : FuncId) (args : Array Value) (hi : ops[i]? = some oi) (hd : oi.dst = d) (hr : Region.ready md ops listed = [i])
    (hw : Region.wanted oi (yielded ops a.tmps) = true) (he : ∀ w', (execOp a.eval oi).run P w' = .ok (.enter f args) w')
    (h : ∀ w', Gr w w' → Calls P f args w' fun e w1 => ∃ v, e = .returned v ∧ Gr w' w1 ∧ wpK P md ops Q fuel (listed.setIfInBounds i true) (a.put d v) w1) :
    wpK P md ops Q (fuel + 1) listed a w := by
  subst hd
  refine wpK_one hi hr hw fun w' hg K hK => ?_
  unfold Oper.wp
  rw [he w']
  refine (h w' hg).mono fun e w1 hx => ?_
  obtain ⟨v, rfl, h2, h3⟩ := hx
  exact hK _ _ (.inr h2) h3

/-- one operation alone may come up, and stores -/
theorem wpK_store {i : Nat} (d : Option Tmp) {oi : Oper} {fuel : Nat} {listed : Array Bool} {a : Act} {w : World} (hi : ops[i]? = some oi) (hd : oi.dst = d) (hr : Region.ready md ops listed = [i])
    (hw : Region.wanted oi (yielded ops a.tmps) = true) (hs : stB ops i = true)
    (h : ∀ w', Gr w w' → ∃ w1, (execOp a.eval oi).run P w' = .ok .skip w1 ∧ wpK P md ops Q fuel (listed.setIfInBounds i true) (a.put d undef) w1) :
    wpK P md ops Q (fuel + 1) listed a w := by
  subst hd
  refine wpK_one hi hr hw fun w' hg K hK => ?_
  obtain ⟨w1, h1, h3⟩ := h w' hg
  unfold Oper.wp
  rw [h1]
  exact hK _ _ (.inl hs) h3

/-- one operation alone may come up, and yields a value; it is an append -/
theorem wpK_app {i : Nat} (d : Option Tmp) {oi : Oper} {fuel : Nat} {listed : Array Bool} {a : Act} {w : World} (hi : ops[i]? = some oi) (hd : oi.dst = d) (hr : Region.ready md ops listed = [i])
    (hw : Region.wanted oi (yielded ops a.tmps) = true) (hs : stB ops i = true)
    (h : ∀ w', Gr w w' → ∃ v w1, (execOp a.eval oi).run P w' = .ok (.value v) w1 ∧ wpK P md ops Q fuel (listed.setIfInBounds i true) (a.put d v) w1) :
    wpK P md ops Q (fuel + 1) listed a w := by
  subst hd
  refine wpK_one hi hr hw fun w' hg K hK => ?_
  obtain ⟨v, w1, h1, h3⟩ := h w' hg
  unfold Oper.wp
  rw [h1]
  exact hK _ _ (.inl hs) h3

theorem run_store_mid {op : Oper} {a : Act} {w : World} (ty : TypeId) (x y : Operand) (ho : op.op = .store ty x y)
    (b o : Nat) (cells : Array Value) (hx : a.eval x = .pointer (some ⟨b, o, none⟩)) (hy : a.eval y = .agg cells)
    (ht : w.there b o cells.size) (hi : (P.info? ty).map (·.size) = some cells.size) (h1 : cells.all (·.oneCell') = true) :
    (execOp a.eval op).run P w = .ok .skip (w.setCells b o cells.toList) := by
  unfold execOp
  simp only [ho, hx, hy, Instr.storeAt, Instr.sureAddr, Sem.run_bind, Sem.run_pure, Result.andThen_ok, run_storeVar_mid w b o ty cells ht hi h1]

/-! what yields one value -/
theorem YieldsK.val {o : Oper} {v : Value} {a : Act} {w : World} (hw : Region.wanted o (yielded ops a.tmps) = true) (h : ∀ w', Gr w w' → (execOp a.eval o).run P w' = .ok (.value v) w') : YieldsK P ops o v a w :=
  .inl ⟨hw, fun w' hg => by unfold Oper.quietAt; rw [h w' hg]; exact ⟨rfl, rfl⟩⟩
theorem YieldsK.call {o : Oper} {v : Value} {a : Act} {w : World} {f : FuncId} {args : Array Value} (hw : Region.wanted o (yielded ops a.tmps) = true) (h : ∀ w', (execOp a.eval o).run P w' = .ok (.enter f args) w')
    (hc : ∀ w', Gr w w' → Calls P f args w' fun e w'' => e = .returned v ∧ Below w'.heap.size w' w'') : YieldsK P ops o v a w :=
  .inl ⟨hw, fun w' hg => by unfold Oper.quietAt; rw [h w']; exact ⟨rfl, hc w' hg⟩⟩
theorem YieldsK.load_mid {op : Oper} {a : Act} {w : World} (hw : Region.wanted op (yielded ops a.tmps) = true) (ty : TypeId) (x : Operand) (ho : op.op = .load ty x)
    (b o : Nat) (hx : a.eval x = .pointer (some ⟨b, o, none⟩)) (cs : List Value) (d : TypeDesc) (hS : ∀ w', Gr w w' → w'.rangeAt b o cs)
    (hu : P.underlying ty = some d) (hd : d.isRow = true) (hi : (P.info? ty).map (·.size) = some cs.length) : YieldsK P ops op (.agg cs.toArray) a w :=
  .val hw fun w' hg => by
    unfold execOp
    simp only [ho, hx, Instr.loadAt, Instr.sureAddr, Sem.run_bind, Sem.run_pure, Result.andThen_ok, run_loadVar_mid w' b o ty cs d (hS w' hg) hu hd hi]
end

end Go.Proofs.Ytfomieekdbkcnaa
