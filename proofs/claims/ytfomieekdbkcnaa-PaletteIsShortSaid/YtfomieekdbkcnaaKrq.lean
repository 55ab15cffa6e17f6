/-
  Regions that draw their order and hold calls that change memory: as Krip, with the list of what writes given from outside. (No program.)
-/
import Derived.Test.YtfomieekdbkcnaaRox
namespace Go.Proofs.Ytfomieekdbkcnaa.J
open Go Go.RowKit
section
variable {P : Program} {ops : Array Oper} {md : Region.Mode} {st : Nat → Bool} {Q : Exit → Act → World → Prop}
/-- every store that has not come up yet waits for i -/
def storesWait (md : Region.Mode) (ops : Array Oper) (st : Nat → Bool) (listed : Array Bool) (i : Nat) : Bool :=
  (List.range ops.size).all fun j => j == i || !st j || listed.getD j false || needs md ops ops.size j i

/-- whatever order is picked, in whatever world has grown out of this one -/
def wpK (P : Program) (md : Region.Mode) (ops : Array Oper) (st : Nat → Bool) (Q : Exit → Act → World → Prop) : Nat → Array Bool → Act → World → Prop
  | 0, listed, a, w => ∀ w', Gr w w' → Region.ready md ops listed = [] ∧ Q .normal a w'
  | fuel + 1, listed, a, w => ∀ w', Gr w w' →
    (Region.ready md ops listed = [] → Q .normal a w') ∧
    ∀ i ∈ Region.ready md ops listed, wpOp P ops Q i (fun a' w1 => (st i = true ∨ Gr w' w1) ∧ wpK P md ops st Q fuel (listed.setIfInBounds i true) a' w1) a w'

theorem wpK_mono : ∀ (fuel : Nat) {listed : Array Bool} {a : Act} {w w' : World}, Gr w w' → wpK P md ops st Q fuel listed a w → wpK P md ops st Q fuel listed a w'
  | 0, _, _, _, _, hg, h => fun w2 h2 => h w2 (hg.trans h2)
  | _ + 1, _, _, _, _, hg, h => fun w2 h2 => h w2 (hg.trans h2)

theorem wpAny_of_wpK : ∀ (fuel : Nat) (listed : Array Bool) (a : Act) (w : World), wpK P md ops st Q fuel listed a w → wpAny P md ops Q fuel listed a w
  | 0, _, _, w, h => h w (Gr.refl w)
  | fuel + 1, _, _, w, h => ⟨(h w (Gr.refl w)).1, fun i hi => wpOp_mono (fun a' w' h' => wpAny_of_wpK fuel _ a' w' h'.2) ((h w (Gr.refl w)).2 i hi)⟩

theorem wpK_first {i : Nat} {oi : Oper} {v : Value} (hi : ops[i]? = some oi) (hsel : ∀ (j : Nat) (o : Oper) cs b, ops[j]? = some o → o.op ≠ .select cs b)
    (hQ : ∀ c a w, Q (.panic c) (a.put oi.dst v) w → Q (.panic c) a w) :
    ∀ (fuel : Nat) (listed : Array Bool) (a : Act) (w : World),
      (∀ j oj, ops[j]? = some oj → j ≠ i → listed.getD j true = false → (∀ e ∈ oj.after, Region.binds md e = true → e.on ≠ i) → oi.apart ops oj = true) →
      closedL md ops listed →
      (∀ j, j < ops.size → st j = true → j ≠ i → listed.getD j true = false → needs md ops ops.size j i = true) →
      i ∈ Region.ready md ops listed → YieldsK P ops oi v a w →
      wpK P md ops st Q fuel (listed.setIfInBounds i true) (a.put oi.dst v) w → wpK P md ops st Q (fuel + 1) listed a w := by
  intro fuel
  induction fuel with
  | zero =>
    intro listed a w _ _ _ hr hy H w' hg
    refine ⟨fun h => (by rw [h] at hr; cases hr), fun j hj => ?_⟩
    by_cases hji : j = i
    · subst hji; exact (hy.mono hg).wpOp hi (fun w2 h2 => ⟨.inr h2, wpK_mono 0 (hg.trans h2) H⟩)
    · have := ready_mono hj hji
      rw [(H w' hg).1] at this
      cases this
  | succ fuel ih =>
    intro listed a w hfree hc hst hr hy H w' hg
    refine ⟨fun h => (by rw [h] at hr; cases hr), fun j hj => ?_⟩
    by_cases hji : j = i
    · subst hji; exact (hy.mono hg).wpOp hi (fun w2 h2 => ⟨.inr h2, wpK_mono (fuel + 1) (hg.trans h2) H⟩)
    · have h1 := (H w' hg).2 j (ready_mono hj hji)
      obtain ⟨hjun, oj, hoj, hall⟩ := mem_ready.1 hj
      have hi0 := (mem_ready.1 hr).1
      have hnot : ∀ e ∈ oj.after, Region.binds md e = true → e.on ≠ i := fun e he hb heq => by
        have h1 := hall e he hb
        rw [heq] at h1
        rcases Nat.lt_or_ge i listed.size with h' | h'
        · simp [h'] at hi0 h1; rw [hi0] at h1; cases h1
        · simp [Array.getElem?_eq_none h'] at h1
      have hns : st j ≠ true := fun hs => by
        have hn := hst j (Array.getElem?_eq_some_iff.1 hoj).1 hs hji hjun
        have hl := needs_listed hc _ j i hn hji (fun o ho e he hb => by rw [hoj] at ho; cases ho; exact hall e he hb)
        rcases Nat.lt_or_ge i listed.size with h' | h'
        · simp [h'] at hi0 hl; rw [hi0] at hl; cases hl
        · simp [Array.getElem?_eq_none h'] at hl
      have h2 := wpOp_putK hoj (hfree j oj hoj hji hjun hnot) (fun cs b => hsel i oi cs b hi) (fun cs b => hsel j oj cs b hoj) hQ hy h1
      have hfree' : ∀ k ok, ops[k]? = some ok → k ≠ i → (listed.setIfInBounds j true).getD k true = false →
          (∀ e ∈ ok.after, Region.binds md e = true → e.on ≠ i) → oi.apart ops ok = true := fun k ok hk hki hun hno => by
        refine hfree k ok hk hki ?_ hno
        by_cases hjk : j = k
        · subst hjk; exact hjun
        · rw [getD_set_ne true hjk] at hun; exact hun
      have hst' : ∀ k, k < ops.size → st k = true → k ≠ i → (listed.setIfInBounds j true).getD k true = false → needs md ops ops.size k i = true := fun k hkz hs hki hun => by
        refine hst k hkz hs hki ?_
        by_cases hjk : j = k
        · subst hjk; exact hjun
        · rw [getD_set_ne true hjk] at hun; exact hun
      refine wpOp_mono (fun a' w1 h3 => ?_) h2
      obtain ⟨h3, h4, h5⟩ := h3
      have hg1 : Gr w' w1 := h4.resolve_left hns
      refine ⟨.inr hg1, ih (listed.setIfInBounds j true) a' w1 hfree' (closed_put hc hj) hst' (ready_mono hr (Ne.symm hji)) (h3.mono (hg.trans hg1)) ?_⟩
      rw [Array.setIfInBounds_comm _ _ hji]
      exact h5

/-- AN OPERATION THAT YIELDS ONE VALUE FROM HERE ON IS TAKEN FIRST. -/
theorem wpK_take {i : Nat} {oi : Oper} {v : Value} {fuel : Nat} {listed : Array Bool} {a : Act} {w : World} (hi : ops[i]? = some oi)
    (hB : (Region.noSelect ops && Region.free md ops listed i && closedB md ops listed && storesWait md ops st listed i && (Region.ready md ops listed).contains i) = true)
    (hQ : ∀ c a w, Q (.panic c) (a.put oi.dst v) w → Q (.panic c) a w) (hy : YieldsK P ops oi v a w)
    (h : wpK P md ops st Q fuel (listed.setIfInBounds i true) (a.put oi.dst v) w) : wpK P md ops st Q (fuel + 1) listed a w := by
  simp only [Bool.and_eq_true] at hB
  obtain ⟨⟨⟨⟨h1, h2⟩, h3⟩, h4⟩, h5⟩ := hB
  refine wpK_first hi (Region.noSelect_spec h1) hQ fuel listed a w (Region.free_spec hi h2) (closed_of h3) ?_ (by simpa using h5) hy h
  intro j hj hs hji hun
  simp only [storesWait, List.all_eq_true, List.mem_range] at h4
  have h6 := h4 j hj
  have hun2 : listed.getD j false = false := by
    rcases Nat.lt_or_ge j listed.size with h' | h'
    · simp [h'] at hun ⊢; exact hun
    · simp [Array.getElem?_eq_none h']
  simp only [Bool.or_eq_true, beq_iff_eq, hs, hun2, Bool.not_true, Bool.false_eq_true, or_false, hji, false_or] at h6
  exact h6

theorem wpK_first_all {i : Nat} {oi : Oper} {v : Value} (hi : ops[i]? = some oi) (hsel : ∀ (j : Nat) (o : Oper) cs b, ops[j]? = some o → o.op ≠ .select cs b)
    (hQ : ∀ c a w, Q (.panic c) (a.put oi.dst v) w → Q (.panic c) a w) :
    ∀ (fuel : Nat) (listed : Array Bool) (a : Act) (w : World),
      (∀ j oj, ops[j]? = some oj → j ≠ i → listed.getD j true = false → (∀ e ∈ oj.after, Region.binds md e = true → e.on ≠ i) → oi.apart ops oj = true) →
      i ∈ Region.ready md ops listed → Yields P ops oi v a →
      wpK P md ops st Q fuel (listed.setIfInBounds i true) (a.put oi.dst v) w → wpK P md ops st Q (fuel + 1) listed a w := by
  intro fuel
  induction fuel with
  | zero =>
    intro listed a w _ hr hy H w' hg
    refine ⟨fun h => (by rw [h] at hr; cases hr), fun j hj => ?_⟩
    by_cases hji : j = i
    · subst hji; exact hy.wpOp hi ⟨.inr (Gr.refl _), wpK_mono 0 hg H⟩
    · have := ready_mono hj hji
      rw [(H w' hg).1] at this
      cases this
  | succ fuel ih =>
    intro listed a w hfree hr hy H w' hg
    refine ⟨fun h => (by rw [h] at hr; cases hr), fun j hj => ?_⟩
    by_cases hji : j = i
    · subst hji; exact hy.wpOp hi ⟨.inr (Gr.refl _), wpK_mono (fuel + 1) hg H⟩
    · have h1 := (H w' hg).2 j (ready_mono hj hji)
      obtain ⟨hjun, oj, hoj, hall⟩ := mem_ready.1 hj
      have hi0 := (mem_ready.1 hr).1
      have hnot : ∀ e ∈ oj.after, Region.binds md e = true → e.on ≠ i := fun e he hb heq => by
        have h1 := hall e he hb
        rw [heq] at h1
        rcases Nat.lt_or_ge i listed.size with h' | h'
        · simp [h'] at hi0 h1; rw [hi0] at h1; cases h1
        · simp [Array.getElem?_eq_none h'] at h1
      have h2 := wpOp_put hoj (hfree j oj hoj hji hjun hnot) (fun cs b => hsel i oi cs b hi) (fun cs b => hsel j oj cs b hoj) hQ hy h1
      have hfree' : ∀ k ok, ops[k]? = some ok → k ≠ i → (listed.setIfInBounds j true).getD k true = false →
          (∀ e ∈ ok.after, Region.binds md e = true → e.on ≠ i) → oi.apart ops ok = true := fun k ok hk hki hun hno => by
        refine hfree k ok hk hki ?_ hno
        by_cases hjk : j = k
        · subst hjk; exact hjun
        · rw [getD_set_ne true hjk] at hun; exact hun
      refine wpOp_mono (fun a' w1 h3 => ?_) h2
      obtain ⟨h3, h4, h5⟩ := h3
      refine ⟨h4, ih (listed.setIfInBounds j true) a' w1 hfree' (ready_mono hr (Ne.symm hji)) h3 ?_⟩
      rw [Array.setIfInBounds_comm _ _ hji]
      exact h5

/-- AN OPERATION THAT YIELDS ONE VALUE IN EVERY WORLD WHATEVER is taken first, stores and appends beside it or not. -/
theorem wpK_ta {i : Nat} (d : Option Tmp) {oi : Oper} {v : Value} {fuel : Nat} {listed : Array Bool} {a : Act} {w : World} (hi : ops[i]? = some oi) (hd : oi.dst = d)
    (hB : (Region.noSelect ops && Region.free md ops listed i && (Region.ready md ops listed).contains i) = true)
    (hQ : ∀ c a w, Q (.panic c) (a.put oi.dst v) w → Q (.panic c) a w) (hy : Yields P ops oi v a)
    (h : wpK P md ops st Q fuel (listed.setIfInBounds i true) (a.put d v) w) : wpK P md ops st Q (fuel + 1) listed a w := by
  subst hd
  simp only [Bool.and_eq_true] at hB
  obtain ⟨⟨h1, h2⟩, h5⟩ := hB
  exact wpK_first_all hi (Region.noSelect_spec h1) hQ fuel listed a w (Region.free_spec hi h2) (by simpa using h5) hy h

/-- ONE OPERATION ALONE MAY COME UP: it is carried out, in whatever world has grown out of this one. -/
theorem wpK_one {i : Nat} {oi : Oper} {fuel : Nat} {listed : Array Bool} {a : Act} {w : World} (hi : ops[i]? = some oi) (hr : Region.ready md ops listed = [i])
    (hw : Region.wanted oi (yielded ops a.tmps) = true)
    (h : ∀ w', Gr w w' → ∀ K : Act → World → Prop, (∀ a' w1, (st i = true ∨ Gr w' w1) → wpK P md ops st Q fuel (listed.setIfInBounds i true) a' w1 → K a' w1) → oi.wp P a w' K Q) :
    wpK P md ops st Q (fuel + 1) listed a w := by
  intro w' hg
  refine ⟨fun h0 => (by rw [hr] at h0; cases h0), fun j hj => ?_⟩
  rw [hr] at hj
  obtain rfl := List.mem_singleton.1 hj
  unfold wpOp
  rw [hi]
  simp only [hw, if_true]
  exact .inl (h w' hg _ (fun a' w1 h1 h2 => ⟨h1, h2⟩))

theorem wpK_done {listed : Array Bool} {a : Act} {w : World} (hr : Region.ready md ops listed = []) (h : ∀ w', Gr w w' → Q .normal a w') :
    ∀ fuel, wpK P md ops st Q fuel listed a w
  | 0 => fun w' hg => ⟨hr, h w' hg⟩
  | _ + 1 => fun w' hg => ⟨fun _ => h w' hg, by rw [hr]; simp⟩

/-- a region that draws its order -/
theorem wpK_region {id : Nat} {a : Act} {w : World} (hm : P.follows .mixedOrders = true)
    (h : wpK P .any ops st Q ops.size (Array.replicate ops.size false) a w.drew) : (Code.region id ops true).wp P Q a w :=
  wp_region_any hm (wpAny_of_wpK _ _ _ _ h)

/-- the same, the slot given -/
theorem wpK_tk {i : Nat} (d : Option Tmp) {oi : Oper} {v : Value} {fuel : Nat} {listed : Array Bool} {a : Act} {w : World} (hi : ops[i]? = some oi) (hd : oi.dst = d)
    (hB : (Region.noSelect ops && Region.free md ops listed i && closedB md ops listed && storesWait md ops st listed i && (Region.ready md ops listed).contains i) = true)
    (hQ : ∀ c a w, Q (.panic c) (a.put oi.dst v) w → Q (.panic c) a w) (hy : YieldsK P ops oi v a w)
    (h : wpK P md ops st Q fuel (listed.setIfInBounds i true) (a.put d v) w) : wpK P md ops st Q (fuel + 1) listed a w := by
  subst hd; exact wpK_take hi hB hQ hy h


/-- one operation alone may come up, and calls what changes memory -/
theorem wpK_call {i : Nat} (d : Option Tmp) {oi : Oper} {fuel : Nat} {listed : Array Bool} {a : Act} {w : World} (f : FuncId) (args : Array Value) (hi : ops[i]? = some oi) (hd : oi.dst = d) (hr : Region.ready md ops listed = [i])
    (hw : Region.wanted oi (yielded ops a.tmps) = true) (hs : st i = true) (he : ∀ w', (execOp a.eval oi).run P w' = .ok (.enter f args) w')
    (h : ∀ w', Gr w w' → Calls P f args w' fun e w1 => ∃ v, e = .returned v ∧ wpK P md ops st Q fuel (listed.setIfInBounds i true) (a.put d v) w1) :
    wpK P md ops st Q (fuel + 1) listed a w := by
  subst hd
  refine wpK_one hi hr hw fun w' hg K hK => ?_
  unfold Oper.wp
  rw [he w']
  refine (h w' hg).mono fun e w1 hx => ?_
  obtain ⟨v, rfl, h3⟩ := hx
  exact hK _ _ (.inl hs) h3
end
end Go.Proofs.Ytfomieekdbkcnaa.J
