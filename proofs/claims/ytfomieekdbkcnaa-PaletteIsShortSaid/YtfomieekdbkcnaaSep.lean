/-
  What lies in memory, as a list of assertions that lie apart; calls that borrow some of them; blocks made and written. (No program.)
-/
import Derived.Test.YtfomieekdbkcnaaKqs
namespace Go.Proofs.Ytfomieekdbkcnaa
open Go Go.RowKit
set_option linter.unusedVariables false

/-- something that lies in a world, with the blocks that it takes -/
structure HP where
  holds : World → (Nat → Prop) → Prop
  lt : ∀ {w f}, holds w f → ∀ k, f k → k < w.heap.size
  keep : ∀ {w w' f}, holds w f → (∀ k, f k → w'.heap[k]? = w.heap[k]?) → holds w' f

/-- assertions that lie apart -/
def Sts : List HP → World → (Nat → Prop) → Prop
  | [], _, f => ∀ k, ¬ f k
  | A :: L, w, f => ∃ g h, A.holds w g ∧ Sts L w h ∧ (∀ k, g k → ¬ h k) ∧ (∀ k, f k ↔ g k ∨ h k)

theorem Sts.lt : ∀ {L : List HP} {w : World} {f : Nat → Prop}, Sts L w f → ∀ k, f k → k < w.heap.size
  | [], _, _, h, k, hk => absurd hk (h k)
  | A :: L, w, f, ⟨g, r, hg, hr, _, hf⟩, k, hk => by
    rcases (hf k).1 hk with h1 | h1
    · exact A.lt hg k h1
    · exact Sts.lt hr k h1
theorem Sts.keep : ∀ {L : List HP} {w w' : World} {f : Nat → Prop}, Sts L w f → (∀ k, f k → w'.heap[k]? = w.heap[k]?) → Sts L w' f
  | [], _, _, _, h, _ => h
  | A :: L, w, w', f, ⟨g, r, hg, hr, hd, hf⟩, hk =>
    ⟨g, r, A.keep hg (fun k h1 => hk k ((hf k).2 (.inl h1))), Sts.keep hr (fun k h1 => hk k ((hf k).2 (.inr h1))), hd, hf⟩
theorem Sts.congr : ∀ {L : List HP} {w : World} {f g : Nat → Prop}, Sts L w f → (∀ k, f k ↔ g k) → Sts L w g
  | [], _, _, _, h, e => fun k hk => h k ((e k).2 hk)
  | A :: L, w, f, g, ⟨a, r, ha, hr, hd, hf⟩, e => ⟨a, r, ha, hr, hd, fun k => (e k).symm.trans (hf k)⟩
theorem Sts.append : ∀ {L M : List HP} {w : World} {f g : Nat → Prop}, Sts L w f → Sts M w g → (∀ k, f k → ¬ g k) → Sts (L ++ M) w (fun k => f k ∨ g k)
  | [], M, w, f, g, h, hm, _ => hm.congr fun k => ⟨.inr, fun h1 => h1.resolve_left (h k)⟩
  | A :: L, M, w, f, g, ⟨a, r, ha, hr, hd, hf⟩, hm, hdis =>
    ⟨a, fun k => r k ∨ g k, ha, Sts.append hr hm (fun k h1 => hdis k ((hf k).2 (.inr h1))), fun k h1 h2 => by
      rcases h2 with h2 | h2
      · exact hd k h1 h2
      · exact hdis k ((hf k).2 (.inl h1)) h2, fun k => (or_congr (hf k) Iff.rfl).trans or_assoc⟩
theorem Sts.split : ∀ {L M : List HP} {w : World} {f : Nat → Prop}, Sts (L ++ M) w f → ∃ g h, Sts L w g ∧ Sts M w h ∧ (∀ k, g k → ¬ h k) ∧ (∀ k, f k ↔ g k ∨ h k)
  | [], M, w, f, h => ⟨fun _ => False, f, fun _ h => h, h, fun _ h => h.elim, fun k => by simp⟩
  | A :: L, M, w, f, ⟨a, r, ha, hr, hd, hf⟩ => by
    obtain ⟨g, h, hg, hh, hgh, hrf⟩ := Sts.split hr
    refine ⟨fun k => a k ∨ g k, h, ⟨a, g, ha, hg, fun k h1 h2 => hd k h1 ((hrf k).2 (.inl h2)), fun k => Iff.rfl⟩, hh, ?_, ?_⟩
    · intro k h1 h2
      rcases h1 with h1 | h1
      · exact hd k h1 ((hrf k).2 (.inr h2))
      · exact hgh k h1 h2
    · intro k
      rw [hf k, hrf k]
      constructor
      · rintro (h1 | h1 | h1) <;> simp [h1]
      · rintro ((h1 | h1) | h1) <;> simp [h1]
theorem Sts.perm {L M : List HP} (p : List.Perm L M) : ∀ {w : World} {f : Nat → Prop}, Sts L w f → Sts M w f := by
  induction p with
  | nil => exact fun h => h
  | cons A _ ih => exact fun ⟨a, r, ha, hr, hd, hf⟩ => ⟨a, r, ha, ih hr, hd, hf⟩
  | swap A B L =>
    rintro w f ⟨b, r, hb, ⟨a, s, ha, hs, hd2, hf2⟩, hd, hf⟩
    refine ⟨a, fun k => b k ∨ s k, ha, ⟨b, s, hb, hs, fun k h1 h2 => hd k h1 ((hf2 k).2 (.inr h2)), fun k => Iff.rfl⟩, ?_, ?_⟩
    · intro k h1 h2
      rcases h2 with h2 | h2
      · exact hd k h2 ((hf2 k).2 (.inl h1))
      · exact hd2 k h1 h2
    · intro k
      rw [hf k, hf2 k]
      constructor
      · rintro (h1 | h1 | h1) <;> simp [h1]
      · rintro (h1 | h1 | h1) <;> simp [h1]
  | trans _ _ ih1 ih2 => exact fun h => ih2 (ih1 h)
theorem Sts.nth : ∀ {L : List HP} {w : World} {f : Nat → Prop} {i : Nat} {A : HP}, Sts L w f → L[i]? = some A → ∃ g, A.holds w g
  | A :: L, w, f, 0, B, ⟨a, r, ha, _, _, _⟩, h => by simp at h; subst h; exact ⟨a, ha⟩
  | A :: L, w, f, i + 1, B, ⟨a, r, _, hr, _, _⟩, h => Sts.nth hr (by simpa using h)
  | [], _, _, i, _, _, h => by simp at h

/-- since w0 only blocks of F, and new ones, have changed; L lies now, in blocks of F and new ones -/
structure St (w0 : World) (F : Nat → Prop) (L : List HP) (w : World) : Prop where
  chg : Chg F w0 w
  sts : ∃ f, Sts L w f ∧ ∀ k, f k → F k ∨ w0.heap.size ≤ k
/-- nothing borrowed -/
def noB : Nat → Prop := fun _ => False

section
variable {w0 w w' : World} {F : Nat → Prop} {L M N : List HP}
theorem St.start (w : World) : St w noB [] w := ⟨Chg.refl _ _, noB, fun _ h => h, fun _ h => .inl h⟩
theorem St.borrow (h : Sts L w F) : St w F L w := ⟨Chg.refl _ _, F, h, fun _ h => .inl h⟩
theorem St.gr (h : St w0 F L w) (g : Gr w w') : St w0 F L w' := by
  obtain ⟨f, hs, hf⟩ := h.sts
  exact ⟨h.chg.gr g, f, hs.keep (fun k hk => g.block k (hs.lt k hk)), hf⟩
theorem St.perm (h : St w0 F L w) (p : List.Perm L M) : St w0 F M w := by
  obtain ⟨f, hs, hf⟩ := h.sts
  exact ⟨h.chg, f, hs.perm p, hf⟩
theorem St.bel (h : St w0 noB L w) : Gr w0 w := h.chg.below (Nat.le_refl _) (fun _ _ h => h)
theorem St.size (h : St w0 F L w) : w0.heap.size ≤ w.heap.size := h.chg.size
/-- the first of the assertions are lent to a call -/
theorem St.lend (L : List HP) (h : St w0 F (L ++ M) w) : ∃ f, Sts L w f ∧ (∀ k, f k → F k ∨ w0.heap.size ≤ k) ∧ ∀ {N : List HP} {w' : World}, St w f N w' → St w0 F (N ++ M) w' := by
  obtain ⟨f, hs, hf⟩ := h.sts
  obtain ⟨a, b, ha, hb, hab, hfe⟩ := hs.split
  refine ⟨a, ha, fun k hk => hf k ((hfe k).2 (.inl hk)), fun {N w'} h' => ?_⟩
  obtain ⟨g, hg, hga⟩ := h'.sts
  have hbl := hb.lt
  refine ⟨h.chg.trans h'.chg (fun k hk h1 => (hf k ((hfe k).2 (.inl h1))).resolve_right (fun h2 => absurd hk (Nat.not_lt.2 h2))), fun k => g k ∨ b k, hg.append (hb.keep (fun k hk => h'.chg.block k (hbl k hk) (fun h1 => hab k h1 hk))) ?_, ?_⟩
  · intro k h1 h2
    rcases hga k h1 with h3 | h3
    · exact hab k h3 h2
    · exact absurd (hbl k h2) (Nat.not_lt.2 h3)
  · intro k h1
    rcases h1 with h1 | h1
    · rcases hga k h1 with h2 | h2
      · exact hf k ((hfe k).2 (.inl h2))
      · exact .inr (Nat.le_trans h.chg.size h2)
    · exact hf k ((hfe k).2 (.inr h1))
/-- a call that borrows nothing and leaves N -/
theorem St.got (h : St w0 F M w) (h' : St w noB N w') : St w0 F (N ++ M) w' := by
  obtain ⟨f, hs, _, hb⟩ := St.lend (L := []) (M := M) h
  refine hb ⟨h'.chg.mono (fun k _ h1 => h1.elim), ?_⟩
  obtain ⟨g, hg, hga⟩ := h'.sts
  exact ⟨g, hg, fun k hk => .inr ((hga k hk).resolve_left (fun h => h))⟩
theorem St.drop {A : HP} (h : St w0 F (A :: L) w) : St w0 F L w := by
  obtain ⟨f, ⟨a, r, _, hr, _, hfe⟩, hf⟩ := h.sts
  exact ⟨h.chg, r, hr, fun k hk => hf k ((hfe k).2 (.inr hk))⟩
theorem St.dropAll (h : St w0 F L w) : St w0 F [] w := ⟨h.chg, noB, fun _ h => h, fun _ h => h.elim⟩
theorem St.sub : ∀ {L M : List HP}, List.Sublist M L → St w0 F L w → St w0 F M w := by
  intro L M hs h
  obtain ⟨f, hf, hF⟩ := h.sts
  have key : ∀ {L M : List HP}, List.Sublist M L → ∀ {f : Nat → Prop}, Sts L w f → ∃ g, Sts M w g ∧ ∀ k, g k → f k := by
    intro L M hs
    induction hs with
    | slnil => exact fun h => ⟨_, h, fun _ h => h⟩
    | cons A _ ih =>
      rintro f ⟨a, r, _, hr, _, hfe⟩
      obtain ⟨g, hg, hgr⟩ := ih hr
      exact ⟨g, hg, fun k hk => (hfe k).2 (.inr (hgr k hk))⟩
    | cons_cons A _ ih =>
      rintro f ⟨a, r, ha, hr, hd, hfe⟩
      obtain ⟨g, hg, hgr⟩ := ih hr
      exact ⟨fun k => a k ∨ g k, ⟨a, g, ha, hg, fun k h1 h2 => hd k h1 (hgr k h2), fun k => Iff.rfl⟩, fun k hk => (hfe k).2 (hk.imp id (hgr k))⟩
  obtain ⟨g, hg, hgf⟩ := key hs hf
  exact ⟨h.chg, g, hg, fun k hk => hF k (hgf k hk)⟩
end

/-- a block of cells -/
def blk (g : Nat) (t : TypeId) (cs : List Value) : HP where
  holds w f := w.heap[g]? = some (.cells cs.toArray t (0, 0)) ∧ ∀ k, f k ↔ k = g
  lt h k hk := by rw [(h.2 k).1 hk]; exact (Array.getElem?_eq_some_iff.1 h.1).1
  keep h hk := ⟨(hk g ((h.2 g).2 rfl)).trans h.1, h.2⟩
/-- a slice of the call's own -/
def own (v : Value) (e : TypeId) (size n : Nat) (xs : List Value) : HP where
  holds w f := w.ownsRow 0 e size v n xs ∧ ∀ k, f k ↔ v.ownBlock = some k
  lt h k hk := (h.1.lt k ((h.2 k).1 hk)).2
  keep {w w' f} h hk := by
    refine ⟨⟨h.1.1, ?_⟩, h.2⟩
    rcases h.1.2 with hv | ⟨g, cap, cur, rfl, hb, hgg, rest⟩
    · exact .inl hv
    · exact .inr ⟨g, cap, cur, rfl, hb, (hk g ((h.2 g).2 rfl)).trans hgg, rest⟩

theorem row_of_heap {w : World} {g : Nat} {cs : List Value} {t : TypeId} (h : w.heap[g]? = some (.cells cs.toArray t (0, 0))) : Row g cs w := by
  intro j v hj
  refine ⟨?_, ?_⟩
  · unfold World.cell?; rw [h]; simpa using hj
  · unfold World.frozen?; rw [h]; simp
section
variable {w0 w w' : World} {F : Nat → Prop} {L M N : List HP} {g : Nat} {t : TypeId} {cs : List Value}
theorem St.heap (h : St w0 F L w) (i : Nat) (hL : L[i]? = some (blk g t cs)) : w.heap[g]? = some (.cells cs.toArray t (0, 0)) := by
  obtain ⟨f, hs, _⟩ := h.sts
  obtain ⟨_, h1, _⟩ := hs.nth hL
  exact h1
theorem St.row (h : St w0 F L w) (i : Nat) (hL : L[i]? = some (blk g t cs)) : Row g cs w := row_of_heap (h.heap i hL)
theorem St.ownr (h : St w0 F L w) (i : Nat) {v : Value} {e : TypeId} {size n : Nat} {xs : List Value} (hL : L[i]? = some (own v e size n xs)) : w.ownsRow 0 e size v n xs := by
  obtain ⟨f, hs, _⟩ := h.sts
  obtain ⟨_, h1, _⟩ := hs.nth hL
  exact h1
theorem St.range (h : St w0 F L w) (i : Nat) (hL : L[i]? = some (blk g t cs)) (o n : Nat) {ds : List Value} (e : (cs.drop o).take n = ds) : w.rangeAt g o ds := by
  have hr := h.row i hL
  intro j v hj
  refine (hr (o + j) v ?_).1
  rw [← e, List.getElem?_take] at hj
  split at hj
  · rwa [List.getElem?_drop] at hj
  · cases hj
theorem St.cell (h : St w0 F L w) (i : Nat) (hL : L[i]? = some (blk g t cs)) (o : Nat) {v : Value} (e : cs[o]? = some v) : w.cell? ⟨g, o, none⟩ = some v := (h.row i hL o v e).1
theorem St.soft (h : St w0 F L w) (i : Nat) (hL : L[i]? = some (blk g t cs)) (o : Nat) {v : Value} (e : cs[o]? = some v) : w.frozen? ⟨g, o, none⟩ = false := (h.row i hL o v e).2
theorem St.alloc (h : St w0 F L w) (cs : List Value) (t : TypeId) : St w0 F (blk w.heap.size t cs :: L) (w.alloc (.cells cs.toArray t)) := by
  refine St.got (N := [blk w.heap.size t cs]) h ⟨Chg.of_gr (Gr.al w _), fun k => k = w.heap.size, ⟨fun k => k = w.heap.size, noB, ⟨heap_alloc_last w _, fun _ => Iff.rfl⟩, fun _ h => h, fun _ _ h => h, fun k => by simp [noB]⟩, fun k hk => .inr (by omega)⟩
/-- the block just made, under a name of its own -/
theorem St.made (h : St w0 F L w) (cs : List Value) (t : TypeId) : ∃ g u, g = w.heap.size ∧ u = w.alloc (.cells cs.toArray t) ∧ St w0 F (blk g t cs :: L) u := ⟨_, _, rfl, rfl, h.alloc cs t⟩
theorem St.named {N : List HP} {X : World} (h : St w0 F N X) : ∃ u, u = X ∧ St w0 F N u := ⟨_, rfl, h⟩
end
/-- a list written from place o on -/
def setFrom : List Value → Nat → List Value → List Value
  | cs, _, [] => cs
  | cs, o, v :: r => setFrom (cs.set o v) (o + 1) r
theorem heap_setCell {w : World} {g o : Nat} {cs : List Value} {t : TypeId} (h : w.heap[g]? = some (.cells cs.toArray t (0, 0))) (v : Value) : (w.setCell ⟨g, o, none⟩ v).heap[g]? = some (.cells (cs.set o v).toArray t (0, 0)) := by
  simp [World.setCell, Array.getElem?_modify, h]
theorem heap_setCells {g : Nat} {t : TypeId} : ∀ (vs : List Value) (o : Nat) (cs : List Value) (w : World), w.heap[g]? = some (.cells cs.toArray t (0, 0)) → (w.setCells g o vs).heap[g]? = some (.cells (setFrom cs o vs).toArray t (0, 0))
  | [], _, _, _, h => h
  | v :: r, o, cs, w, h => heap_setCells r (o + 1) (cs.set o v) _ (heap_setCell h v)
theorem chg_setCells (g : Nat) : ∀ (vs : List Value) (o : Nat) (w : World), Chg (fun k => k = g) w (w.setCells g o vs)
  | [], _, w => Chg.refl _ w
  | v :: r, o, w => (Chg.setCell w g o v).trans (chg_setCells g r (o + 1) _) (fun _ _ h => h)
section
variable {w0 w w' : World} {F : Nat → Prop} {L M N : List HP} {g : Nat} {t : TypeId} {cs : List Value}
theorem St.put0 (h : St w0 F (blk g t cs :: M) w) (o : Nat) (vs : List Value) {ds : List Value} (e : setFrom cs o vs = ds) : St w0 F (blk g t ds :: M) (w.setCells g o vs) := by
  subst e
  obtain ⟨f, ⟨a, r, ha, hr, hd, hf⟩, _, hb⟩ := St.lend (L := [blk g t cs]) (M := M) h
  refine hb (N := [blk g t (setFrom cs o vs)]) ⟨(chg_setCells g vs o w).mono (fun k _ h1 => (hf k).2 (.inl ((ha.2 k).2 h1))), fun k => k = g, ⟨fun k => k = g, noB, ⟨heap_setCells vs o cs w ha.1, fun _ => Iff.rfl⟩, fun _ h => h, fun _ _ h => h, fun k => by simp [noB]⟩, fun k hk => .inl ((hf k).2 (.inl ((ha.2 k).2 hk)))⟩
theorem perm_at : ∀ {L : List HP} {i : Nat} {A : HP}, L[i]? = some A → List.Perm L (A :: L.eraseIdx i)
  | B :: L, 0, A, h => by simp at h; subst h; exact List.Perm.refl _
  | B :: L, i + 1, A, h => by
    have := perm_at (L := L) (i := i) (A := A) (by simpa using h)
    exact (List.Perm.cons B this).trans (List.Perm.swap _ _ _)
  | [], i, A, h => by simp at h
theorem perm_set : ∀ {L : List HP} {i : Nat} {A : HP} (B : HP), L[i]? = some A → List.Perm (B :: L.eraseIdx i) (L.set i B)
  | C :: L, 0, A, B, h => by simp
  | C :: L, i + 1, A, B, h => by
    have := perm_set (L := L) (i := i) (A := A) B (by simpa using h)
    exact (List.Perm.swap _ _ _).trans (List.Perm.cons C this)
  | [], i, A, B, h => by simp at h
theorem St.put (h : St w0 F L w) (i : Nat) (hL : L[i]? = some (blk g t cs)) (o : Nat) (vs : List Value) {ds : List Value} (e : setFrom cs o vs = ds) : St w0 F (L.set i (blk g t ds)) (w.setCells g o vs) :=
  ((h.perm (perm_at hL)).put0 o vs e).perm (perm_set _ hL)
theorem St.put1 (h : St w0 F L w) (i : Nat) (hL : L[i]? = some (blk g t cs)) (o : Nat) (v : Value) : St w0 F (L.set i (blk g t (cs.set o v))) (w.setCell ⟨g, o, none⟩ v) := h.put i hL o [v] rfl
theorem St.room (h : St w0 F L w) (i : Nat) (hL : L[i]? = some (blk g t cs)) (o n : Nat) (hn : o + n ≤ cs.length) : w.there g o n := (h.row i hL).there o n hn
/-- an assertion that is borrowed goes ahead -/
theorem St.front (h : St w0 F L w) (i : Nat) {A : HP} (hL : L[i]? = some A) : St w0 F (A :: L.eraseIdx i) w := h.perm (perm_at hL)
end
section
variable {P : Program} {ops : Array Oper} {Q : Exit → Act → World → Prop}
/-- a call in a region that does not draw -/
theorem wpG_call {o : Oper} {l : List Oper} (d : Option Tmp) {a : Act} {w : World} (f : FuncId) (args : Array Value) (hd : o.dst = d) (hw : Region.wanted o (yielded ops a.tmps) = true) (he : ∀ w', (execOp a.eval o).run P w' = .ok (.enter f args) w')
    (h : ∀ w', Gr w w' → Calls P f args w' fun e w1 => ∃ v, e = .returned v ∧ wpG P ops Q l (a.put d v) w1) : wpG P ops Q (o :: l) a w := by
  subst hd
  intro w' hg
  unfold wpList
  rw [if_pos hw]
  refine .inl ?_
  unfold Oper.wp
  rw [he w']
  refine (h w' hg).mono fun e w1 hx => ?_
  obtain ⟨v, rfl, h3⟩ := hx
  exact h3 w1 (Gr.refl w1)
end
/-- a slice of the call's own takes more -/
theorem St.grew {w0 w w' : World} {F : Nat → Prop} {M : List HP} {v v' : Value} {e : TypeId} {size n m : Nat} {xs news : List Value} (h : St w0 F (own v e size n xs :: M) w)
    (h1 : w'.ownsRow 0 e size v' (n + m) (xs ++ news)) (h2 : w.grownBy w' v.ownBlock) (h3 : v'.ownBlock = v.ownBlock ∨ v'.ownBlock = some w.heap.size) : St w0 F (own v' e size (n + m) (xs ++ news) :: M) w' := by
  obtain ⟨f, ⟨a, r, ha, hr, hd, hf⟩, _, hb⟩ := St.lend (L := [own v e size n xs]) (M := M) h
  refine hb (N := [own v' e size (n + m) (xs ++ news)]) ⟨(Chg.of_grown h2).mono (fun k _ hk => (hf k).2 (.inl ((ha.2 k).2 hk))), fun k => v'.ownBlock = some k, ⟨fun k => v'.ownBlock = some k, noB, ⟨h1, fun _ => Iff.rfl⟩, fun _ h => h, fun _ _ h => h, fun k => by simp [noB]⟩, fun k hk => ?_⟩
  rcases h3 with h3 | h3
  · exact .inl ((hf k).2 (.inl ((ha.2 k).2 (h3 ▸ hk))))
  · rw [h3] at hk; injection hk with hk; exact .inr (by omega)
theorem St.nilOwn {w0 w : World} {F : Nat → Prop} {L : List HP} (h : St w0 F L w) (e : TypeId) (size : Nat) : St w0 F (own (.slice none 0 0) e size 0 [] :: L) w := by
  refine St.got (N := [own (.slice none 0 0) e size 0 []]) h ⟨Chg.refl _ _, noB, ⟨noB, noB, ⟨World.ownsRow_nil w 0 e size, fun k => by simp [noB, Value.ownBlock]⟩, fun _ h => h, fun _ h => h.elim, fun k => by simp [noB]⟩, fun _ h => h.elim⟩
/-- a row made with its elements is a slice of the call's own -/
theorem St.toOwn {w0 w : World} {F : Nat → Prop} {L : List HP} {g : Nat} {t : TypeId} {cs : List Value} (h : St w0 F (blk g t cs :: L) w) (size n : Nat) (hl : cs.length = n * size) (hm : n ≤ maxLen) : St w0 F (own (.slice (some ⟨g, 0, none⟩) n n) t size n cs :: L) w := by
  obtain ⟨f, ⟨a, r, ha, hr, hd, hfe⟩, hF⟩ := h.sts
  refine ⟨h.chg, f, ⟨a, r, ⟨⟨hl, .inr ⟨g, n, cs.toArray, rfl, Nat.zero_le _, ha.1, Nat.le_refl _, hm, by simpa using hl, by rw [← hl]; simp⟩⟩, fun k => (ha.2 k).trans ?_⟩, hr, hd, hfe⟩, hF⟩
  simp only [Value.ownBlock, Option.some.injEq]
  exact eq_comm
end Go.Proofs.Ytfomieekdbkcnaa
