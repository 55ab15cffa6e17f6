/-
  Worlds in which some blocks have changed; append onto a row of the call's own, and where the row lies then. (No program.)
-/
import Derived.Test.YtfomieekdbkcnaaKrq
namespace Go.Proofs.Ytfomieekdbkcnaa
open Go Go.RowKit
set_option linter.unusedVariables false

/-- the blocks that S names may have changed, and new ones may have come; nothing else -/
structure Chg (S : Nat → Prop) (w w' : World) : Prop where
  os : w'.os = w.os
  tape : w'.tape = w.tape
  output : w'.output = w.output
  size : w.heap.size ≤ w'.heap.size
  block : ∀ k, k < w.heap.size → ¬ S k → w'.heap[k]? = w.heap[k]?

theorem Chg.of_gr {S : Nat → Prop} {w w' : World} (h : Gr w w') : Chg S w w' := ⟨h.os, h.tape, h.output, h.size, fun k hk _ => h.block k hk⟩
theorem Chg.refl (S : Nat → Prop) (w : World) : Chg S w w := Chg.of_gr (Gr.refl w)
theorem Chg.trans {S T : Nat → Prop} {a b c : World} (h : Chg S a b) (g : Chg T b c) (hT : ∀ k, k < a.heap.size → T k → S k) : Chg S a c :=
  ⟨g.os.trans h.os, g.tape.trans h.tape, g.output.trans h.output, Nat.le_trans h.size g.size, fun k hk hn => (g.block k (Nat.lt_of_lt_of_le hk h.size) (fun ht => hn (hT k hk ht))).trans (h.block k hk hn)⟩
theorem Chg.mono {S T : Nat → Prop} {a b : World} (h : Chg S a b) (hT : ∀ k, k < a.heap.size → S k → T k) : Chg T a b := (Chg.refl T a).trans h hT
theorem Chg.of_grown {w w' : World} {r : Option Nat} (h : w.grownBy w' r) : Chg (fun k => r = some k) w w' :=
  ⟨h.os, h.tape, h.output, h.size, fun k hk hn => h.block k hk (fun e => hn e.symm)⟩
theorem Chg.setCell (w : World) (b o : Nat) (v : Value) : Chg (fun k => k = b) w (w.setCell ⟨b, o, none⟩ v) :=
  ⟨rfl, rfl, rfl, by simp [World.setCell], fun k _ hn => Below.heap_setCell _ _ _ _ hn⟩
theorem Chg.below {S : Nat → Prop} {w w' : World} (h : Chg S w w') {B : Nat} (hB : B ≤ w.heap.size) (hS : ∀ k, k < B → ¬ S k) : Below B w w' :=
  ⟨h.os, h.tape, h.output, h.size, fun k hk => h.block k (Nat.lt_of_lt_of_le hk hB) (hS k hk)⟩
theorem Chg.row {S : Nat → Prop} {w w' : World} (h : Chg S w w') {g : Nat} {v : Value} {cs : List Value} (r : Row g (v :: cs) w) (hn : ¬ S g) : Row g (v :: cs) w' := by
  have hb := h.block g r.lt hn
  intro j u hj
  obtain ⟨h1, h2⟩ := r j u hj
  exact ⟨(World.cell?_of_block (w := w) (a := ⟨g, j, none⟩) hb).trans h1, (World.frozen?_of_block (w := w) (a := ⟨g, j, none⟩) hb).trans h2⟩
theorem Chg.own {S : Nat → Prop} {w w' : World} (h : Chg S w w') {base : Nat} {e : TypeId} {size : Nat} {v : Value} {n : Nat} {xs : List Value} (o : w.ownsRow base e size v n xs) (hn : ∀ k, v.ownBlock = some k → ¬ S k) : w'.ownsRow base e size v n xs := by
  refine ⟨o.1, ?_⟩
  rcases o.2 with hv | ⟨g, cap, cur, rfl, hb, hgg, rest⟩
  · exact .inl hv
  · refine .inr ⟨g, cap, cur, rfl, hb, ?_, rest⟩
    rw [h.block g (Array.getElem?_eq_some_iff.1 hgg).1 (hn g rfl)]
    exact hgg
theorem Chg.gr {S : Nat → Prop} {w u V : World} (h : Chg S w u) (g : Gr u V) : Chg S w V := h.trans (Chg.of_gr (S := S) g) (fun _ _ h => h)
theorem Chg.put {S : Nat → Prop} {w u W C : World} {q k : Nat} {v : Value} (h : Chg S w u) (g1 : Gr u W) (hq : w.heap.size ≤ q ∨ S q) (g2 : Gr (W.setCell ⟨q, k, none⟩ v) C) : Chg S w C :=
  ((h.gr g1).trans (Chg.setCell W q k v) (fun j hj e => by subst e; rcases hq with h1 | h1; exact absurd hj (Nat.not_lt.2 h1); exact h1)).gr g2
theorem Chg.app {S : Nat → Prop} {w u W0 W1 : World} {r : Option Nat} (h : Chg S w u) (g : Gr u W0) (gb : W0.grownBy W1 r) (hr : ∀ k, r = some k → S k ∨ w.heap.size ≤ k) : Chg S w W1 :=
  (h.gr g).trans (Chg.of_grown gb) (fun j hj e => by rcases hr j e with h1 | h1; exact h1; exact absurd hj (Nat.not_lt.2 h1))
theorem own_gr {w w' : World} {base : Nat} {e : TypeId} {size : Nat} {v : Value} {n : Nat} {xs : List Value} (h : w.ownsRow base e size v n xs) (hb : Gr w w') : w'.ownsRow base e size v n xs := own_below h hb

section
variable {u W0 W1 W2 V : World} {r : Option Nat} {q : Nat} {v x y : Value}
/-- an append, and its result stored in a cell of its own -/
theorem app_chg (g0 : Gr u W0) (gb : W0.grownBy W1 r) (g2 : Gr W1 W2) (hv : Gr (W2.setCell ⟨q, 0, none⟩ x) V) : Chg (fun k => k = q ∨ r = some k) u V := by
  have c1 : Chg (fun k => k = q ∨ r = some k) u W1 := (Chg.of_gr g0).trans ((Chg.of_grown gb).mono (T := fun k => k = q ∨ r = some k) (fun k _ h => .inr h)) (fun k _ h => h)
  have c2 : Chg (fun k => k = q ∨ r = some k) u W2 := c1.trans (Chg.of_gr (S := fun k => k = q ∨ r = some k) g2) (fun k _ h => h)
  have c3 : Chg (fun k => k = q ∨ r = some k) u (W2.setCell ⟨q, 0, none⟩ x) := c2.trans (Chg.setCell W2 q 0 x) (fun k _ h => .inl h)
  exact c3.trans (Chg.of_gr (S := fun k => k = q ∨ r = some k) hv) (fun k _ h => h)
theorem app_row2 (g0 : Gr u W0) (gb : W0.grownBy W1 r) (g2 : Gr W1 W2) (hr : Row q [y] u) (hne : r ≠ some q) : Row q [y] W2 :=
  ((Chg.of_grown gb).row (hr.below g0) hne).below g2
theorem app_row (g0 : Gr u W0) (gb : W0.grownBy W1 r) (g2 : Gr W1 W2) (hv : Gr (W2.setCell ⟨q, 0, none⟩ x) V) (hr : Row q [y] u) (hne : r ≠ some q) : Row q [x] V :=
  ((app_row2 g0 gb g2 hr hne).set 0 x (by simp)).below hv
theorem app_own (g2 : Gr W1 W2) (hv : Gr (W2.setCell ⟨q, 0, none⟩ x) V) {base : Nat} {e : TypeId} {size : Nat} {n : Nat} {xs : List Value} (o : W1.ownsRow base e size v n xs) (hne : v.ownBlock ≠ some q) : V.ownsRow base e size v n xs :=
  own_gr ((Chg.setCell W2 q 0 x).own (own_gr o g2) (fun k hk e => hne (by rw [hk, e]))) hv
end
theorem src_new {P : Program} {t e : TypeId} (ht : P.underlying t = some (.slice e)) (cs : List Value) (size : Nat) (hs : cs.length = size) {g : Nat} {U : World} (h : Row g cs U) (h1 : ∀ u ∈ cs, u.oneCell' = true) (w' : World) (hg : Gr U w') (hne : cs ≠ []) : Src P size t (.slice (some ⟨g, 0, none⟩) 1 1) 1 cs w' :=
  Src.of_lies w' ht 1 (by omega) (fun h => by cases h) (.inr ⟨g, 0, rfl, fun j u hj => by rw [Nat.zero_add]; exact ((h.below hg) j u hj).1⟩) h1
section
variable {P : Program} (w : World)
/-- append onto a row of the call's own, from any source; where the row lies then -/
theorem run_append_where (B : Nat) (t tx ty e : TypeId) (i : TypeInfo) (z : Value) (size bytes : Nat) (ht : P.underlying t = some (.slice e)) (hi : P.info? e = some i) (hz : i.zero = some z)
    (hsize : i.size = size) (hby : i.bytes = bytes) (hzs : z.cells.size = size)
    (v : Value) (n : Nat) (xs : List Value) (hown : w.ownsRow B e size v n xs) (x : Value) (m : Nat) (news : List Value) (hs : Src P size tx x m news w)
    (h63 : n + m ≤ maxLen) (hbytes : (n + m) * bytes ≤ 140737488355328) (hB : B ≤ w.heap.size) :
    ∃ v' w', (Builtin.append_ #[t, tx] ty #[v, x]).run P w = .ok v' w' ∧ w'.ownsRow B e size v' (n + m) (xs ++ news) ∧ w.grownBy w' v.ownBlock ∧ (v'.ownBlock = v.ownBlock ∨ v'.ownBlock = some w.heap.size) := by
  subst hsize hby
  have hnl := hs.newsLen
  have hlen : (xs ++ news).length = (n + m) * i.size := by rw [List.length_append, hown.1, hnl, Nat.add_mul]
  have hm63 : ((n + m : Nat) : Int) ≤ 9223372036854775807 := by simp only [maxLen] at h63; omega
  have fresh : ∀ (A : Option Addr) (cap : Nat), cap < n + m → (Builtin.firstCells i.size n (.slice A n cap)).run P w.drew = .ok xs.toArray w.drew →
      ∃ v' w', (Builtin.append_ #[t, tx] ty #[.slice A n cap, x]).run P w = .ok v' w' ∧ w'.ownsRow B e i.size v' (n + m) (xs ++ news) ∧ w.grownBy w' (Value.slice A n cap).ownBlock ∧ (v'.ownBlock = (Value.slice A n cap).ownBlock ∨ v'.ownBlock = some w.heap.size) := by
    intro A cap hg hold
    have hr := run_append_grow_src (P := P) w t tx ty e i z ht hi hz A n cap xs hold x m news hs hg hm63 (growslice_fits hg hbytes)
    have hge := grownCap_ge w (n + m) cap e
    have hcm := grownCap_le_maxLen w (n + m) cap e h63
    refine ⟨_, _, hr, ⟨hlen, .inr ⟨w.heap.size, _, _, rfl, hB, heap_alloc_new w.drew _, hge, hcm, ?_, ?_⟩⟩, ⟨rfl, rfl, rfl, by simp, fun k hk _ => Below.heap_alloc w.drew _ k hk⟩, .inr rfl⟩
    · rw [Array.size_append, List.size_toArray, hlen, size_zeroCells, hzs, ← Nat.add_mul]
      congr 1; omega
    · rw [Array.toList_append, ← hlen]
      exact List.take_left
  rcases hown.2 with ⟨rfl, rfl⟩ | ⟨g, cap, cur, rfl, hBg, hg, hnc, hcm, hcs, htake⟩
  · have hx : xs = [] := List.eq_nil_of_length_eq_zero (by simpa using hown.1)
    subst hx
    by_cases hm : m = 0
    · subst hm
      have hn : news = [] := List.eq_nil_of_length_eq_zero (by simpa using hnl)
      subst hn
      exact ⟨_, w, run_append_nothing w t tx ty e i ht hi none 0 0 (Nat.le_refl _) x hs, World.ownsRow_nil w B e i.size, World.grownBy.refl w _, .inl rfl⟩
    · exact fresh none 0 (by omega) (run_firstCells_none w.drew i.size 0 0 0)
  · by_cases hroom : n + m ≤ cap
    · by_cases hm : m = 0
      · subst hm
        have hn : news = [] := List.eq_nil_of_length_eq_zero (by simpa using hnl)
        subst hn
        exact ⟨_, w, run_append_nothing w t tx ty e i ht hi (some ⟨g, 0, none⟩) n cap hnc x hs, by simpa using hown, World.grownBy.refl w _, .inl rfl⟩
      · have hfit : n * i.size + news.length ≤ cur.size := by rw [hnl, hcs, ← Nat.add_mul]; exact Nat.mul_le_mul_right _ hroom
        have hst := run_storeCells_at P g (n * i.size) e news 0 cur w hg (by simpa using hfit) hs.one
        simp only [Nat.add_zero] at hst
        have hr : (Builtin.append_ #[t, tx] ty #[.slice (some ⟨g, 0, none⟩) n cap, x]).run P w = .ok (.slice (some ⟨g, 0, none⟩) (n + m) cap) (w.setRow g (cur.toList.take (n * i.size) ++ news ++ cur.toList.drop (n * i.size + news.length)).toArray) := by
          rcases hs.kind with ⟨e', hk⟩ | hk <;> simp [Builtin.append_, run_underlying ht, run_underlying hk, sizeOf, typeInfo, hi, hs.len, hroom, hs.cells, Addr.add_lit, hst]
        refine ⟨_, _, hr, ⟨hlen, .inr ⟨g, cap, _, rfl, hBg, setRow_heap w g cur _ e _ hg, hroom, hcm, ?_, ?_⟩⟩, ⟨rfl, rfl, rfl, by simp, fun k _ hk => setRow_other w g k _ (fun e => hk (by simp [Value.ownBlock, e]))⟩, .inl rfl⟩
        · simp only [List.size_toArray, List.length_append, List.length_take, List.length_drop, Array.length_toList]
          omega
        · rw [htake, ← hlen]
          exact List.take_left
    · have hold := run_firstCells_some (P := P) w.drew i.size n ⟨g, 0, none⟩ n cap xs hown.1 (by simpa using hown.cells (g := g) rfl)
      exact fresh _ cap (by omega) hold

/-- the same at an operation of a region that does not draw -/
theorem wpG_app {ops : Array Oper} {l : List Oper} {o : Oper} {a : Act} {Q : Exit → Act → World → Prop} (d : Option Tmp) (hd : o.dst = d) (hgd : o.guard = none) (s x : Operand) (t tx : TypeId)
    (ho : o.op = .call { callee := .builtin .append, args := #[s, x], argTypes := #[t, tx] })
    (B : Nat) (e : TypeId) (i : TypeInfo) (z : Value) (size bytes : Nat) (ht : P.underlying t = some (.slice e)) (hi : P.info? e = some i) (hz : i.zero = some z)
    (hsize : i.size = size) (hby : i.bytes = bytes) (hzs : z.cells.size = size)
    (v : Value) (n : Nat) (xs : List Value) (hown : w.ownsRow B e size v n xs) (xv : Value) (m : Nat) (news : List Value) (hs : ∀ w', Gr w w' → Src P size tx xv m news w') (hsv : a.eval s = v) (hxv : a.eval x = xv)
    (h63 : n + m ≤ maxLen) (hbytes : (n + m) * bytes ≤ 140737488355328) (hB : B ≤ w.heap.size)
    (h : ∀ v' w0 w1, Gr w w0 → w1.ownsRow B e size v' (n + m) (xs ++ news) → w0.grownBy w1 v.ownBlock → (v'.ownBlock = v.ownBlock ∨ v'.ownBlock = some w0.heap.size) → wpG P ops Q l (a.put d v') w1) : wpG P ops Q (o :: l) a w := by
  subst hd
  intro w0 hg
  obtain ⟨v', w1, hrun, h2, h3, h4⟩ := run_append_where (P := P) w0 B t tx o.type e i z size bytes ht hi hz hsize hby hzs v n xs (own_gr hown hg) xv m news (hs w0 hg) h63 hbytes (Nat.le_trans hB hg.size)
  refine wpList_plain hgd fun K hK => ?_
  unfold Oper.wp execOp
  simp only [ho, resolve, invoke, builtin, Sem.run_bind, Sem.run_pure, Result.andThen_ok, List.map_toArray, List.map_cons, List.map_nil, hsv, hxv, hrun]
  exact hK _ _ (h v' w0 w1 hg h2 h3 h4 w1 (Gr.refl w1))
end
end Go.Proofs.Ytfomieekdbkcnaa
