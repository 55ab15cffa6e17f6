/-
  Regions with what follows behind a name; an append to a slice of the call's own; results. (No program.)
-/
import Derived.Test.YtfomieekdbkcnaaSep
import Derived.Deep.LoopGhost
import Derived.Lib.Hide
namespace Go.Proofs.Ytfomieekdbkcnaa
open Go Go.RowKit
set_option linter.unusedVariables false

/-! the frame behind an operation -/
theorem n1 (l : List Value) (ds : List Deferred) (d : Nat) (v : Value) : Act.put ⟨l.toArray, ds⟩ (some d) v = ⟨(l.set d v).toArray, ds⟩ := by simp [Act.put]
theorem n2 (a : Act) (v : Value) : a.put none v = a := rfl
theorem n3 (a b : Value) (l : List Value) : (a :: l).set 0 b = b :: l := rfl
theorem n4 (a b : Value) (l : List Value) (n : Nat) : (a :: l).set (n + 1) b = a :: l.set n b := rfl
section
variable {P : Program} {ops : Array Oper} {Q : Exit → Act → World → Prop}
theorem wpG_p {o : Oper} {l : List Oper} (d : Option Tmp) (v : Value) {a : Act} {w : World} (hd : o.dst = d) (hw : Region.wanted o (yielded ops a.tmps) = true) (h : ∀ W, (execOp a.eval o).run P W = .ok (.value v) W)
    (k : wpG P ops Q l (a.put d v) w) : wpG P ops Q (o :: l) a w := wpG_tk d hd (.val hw (fun W _ => h W)) k
theorem wpG_r {o : Oper} {l : List Oper} (d : Option Tmp) (v : Value) {a : Act} {w : World} (hd : o.dst = d) (hw : Region.wanted o (yielded ops a.tmps) = true) (h : ∀ W, Gr w W → (execOp a.eval o).run P W = .ok (.value v) W)
    (k : wpG P ops Q l (a.put d v) w) : wpG P ops Q (o :: l) a w := wpG_tk d hd (.val hw h) k
theorem wpG_no {o : Oper} {l : List Oper} (d : Option Tmp) {a : Act} {w : World} (hd : o.dst = d) (hw : Region.wanted o (yielded ops a.tmps) = false)
    (k : wpG P ops Q l (a.put d undef) w) : wpG P ops Q (o :: l) a w := wpG_tk d hd (.no hw) k
end
/-- where the walk goes on -/
def onN (K : Act → World → Prop) : Exit → Act → World → Prop := fun e a w => e = .normal ∧ K a w
theorem onN_panic {K : Act → World → Prop} {c : List PanicEntry} {a b : Act} {w : World} (h : onN K (.panic c) a w) : onN K (.panic c) b w := by cases h.1
section
variable {P : Program} {Q : Exit → Act → World → Prop} {a : Act} {w : World}
theorem wpG_region_k {id : Nat} {l : List Oper} (h : ∀ K : Act → World → Prop, (∀ a w, Q .normal a w → K a w) → wpG P l.toArray (onN K) l a w) : (Code.region id l.toArray false).wp P Q a w :=
  wp_mono (wpG_region (h _ fun _ _ h => h)) (fun e a w ⟨he, hk⟩ => by subst he; exact hk)
theorem wpK_region_k {id : Nat} {ops : Array Oper} (hm : P.follows .mixedOrders = true) (h : ∀ K : Act → World → Prop, (∀ a w, Q .normal a w → K a w) → wpK P .any ops (onN K) ops.size (Array.replicate ops.size false) a w.drew) : (Code.region id ops true).wp P Q a w :=
  wp_mono (wpK_region hm (h _ fun _ _ h => h)) (fun e a w ⟨he, hk⟩ => by subst he; exact hk)
theorem wpJ_region_k {id : Nat} {ops : Array Oper} (st : Nat → Bool) (hm : P.follows .mixedOrders = true) (h : ∀ K : Act → World → Prop, (∀ a w, Q .normal a w → K a w) → J.wpK P .any ops st (onN K) ops.size (Array.replicate ops.size false) a w.drew) : (Code.region id ops true).wp P Q a w :=
  wp_mono (J.wpK_region hm (h _ fun _ _ h => h)) (fun e a w ⟨he, hk⟩ => by subst he; exact hk)
end
section
variable {P : Program} {ops : Array Oper} {Q : Exit → Act → World → Prop}
/-- append to a slice of the call's own -/
theorem wpG_appS {o : Oper} {l : List Oper} {a : Act} {w w0 : World} {F : Nat → Prop} {M : List HP} (d : Option Tmp) (hd : o.dst = d) (hgd : o.guard = none) (s x : Operand) (t tx : TypeId)
    (ho : o.op = .call { callee := .builtin .append, args := #[s, x], argTypes := #[t, tx] })
    (e : TypeId) (size bytes : Nat) (ht : P.underlying t = some (.slice e)) (hi : (P.info? e).map (fun i => (i.zero.map (·.cells.size), i.size, i.bytes)) = some (some size, size, bytes))
    (v : Value) (n : Nat) (xs : List Value) (h : St w0 F (own v e size n xs :: M) w) (xv : Value) (m : Nat) (news : List Value) (hs : ∀ w', Gr w w' → Src P size tx xv m news w') (hsv : a.eval s = v) (hxv : a.eval x = xv)
    (h63 : n + m ≤ maxLen) (hbytes : (n + m) * bytes ≤ 140737488355328)
    (k : ∀ v' w1, St w0 F (own v' e size (n + m) (xs ++ news) :: M) w1 → wpG P ops Q l (a.put d v') w1) : wpG P ops Q (o :: l) a w := by
  cases hie : P.info? e with
  | none => rw [hie] at hi; simp at hi
  | some i =>
    rw [hie] at hi
    simp only [Option.map_some, Option.some.injEq, Prod.mk.injEq] at hi
    obtain ⟨hz, hsz, hby⟩ := hi
    cases hzz : i.zero with
    | none => rw [hzz] at hz; simp at hz
    | some z =>
      rw [hzz] at hz
      simp only [Option.map_some, Option.some.injEq] at hz
      exact wpG_app w d hd hgd s x t tx ho 0 e i z size bytes ht hie hzz hsz hby hz v n xs (h.ownr 0 rfl) xv m news hs hsv hxv h63 hbytes (Nat.zero_le _) (fun v' w2 w1 g h1 h2 h3 => k v' w1 ((h.gr g).grew h1 h2 h3))
end
section
variable {P : Program} {ops : Array Oper} {md : Region.Mode} {Q : Exit → Act → World → Prop}
/-- an operation that yields a value, and a store, come up: in either order -/
theorem wpK_ls {i j : Nat} {oi oj : Oper} {fuel : Nat} {listed : Array Bool} {a : Act} {w : World} (d : Option Tmp) {v : Value} (hi : ops[i]? = some oi) (hj : ops[j]? = some oj) (hd : oi.dst = d) (hdj : oj.dst = none) (hr : Region.ready md ops listed = [i, j])
    (hwj : Region.wanted oj (yielded ops a.tmps) = true) (hs : stB ops j = true) (hy : YieldsK P ops oi v a w)
    (h1 : wpK P md ops Q fuel (listed.setIfInBounds i true) (a.put d v) w)
    (h2 : ∀ w', Gr w w' → ∃ w1, (execOp a.eval oj).run P w' = .ok .skip w1 ∧ wpK P md ops Q fuel (listed.setIfInBounds j true) (a.put none undef) w1) : wpK P md ops Q (fuel + 1) listed a w := by
  subst hd
  intro w' hg
  refine ⟨fun h0 => (by rw [hr] at h0; cases h0), fun m hm => ?_⟩
  rw [hr] at hm
  simp only [List.mem_cons, List.not_mem_nil, or_false] at hm
  rcases hm with rfl | rfl
  · exact (hy.mono hg).wpOp hi (fun w2 h3 => ⟨.inr h3, wpK_mono _ (hg.trans h3) h1⟩)
  · unfold wpOp
    rw [hj]
    simp only [hwj, if_true]
    obtain ⟨w1, e1, e2⟩ := h2 w' hg
    refine .inl ?_
    unfold Oper.wp
    rw [e1]
    exact ⟨.inl hs, by rw [hdj]; exact e2⟩
end
section
variable {w0 w : World} {F : Nat → Prop} {L : List HP}
/-- what a slice of the call's own, or a block, holds, read -/
theorem St.liesOwn (h : St w0 F L w) (i : Nat) {A : Option Addr} {e : TypeId} {size n c : Nat} {xs : List Value} (hL : L[i]? = some (own (.slice A n c) e size n xs)) : Lies w A xs := Lies.own (h.ownr i hL)
theorem St.liesBlk (h : St w0 F L w) (i : Nat) {g : Nat} {t : TypeId} {cs : List Value} (hL : L[i]? = some (blk g t cs)) : Lies w (some ⟨g, 0, none⟩) cs :=
  .inr ⟨g, 0, rfl, fun j u hu => by rw [Nat.zero_add]; exact (h.row i hL j u hu).1⟩
theorem src_lies {P : Program} {t e : TypeId} (ht : P.underlying t = some (.slice e)) {size n : Nat} (c : Nat) {A : Option Addr} {news : List Value} (hl : news.length = n * size) (hA : A = none → n = 0) (h1 : ∀ u ∈ news, u.oneCell' = true) {w' : World} (h : Lies w' A news) : Src P size t (.slice A n c) n news w' :=
  Src.of_lies w' ht c hl hA h h1
end
/-- the cell of a slice's element -/
theorem Lies.elem {α : Type} {f : α → List Value} {s : Nat} (hf : ∀ a, (f a).length = s) {w : World} {b o : Nat} {l : List α} (h : Lies w (some ⟨b, o, none⟩) (l.flatMap f)) {k : Nat} {a : α} (hk : l[k]? = some a) : w.rangeAt b (o + k * s) (f a) := by
  intro j v hj
  have hjs : j < s := by
    have := (List.getElem?_eq_some_iff.1 hj).1
    rw [hf] at this; exact this
  have key : ∀ (l : List α) (k : Nat), l[k]? = some a → (l.flatMap f)[k * s + j]? = (f a)[j]? := by
    intro l
    induction l with
    | nil => intro k hk; simp at hk
    | cons x r ih =>
      intro k hk
      cases k with
      | zero =>
        simp at hk
        subst hk
        rw [List.flatMap_cons, Nat.zero_mul, Nat.zero_add, List.getElem?_append_left (by rw [hf]; exact hjs)]
      | succ k =>
        rw [List.getElem?_cons_succ] at hk
        rw [List.flatMap_cons, List.getElem?_append_right (by rw [hf, Nat.succ_mul]; omega), hf, show (k + 1) * s + j - s = k * s + j by rw [Nat.succ_mul]; omega]
        exact ih k hk
  have h1 := key l k hk
  rw [hj] at h1
  rcases h with h0 | ⟨b', o', hA, hc⟩
  · rw [h0] at h1; simp at h1
  · injection hA with hA
    injection hA with e1 e2
    subst e1; subst e2
    have := hc (k * s + j) v h1
    rwa [← Nat.add_assoc] at this
theorem flat_len {α : Type} {f : α → List Value} {s : Nat} (hf : ∀ a, (f a).length = s) : ∀ l : List α, (l.flatMap f).length = l.length * s
  | [] => by simp
  | x :: r => by rw [List.flatMap_cons, List.length_append, hf, flat_len hf r, List.length_cons, Nat.succ_mul, Nat.add_comm]
end Go.Proofs.Ytfomieekdbkcnaa
