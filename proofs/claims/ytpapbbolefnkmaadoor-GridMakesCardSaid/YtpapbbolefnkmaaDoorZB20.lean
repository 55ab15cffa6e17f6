/-
  The least index at which something fails. (No program.)
-/
import Derived.Test.YtpapbbolefnkmaaDoorZB19
import Derived.Deep.LoopGhost
import Derived.Lib.Hide
import Derived.Handy
namespace Go.Proofs.YtpapbbolefnkmaaDoor.Ff
set_option linter.unusedVariables false
def ff (p : Nat → Bool) (n : Nat) : Nat:=(List.range n).findIdx (fun i=>!p i)
section
variable {p : Nat → Bool} {n k : Nat}
theorem ff_le : ff p n ≤ n:=by have:=List.findIdx_le_length (p:=fun i=>!p i) (xs:=List.range n);simpa [ff] using this
theorem ff_before {j : Nat} (h : j < ff p n) : p j = true:=by
  have:=List.not_of_lt_findIdx (p:=fun i=>!p i) (xs:=List.range n) h
  simpa using this
theorem ff_at (h : ff p n < n) : p (ff p n) = false:=by
  have h1 : ff p n < (List.range n).length:=by simpa using h
  have:=List.findIdx_getElem (p:=fun i=>!p i) (xs:=List.range n) (w:=h1)
  have e : (List.range n)[ff p n]'h1 = ff p n:=by simp
  change (!p ((List.range n)[ff p n]'h1)) = true at this
  rw [e] at this
  simpa using this
theorem ff_hit (h : k ≤ ff p n) (hk : k < n) (hp : p k = false) : ff p n = k:=by
  rcases Nat.lt_or_ge k (ff p n) with h1 | h1
  · rw [ff_before h1] at hp;cases hp
  · omega
theorem ff_step (h : k ≤ ff p n) (hk : k < n) (hp : p k = true) : k + 1 ≤ ff p n:=by
  rcases Nat.lt_or_ge k (ff p n) with h1 | h1
  · exact h1
  · have e : ff p n = k:=by omega
    have:=ff_at (p:=p) (n:=n) (by omega)
    rw [e,hp] at this;cases this
theorem ff_end (h : n ≤ ff p n) : ff p n = n:=Nat.le_antisymm ff_le h
theorem ff_all : ff p n = n ↔ ∀ i,i < n → p i = true:=by
  constructor
  · intro h i hi;exact ff_before (n:=n) (by omega)
  · intro h
    rcases Nat.lt_or_ge (ff p n) n with h1 | h1
    · have:=ff_at h1
      rw [h _ h1] at this;cases this
    · exact ff_end h1
def al (p : Nat → Bool) (n : Nat) : Bool:=decide (ff p n = n)
theorem al_yes (h : n ≤ ff p n) : al p n = true:=decide_eq_true (ff_end h)
theorem al_no (hk : k ≤ ff p n) (h : k < n) (hp : p k = false) : al p n = false:=by
  unfold al;rw [ff_hit hk h hp];exact decide_eq_false (by omega)
theorem al_iff : al p n = true ↔ ∀ i,i < n → p i = true:=by unfold al;rw [decide_eq_true_iff];exact ff_all
end
end Go.Proofs.YtpapbbolefnkmaaDoor.Ff
/-
  Regions with what follows behind a name; an append to a slice of the call's own; results. (No program.)
-/
namespace Go.Proofs.YtpapbbolefnkmaaDoor
open Go Go.RowKit
set_option linter.unusedVariables false

/-! the frame behind an operation -/
theorem n1 (l : List Value) (ds : List Deferred) (d : Nat) (v : Value) : Act.put ⟨l.toArray,ds⟩ (some d) v = ⟨(l.set d v).toArray,ds⟩:=by simp [Act.put]
theorem n2 (a : Act) (v : Value) : a.put none v = a:=rfl
theorem n3 (a b : Value) (l : List Value) : (a :: l).set 0 b = b :: l:=rfl
theorem n4 (a b : Value) (l : List Value) (n : Nat) : (a :: l).set (n + 1) b = a :: l.set n b:=rfl
section
variable {P : Program} {ops : Array Oper} {Q : Exit → Act → World → Prop}
theorem wpG_p {o : Oper} {l : List Oper} (d : Option Tmp) (v : Value) {a : Act} {w : World} (hd : o.dst = d) (hw : Region.wanted o (yielded ops a.tmps) = true) (h : ∀ W,(execOp a.eval o).run P W = .ok (.value v) W)
    (k : wpG P ops Q l (a.put d v) w) : wpG P ops Q (o :: l) a w:=wpG_tk d hd (.val hw (fun W _=>h W)) k
theorem wpG_r {o : Oper} {l : List Oper} (d : Option Tmp) (v : Value) {a : Act} {w : World} (hd : o.dst = d) (hw : Region.wanted o (yielded ops a.tmps) = true) (h : ∀ W,Gr w W → (execOp a.eval o).run P W = .ok (.value v) W)
    (k : wpG P ops Q l (a.put d v) w) : wpG P ops Q (o :: l) a w:=wpG_tk d hd (.val hw h) k
theorem wpG_no {o : Oper} {l : List Oper} (d : Option Tmp) {a : Act} {w : World} (hd : o.dst = d) (hw : Region.wanted o (yielded ops a.tmps) = false)
    (k : wpG P ops Q l (a.put d undef) w) : wpG P ops Q (o :: l) a w:=wpG_tk d hd (.no hw) k
end
def onN (K : Act → World → Prop) : Exit → Act → World → Prop:=fun e a w=>e = .normal ∧ K a w
theorem onN_panic {K : Act → World → Prop} {c : List PanicEntry} {a b : Act} {w : World} (h : onN K (.panic c) a w) : onN K (.panic c) b w:=by cases h.1
section
variable {P : Program} {Q : Exit → Act → World → Prop} {a : Act} {w : World}
theorem wpG_region_k {id : Nat} {l : List Oper} (h : ∀ K : Act → World → Prop,(∀ a w,Q .normal a w → K a w) → wpG P l.toArray (onN K) l a w) : (Code.region id l.toArray false).wp P Q a w :=
  wp_mono (wpG_region (h _ fun _ _ h=>h)) (fun e a w ⟨he,hk⟩=>by subst he;exact hk)
theorem wpK_region_k {id : Nat} {ops : Array Oper} (hm : P.follows .mixedOrders = true) (h : ∀ K : Act → World → Prop,(∀ a w,Q .normal a w → K a w) → wpK P .any ops (onN K) ops.size (Array.replicate ops.size false) a w.drew) : (Code.region id ops true).wp P Q a w :=
  wp_mono (wpK_region hm (h _ fun _ _ h=>h)) (fun e a w ⟨he,hk⟩=>by subst he;exact hk)
theorem wpJ_region_k {id : Nat} {ops : Array Oper} (st : Nat → Bool) (hm : P.follows .mixedOrders = true) (h : ∀ K : Act → World → Prop,(∀ a w,Q .normal a w → K a w) → J.wpK P .any ops st (onN K) ops.size (Array.replicate ops.size false) a w.drew) : (Code.region id ops true).wp P Q a w :=
  wp_mono (J.wpK_region hm (h _ fun _ _ h=>h)) (fun e a w ⟨he,hk⟩=>by subst he;exact hk)
end
section
variable {P : Program} {ops : Array Oper} {Q : Exit → Act → World → Prop}
theorem wpG_appS {o : Oper} {l : List Oper} {a : Act} {w w0 : World} {F : Nat → Prop} {M : List HP} (d : Option Tmp) (hd : o.dst = d) (hgd : o.guard = none) (s x : Operand) (t tx : TypeId)
    (ho : o.op = .call { callee:=.builtin .append,args:=#[s,x],argTypes:=#[t,tx] })
    (e : TypeId) (size bytes : Nat) (ht : P.underlying t = some (.slice e)) (hi : (P.info? e).map (fun i=>(i.zero.map (·.cells.size),i.size,i.bytes)) = some (some size,size,bytes))
    (v : Value) (n : Nat) (xs : List Value) (h : St w0 F (own v e size n xs :: M) w) (xv : Value) (m : Nat) (news : List Value) (hs : ∀ w',Gr w w' → Src P size tx xv m news w') (hsv : a.eval s = v) (hxv : a.eval x = xv)
    (h63 : n + m ≤ maxLen) (hbytes : (n + m) * bytes ≤ 140737488355328)
    (k : ∀ v' w1,St w0 F (own v' e size (n + m) (xs ++ news) :: M) w1 → wpG P ops Q l (a.put d v') w1) : wpG P ops Q (o :: l) a w:=by
  cases hie : P.info? e with
  | none=>rw [hie] at hi;simp at hi
  | some i =>
    rw [hie] at hi
    simp only [Option.map_some,Option.some.injEq,Prod.mk.injEq] at hi
    obtain ⟨hz,hsz,hby⟩:=hi
    cases hzz : i.zero with
    | none=>rw [hzz] at hz;simp at hz
    | some z =>
      rw [hzz] at hz
      simp only [Option.map_some,Option.some.injEq] at hz
      exact wpG_app w d hd hgd s x t tx ho 0 e i z size bytes ht hie hzz hsz hby hz v n xs (h.ownr 0 rfl) xv m news hs hsv hxv h63 hbytes (Nat.zero_le _) (fun v' w2 w1 g h1 h2 h3=>k v' w1 ((h.gr g).grew h1 h2 h3))
end
section
variable {P : Program} {ops : Array Oper} {md : Region.Mode} {Q : Exit → Act → World → Prop}
end
section
variable {w0 w : World} {F : Nat → Prop} {L : List HP}
theorem St.liesBlk (h : St w0 F L w) (i : Nat) {g : Nat} {t : TypeId} {cs : List Value} (hL : L[i]? = some (blk g t cs)) : Lies w (some ⟨g,0,none⟩) cs :=
  .inr ⟨g,0,rfl,fun j u hu=>by rw [Nat.zero_add];exact (h.row i hL j u hu).1⟩
theorem src_lies {P : Program} {t e : TypeId} (ht : P.underlying t = some (.slice e)) {size n : Nat} (c : Nat) {A : Option Addr} {news : List Value} (hl : news.length = n * size) (hA : A = none → n = 0) (h1 : ∀ u ∈ news,u.oneCell' = true) {w' : World} (h : Lies w' A news) : Src P size t (.slice A n c) n news w' :=
  Src.of_lies w' ht c hl hA h h1
end
theorem Lies.elem {α : Type} {f : α → List Value} {s : Nat} (hf : ∀ a,(f a).length = s) {w : World} {b o : Nat} {l : List α} (h : Lies w (some ⟨b,o,none⟩) (l.flatMap f)) {k : Nat} {a : α} (hk : l[k]? = some a) : w.rangeAt b (o + k * s) (f a):=by
  intro j v hj
  have hjs : j < s:=by
    have:=(List.getElem?_eq_some_iff.1 hj).1
    rw [hf] at this;exact this
  have key : ∀ (l : List α) (k : Nat),l[k]? = some a → (l.flatMap f)[k * s + j]? = (f a)[j]?:=by
    intro l
    induction l with
    | nil=>intro k hk;simp at hk
    | cons x r ih =>
      intro k hk
      cases k with
      | zero =>
        simp at hk
        subst hk
        rw [List.flatMap_cons,Nat.zero_mul,Nat.zero_add,List.getElem?_append_left (by rw [hf];exact hjs)]
      | succ k =>
        rw [List.getElem?_cons_succ] at hk
        rw [List.flatMap_cons,List.getElem?_append_right (by rw [hf,Nat.succ_mul];omega),hf,show (k + 1) * s + j - s = k * s + j by rw [Nat.succ_mul];omega]
        exact ih k hk
  have h1:=key l k hk
  rw [hj] at h1
  rcases h with h0 | ⟨b',o',hA,hc⟩
  · rw [h0] at h1;simp at h1
  · injection hA with hA
    injection hA with e1 e2
    subst e1;subst e2
    have:=hc (k * s + j) v h1
    rwa [← Nat.add_assoc] at this
end Go.Proofs.YtpapbbolefnkmaaDoor
/-
  Ways that meet. (No program.)
-/
namespace Go.Proofs.YtpapbbolefnkmaaDoor
open Go Go.RowKit
set_option linter.unusedVariables false
theorem wp_join {P : Program} {Q : Exit → Act → World → Prop} {a : Act} {w : World} {x y : Code} (J : Act → World → Prop) (h1 : x.wp P (Exit.then J Q) a w) (h2 : ∀ a w,J a w → y.wp P Q a w) : (Code.seq x y).wp P Q a w:=by
  refine wp_seq (wp_mono h1 ?_)
  intro e a w h
  cases e with
  | normal=>exact h2 a w h
  | exit id=>exact h
  | goto l=>exact h
  | ret=>exact h
  | panic c=>exact h
  | outgrown=>exact h
end Go.Proofs.YtpapbbolefnkmaaDoor
/-
  Operations on integers.
-/
namespace Go.Proofs.YtpapbbolefnkmaaDoor
open Go Go.RowKit
set_option linter.unusedVariables false
set_option linter.unusedSimpArgs false
theorem bnt {x : Bool} (h : true = !x) : x = false:=by cases x <;> simp_all
theorem bnf {x : Bool} (h : false = !x) : x = true:=by cases x <;> simp_all
theorem rb_t {x : Bool} (h : x = true) : Ending.returned (Value.bool true) = Ending.returned (Value.bool x):=by rw [h]
theorem rb_f {x : Bool} (h : x = false) : Ending.returned (Value.bool false) = Ending.returned (Value.bool x):=by rw [h]
section
variable {ev : Operand → Value} {o : Oper} {x y : Operand} {t t' : TypeId} {k : IntKind} (W : World)
theorem op_int_eql (a b : Int) (ho : o.op = .binOp .eql t x y t') (hx : ev x = .int k a) (hy : ev y = .int k b) (ht : Tryd.prog.underlying t = some (.int k)) : (execOp ev o).run Tryd.prog W = .ok (.value (.bool (decide (a = b)))) W:=by
  unfold execOp
  rw [ho]
  simp only [hx,hy]
  first | (go_simp;done) | (go_simp <;> (by_cases h : a = b <;> simp [h]))
theorem op_int_neq (a b : Int) (ho : o.op = .binOp .neq t x y t') (hx : ev x = .int k a) (hy : ev y = .int k b) (ht : Tryd.prog.underlying t = some (.int k)) : (execOp ev o).run Tryd.prog W = .ok (.value (.bool (decide (a ≠ b)))) W:=by
  unfold execOp
  rw [ho]
  simp only [hx,hy]
  first | (go_simp;done) | (go_simp <;> (by_cases h : a = b <;> simp [h]))
theorem op_int_lss (a b : Int) (ho : o.op = .binOp .lss t x y t') (hx : ev x = .int k a) (hy : ev y = .int k b) (ht : Tryd.prog.underlying t = some (.int k)) : (execOp ev o).run Tryd.prog W = .ok (.value (.bool (decide (a < b)))) W:=by
  unfold execOp
  rw [ho]
  simp only [hx,hy]
  first | (go_simp;done) | (go_simp <;> (by_cases h : a = b <;> simp [h]))
theorem op_int_leq (a b : Int) (ho : o.op = .binOp .leq t x y t') (hx : ev x = .int k a) (hy : ev y = .int k b) (ht : Tryd.prog.underlying t = some (.int k)) : (execOp ev o).run Tryd.prog W = .ok (.value (.bool (decide (a ≤ b)))) W:=by
  unfold execOp
  rw [ho]
  simp only [hx,hy]
  first | (go_simp;done) | (go_simp <;> (by_cases h : a = b <;> simp [h]))
theorem op_int_gtr (a b : Int) (ho : o.op = .binOp .gtr t x y t') (hx : ev x = .int k a) (hy : ev y = .int k b) (ht : Tryd.prog.underlying t = some (.int k)) : (execOp ev o).run Tryd.prog W = .ok (.value (.bool (decide (a > b)))) W:=by
  unfold execOp
  rw [ho]
  simp only [hx,hy]
  first | (go_simp;done) | (go_simp <;> (by_cases h : a = b <;> simp [h]))
theorem op_int_geq (a b : Int) (ho : o.op = .binOp .geq t x y t') (hx : ev x = .int k a) (hy : ev y = .int k b) (ht : Tryd.prog.underlying t = some (.int k)) : (execOp ev o).run Tryd.prog W = .ok (.value (.bool (decide (a ≥ b)))) W:=by
  unfold execOp
  rw [ho]
  simp only [hx,hy]
  first | (go_simp;done) | (go_simp <;> (by_cases h : a = b <;> simp [h]))
theorem op_conv_i64 (a : Int) {t2 : TypeId} (h : -9223372036854775808 ≤ a ∧ a ≤ 9223372036854775807) (ho : o.op = .convert t t2 x) (hx : ev x = .int k a) (hs : Tryd.prog.underlying t = some (.int k)) (ht : Tryd.prog.underlying t2 = some (.int .i64)) : (execOp ev o).run Tryd.prog W = .ok (.value (.int .i64 a)) W:=by
  unfold execOp
  rw [ho]
  simp only [hx]
  go_simp
  rw [IntWalk.i64_in _ h]
theorem op_i_add (a b : Int) (h : -9223372036854775808 ≤ a + b ∧ a + b ≤ 9223372036854775807) (ho : o.op = .binOp .add t x y t') (hx : ev x = .int .i64 a) (hy : ev y = .int .i64 b) (ht : Tryd.prog.underlying t = some (.int .i64)) : (execOp ev o).run Tryd.prog W = .ok (.value (.int .i64 (a + b))) W:=by
  unfold execOp
  rw [ho]
  simp only [hx,hy]
  go_simp
  rw [IntWalk.i64_in _ h]
end
end Go.Proofs.YtpapbbolefnkmaaDoor
