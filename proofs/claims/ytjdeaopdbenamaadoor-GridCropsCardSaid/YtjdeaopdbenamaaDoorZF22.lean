/-
  Regions with what follows behind a name; an append to a slice of the call's own; results. (No program.)
-/
import Derived.Test.YtjdeaopdbenamaaDoorZF21
import Derived.Deep.LoopGhost
import Derived.Lib.Hide
import Derived.Handy
namespace Go.Proofs.YtjdeaopdbenamaaDoor
open Go Go.RowKit
set_option linter.unusedVariables false

/-! the frame behind an operation -/
theorem n1 (l : List Value) (ds : List Deferred) (d : Nat) (v : Value) : Act.put ⟨l.toArray,ds⟩ (some d) v = ⟨(l.set d v).toArray,ds⟩:=by simp [Act.put]
theorem n2 (a : Act) (v : Value) : a.put none v = a:=rfl
theorem n3 (a b : Value) (l : List Value) : (a :: l).set 0 b = b :: l:=rfl
theorem n4 (a b : Value) (l : List Value) (n : Nat) : (a :: l).set (n + 1) b = a :: l.set n b:=rfl
section
variable {P : Program} {ops : Array Oper} {Q : Exit → Act → World → Prop}
theorem wpG_p {o : Oper} {l : List Oper} (d : Option Tmp) (v : Value) {a : Act} {w : World} (hd : o.dst = d) (hw : Region.wanted o (yielded ops a.tmps) = true) (h : ∀ W,(execOp a.eval o).run P W = .ok (.value v) W)
    (k : wpG P ops Q l (a.put d v) w) : wpG P ops Q (o :: l) a w:=wpG_tk d hd (.val hw (fun W _=>h W)) k
theorem wpG_r {o : Oper} {l : List Oper} (d : Option Tmp) (v : Value) {a : Act} {w : World} (hd : o.dst = d) (hw : Region.wanted o (yielded ops a.tmps) = true) (h : ∀ W,Gr w W → (execOp a.eval o).run P W = .ok (.value v) W)
    (k : wpG P ops Q l (a.put d v) w) : wpG P ops Q (o :: l) a w:=wpG_tk d hd (.val hw h) k
theorem wpG_no {o : Oper} {l : List Oper} (d : Option Tmp) {a : Act} {w : World} (hd : o.dst = d) (hw : Region.wanted o (yielded ops a.tmps) = false)
    (k : wpG P ops Q l (a.put d undef) w) : wpG P ops Q (o :: l) a w:=wpG_tk d hd (.no hw) k
end
/-- where the walk goes on -/
def onN (K : Act → World → Prop) : Exit → Act → World → Prop:=fun e a w=>e = .normal ∧ K a w
theorem onN_panic {K : Act → World → Prop} {c : List PanicEntry} {a b : Act} {w : World} (h : onN K (.panic c) a w) : onN K (.panic c) b w:=by cases h.1
section
variable {P : Program} {Q : Exit → Act → World → Prop} {a : Act} {w : World}
theorem wpG_region_k {id : Nat} {l : List Oper} (h : ∀ K : Act → World → Prop,(∀ a w,Q .normal a w → K a w) → wpG P l.toArray (onN K) l a w) : (Code.region id l.toArray false).wp P Q a w :=
  wp_mono (wpG_region (h _ fun _ _ h=>h)) (fun e a w ⟨he,hk⟩=>by subst he;exact hk)
theorem wpK_region_k {id : Nat} {ops : Array Oper} (hm : P.follows .mixedOrders = true) (h : ∀ K : Act → World → Prop,(∀ a w,Q .normal a w → K a w) → wpK P .any ops (onN K) ops.size (Array.replicate ops.size false) a w.drew) : (Code.region id ops true).wp P Q a w :=
  wp_mono (wpK_region hm (h _ fun _ _ h=>h)) (fun e a w ⟨he,hk⟩=>by subst he;exact hk)
theorem wpJ_region_k {id : Nat} {ops : Array Oper} (st : Nat → Bool) (hm : P.follows .mixedOrders = true) (h : ∀ K : Act → World → Prop,(∀ a w,Q .normal a w → K a w) → J.wpK P .any ops st (onN K) ops.size (Array.replicate ops.size false) a w.drew) : (Code.region id ops true).wp P Q a w :=
  wp_mono (J.wpK_region hm (h _ fun _ _ h=>h)) (fun e a w ⟨he,hk⟩=>by subst he;exact hk)
end
section
variable {P : Program} {ops : Array Oper} {Q : Exit → Act → World → Prop}
/-- append to a slice of the call's own -/
theorem wpG_appS {o : Oper} {l : List Oper} {a : Act} {w w0 : World} {F : Nat → Prop} {M : List HP} (d : Option Tmp) (hd : o.dst = d) (hgd : o.guard = none) (s x : Operand) (t tx : TypeId)
    (ho : o.op = .call { callee:=.builtin .append,args:=#[s,x],argTypes:=#[t,tx] })
    (e : TypeId) (size bytes : Nat) (ht : P.underlying t = some (.slice e)) (hi : (P.info? e).map (fun i=>(i.zero.map (·.cells.size),i.size,i.bytes)) = some (some size,size,bytes))
    (v : Value) (n : Nat) (xs : List Value) (h : St w0 F (own v e size n xs :: M) w) (xv : Value) (m : Nat) (news : List Value) (hs : ∀ w',Gr w w' → Src P size tx xv m news w') (hsv : a.eval s = v) (hxv : a.eval x = xv)
    (h63 : n + m ≤ maxLen) (hbytes : (n + m) * bytes ≤ 140737488355328)
    (k : ∀ v' w1,St w0 F (own v' e size (n + m) (xs ++ news) :: M) w1 → wpG P ops Q l (a.put d v') w1) : wpG P ops Q (o :: l) a w:=by
  cases hie : P.info? e with
  | none=>rw [hie] at hi;simp at hi
  | some i =>
    rw [hie] at hi
    simp only [Option.map_some,Option.some.injEq,Prod.mk.injEq] at hi
    obtain ⟨hz,hsz,hby⟩:=hi
    cases hzz : i.zero with
    | none=>rw [hzz] at hz;simp at hz
    | some z =>
      rw [hzz] at hz
      simp only [Option.map_some,Option.some.injEq] at hz
      exact wpG_app w d hd hgd s x t tx ho 0 e i z size bytes ht hie hzz hsz hby hz v n xs (h.ownr 0 rfl) xv m news hs hsv hxv h63 hbytes (Nat.zero_le _) (fun v' w2 w1 g h1 h2 h3=>k v' w1 ((h.gr g).grew h1 h2 h3))
end
section
variable {P : Program} {ops : Array Oper} {md : Region.Mode} {Q : Exit → Act → World → Prop}
end
section
variable {w0 w : World} {F : Nat → Prop} {L : List HP}
theorem St.liesBlk (h : St w0 F L w) (i : Nat) {g : Nat} {t : TypeId} {cs : List Value} (hL : L[i]? = some (blk g t cs)) : Lies w (some ⟨g,0,none⟩) cs :=
  .inr ⟨g,0,rfl,fun j u hu=>by rw [Nat.zero_add];exact (h.row i hL j u hu).1⟩
theorem src_lies {P : Program} {t e : TypeId} (ht : P.underlying t = some (.slice e)) {size n : Nat} (c : Nat) {A : Option Addr} {news : List Value} (hl : news.length = n * size) (hA : A = none → n = 0) (h1 : ∀ u ∈ news,u.oneCell' = true) {w' : World} (h : Lies w' A news) : Src P size t (.slice A n c) n news w' :=
  Src.of_lies w' ht c hl hA h h1
end
/-- the cell of a slice's element -/
theorem Lies.elem {α : Type} {f : α → List Value} {s : Nat} (hf : ∀ a,(f a).length = s) {w : World} {b o : Nat} {l : List α} (h : Lies w (some ⟨b,o,none⟩) (l.flatMap f)) {k : Nat} {a : α} (hk : l[k]? = some a) : w.rangeAt b (o + k * s) (f a):=by
  intro j v hj
  have hjs : j < s:=by
    have:=(List.getElem?_eq_some_iff.1 hj).1
    rw [hf] at this;exact this
  have key : ∀ (l : List α) (k : Nat),l[k]? = some a → (l.flatMap f)[k * s + j]? = (f a)[j]?:=by
    intro l
    induction l with
    | nil=>intro k hk;simp at hk
    | cons x r ih =>
      intro k hk
      cases k with
      | zero =>
        simp at hk
        subst hk
        rw [List.flatMap_cons,Nat.zero_mul,Nat.zero_add,List.getElem?_append_left (by rw [hf];exact hjs)]
      | succ k =>
        rw [List.getElem?_cons_succ] at hk
        rw [List.flatMap_cons,List.getElem?_append_right (by rw [hf,Nat.succ_mul];omega),hf,show (k + 1) * s + j - s = k * s + j by rw [Nat.succ_mul];omega]
        exact ih k hk
  have h1:=key l k hk
  rw [hj] at h1
  rcases h with h0 | ⟨b',o',hA,hc⟩
  · rw [h0] at h1;simp at h1
  · injection hA with hA
    injection hA with e1 e2
    subst e1;subst e2
    have:=hc (k * s + j) v h1
    rwa [← Nat.add_assoc] at this
end Go.Proofs.YtjdeaopdbenamaaDoor
/-
  Ways that meet. (No program.)
-/
namespace Go.Proofs.YtjdeaopdbenamaaDoor
open Go Go.RowKit
set_option linter.unusedVariables false
/-- the ways through x meet in J -/
theorem wp_join {P : Program} {Q : Exit → Act → World → Prop} {a : Act} {w : World} {x y : Code} (J : Act → World → Prop) (h1 : x.wp P (Exit.then J Q) a w) (h2 : ∀ a w,J a w → y.wp P Q a w) : (Code.seq x y).wp P Q a w:=by
  refine wp_seq (wp_mono h1 ?_)
  intro e a w h
  cases e with
  | normal=>exact h2 a w h
  | exit id=>exact h
  | goto l=>exact h
  | ret=>exact h
  | panic c=>exact h
  | outgrown=>exact h
end Go.Proofs.YtjdeaopdbenamaaDoor
/-
  Append in a region that draws; a store into a slice of the call's own; slices that are read. (No program.)
-/
namespace Go.Proofs.YtjdeaopdbenamaaDoor
open Go Go.RowKit
set_option linter.unusedVariables false
section
variable {P : Program} {ops : Array Oper} {md : Region.Mode} {Q : Exit → Act → World → Prop}
end
section
variable {w0 w w' : World} {F : Nat → Prop} {L M : List HP} {g n c k : Nat} {e : TypeId} {xs : List Value}
theorem own_cur {base : Nat} (h : w.ownsRow base e 1 (.slice (some ⟨g,0,none⟩) n c) n xs) : ∃ cur,w.heap[g]? = some (.cells cur e (0,0)) ∧ n ≤ c ∧ c ≤ maxLen ∧ cur.size = c * 1 ∧ cur.toList.take (n * 1) = xs ∧ xs.length = n:=by
  rcases h.2 with ⟨hv,_⟩ | ⟨g',cap,cur,hv,hb,hg,h1,h2,h3,h4⟩
  · cases hv
  · injection hv with e1 e2 e3
    injection e1 with e1
    injection e1 with e1
    subst e1
    subst e3
    have:=h.1
    exact ⟨cur,hg,h1,h2,h3,h4,by omega⟩
theorem own_cell {base : Nat} (h : w.ownsRow base e 1 (.slice (some ⟨g,0,none⟩) n c) n xs) (hk : k < n) : (∃ v,w.cell? ⟨g,k,none⟩ = some v) ∧ w.frozen? ⟨g,k,none⟩ = false:=by
  obtain ⟨cur,hg,h1,_,h3,h4,h5⟩:=own_cur h
  refine ⟨⟨cur[k]'(by omega), ?_⟩, ?_⟩
  · unfold World.cell?;rw [hg];simp [show k < cur.size by omega]
  · unfold World.frozen?;rw [hg];simp
/-- a store into a slice of the call's own -/
theorem St.ownPut (h : St w0 F (own (.slice (some ⟨g,0,none⟩) n c) e 1 n xs :: M) w) (hk : k < n) (u : Value) : St w0 F (own (.slice (some ⟨g,0,none⟩) n c) e 1 n (xs.set k u) :: M) (w.setCell ⟨g,k,none⟩ u):=by
  obtain ⟨f,⟨a,r,ha,hr,hd,hf⟩,_,hb⟩:=St.lend (L:=[own (.slice (some ⟨g,0,none⟩) n c) e 1 n xs]) (M:=M) h
  obtain ⟨cur,hg,h1,h2,h3,h4,h5⟩:=own_cur ha.1
  have hag : ∀ j,a j ↔ j = g:=fun j=>(ha.2 j).trans (by simp [Value.ownBlock,eq_comm])
  refine hb (N:=[own (.slice (some ⟨g,0,none⟩) n c) e 1 n (xs.set k u)]) ⟨(Chg.setCell w g k u).mono (fun j _ hj=>(hf j).2 (.inl ((hag j).2 hj))),fun j=>j = g,⟨fun j=>j = g,noB,⟨⟨by simp [h5], .inr ⟨g,c,cur.set! k u,rfl,Nat.zero_le _, ?_,h1,h2,by simp [h3], ?_⟩⟩,fun j=>by simp [Value.ownBlock,eq_comm]⟩,fun _ h=>h,fun _ _ h=>h,fun j=>by simp [noB]⟩,fun j hj=>.inl ((hf j).2 (.inl ((hag j).2 hj)))⟩
  · simp [World.setCell,Array.getElem?_modify,hg]
  · rw [← h4];simp only [Array.set!_eq_setIfInBounds,Array.toList_setIfInBounds,List.take_set]
theorem St.ownPutAt {L : List HP} (h : St w0 F L w) (i : Nat) (hL : L[i]? = some (own (.slice (some ⟨g,0,none⟩) n c) e 1 n xs)) (hk : k < n) (u : Value) : St w0 F (L.set i (own (.slice (some ⟨g,0,none⟩) n c) e 1 n (xs.set k u))) (w.setCell ⟨g,k,none⟩ u) :=
  ((h.perm (perm_at hL)).ownPut hk u).perm (perm_set _ hL)
theorem rangeAt_part {w : World} {b o : Nat} {cs ds : List Value} (h : w.rangeAt b o cs) (f n : Nat) (e : (cs.drop f).take n = ds) : w.rangeAt b (o + f) ds:=fun j v hj=>by
  rw [Nat.add_assoc]
  refine h (f + j) v ?_
  rw [← e,List.getElem?_take] at hj
  split at hj
  · rwa [List.getElem?_drop] at hj
  · cases hj
end
/-- a slice that is read: n elements of sz cells each -/
structure SL (w : World) (sz : Nat) (A : Option Addr) (n c : Nat) (xs : List Value) : Prop where
  len : xs.length = n * sz
  lies : Lies w A xs
  cap : n ≤ c
  bnd : c ≤ 9223372036854775807
section
variable {w w' : World} {sz : Nat} {A : Option Addr} {n c k : Nat} {xs : List Value}
theorem SL.gr (h : SL w sz A n c xs) (g : Gr w w') : SL w' sz A n c xs:=⟨h.len,h.lies.below g,h.cap,h.bnd⟩
theorem SL.addr (h : SL w sz A n c xs) (hs : 0 < sz) (hn : 0 < n) : ∃ b o,A = some ⟨b,o,none⟩:=by
  have hne : xs ≠ []:=by
    intro e
    have:=h.len
    rw [e] at this
    have h2 : 0 < n * sz:=Nat.mul_pos hn hs
    simp at this
    omega
  obtain ⟨b,o,hA,_⟩:=h.lies.at_ hne
  exact ⟨b,o,hA⟩
theorem SL.elem {b o : Nat} (h : SL w sz (some ⟨b,o,none⟩) n c xs) (j : Nat) {ds : List Value} (e : (xs.drop j).take ds.length = ds) : w.rangeAt b (o + j) ds:=by
  intro i v hi
  have h1 : xs[j + i]? = some v:=by
    have h2 : ds[i]? = some v:=hi
    rw [← e,List.getElem?_take] at h2
    split at h2
    · rwa [List.getElem?_drop] at h2
    · cases h2
  rcases h.lies with h0 | ⟨b',o',hA,hc⟩
  · rw [h0] at h1;simp at h1
  · injection hA with hA;injection hA with e1 e2;subst e1;subst e2
    have:=hc (j + i) _ h1
    rwa [← Nat.add_assoc] at this
theorem SL.nil (w : World) (sz c : Nat) (A : Option Addr) (hc : c ≤ 9223372036854775807) : SL w sz A 0 c []:=⟨by simp,Lies.nil _ _,Nat.zero_le _,hc⟩
theorem SL.ofOwn {base : Nat} {e : TypeId} (h : w.ownsRow base e sz (.slice A n c) n xs) : SL w sz A n c xs:=by
  obtain ⟨A',c',hv,h1,h2,_⟩:=own_shape h
  injection hv with e1 e2 e3
  subst e3
  exact ⟨h.1,Lies.own h,h1,Nat.le_trans h2 (by simp [maxLen])⟩
end
theorem SL.none0 {w : World} {A : Option Addr} {n c : Nat} {xs : List Value} (h : SL w 1 A n c xs) : A = none → n = 0:=by
  rintro rfl
  have:=h.len
  rcases h.lies with h0 | ⟨b,o,hA,_⟩
  · rw [h0] at this;simp at this;omega
  · cases hA
theorem ownAdr {w : World} {base : Nat} {e : TypeId} {A : Option Addr} {n c size : Nat} {xs : List Value} (h : w.ownsRow base e size (.slice A n c) n xs) (h0 : 0 < n) : ∃ g,A = some ⟨g,0,none⟩:=by
  rcases h.2 with ⟨_,hn⟩ | ⟨g,cap,cur,hv,_⟩
  · omega
  · injection hv with hA;exact ⟨g,hA⟩
theorem own_icl {w : World} {base : Nat} {e : TypeId} {A : Option Addr} {n c : Nat} {l : List Int} (h : w.ownsRow base e 1 (.slice A n c) n (l.map fun z=>Value.int .i64 z)) : n = l.length:=by
  have:=h.1
  rw [List.length_map] at this
  omega
/-- integers as cells -/
def ic (l : List Int) : List Value:=l.map fun z=>Value.int .i64 z
theorem ic_len (l : List Int) : (ic l).length = l.length:=by simp [ic]
theorem ic_set (l : List Int) (k : Nat) (z : Int) : (ic l).set k (.int .i64 z) = ic (l.set k z):=by simp [ic,List.map_set]
theorem ic_at {l : List Int} {k : Nat} (h : k < l.length) : ((ic l).drop k).take 1 = [.int .i64 (l.getD k 0)]:=by
  unfold ic
  rw [← List.map_drop,← List.map_take,List.drop_eq_getElem_cons h,List.getD_eq_getElem?_getD,List.getElem?_eq_getElem h];rfl
theorem SL.int {w : World} {b o n c : Nat} {l : List Int} (h : SL w 1 (some ⟨b,o,none⟩) n c (ic l)) (k : Nat) (hk : k < l.length) : w.rangeAt b (o + k) [.int .i64 (l.getD k 0)]:=h.elem k (ds:=[.int .i64 (l.getD k 0)]) (ic_at hk)
theorem ic_one (l : List Int) : ∀ u ∈ ic l,u.oneCell' = true:=by
  intro u hu
  obtain ⟨z,_,rfl⟩:=List.mem_map.1 hu
  rfl
end Go.Proofs.YtjdeaopdbenamaaDoor
/-
  Operations on integers.
-/
namespace Go.Proofs.YtjdeaopdbenamaaDoor
open Go Go.RowKit
set_option linter.unusedVariables false
set_option linter.unusedSimpArgs false
theorem bnt {x : Bool} (h : true = !x) : x = false:=by cases x <;> simp_all
theorem bnf {x : Bool} (h : false = !x) : x = true:=by cases x <;> simp_all
theorem rb_t {x : Bool} (h : x = true) : Ending.returned (Value.bool true) = Ending.returned (Value.bool x):=by rw [h]
theorem rb_f {x : Bool} (h : x = false) : Ending.returned (Value.bool false) = Ending.returned (Value.bool x):=by rw [h]
section
variable {ev : Operand → Value} {o : Oper} {x y : Operand} {t t' : TypeId} {k : IntKind} (W : World)
theorem op_int_eql (a b : Int) (ho : o.op = .binOp .eql t x y t') (hx : ev x = .int k a) (hy : ev y = .int k b) (ht : Tryd.prog.underlying t = some (.int k)) : (execOp ev o).run Tryd.prog W = .ok (.value (.bool (decide (a = b)))) W:=by
  unfold execOp
  rw [ho]
  simp only [hx,hy]
  first | (go_simp;done) | (go_simp <;> (by_cases h : a = b <;> simp [h]))
theorem op_int_neq (a b : Int) (ho : o.op = .binOp .neq t x y t') (hx : ev x = .int k a) (hy : ev y = .int k b) (ht : Tryd.prog.underlying t = some (.int k)) : (execOp ev o).run Tryd.prog W = .ok (.value (.bool (decide (a ≠ b)))) W:=by
  unfold execOp
  rw [ho]
  simp only [hx,hy]
  first | (go_simp;done) | (go_simp <;> (by_cases h : a = b <;> simp [h]))
theorem op_int_lss (a b : Int) (ho : o.op = .binOp .lss t x y t') (hx : ev x = .int k a) (hy : ev y = .int k b) (ht : Tryd.prog.underlying t = some (.int k)) : (execOp ev o).run Tryd.prog W = .ok (.value (.bool (decide (a < b)))) W:=by
  unfold execOp
  rw [ho]
  simp only [hx,hy]
  first | (go_simp;done) | (go_simp <;> (by_cases h : a = b <;> simp [h]))
theorem op_int_leq (a b : Int) (ho : o.op = .binOp .leq t x y t') (hx : ev x = .int k a) (hy : ev y = .int k b) (ht : Tryd.prog.underlying t = some (.int k)) : (execOp ev o).run Tryd.prog W = .ok (.value (.bool (decide (a ≤ b)))) W:=by
  unfold execOp
  rw [ho]
  simp only [hx,hy]
  first | (go_simp;done) | (go_simp <;> (by_cases h : a = b <;> simp [h]))
theorem op_int_gtr (a b : Int) (ho : o.op = .binOp .gtr t x y t') (hx : ev x = .int k a) (hy : ev y = .int k b) (ht : Tryd.prog.underlying t = some (.int k)) : (execOp ev o).run Tryd.prog W = .ok (.value (.bool (decide (a > b)))) W:=by
  unfold execOp
  rw [ho]
  simp only [hx,hy]
  first | (go_simp;done) | (go_simp <;> (by_cases h : a = b <;> simp [h]))
theorem op_int_geq (a b : Int) (ho : o.op = .binOp .geq t x y t') (hx : ev x = .int k a) (hy : ev y = .int k b) (ht : Tryd.prog.underlying t = some (.int k)) : (execOp ev o).run Tryd.prog W = .ok (.value (.bool (decide (a ≥ b)))) W:=by
  unfold execOp
  rw [ho]
  simp only [hx,hy]
  first | (go_simp;done) | (go_simp <;> (by_cases h : a = b <;> simp [h]))
theorem op_conv_i64 (a : Int) {t2 : TypeId} (h : -9223372036854775808 ≤ a ∧ a ≤ 9223372036854775807) (ho : o.op = .convert t t2 x) (hx : ev x = .int k a) (hs : Tryd.prog.underlying t = some (.int k)) (ht : Tryd.prog.underlying t2 = some (.int .i64)) : (execOp ev o).run Tryd.prog W = .ok (.value (.int .i64 a)) W:=by
  unfold execOp
  rw [ho]
  simp only [hx]
  go_simp
  rw [IntWalk.i64_in _ h]
theorem op_i_add (a b : Int) (h : -9223372036854775808 ≤ a + b ∧ a + b ≤ 9223372036854775807) (ho : o.op = .binOp .add t x y t') (hx : ev x = .int .i64 a) (hy : ev y = .int .i64 b) (ht : Tryd.prog.underlying t = some (.int .i64)) : (execOp ev o).run Tryd.prog W = .ok (.value (.int .i64 (a + b))) W:=by
  unfold execOp
  rw [ho]
  simp only [hx,hy]
  go_simp
  rw [IntWalk.i64_in _ h]
end
end Go.Proofs.YtjdeaopdbenamaaDoor
