/-
  Rows of cells that may be written, worlds that grow; the operations of a region that does not draw, taken one by one in grown worlds.
-/
import Derived.Test.YtfomieekdbkcnaaChecked
import Derived.Test.YtfomieekdbkcnaaBasec
import Derived.Test.YtfomieekdbkcnaaKrip
import Derived.Deep.QuietTactic
import Derived.BigQuiet
import Derived.BigRegion
import Derived.IntWalk
import Derived.LoopN
import Derived.Deep.Cut
namespace Go.Proofs.Ytfomieekdbkcnaa
open Go.RowKit

/-- block g holds the values cs, and they may be written -/
def Row (g : Nat) (cs : List Value) (w : World) : Prop := ∀ j v, cs[j]? = some v → w.cell? ⟨g, j, none⟩ = some v ∧ w.frozen? ⟨g, j, none⟩ = false
theorem Row.drewN {g : Nat} {cs : List Value} {w : World} (h : Row g cs w) (q : Nat) : Row g cs (w.drewN q) := h
theorem Row.new (w : World) (c : Array Value) (t : TypeId) : Row w.heap.size c.toList (w.alloc (.cells c t)) := by
  intro j v hj
  refine ⟨?_, ?_⟩
  · rw [World.cell?_alloc_new]; simpa using hj
  · exact World.frozen?_alloc_new w c t j
theorem Row.newl (w : World) (l : List Value) (t : TypeId) : Row w.heap.size l (w.alloc (.cells l.toArray t)) := Row.new w l.toArray t
theorem Row.set {g : Nat} {cs : List Value} {w : World} (h : Row g cs w) (k : Nat) (v : Value) (hk : k < cs.length) : Row g (cs.set k v) (w.setCell ⟨g, k, none⟩ v) := by
  intro j u hj
  by_cases hjk : j = k
  · subst hjk
    rw [List.getElem?_set_self hk] at hj
    cases hj
    obtain ⟨q1, q2⟩ := h j cs[j] (List.getElem?_eq_getElem hk)
    refine ⟨World.cell?_setCell_same _ _ _ q1, ?_⟩
    rw [World.frozen?_setCell]; exact q2
  · rw [List.getElem?_set_ne (fun e => hjk e.symm)] at hj
    obtain ⟨q1, q2⟩ := h j u hj
    refine ⟨?_, ?_⟩
    · exact (World.cell?_setCell_other _ _ _ _ (by intro e; cases e; exact hjk rfl)).trans q1
    · rw [World.frozen?_setCell]; exact q2
theorem Row.range {g : Nat} {cs : List Value} {w : World} (h : Row g cs w) : w.rangeAt g 0 cs := fun j v hj => by rw [Nat.zero_add]; exact (h j v hj).1
theorem Row.there {g : Nat} {cs : List Value} {w : World} (h : Row g cs w) (o n : Nat) (hn : o + n ≤ cs.length) : w.there g o n := fun j hj => by
  obtain ⟨q1, q2⟩ := h (o + j) _ (List.getElem?_eq_getElem (show o + j < cs.length by omega))
  exact ⟨by rw [q1]; rfl, q2⟩
theorem Row.sub {g : Nat} {cs : List Value} {w : World} (h : Row g cs w) (o : Nat) (sub : List Value) (hs : ∀ j, j < sub.length → cs[o + j]? = sub[j]?) : w.rangeAt g o sub := fun j v hj => by
  have hl : j < sub.length := (List.getElem?_eq_some_iff.1 hj).1
  exact (h (o + j) v (by rw [hs j hl]; exact hj)).1
theorem Row.setCells {g : Nat} {cs : List Value} {w : World} (h : Row g cs w) (o : Nat) (vs : List Value) (ho : o + vs.length ≤ cs.length) : Row g (cs.take o ++ vs ++ cs.drop (o + vs.length)) (w.setCells g o vs) := by
  induction vs generalizing o cs w with
  | nil => simpa [World.setCells] using h
  | cons v r ih =>
    rw [List.length_cons] at ho
    have h1 := h.set o v (by omega)
    have h2 := ih h1 (o + 1) (by rw [List.length_set]; omega)
    rw [World.setCells]
    have hk : o < cs.length := by omega
    have e : (cs.set o v).take (o + 1) ++ r ++ (cs.set o v).drop (o + 1 + r.length) = cs.take o ++ (v :: r) ++ cs.drop (o + (v :: r).length) := by
      rw [List.take_succ_eq_append_getElem (by rw [List.length_set]; exact hk), List.take_set_of_le (Nat.le_refl o), List.drop_set_of_lt (by omega)]
      simp [Nat.add_assoc, Nat.add_comm 1]
    rw [e] at h2
    exact h2
theorem Row.below {g : Nat} {cs : List Value} {w w' : World} (h : Row g cs w) (hb : Below w.heap.size w w') : Row g cs w' := fun j v hj => by
  obtain ⟨q1, q2⟩ := h j v hj
  have hl := World.block_lt_of_cell? w _ q1
  exact ⟨(hb.cell hl).trans q1, (hb.frozen hl).trans q2⟩
theorem below_drew {B : Nat} {a w : World} (h : Below B a w) : Below B a w.drew := ⟨h.os, h.tape, h.output, h.size, h.block⟩
theorem below_drewN {B : Nat} {a w : World} (h : Below B a w) (q : Nat) : Below B a (w.drewN q) := ⟨h.os, h.tape, h.output, h.size, h.block⟩
theorem Row.alloc {g : Nat} {cs : List Value} {w : World} (h : Row g cs w) (o : Obj) : Row g cs (w.alloc o) := h.below ((Below.refl _ _).alloc (Nat.le_refl _) o)
theorem Row.far {g b : Nat} {cs : List Value} {w : World} (h : Row g cs w) (hg : g ≠ b) (o : Nat) (vs : List Value) : Row g cs (w.setCells b o vs) := fun j v hj => by
  obtain ⟨q1, q2⟩ := h j v hj
  refine ⟨?_, by rw [World.frozen?_setCells]; exact q2⟩
  rw [World.cell?_setCells_out b vs o w ⟨g, j, none⟩ (fun hb _ => absurd hb hg)]
  exact q1
theorem Row.over {g : Nat} {C D : List Value} {w : World} (h : Row g C w) (hl : C.length = D.length) : Row g D (w.setCells g 0 D) := by
  have h1 := h.setCells 0 D (by omega)
  rw [List.take_zero, List.nil_append, List.drop_of_length_le (by omega), List.append_nil] at h1
  exact h1
theorem Gr.un {w w' : World} (h : Gr w.drew w') : Gr w w' := (below_drew (Below.refl _ _)).trans h
theorem Gr.dr (w : World) : Gr w w.drew := below_drew (Below.refl _ _)
theorem Gr.al (w : World) (o : Obj) : Gr w (w.alloc o) := (Below.refl _ _).alloc (Nat.le_refl _) o
theorem Gr.to {w0 w w' : World} (h : Below w0.heap.size w0 w) (g : Gr w w') : Below w0.heap.size w0 w' := h.trans (g.mono h.size)
theorem Row.lt {g : Nat} {v : Value} {l : List Value} {w : World} (h : Row g (v :: l) w) : g < w.heap.size := World.block_lt_of_cell? w ⟨g, 0, none⟩ (h 0 v rfl).1

theorem results_cell_mid {fn : Func} {p : Tmp} {ty : TypeId} (h : fn.results = #[.cell p ty]) (tmps : Array Value) (P : Program) (w : World) (b o : Nat) (cs : List Value) (d : TypeDesc)
    (hp : tmps.getD p undef = .pointer (some ⟨b, o, none⟩)) (hc : w.rangeAt b o cs) (hu : P.underlying ty = some d) (hd : d.isRow = true) (hi : (P.info? ty).map (·.size) = some cs.length) :
    (results fn tmps).run P w = .ok (.agg cs.toArray) w := by
  have hp' : tmps[p]?.getD undef = .pointer (some ⟨b, o, none⟩) := by simpa using hp
  simp [results, h, hp', asAddr, run_loadVar_mid w b o ty cs d hc hu hd hi]

/-- the rest of a region that does not draw, in every grown world -/
def wpG (P : Program) (ops : Array Oper) (Q : Exit → Act → World → Prop) (l : List Oper) (a : Act) (w : World) : Prop := ∀ w', Gr w w' → wpList P ops Q l a w'
section
variable {P : Program} {ops : Array Oper} {Q : Exit → Act → World → Prop}
theorem wpG_region {id : Nat} {l : List Oper} {a : Act} {w : World} (h : wpG P l.toArray Q l a w) : (Code.region id l.toArray false).wp P Q a w := wp_region_lit (h w (Gr.refl w))
theorem wpG_tk {o : Oper} {l : List Oper} (d : Option Tmp) {v : Value} {a : Act} {w : World} (hd : o.dst = d) (hy : YieldsK P ops o v a w)
    (h : wpG P ops Q l (a.put d v) w) : wpG P ops Q (o :: l) a w := by
  subst hd
  intro w' hg
  unfold wpList
  rcases hy with ⟨hw, hv⟩ | ⟨hw, rfl⟩
  · rw [if_pos hw]
    refine .inl ?_
    have h3 := hv w' hg
    unfold Oper.quietAt at h3
    unfold Oper.wp
    generalize (execOp a.eval o).run P w' = r at *
    cases r with
    | ok n w2 =>
      cases n <;> simp only [Oper.quietUpon] at h3 <;> simp only [Oper.upon]
      case value u =>
        obtain ⟨e1, e2⟩ := h3
        rw [e1, e2]
        exact h _ hg
      case skip =>
        obtain ⟨e1, e2⟩ := h3
        rw [e1, ← e2]
        exact h _ hg
      case enter f args =>
        obtain ⟨e1, hc⟩ := h3
        rw [e1]
        exact hc.mono fun e w'' ⟨he, hw''⟩ => by subst he; exact h _ (hg.trans hw'')
    | halt x w2 => simp only [Oper.quietUpon] at h3
  · rw [if_neg (by rw [hw]; decide)]
    exact h _ hg
theorem wpG_done {a : Act} {w : World} (h : ∀ w', Gr w w' → Q .normal a w') : wpG P ops Q [] a w := h
end
section
variable {P : Program} {ops : Array Oper} {Q : Exit → Act → World → Prop}
theorem wpG_val {o : Oper} {l : List Oper} (d : Option Tmp) {a : Act} {w : World} (hd : o.dst = d) (hw : Region.wanted o (yielded ops a.tmps) = true)
    (h : ∀ w', Gr w w' → ∃ v w1, (execOp a.eval o).run P w' = .ok (.value v) w1 ∧ wpG P ops Q l (a.put d v) w1) : wpG P ops Q (o :: l) a w := by
  subst hd
  intro w' hg
  unfold wpList
  rw [if_pos hw]
  obtain ⟨v, w1, h1, h2⟩ := h w' hg
  refine .inl ?_
  unfold Oper.wp
  rw [h1]
  exact h2 _ (Gr.refl _)
theorem wpG_store {o : Oper} {l : List Oper} (d : Option Tmp) {a : Act} {w : World} (hd : o.dst = d) (hw : Region.wanted o (yielded ops a.tmps) = true)
    (h : ∀ w', Gr w w' → ∃ w1, (execOp a.eval o).run P w' = .ok .skip w1 ∧ wpG P ops Q l (a.put d undef) w1) : wpG P ops Q (o :: l) a w := by
  subst hd
  intro w' hg
  unfold wpList
  rw [if_pos hw]
  obtain ⟨w1, h1, h2⟩ := h w' hg
  refine .inl ?_
  unfold Oper.wp
  rw [h1]
  exact h2 _ (Gr.refl _)
theorem YieldsK.no {o : Oper} {a : Act} {w : World} (hw : Region.wanted o (yielded ops a.tmps) = false) : YieldsK P ops o undef a w := .inr ⟨hw, rfl⟩
end

/-- a block just made and filled: what lay before stays, the new one holds what was put into it -/
theorem Row.past {g : Nat} {v : Value} {r ds : List Value} {o : Obj} {A B C : World} (h : Row g (v :: r) A) (g1 : Gr (A.alloc o) B) (g2 : Gr (B.setCells A.heap.size 0 ds) C) : Row g (v :: r) C :=
  (((h.alloc o).below g1).far (Nat.ne_of_lt h.lt) 0 ds).below g2
theorem Row.made {zs ds : List Value} {t : TypeId} {A B C : World} (hl : zs.length = ds.length) (g1 : Gr (A.alloc (.cells zs.toArray t)) B) (g2 : Gr (B.setCells A.heap.size 0 ds) C) : Row A.heap.size ds C :=
  (((Row.newl A zs t).below g1).over hl).below g2
theorem Row.room {zs : List Value} {t : TypeId} {A B : World} (g1 : Gr (A.alloc (.cells zs.toArray t)) B) (n : Nat) (hn : n = zs.length) : B.there A.heap.size 0 n :=
  ((Row.newl A zs t).below g1).there 0 n (by omega)
theorem Gr.past {ds : List Value} {o : Obj} {A B C : World} (g1 : Gr (A.alloc o) B) (g2 : Gr (B.setCells A.heap.size 0 ds) C) : Gr A C := by
  have h1 : Gr A B := (Gr.al A o).trans g1
  have h2 : Below A.heap.size A (B.setCells A.heap.size 0 ds) := below_setCells (Nat.le_refl _) ds 0 A B h1
  exact Below.trans h2 (Below.mono g2 h2.size)
/-- a block of the call's own, filled once more -/
theorem Gr.put {w u W C : World} {q : Nat} {ds : List Value} (h : Below w.heap.size w u) (g1 : Gr u W) (hq : w.heap.size ≤ q) (g2 : Gr (W.setCells q 0 ds) C) : Below w.heap.size w C := by
  have h1 := below_setCells hq ds 0 w W (Gr.to h g1)
  exact Below.trans h1 (Below.mono g2 h1.size)
theorem Row.put {q : Nat} {zs ds : List Value} {u W C : World} (h : Row q zs u) (g1 : Gr u W) (hl : zs.length = ds.length) (g2 : Gr (W.setCells q 0 ds) C) : Row q ds C := ((h.below g1).over hl).below g2

theorem Row.lo {g : Nat} {a b c d e f : Value} {w : World} (h : Row g [a, b, c, d, e, f] w) : w.rangeAt g 0 [a, b, c] := fun j v hj => by
  rw [Nat.zero_add]
  match j, hj with
  | 0, hj => exact (h 0 v hj).1
  | 1, hj => exact (h 1 v hj).1
  | 2, hj => exact (h 2 v hj).1
  | _ + 3, hj => cases hj
theorem Row.hi {g : Nat} {a b c d e f : Value} {w : World} (h : Row g [a, b, c, d, e, f] w) : w.rangeAt g 3 [d, e, f] := fun j v hj => by
  match j, hj with
  | 0, hj => exact (h 3 v hj).1
  | 1, hj => exact (h 4 v hj).1
  | 2, hj => exact (h 5 v hj).1
  | _ + 3, hj => cases hj

theorem rows1 (w : World) (l0 : List Value) (t0 : TypeId) : ∃ u, u = w.alloc (.cells l0.toArray t0) ∧ Row w.heap.size l0 u ∧ Below w.heap.size w u :=
  ⟨_, rfl, Row.newl w l0 t0, Gr.al w _⟩
theorem rows2 (w : World) (l0 : List Value) (t0 : TypeId) (l1 : List Value) (t1 : TypeId) :
    ∃ u, u = (w.alloc (.cells l0.toArray t0)).alloc (.cells l1.toArray t1) ∧ Row w.heap.size l0 u ∧ Row (w.heap.size + 1) l1 u ∧ Below w.heap.size w u := by
  obtain ⟨u, hu, r0, g0⟩ := rows1 w l0 t0
  have hs : u.heap.size = w.heap.size + 1 := by rw [hu]; simp
  refine ⟨u.alloc (.cells l1.toArray t1), by rw [hu], r0.alloc _, ?_, Gr.to g0 (Gr.al u _)⟩
  have := Row.newl u l1 t1
  rwa [hs] at this
theorem rows3 (w : World) (l0 : List Value) (t0 : TypeId) (l1 : List Value) (t1 : TypeId) (l2 : List Value) (t2 : TypeId) :
    ∃ u, u = ((w.alloc (.cells l0.toArray t0)).alloc (.cells l1.toArray t1)).alloc (.cells l2.toArray t2) ∧ Row w.heap.size l0 u ∧ Row (w.heap.size + 1) l1 u ∧ Row (w.heap.size + 1 + 1) l2 u ∧ Below w.heap.size w u := by
  obtain ⟨u, hu, r0, r1, g0⟩ := rows2 w l0 t0 l1 t1
  have hs : u.heap.size = w.heap.size + 1 + 1 := by rw [hu]; simp
  refine ⟨u.alloc (.cells l2.toArray t2), by rw [hu], r0.alloc _, r1.alloc _, ?_, Gr.to g0 (Gr.al u _)⟩
  have := Row.newl u l2 t2
  rwa [hs] at this
section
variable {P : Program} {ops : Array Oper} {md : Region.Mode} {Q : Exit → Act → World → Prop}
/-- two operations may come up, each yields a value -/
theorem wpK_pair {i j : Nat} {oi oj : Oper} {fuel : Nat} {listed : Array Bool} {a : Act} {w : World} (hi : ops[i]? = some oi) (hj : ops[j]? = some oj) (hr : Region.ready md ops listed = [i, j])
    (hwi : Region.wanted oi (yielded ops a.tmps) = true) (hwj : Region.wanted oj (yielded ops a.tmps) = true)
    (h1 : ∀ w', Gr w w' → ∃ v w1, (execOp a.eval oi).run P w' = .ok (.value v) w1 ∧ Gr w' w1 ∧ wpK P md ops Q fuel (listed.setIfInBounds i true) (a.put oi.dst v) w1)
    (h2 : ∀ w', Gr w w' → ∃ v w1, (execOp a.eval oj).run P w' = .ok (.value v) w1 ∧ Gr w' w1 ∧ wpK P md ops Q fuel (listed.setIfInBounds j true) (a.put oj.dst v) w1) :
    wpK P md ops Q (fuel + 1) listed a w := by
  intro w' hg
  refine ⟨fun h0 => (by rw [hr] at h0; cases h0), fun m hm => ?_⟩
  rw [hr] at hm
  simp only [List.mem_cons, List.not_mem_nil, or_false] at hm
  rcases hm with rfl | rfl
  · unfold wpOp
    rw [hi]
    simp only [hwi, if_true]
    obtain ⟨v, w1, e1, e2, e3⟩ := h1 w' hg
    refine .inl ?_
    unfold Oper.wp
    rw [e1]
    exact ⟨.inr e2, e3⟩
  · unfold wpOp
    rw [hj]
    simp only [hwj, if_true]
    obtain ⟨v, w1, e1, e2, e3⟩ := h2 w' hg
    refine .inl ?_
    unfold Oper.wp
    rw [e1]
    exact ⟨.inr e2, e3⟩
def ptr0 (b : Nat) : Value := .pointer (some ⟨b, 0, none⟩)
def twoB (md : Region.Mode) (ops : Array Oper) (listed : Array Bool) (i j k l : Nat) : Bool :=
  let s (L : Array Bool) (n : Nat) := L.setIfInBounds n true
  let R (L : Array Bool) := Region.ready md ops L
  stB ops k && stB ops l && R listed == [i, j] && R (s listed i) == [j] && R (s listed j) == [i] && R (s (s listed i) j) == [k] && R (s (s listed j) i) == [k] &&
  R (s (s (s listed i) j) k) == [l] && R (s (s (s listed j) i) k) == [l] &&
  R (s (s (s (s listed i) j) k) l) == [] && R (s (s (s (s listed j) i) k) l) == []
theorem wpK_two_end {k l : Nat} {ok ol : Oper} {fuel : Nat} {listed : Array Bool} {a : Act} {u w : World} {p q : Nat} (zs X Y : List Value)
    (hk : ops[k]? = some ok) (hl : ops[l]? = some ol) (hr : Region.ready md ops listed = [k])
    (hr1 : Region.ready md ops (listed.setIfInBounds k true) = [l])
    (hr3 : Region.ready md ops ((listed.setIfInBounds k true).setIfInBounds l true) = [])
    (hwk : Region.wanted ok (yielded ops a.tmps) = true) (hwl : Region.wanted ol (yielded ops a.tmps) = true) (hsk : stB ops k = true) (hsl : stB ops l = true) (hdk : ok.dst = none) (hdl : ol.dst = none)
    (hX : zs.length = X.length) (hY : zs.length = Y.length) (hp : u.heap.size ≤ p) (hq : u.heap.size ≤ q) (hne : p ≠ q) (hg : Gr u w) (rp : Row p zs w) (rq : Row q zs w)
    (ek : ∀ W, W.there p 0 X.length → (execOp a.eval ok).run P W = .ok .skip (W.setCells p 0 X))
    (el : ∀ W, W.there q 0 Y.length → (execOp a.eval ol).run P W = .ok .skip (W.setCells q 0 Y))
    (h : ∀ V, Gr u V → Row p X V → Row q Y V → Q .normal a V) : wpK P md ops Q (fuel + 2) listed a w := by
  refine wpK_store none hk hdk hr hwk hsk (fun W hW => ⟨_, ek W ((rp.below hW).there 0 _ (by omega)), ?_⟩)
  have g1 : Gr u (W.setCells p 0 X) := below_setCells hp X 0 u W (hg.trans hW)
  have r1 := (rp.below hW).over hX
  have r2 := (rq.below hW).far (Ne.symm hne) 0 X
  refine wpK_store none hl hdl hr1 hwl hsl (fun W2 hW2 => ⟨_, el W2 ((r2.below hW2).there 0 _ (by omega)), ?_⟩)
  have g2 : Gr u (W2.setCells q 0 Y) := below_setCells hq Y 0 u W2 (g1.trans hW2)
  have r3 := (r2.below hW2).over hY
  have r4 := (r1.below hW2).far hne 0 Y
  exact wpK_done hr3 (fun V hV => h V (g2.trans hV) (r4.below hV) (r3.below hV)) _
/-- the end of a region: two blocks are made, in either order, and filled -/
theorem wpK_two {i j k l : Nat} {oi oj ok ol : Oper} {d1 d2 : Tmp} {fuel : Nat} {listed : Array Bool} {a : Act} {w : World} (t : TypeId) (zs X Y : List Value)
    (hi : ops[i]? = some oi) (hj : ops[j]? = some oj) (hk : ops[k]? = some ok) (hl : ops[l]? = some ol) (hB : twoB md ops listed i j k l = true)
    (hdi : oi.dst = some d1) (hdj : oj.dst = some d2) (hdk : ok.dst = none) (hdl : ol.dst = none) (hd : d1 ≠ d2)
    (hgi : oi.guard = none) (hgj : oj.guard = none) (hgk : ok.guard = none) (hgl : ol.guard = none)
    (ei : ∀ b : Act, ∀ W : World, (execOp b.eval oi).run P W = .ok (.value (ptr0 W.heap.size)) (W.alloc (.cells zs.toArray t)))
    (ej : ∀ b : Act, ∀ W : World, (execOp b.eval oj).run P W = .ok (.value (ptr0 W.heap.size)) (W.alloc (.cells zs.toArray t)))
    (hX : zs.length = X.length) (hY : zs.length = Y.length)
    (ek : ∀ p q W, W.there p 0 X.length → (execOp ((a.put (some d1) (ptr0 p)).put (some d2) (ptr0 q)).eval ok).run P W = .ok .skip (W.setCells p 0 X))
    (el : ∀ p q W, W.there q 0 Y.length → (execOp ((a.put (some d1) (ptr0 p)).put (some d2) (ptr0 q)).eval ol).run P W = .ok .skip (W.setCells q 0 Y))
    (h : ∀ p q V, w.heap.size ≤ p → w.heap.size ≤ q → Gr w V → Row p X V → Row q Y V → Q .normal ((a.put (some d1) (ptr0 p)).put (some d2) (ptr0 q)) V) : wpK P md ops Q (fuel + 4) listed a w := by
  unfold twoB at hB
  simp only [Bool.and_eq_true, beq_iff_eq] at hB
  obtain ⟨⟨⟨⟨⟨⟨⟨⟨⟨⟨sk, sl⟩, b1⟩, b2⟩, b3⟩, b4⟩, b5⟩, b6⟩, b7⟩, b8⟩, b9⟩ := hB
  have want : ∀ (o : Oper) (b : Act), o.guard = none → Region.wanted o (yielded ops b.tmps) = true := fun o b hg => by unfold Region.wanted; rw [hg]
  have comm : ∀ p q, (a.put (some d2) q).put (some d1) p = (a.put (some d1) p).put (some d2) q := fun p q => by
    simp only [Act.put]; rw [Array.setIfInBounds_comm _ _ (Ne.symm hd)]
  refine wpK_pair hi hj b1 (want _ _ hgi) (want _ _ hgj) (fun W1 h1 => ⟨_, _, ei _ W1, Gr.al _ _, ?_⟩) (fun W1 h1 => ⟨_, _, ej _ W1, Gr.al _ _, ?_⟩)
  · rw [hdi]
    refine wpK_val (some d2) hj hdj b2 (want _ _ hgj) (fun W2 h2 => ⟨_, _, ej _ W2, Gr.al _ _, ?_⟩)
    have g1 : Gr w W2 := (h1.trans (Gr.al _ _)).trans h2
    have r1 := ((Row.newl W1 zs t).below h2).alloc (.cells zs.toArray t)
    have s1 : W1.heap.size < W2.heap.size := by have := h2.size; simp at this; omega
    have z1 := h1.size
    exact wpK_two_end zs X Y hk hl b4 b6 b8 (want _ _ hgk) (want _ _ hgl) sk sl hdk hdl hX hY (by omega) (by omega) (by omega) (g1.trans (Gr.al _ _)) r1 (Row.newl W2 zs t) (ek _ _) (el _ _) (fun V => h _ _ V (by omega) (by omega))
  · rw [hdj]
    refine wpK_val (some d1) hi hdi b3 (want _ _ hgi) (fun W2 h2 => ⟨_, _, ei _ W2, Gr.al _ _, ?_⟩)
    have g1 : Gr w W2 := (h1.trans (Gr.al _ _)).trans h2
    have r1 := ((Row.newl W1 zs t).below h2).alloc (.cells zs.toArray t)
    have s1 : W1.heap.size < W2.heap.size := by have := h2.size; simp at this; omega
    have z1 := h1.size
    rw [comm]
    exact wpK_two_end zs X Y hk hl b5 b7 b9 (want _ _ hgk) (want _ _ hgl) sk sl hdk hdl hX hY (by omega) (by omega) (by omega) (g1.trans (Gr.al _ _)) (Row.newl W2 zs t) r1 (ek _ _) (el _ _) (fun V => h _ _ V (by omega) (by omega))
end
theorem results_cell_tmp {fn : Func} {p u : Tmp} {ty : TypeId} (h : fn.results = #[.cell p ty, .tmp u]) (tmps : Array Value) (P : Program) (w : World) (b o : Nat) (cs : List Value) (d : TypeDesc)
    (hp : tmps.getD p undef = .pointer (some ⟨b, o, none⟩)) (hc : w.rangeAt b o cs) (hu : P.underlying ty = some d) (hd : d.isRow = true) (hi : (P.info? ty).map (·.size) = some cs.length) :
    (results fn tmps).run P w = .ok (.tuple #[.agg cs.toArray, tmps.getD u undef]) w := by
  have hp' : tmps[p]?.getD undef = .pointer (some ⟨b, o, none⟩) := by simpa using hp
  simp [results, h, hp', asAddr, Result.andThen, run_loadVar_mid w b o ty cs d hc hu hd hi]
end Go.Proofs.Ytfomieekdbkcnaa
