/-
  Laws: copy of a whole array's bytes into the block that was made last; a function whose first of three results is an array.
-/
import Derived.Test.YtfomieekdbkcnaaBaseb
namespace Go.Proofs.Ytfomieekdbkcnaa
open Go.RowKit

theorem wpList_copy_new {P : Program} (w : World) {ops : Array Oper} {rest : List Oper} {op : Oper} {a : Act} {Q : Exit → Act → World → Prop} (hgd : op.guard = none) (d s : Operand) (dT sT : TypeId)
    (ho : op.op = .call { callee := .builtin .copy, args := #[d, s], argTypes := #[dT, sT] }) (elem t : TypeId) (hu : P.underlying dT = some (.slice elem)) (hs : (P.info? elem).map (·.size) = some 1)
    (c : Array Value) (cs : List Value) (g b o m n dc sc : Nat) (hg : g = w.heap.size) (hm : cs.length = m) (hd : a.eval d = .slice (some ⟨g, 0, none⟩) m dc) (hsv : a.eval s = .slice (some ⟨b, o, none⟩) n sc)
    (hl : Lies w (some ⟨b, o, none⟩) cs) (hc : c.size = m) (hn : m ≤ n) (h1 : ∀ v ∈ cs, v.oneCell' = true)
    (h : wpList P ops Q rest (a.put op.dst (goInt m)) (w.alloc (.cells cs.toArray t))) : wpList P ops Q (op :: rest) a (w.alloc (.cells c t)) := by
  subst hm hg
  refine wpList_plain hgd fun K hK => ?_
  have hl2 := (hl.alloc (.cells c t)).range
  have hr := run_copy_row (P := P) (w.alloc (.cells c t)) dT sT op.type elem w.heap.size 0 cs.length dc ⟨b, o, none⟩ n sc c t cs hu hs (heap_alloc_last w _) (Nat.min_eq_right hn).symm
    (fun j v hj => by rw [Addr.add_lit]; exact hl2 j v hj) (by omega) h1
  rw [World.setRow_alloc_new] at hr
  have e : (c.toList.take 0 ++ cs ++ c.toList.drop (0 + cs.length)) = cs := by
    rw [List.drop_of_length_le (by rw [Array.length_toList]; omega)]; simp
  rw [e] at hr
  unfold Oper.wp execOp
  simp only [ho, resolve, invoke, builtin, Sem.run_bind, Sem.run_pure, Result.andThen_ok, List.map_toArray, List.map_cons, List.map_nil, hd, hsv, hr]
  exact hK _ _ h

theorem wpList_load_new_at {P : Program} (w : World) {ops : Array Oper} {rest : List Oper} {op : Oper} {a : Act} {Q : Exit → Act → World → Prop} (hgd : op.guard = none) (t : TypeId) (x : Operand) (ho : op.op = .load t x)
    (g : Nat) (hg : g = w.heap.size) (c : Array Value) (hx : a.eval x = .pointer (some ⟨g, 0, none⟩)) (n : Nat) (e : TypeId) (hu : P.underlying t = some (.array n e))
    (hi : (P.info? t).map (·.size) = some c.size)
    (h : wpList P ops Q rest (a.put op.dst (.agg c)) (w.alloc (.cells c t))) : wpList P ops Q (op :: rest) a (w.alloc (.cells c t)) := by
  subst hg; exact wpList_load_new w hgd t x ho c hx n e hu hi h

theorem below_setCells {B b : Nat} (hb : B ≤ b) : ∀ (vs : List Value) (o : Nat) (w0 w : World), Below B w0 w → Below B w0 (w.setCells b o vs)
  | [], _, _, _, h => h
  | v :: vs, o, w0, _, h => below_setCells hb vs (o + 1) w0 _ (h.setCell (p := ⟨b, o, none⟩) hb v)

theorem there_new (w : World) (c : Array Value) (t : TypeId) (o2 : Obj) : ((w.alloc (.cells c t)).alloc o2).there w.heap.size 0 c.size := by
  intro j hj
  have hx : ((w.alloc (.cells c t)).alloc o2).heap[w.heap.size]? = some (.cells c t (0, 0)) :=
    (Below.heap_alloc _ o2 w.heap.size (by simp)).trans (heap_alloc_last w _)
  refine ⟨?_, ?_⟩
  · rw [cell_of_row _ _ _ _ _ _ hx]
    simp [hj]
  · simp [World.frozen?, hx]

theorem foldl_set_zip : ∀ (cs : List Value) (k : Nat) (z : Array Value), z.size = k + cs.length → (cs.zipIdx k).foldl (fun a x => a.setIfInBounds x.2 x.1) z = (z.toList.take k ++ cs).toArray
  | [], k, z, h => by
    have h' : z.toList.length ≤ k := by simp at h ⊢; omega
    simp [List.take_of_length_le h']
  | c :: r, k, z, h => by
    rw [List.zipIdx_cons, List.foldl_cons, foldl_set_zip r (k + 1) _ (by simp at h ⊢; omega)]
    have hk : k < z.toList.length := by simp at h ⊢; omega
    have e : ((z.setIfInBounds k c).toList).take (k + 1) = z.toList.take k ++ [c] := by
      rw [Array.toList_setIfInBounds, List.take_succ_eq_append_getElem (by rw [List.length_set]; exact hk), List.take_set_of_le (Nat.le_refl k)]
      simp
    show ((z.setIfInBounds k c).toList.take (k + 1) ++ r).toArray = _
    rw [e]; simp

/-- append(v, u), u an array or a struct: the one element lies in a block of its own -/
theorem wpList_append_wide {P : Program} (w : World) {ops : Array Oper} {rest : List Oper} {o : Oper} {a : Act} {Q : Exit → Act → World → Prop} (hgd : o.guard = none) (s x : Operand) (t : TypeId)
    (ho : o.op = .call { callee := .builtin .append, args := #[s, x], argTypes := #[t, t] })
    (B : Nat) (e : TypeId) (i : TypeInfo) (z : Value) (size bytes : Nat) (ht : P.underlying t = some (.slice e)) (hi : P.info? e = some i) (hz : i.zero = some z)
    (hsize : i.size = size) (hby : i.bytes = bytes) (hzs : z.cells.size = size)
    (v : Value) (n : Nat) (xs : List Value) (hown : w.ownsRow B e size v n xs) (cs : List Value) (hcs : cs.length = size) (h1 : ∀ u ∈ cs, u.oneCell' = true) (g : Nat) (hg : g = w.heap.size) (ca : Array Value) (hca : ca = cs.toArray)
    (hsv : a.eval s = v) (hxv : a.eval x = .slice (some ⟨g, 0, none⟩) 1 1)
    (h63 : n + 1 ≤ maxLen) (hbytes : (n + 1) * bytes ≤ 140737488355328) (hB : B ≤ w.heap.size)
    (h : ∀ v' w', w'.ownsRow B e size v' (n + 1) (xs ++ cs) → Below B w w' → wpList P ops Q rest (a.put o.dst v') w') : wpList P ops Q (o :: rest) a (w.alloc (.cells ca e)) := by
  subst hg hca
  refine wpList_append_onto_src (w.alloc (.cells cs.toArray e)) hgd s x t t ho B e i z size bytes ht hi hz hsize hby hzs v n xs (hown.alloc _) _ 1 cs
    (Src.of_lies _ ht 1 (by omega) (fun h => by cases h) (Lies.new w cs e) h1) hsv hxv h63 hbytes (Nat.le_trans hB (by simp)) ?_
  intro v' w' h1 h2
  exact h v' w' h1 (((Below.refl B w).alloc hB _).trans h2)

theorem results_cell_tmp2 {fn : Func} {p u v : Tmp} {ty : TypeId} (h : fn.results = #[.cell p ty, .tmp u, .tmp v]) (tmps : Array Value) (P : Program) (w : World) (b o : Nat) (cs : List Value) (d : TypeDesc)
    (hp : tmps.getD p undef = .pointer (some ⟨b, o, none⟩)) (hc : w.rangeAt b o cs) (hu : P.underlying ty = some d) (hd : d.isRow = true) (hi : (P.info? ty).map (·.size) = some cs.length) :
    (results fn tmps).run P w = .ok (.tuple #[.agg cs.toArray, tmps.getD u undef, tmps.getD v undef]) w := by
  have hp' : tmps[p]?.getD undef = .pointer (some ⟨b, o, none⟩) := by simpa using hp
  simp [results, h, hp', asAddr, Result.andThen, run_loadVar_mid w b o ty cs d hc hu hd hi]

end Go.Proofs.Ytfomieekdbkcnaa
