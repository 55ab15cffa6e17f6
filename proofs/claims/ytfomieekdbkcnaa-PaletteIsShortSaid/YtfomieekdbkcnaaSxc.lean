/-
  Append in a region that draws; a store into a slice of the call's own; slices that are read. (No program.)
-/
import Derived.Test.YtfomieekdbkcnaaSxb
namespace Go.Proofs.Ytfomieekdbkcnaa
open Go Go.RowKit
set_option linter.unusedVariables false
section
variable {P : Program} {ops : Array Oper} {md : Region.Mode} {Q : Exit → Act → World → Prop}
/-- what an append to a slice of the call's own does -/
theorem app_run {o : Oper} {a : Act} {w0 : World} {F : Nat → Prop} {M : List HP} (s x : Operand) (t tx : TypeId)
    (ho : o.op = .call { callee := .builtin .append, args := #[s, x], argTypes := #[t, tx] })
    (e : TypeId) (size bytes : Nat) (ht : P.underlying t = some (.slice e)) (hi : (P.info? e).map (fun i => (i.zero.map (·.cells.size), i.size, i.bytes)) = some (some size, size, bytes))
    (v : Value) (n : Nat) (xs : List Value) (W : World) (h : St w0 F (own v e size n xs :: M) W) (xv : Value) (m : Nat) (news : List Value) (hs : Src P size tx xv m news W) (hsv : a.eval s = v) (hxv : a.eval x = xv)
    (h63 : n + m ≤ maxLen) (hbytes : (n + m) * bytes ≤ 140737488355328) :
    ∃ v' w1, (execOp a.eval o).run P W = .ok (.value v') w1 ∧ St w0 F (own v' e size (n + m) (xs ++ news) :: M) w1 := by
  cases hie : P.info? e with
  | none => rw [hie] at hi; simp at hi
  | some inf =>
    rw [hie] at hi
    simp only [Option.map_some, Option.some.injEq, Prod.mk.injEq] at hi
    obtain ⟨hz, hsz, hby⟩ := hi
    cases hzz : inf.zero with
    | none => rw [hzz] at hz; simp at hz
    | some z =>
      rw [hzz] at hz
      simp only [Option.map_some, Option.some.injEq] at hz
      obtain ⟨v', w1, hrun, h2, h3, h4⟩ := run_append_where (P := P) W 0 t tx o.type e inf z size bytes ht hie hzz hsz hby hz v n xs (h.ownr 0 rfl) xv m news hs h63 hbytes (Nat.zero_le _)
      refine ⟨v', w1, ?_, h.grew h2 h3 h4⟩
      unfold execOp
      simp only [ho, resolve, invoke, builtin, Sem.run_bind, Sem.run_pure, Result.andThen_ok, List.map_toArray, List.map_cons, List.map_nil, hsv, hxv, hrun]
theorem app_ex {o : Oper} {a : Act} {w0 : World} {F : Nat → Prop} {M : List HP} {X : Value → World → Prop} (s x : Operand) (t tx : TypeId)
    (ho : o.op = .call { callee := .builtin .append, args := #[s, x], argTypes := #[t, tx] })
    (e : TypeId) (size bytes : Nat) (ht : P.underlying t = some (.slice e)) (hi : (P.info? e).map (fun i => (i.zero.map (·.cells.size), i.size, i.bytes)) = some (some size, size, bytes))
    (v : Value) (n : Nat) (xs : List Value) (W : World) (h : St w0 F (own v e size n xs :: M) W) (xv : Value) (m : Nat) (news : List Value) (hs : Src P size tx xv m news W) (hsv : a.eval s = v) (hxv : a.eval x = xv)
    (h63 : n + m ≤ maxLen) (hbytes : (n + m) * bytes ≤ 140737488355328) (k : ∀ v' w1, St w0 F (own v' e size (n + m) (xs ++ news) :: M) w1 → X v' w1) :
    ∃ v' w1, (execOp a.eval o).run P W = .ok (.value v') w1 ∧ X v' w1 := by
  obtain ⟨v', w1, h1, h2⟩ := app_run s x t tx ho e size bytes ht hi v n xs W h xv m news hs hsv hxv h63 hbytes
  exact ⟨v', w1, h1, k v' w1 h2⟩
/-- an operation that yields a value, and an append, come up: in either order -/
theorem wpK_la {i j : Nat} {oi oj : Oper} {fuel : Nat} {listed : Array Bool} {a : Act} {w : World} (d dj : Option Tmp) {v : Value} (hi : ops[i]? = some oi) (hj : ops[j]? = some oj) (hd : oi.dst = d) (hdj : oj.dst = dj) (hr : Region.ready md ops listed = [i, j])
    (hwj : Region.wanted oj (yielded ops a.tmps) = true) (hs : stB ops j = true) (hy : YieldsK P ops oi v a w)
    (h1 : wpK P md ops Q fuel (listed.setIfInBounds i true) (a.put d v) w)
    (h2 : ∀ w', Gr w w' → ∃ u w1, (execOp a.eval oj).run P w' = .ok (.value u) w1 ∧ wpK P md ops Q fuel (listed.setIfInBounds j true) (a.put dj u) w1) : wpK P md ops Q (fuel + 1) listed a w := by
  subst hd
  intro w' hg
  refine ⟨fun h0 => (by rw [hr] at h0; cases h0), fun m hm => ?_⟩
  rw [hr] at hm
  simp only [List.mem_cons, List.not_mem_nil, or_false] at hm
  rcases hm with rfl | rfl
  · exact (hy.mono hg).wpOp hi (fun w2 h3 => ⟨.inr h3, wpK_mono _ (hg.trans h3) h1⟩)
  · unfold wpOp
    rw [hj]
    simp only [hwj, if_true]
    obtain ⟨u, w1, e1, e2⟩ := h2 w' hg
    refine .inl ?_
    unfold Oper.wp
    rw [e1]
    exact ⟨.inl hs, by rw [hdj]; exact e2⟩
end
section
variable {w0 w w' : World} {F : Nat → Prop} {L M : List HP} {g n c k : Nat} {e : TypeId} {xs : List Value}
theorem own_cur {base : Nat} (h : w.ownsRow base e 1 (.slice (some ⟨g, 0, none⟩) n c) n xs) : ∃ cur, w.heap[g]? = some (.cells cur e (0, 0)) ∧ n ≤ c ∧ c ≤ maxLen ∧ cur.size = c * 1 ∧ cur.toList.take (n * 1) = xs ∧ xs.length = n := by
  rcases h.2 with ⟨hv, _⟩ | ⟨g', cap, cur, hv, hb, hg, h1, h2, h3, h4⟩
  · cases hv
  · injection hv with e1 e2 e3
    injection e1 with e1
    injection e1 with e1
    subst e1
    subst e3
    have := h.1
    exact ⟨cur, hg, h1, h2, h3, h4, by omega⟩
theorem own_cell {base : Nat} (h : w.ownsRow base e 1 (.slice (some ⟨g, 0, none⟩) n c) n xs) (hk : k < n) : (∃ v, w.cell? ⟨g, k, none⟩ = some v) ∧ w.frozen? ⟨g, k, none⟩ = false := by
  obtain ⟨cur, hg, h1, _, h3, h4, h5⟩ := own_cur h
  refine ⟨⟨cur[k]'(by omega), ?_⟩, ?_⟩
  · unfold World.cell?; rw [hg]; simp [show k < cur.size by omega]
  · unfold World.frozen?; rw [hg]; simp
/-- a store into a slice of the call's own -/
theorem St.ownPut (h : St w0 F (own (.slice (some ⟨g, 0, none⟩) n c) e 1 n xs :: M) w) (hk : k < n) (u : Value) : St w0 F (own (.slice (some ⟨g, 0, none⟩) n c) e 1 n (xs.set k u) :: M) (w.setCell ⟨g, k, none⟩ u) := by
  obtain ⟨f, ⟨a, r, ha, hr, hd, hf⟩, _, hb⟩ := St.lend (L := [own (.slice (some ⟨g, 0, none⟩) n c) e 1 n xs]) (M := M) h
  obtain ⟨cur, hg, h1, h2, h3, h4, h5⟩ := own_cur ha.1
  have hag : ∀ j, a j ↔ j = g := fun j => (ha.2 j).trans (by simp [Value.ownBlock, eq_comm])
  refine hb (N := [own (.slice (some ⟨g, 0, none⟩) n c) e 1 n (xs.set k u)]) ⟨(Chg.setCell w g k u).mono (fun j _ hj => (hf j).2 (.inl ((hag j).2 hj))), fun j => j = g, ⟨fun j => j = g, noB, ⟨⟨by simp [h5], .inr ⟨g, c, cur.set! k u, rfl, Nat.zero_le _, ?_, h1, h2, by simp [h3], ?_⟩⟩, fun j => by simp [Value.ownBlock, eq_comm]⟩, fun _ h => h, fun _ _ h => h, fun j => by simp [noB]⟩, fun j hj => .inl ((hf j).2 (.inl ((hag j).2 hj)))⟩
  · simp [World.setCell, Array.getElem?_modify, hg]
  · rw [← h4]; simp only [Array.set!_eq_setIfInBounds, Array.toList_setIfInBounds, List.take_set]
theorem St.ownPutAt {L : List HP} (h : St w0 F L w) (i : Nat) (hL : L[i]? = some (own (.slice (some ⟨g, 0, none⟩) n c) e 1 n xs)) (hk : k < n) (u : Value) : St w0 F (L.set i (own (.slice (some ⟨g, 0, none⟩) n c) e 1 n (xs.set k u))) (w.setCell ⟨g, k, none⟩ u) :=
  ((h.perm (perm_at hL)).ownPut hk u).perm (perm_set _ hL)
theorem rangeAt_part {w : World} {b o : Nat} {cs ds : List Value} (h : w.rangeAt b o cs) (f n : Nat) (e : (cs.drop f).take n = ds) : w.rangeAt b (o + f) ds := fun j v hj => by
  rw [Nat.add_assoc]
  refine h (f + j) v ?_
  rw [← e, List.getElem?_take] at hj
  split at hj
  · rwa [List.getElem?_drop] at hj
  · cases hj
end
/-- a slice that is read: n elements of sz cells each -/
structure SL (w : World) (sz : Nat) (A : Option Addr) (n c : Nat) (xs : List Value) : Prop where
  len : xs.length = n * sz
  lies : Lies w A xs
  cap : n ≤ c
  bnd : c ≤ 9223372036854775807
section
variable {w w' : World} {sz : Nat} {A : Option Addr} {n c k : Nat} {xs : List Value}
theorem SL.gr (h : SL w sz A n c xs) (g : Gr w w') : SL w' sz A n c xs := ⟨h.len, h.lies.below g, h.cap, h.bnd⟩
theorem SL.addr (h : SL w sz A n c xs) (hs : 0 < sz) (hn : 0 < n) : ∃ b o, A = some ⟨b, o, none⟩ := by
  have hne : xs ≠ [] := by
    intro e
    have := h.len
    rw [e] at this
    have h2 : 0 < n * sz := Nat.mul_pos hn hs
    simp at this
    omega
  obtain ⟨b, o, hA, _⟩ := h.lies.at_ hne
  exact ⟨b, o, hA⟩
theorem SL.elem {b o : Nat} (h : SL w sz (some ⟨b, o, none⟩) n c xs) (j : Nat) {ds : List Value} (e : (xs.drop j).take ds.length = ds) : w.rangeAt b (o + j) ds := by
  intro i v hi
  have h1 : xs[j + i]? = some v := by
    have h2 : ds[i]? = some v := hi
    rw [← e, List.getElem?_take] at h2
    split at h2
    · rwa [List.getElem?_drop] at h2
    · cases h2
  rcases h.lies with h0 | ⟨b', o', hA, hc⟩
  · rw [h0] at h1; simp at h1
  · injection hA with hA; injection hA with e1 e2; subst e1; subst e2
    have := hc (j + i) _ h1
    rwa [← Nat.add_assoc] at this
theorem SL.nil (w : World) (sz c : Nat) (A : Option Addr) (hc : c ≤ 9223372036854775807) : SL w sz A 0 c [] := ⟨by simp, Lies.nil _ _, Nat.zero_le _, hc⟩
theorem SL.ofOwn {base : Nat} {e : TypeId} (h : w.ownsRow base e sz (.slice A n c) n xs) : SL w sz A n c xs := by
  obtain ⟨A', c', hv, h1, h2, _⟩ := own_shape h
  injection hv with e1 e2 e3
  subst e3
  exact ⟨h.1, Lies.own h, h1, Nat.le_trans h2 (by simp [maxLen])⟩
end
theorem SL.none0 {w : World} {A : Option Addr} {n c : Nat} {xs : List Value} (h : SL w 1 A n c xs) : A = none → n = 0 := by
  rintro rfl
  have := h.len
  rcases h.lies with h0 | ⟨b, o, hA, _⟩
  · rw [h0] at this; simp at this; omega
  · cases hA
theorem ownAdr {w : World} {base : Nat} {e : TypeId} {A : Option Addr} {n c size : Nat} {xs : List Value} (h : w.ownsRow base e size (.slice A n c) n xs) (h0 : 0 < n) : ∃ g, A = some ⟨g, 0, none⟩ := by
  rcases h.2 with ⟨_, hn⟩ | ⟨g, cap, cur, hv, _⟩
  · omega
  · injection hv with hA; exact ⟨g, hA⟩
theorem own_icl {w : World} {base : Nat} {e : TypeId} {A : Option Addr} {n c : Nat} {l : List Int} (h : w.ownsRow base e 1 (.slice A n c) n (l.map fun z => Value.int .i64 z)) : n = l.length := by
  have := h.1
  rw [List.length_map] at this
  omega
/-- integers as cells -/
def ic (l : List Int) : List Value := l.map fun z => Value.int .i64 z
theorem ic_len (l : List Int) : (ic l).length = l.length := by simp [ic]
theorem ic_snoc (l : List Int) (z : Int) : ic (l ++ [z]) = ic l ++ [.int .i64 z] := by simp [ic]
theorem ic_set (l : List Int) (k : Nat) (z : Int) : (ic l).set k (.int .i64 z) = ic (l.set k z) := by simp [ic, List.map_set]
theorem ic_at {l : List Int} {k : Nat} (h : k < l.length) : ((ic l).drop k).take 1 = [.int .i64 (l.getD k 0)] := by
  unfold ic
  rw [← List.map_drop, ← List.map_take, List.drop_eq_getElem_cons h, List.getD_eq_getElem?_getD, List.getElem?_eq_getElem h]; rfl
theorem SL.int {w : World} {b o n c : Nat} {l : List Int} (h : SL w 1 (some ⟨b, o, none⟩) n c (ic l)) (k : Nat) (hk : k < l.length) : w.rangeAt b (o + k) [.int .i64 (l.getD k 0)] := h.elem k (ds := [.int .i64 (l.getD k 0)]) (ic_at hk)
theorem ic_one (l : List Int) : ∀ u ∈ ic l, u.oneCell' = true := by
  intro u hu
  obtain ⟨z, _, rfl⟩ := List.mem_map.1 hu
  rfl
end Go.Proofs.Ytfomieekdbkcnaa
