/-
  Slices made full, and copies within a block: for slices.Repeat. (No program.)
-/
import Derived.Test.YtfomieekdbkcnaaSxc
import Derived.Laws.IdiomCopy
import Derived.Laws.OwnMore
import Derived.Handy
namespace Go.Proofs.Ytfomieekdbkcnaa
open Go Go.RowKit
set_option linter.unusedVariables false
theorem setFrom_len : ∀ (vs : List Value) (o : Nat) (cs : List Value), (setFrom cs o vs).length = cs.length
  | [], _, _ => rfl
  | v :: r, o, cs => by rw [setFrom, setFrom_len r]; simp
theorem setFrom_at : ∀ (vs : List Value) (o : Nat) (cs : List Value) (j : Nat), o + vs.length ≤ cs.length → (setFrom cs o vs)[j]? = if o ≤ j ∧ j < o + vs.length then vs[j - o]? else cs[j]?
  | [], o, cs, j, _ => by
    rw [setFrom, if_neg (by simp)]
  | v :: r, o, cs, j, h => by
    simp only [List.length_cons] at h
    rw [setFrom, setFrom_at r (o + 1) (cs.set o v) j (by simp; omega)]
    by_cases h1 : o + 1 ≤ j ∧ j < o + 1 + r.length
    · rw [if_pos h1, if_pos (by simp; omega), show j - o = (j - (o + 1)) + 1 by omega, List.getElem?_cons_succ]
    · rw [if_neg h1]
      by_cases h2 : j = o
      · subst h2
        rw [if_pos (by simp), Nat.sub_self, List.getElem?_set_self (by omega)]; rfl
      · rw [if_neg (by simp; omega), List.getElem?_set_ne (by omega)]
/-- m cells of v, zeros behind -/
def rp (m : Nat) (v : Int) (n : Nat) : List Int := List.replicate m v ++ List.replicate (n - m) 0
theorem rp_len {m n : Nat} {v : Int} (h : m ≤ n) : (rp m v n).length = n := by simp [rp]; omega
theorem rp_at {m n j : Nat} {v : Int} (h : m ≤ n) : (rp m v n)[j]? = if j < m then some v else if j < n then some 0 else none := by
  unfold rp
  rw [List.getElem?_append]
  simp only [List.length_replicate, List.getElem?_replicate]
  split
  · rfl
  · by_cases h2 : j < n
    · rw [if_pos h2, if_pos (by omega)]
    · rw [if_neg h2, if_neg (by omega)]
theorem rp_zero (v : Int) (n : Nat) : List.replicate n 0 = rp 0 v n := by simp [rp]
theorem rp_all (v : Int) (n : Nat) : rp n v n = List.replicate n v := by simp [rp]
theorem ic_q (l : List Int) (j : Nat) : (ic l)[j]? = (l[j]?).map (fun x => Value.int .i64 x) := by simp [ic]
theorem rp_put {m n q : Nat} {v : Int} (h : m + q ≤ n) : setFrom (ic (rp m v n)) m (ic (List.replicate q v)) = ic (rp (m + q) v n) := by
  apply List.ext_getElem?
  intro j
  rw [setFrom_at _ _ _ _ (by rw [ic_len, ic_len, rp_len (by omega)]; simp; omega), ic_q, ic_q, ic_q, rp_at (by omega), rp_at (by omega), ic_len, List.length_replicate, List.getElem?_replicate]
  by_cases h1 : m ≤ j ∧ j < m + q
  · rw [if_pos h1, if_pos (by omega), if_pos (by omega)]
  · rw [if_neg h1]
    by_cases h2 : j < m
    · rw [if_pos h2, if_pos (by omega)]
    · rw [if_neg h2, if_neg (show ¬ j < m + q by omega)]
theorem ic_one2 (l : List Int) : ∀ v ∈ ic l, v.oneCell' = true := by
  intro v hv
  simp only [ic, List.mem_map] at hv
  obtain ⟨x, _, rfl⟩ := hv
  rfl
section
variable {P : Program}
/-- a slice of n zeros -/
theorem make_run {o : Oper} {a : Act} {w0 : World} {F : Nat → Prop} {M : List HP} (t e : TypeId) (x y : Operand) (ho : o.op = .makeSlice t x y) (ht : P.underlying t = some (.slice e)) (hi : (P.info? e).map (fun i => (i.zero, i.size, i.bytes)) = some (some (.int .i64 0), 1, 8))
    (v : Int) (n : Nat) (hx : a.eval x = .int .i64 (n : Int)) (hy : a.eval y = .int .i64 (n : Int)) (hn : n ≤ 2097152) (W : World) (h : St w0 F M W) :
    ∃ g w1, (execOp a.eval o).run P W = .ok (.value (.slice (some ⟨g, 0, none⟩) n n)) w1 ∧ St w0 F (blk g e (ic (rp 0 v n)) :: M) w1 := by
  cases hie : P.info? e with
  | none => rw [hie] at hi; simp at hi
  | some inf =>
    rw [hie] at hi
    simp only [Option.map_some, Option.some.injEq, Prod.mk.injEq] at hi
    obtain ⟨hz, hsz, hby⟩ := hi
    have hr := run_make (P := P) W t e inf (.int .i64 0) ht hie hz .i64 .i64 (n : Int) (n : Int) (by omega) (Int.le_refl _) (by rw [hby]; omega) (by omega)
    simp only [Int.toNat_natCast, hsz, Nat.mul_one] at hr
    have hc : (madeCells (Value.int .i64 0).cells n) = (ic (rp 0 v n)).toArray := by
      rw [← rp_zero]
      unfold ic
      rw [List.map_replicate]
      simp only [madeCells, Value.cells]
      apply Array.ext
      · simp
      · intro i h1 h2
        simp [Nat.mod_one]
    rw [hc] at hr
    refine ⟨_, _, ?_, h.alloc _ _⟩
    unfold execOp
    simp only [ho, Sem.run_bind, hx, hy, hr, Result.andThen_ok, Sem.run_pure]
/-- a copy into a block of integers -/
theorem copy_run {o : Oper} {a : Act} {w0 : World} {F : Nat → Prop} {L : List HP} (d s : Operand) (dT sT : TypeId) (ho : o.op = .call { callee := .builtin .copy, args := #[d, s], argTypes := #[dT, sT] })
    (e : TypeId) (hu : P.underlying dT = some (.slice e)) (hs : (P.info? e).map (·.size) = some 1)
    (g off dn dc : Nat) (ad : Addr) (sn sc : Nat) (hd : a.eval d = .slice (some ⟨g, off, none⟩) dn dc) (hsv : a.eval s = .slice (some ad) sn sc) (W : World) (h : St w0 F L W) (i : Nat) (cur : List Value) (hL : L[i]? = some (blk g e cur))
    (cs : List Value) (hn : cs.length = Nat.min sn dn) (hsrc : ∀ j v, cs[j]? = some v → W.cell? (ad.add j) = some v) (hfit : off + cs.length ≤ cur.length) (h1 : ∀ v ∈ cs, v.oneCell' = true) {ds : List Value} (he : setFrom cur off cs = ds) :
    ∃ w1, (execOp a.eval o).run P W = .ok (.value (goInt cs.length)) w1 ∧ St w0 F (L.set i (blk g e ds)) w1 := by
  have hr := run_copy_cells (P := P) W dT sT o.type e g off dn dc ad sn sc cs hu hs hn hsrc (fun j hj => ?_) (fun j hj => ?_) h1
  · refine ⟨_, ?_, h.put i hL off cs he⟩
    unfold execOp
    simp only [ho, resolve, invoke, builtin, Sem.run_bind, Sem.run_pure, Result.andThen_ok, List.map_toArray, List.map_cons, List.map_nil, hd, hsv, hr]
  · obtain ⟨v, hv⟩ : ∃ v, cur[off + j]? = some v := ⟨_, List.getElem?_eq_getElem (by omega)⟩
    rw [(h.row i hL _ v hv).1]; rfl
  · obtain ⟨v, hv⟩ : ∃ v, cur[off + j]? = some v := ⟨_, List.getElem?_eq_getElem (by omega)⟩
    exact (h.row i hL _ v hv).2
theorem make_ex {o : Oper} {a : Act} {w0 : World} {F : Nat → Prop} {M : List HP} {X : Value → World → Prop} (t e : TypeId) (x y : Operand) (ho : o.op = .makeSlice t x y) (ht : P.underlying t = some (.slice e)) (hi : (P.info? e).map (fun i => (i.zero, i.size, i.bytes)) = some (some (.int .i64 0), 1, 8))
    (v : Int) (n : Nat) (hx : a.eval x = .int .i64 (n : Int)) (hy : a.eval y = .int .i64 (n : Int)) (hn : n ≤ 2097152) (W : World) (h : St w0 F M W)
    (k : ∀ g w1, St w0 F (blk g e (ic (rp 0 v n)) :: M) w1 → X (.slice (some ⟨g, 0, none⟩) n n) w1) : ∃ v' w1, (execOp a.eval o).run P W = .ok (.value v') w1 ∧ X v' w1 := by
  obtain ⟨g, w1, h1, h2⟩ := make_run (P := P) t e x y ho ht hi v n hx hy hn W h
  exact ⟨_, w1, h1, k g w1 h2⟩
theorem copy_ex {o : Oper} {a : Act} {w0 : World} {F : Nat → Prop} {L : List HP} {X : Value → World → Prop} (d s : Operand) (dT sT : TypeId) (ho : o.op = .call { callee := .builtin .copy, args := #[d, s], argTypes := #[dT, sT] })
    (e : TypeId) (hu : P.underlying dT = some (.slice e)) (hs : (P.info? e).map (·.size) = some 1)
    (g off dn dc : Nat) (ad : Addr) (sn sc : Nat) (hd : a.eval d = .slice (some ⟨g, off, none⟩) dn dc) (hsv : a.eval s = .slice (some ad) sn sc) (W : World) (h : St w0 F L W) (i : Nat) (m N q : Nat) (x : Int) (hL : L[i]? = some (blk g e (ic (rp m x N))))
    (hoff : off = m) (hq : q = Nat.min sn dn) (hfit : m + q ≤ N) (hsrc : ∀ j, j < q → W.cell? (ad.add j) = some (.int .i64 x))
    (k : ∀ w1, St w0 F (L.set i (blk g e (ic (rp (m + q) x N)))) w1 → X (.int .i64 (q : Int)) w1) : ∃ v' w1, (execOp a.eval o).run P W = .ok (.value v') w1 ∧ X v' w1 := by
  subst hoff
  have hl : (ic (List.replicate q x)).length = q := by rw [ic_len, List.length_replicate]
  obtain ⟨w1, h1, h2⟩ := copy_run (P := P) d s dT sT ho e hu hs g off dn dc ad sn sc hd hsv W h i _ hL (ic (List.replicate q x)) (hl.trans hq) (fun j v hj => by
    rw [ic_q, List.getElem?_replicate] at hj
    split at hj
    · cases hj; exact hsrc j (by assumption)
    · cases hj) (by rw [hl, ic_len, rp_len (by omega)]; exact hfit) (ic_one2 _) (rp_put hfit)
  rw [hl] at h1
  exact ⟨_, w1, h1, k w1 h2⟩
end
theorem J.wpK_app {P : Program} {ops : Array Oper} {md : Region.Mode} {Q : Exit → Act → World → Prop} {st : Nat → Bool} {i : Nat} (d : Option Tmp) {oi : Oper} {fuel : Nat} {listed : Array Bool} {a : Act} {w : World} (hi : ops[i]? = some oi) (hd : oi.dst = d) (hr : Region.ready md ops listed = [i])
    (hw : Region.wanted oi (yielded ops a.tmps) = true) (hs : st i = true)
    (h : ∀ w', Gr w w' → ∃ v w1, (execOp a.eval oi).run P w' = .ok (.value v) w1 ∧ J.wpK P md ops st Q fuel (listed.setIfInBounds i true) (a.put d v) w1) :
    J.wpK P md ops st Q (fuel + 1) listed a w := by
  subst hd
  refine J.wpK_one hi hr hw fun w' hg K hK => ?_
  obtain ⟨v, w1, h1, h3⟩ := h w' hg
  unfold Oper.wp
  rw [h1]
  exact hK _ _ (.inl hs) h3
end Go.Proofs.Ytfomieekdbkcnaa
