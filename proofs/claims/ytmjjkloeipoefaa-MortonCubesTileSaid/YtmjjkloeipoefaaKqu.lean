/-
  Calls that change memory in a region that does not draw; the elements of slices whose elements take several cells.
-/
import Derived.Test.YtmjjkloeipoefaaKqt
namespace Go.Proofs.Ytmjjkloeipoefaa
open Go Go.RowKit
set_option linter.unusedVariables false

section
variable {P : Program} {ops : Array Oper} {Q : Exit → Act → World → Prop}
theorem wpG_call {o : Oper} {l : List Oper} (d : Option Tmp) {a : Act} {w : World} (f : FuncId) (args : Array Value) (hd : o.dst = d) (hw : Region.wanted o (yielded ops a.tmps) = true) (he : ∀ w', (execOp a.eval o).run P w' = .ok (.enter f args) w')
    (h : ∀ w', Gr w w' → Calls P f args w' fun e w1 => ∃ v, e = .returned v ∧ wpG P ops Q l (a.put d v) w1) : wpG P ops Q (o :: l) a w := by
  subst hd
  intro w' hg
  unfold wpList
  rw [if_pos hw]
  refine .inl ?_
  unfold Oper.wp
  rw [he w']
  refine (h w' hg).mono fun e w1 hx => ?_
  obtain ⟨v, rfl, h3⟩ := hx
  exact h3 w1 (Gr.refl w1)
end

theorem chunk_at {α : Type} (f : α → List Value) (s : Nat) (hf : ∀ a, (f a).length = s) : ∀ (l : List α) (k : Nat) (a : α), l[k]? = some a → ∀ j, j < s → (l.flatMap f)[k * s + j]? = (f a)[j]?
  | [], k, a, h, _, _ => by simp at h
  | x :: r, 0, a, h, j, hj => by
    simp at h
    subst h
    rw [List.flatMap_cons, Nat.zero_mul, Nat.zero_add, List.getElem?_append_left (by rw [hf]; exact hj)]
  | x :: r, k + 1, a, h, j, hj => by
    rw [List.getElem?_cons_succ] at h
    rw [List.flatMap_cons, List.getElem?_append_right (by rw [hf, Nat.succ_mul]; omega), hf, show (k + 1) * s + j - s = k * s + j by rw [Nat.succ_mul]; omega]
    exact chunk_at f s hf r k a h j hj
theorem chunk_len {α : Type} (f : α → List Value) (s : Nat) (hf : ∀ a, (f a).length = s) : ∀ (l : List α), (l.flatMap f).length = l.length * s
  | [] => by simp
  | x :: r => by rw [List.flatMap_cons, List.length_append, hf, chunk_len f s hf r, List.length_cons, Nat.succ_mul, Nat.add_comm]
theorem lies_range {α : Type} {f : α → List Value} {s : Nat} (hf : ∀ a, (f a).length = s) {w : World} {g : Nat} {l : List α} (h : Lies w (some ⟨g, 0, none⟩) (l.flatMap f)) {k : Nat} {a : α} (hk : l[k]? = some a) : w.rangeAt g (k * s) (f a) := by
  intro j v hj
  have hjs : j < s := by
    have := (List.getElem?_eq_some_iff.1 hj).1
    rw [hf] at this; exact this
  have h1 := chunk_at f s hf l k a hk j hjs
  rw [hj] at h1
  rcases h with h0 | ⟨b, o, hA, hc⟩
  · rw [h0] at h1; simp at h1
  · injection hA with hA
    injection hA with e1 e2
    subst e1; subst e2
    have := hc (k * s + j) v h1
    rwa [Nat.zero_add] at this
theorem cc_len (c : Mo.Cb) : (cc c).length = 4 := rfl
/-- the cells of a run -/
def rc (r : Int × Int) : List Value := [.int .i64 r.1, .int .i64 r.2]
def rcs (l : List (Int × Int)) : List Value := l.flatMap rc
theorem rc_len (c : Int × Int) : (rc c).length = 2 := rfl
theorem rcs_len (l : List (Int × Int)) : (rcs l).length = l.length * 2 := chunk_len rc 2 rc_len l
theorem rcs_append (a b : List (Int × Int)) : rcs (a ++ b) = rcs a ++ rcs b := by unfold rcs; exact List.flatMap_append
theorem rcs_one (f t : Int) : rcs [(f, t)] = [.int .i64 f, .int .i64 t] := by simp [rcs, rc]
theorem own_lies {w : World} {base : Nat} {e : TypeId} {size n c : Nat} {A : Option Addr} {xs : List Value} (h : w.ownsRow base e size (.slice A n c) n xs) : Lies w A xs := Lies.own h
theorem own_addr {w : World} {base : Nat} {e : TypeId} {size n c : Nat} {A : Option Addr} {xs : List Value} (h : w.ownsRow base e size (.slice A n c) n xs) (hn : 0 < n) : ∃ g, A = some ⟨g, 0, none⟩ := by
  rcases h.2 with ⟨hv, h0⟩ | ⟨g, cap, cur, hv, _⟩
  · omega
  · injection hv with hA; exact ⟨g, hA⟩
end Go.Proofs.Ytmjjkloeipoefaa
