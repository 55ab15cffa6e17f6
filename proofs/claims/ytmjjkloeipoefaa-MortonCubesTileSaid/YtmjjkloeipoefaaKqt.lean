/-
  The state of a search that collects cubes: the list's row, what has changed, where the row lies.
-/
import Derived.Test.YtmjjkloeipoefaaKqs
import Derived.Test.YtmjjkloeipoefaaMo7
namespace Go.Proofs.Ytmjjkloeipoefaa
open Go Go.RowKit
set_option linter.unusedVariables false
open Mo (Cb cut)

/-- the cells of a cube -/
def cc (c : Cb) : List Value := [.int .i64 c.1, .int .i64 c.2.1, .int .i64 c.2.2.1, .int .i64 c.2.2.2]
def ccs (l : List Cb) : List Value := l.flatMap cc
theorem ccs_append (a b : List Cb) : ccs (a ++ b) = ccs a ++ ccs b := by unfold ccs; exact List.flatMap_append
theorem ccs_one (x y z l : Int) : ccs [(x, y, z, l)] = [.int .i64 x, .int .i64 y, .int .i64 z, .int .i64 l] := by simp [ccs, cc]

/-- the row of the list v holds cl; only what S names has changed since w; the row is one of those or lies from block m on -/
structure St (B : Nat) (S : Nat → Prop) (m : Nat) (w : World) (v : Value) (cl : List Cb) (wr : World) : Prop where
  own : wr.ownsRow B 27 4 v cl.length (ccs cl)
  chg : Chg S w wr
  ob : ∀ k, v.ownBlock = some k → S k ∨ m ≤ k
  sz : m ≤ wr.heap.size
  wm : w.heap.size ≤ m
  bs : B ≤ w.heap.size

/-- what a search leaves: the list grown by T, but for what is cut off -/
def CubP (B : Nat) (S : Nat → Prop) (T cl : List Cb) (w : World) (r : Value → List Cb → Ending → World → Prop) (e : Ending) (w' : World) : Prop :=
  ∃ A n c cl', cl' = cut (cl ++ T) ∧ n = cl'.length ∧ r (.slice A n c) cl' e w' ∧ w'.ownsRow B 27 4 (.slice A n c) n (ccs cl') ∧ Chg S w w' ∧ (∀ k, (Value.slice A n c).ownBlock = some k → S k ∨ w.heap.size ≤ k)

section
variable {B m : Nat} {S : Nat → Prop} {w wr w2 w3 : World} {v v' : Value} {cl cl' : List Cb}
theorem St.gr (h : St B S m w v cl wr) (g : Gr wr w2) : St B S m w v cl w2 := ⟨own_gr h.own g, h.chg.gr g, h.ob, Nat.le_trans h.sz g.size, h.wm, h.bs⟩
theorem St.row (h : St B S m w v cl wr) {S' : Nat → Prop} (c : Chg S' wr w3) (hS : ∀ k, S' k → S k ∨ m ≤ k) {g : Nat} {x : Value} {cs : List Value} (r : Row g (x :: cs) wr) (hg : g < m) (hn : ¬ S g) : Row g (x :: cs) w3 :=
  c.row r (fun hs => by rcases hS g hs with h1 | h1; exact hn h1; omega)
theorem St.call (h : St B S m w v cl wr) {S' : Nat → Prop} (c : Chg S' wr w3) (hS : ∀ k, S' k → S k ∨ m ≤ k) (own : w3.ownsRow B 27 4 v' cl'.length (ccs cl')) (hob : ∀ k, v'.ownBlock = some k → S' k ∨ wr.heap.size ≤ k) : St B S m w v' cl' w3 :=
  ⟨own, h.chg.trans c (fun k hk hs => by rcases hS k hs with h1 | h1; exact h1; have := h.wm; omega),
   fun k hk => by rcases hob k hk with h1 | h1; exact hS k h1; have := h.sz; exact .inr (by omega), Nat.le_trans h.sz c.size, h.wm, h.bs⟩
end
theorem infoCube : (Try.prog.info? 27).map (fun i => (i.zero, i.size, i.bytes)) = some (some (.agg #[.int .i64 0, .int .i64 0, .int .i64 0, .int .i64 0]), 4, 32) := by kernel_rfl
end Go.Proofs.Ytmjjkloeipoefaa
