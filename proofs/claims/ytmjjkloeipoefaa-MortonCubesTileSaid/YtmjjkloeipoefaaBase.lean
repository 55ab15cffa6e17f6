/-
  Words for slices that are read, and append onto a row of the call's own from any source: no program is mentioned here.
-/
import Derived.WalkKit
import Derived.WalkSpells
import Derived.WalkLawsBesides
import Derived.Deep.AppendSrc
import Derived.Deep.Upon
import Derived.Deep.AppendLies
import Derived.Lib.Hide
namespace Go.Proofs.Ytmjjkloeipoefaa
open Go.RowKit

/-- cell number j of the slice with address A holds xs[j] -/
def Lies (w : World) (A : Option Addr) (xs : List Value) : Prop :=
  xs = [] ∨ ∃ b o, A = some ⟨b, o, none⟩ ∧ ∀ j u, xs[j]? = some u → w.cell? ⟨b, o + j, none⟩ = some u

section
variable {w w' : World} {A : Option Addr} {xs : List Value}

theorem Lies.nil (w : World) (A : Option Addr) : Lies w A [] := .inl rfl
theorem Lies.keep (h : Lies w A xs) (hk : ∀ p : Addr, p.block < w.heap.size → w'.cell? p = w.cell? p) : Lies w' A xs := by
  rcases h with h | ⟨b, o, hA, hc⟩
  · exact .inl h
  · exact .inr ⟨b, o, hA, fun j u hu => (hk _ (World.block_lt_of_cell? w _ (hc j u hu))).trans (hc j u hu)⟩
theorem Lies.below (h : Lies w A xs) (hb : Below w.heap.size w w') : Lies w' A xs := h.keep fun _ hp => hb.cell hp
theorem Lies.alloc (h : Lies w A xs) (o : Obj) : Lies (w.alloc o) A xs := h.below ((Below.refl _ _).alloc (Nat.le_refl _) o)
theorem Lies.drew (h : Lies w A xs) : Lies w.drew A xs := h
theorem Lies.take (h : Lies w A xs) (k : Nat) : Lies w A (xs.take k) := by
  rcases h with rfl | ⟨b, o, hA, hc⟩
  · exact .inl (by simp)
  · refine .inr ⟨b, o, hA, fun j u hu => hc j u ?_⟩
    rw [List.getElem?_take] at hu
    split at hu
    · exact hu
    · cases hu
theorem Lies.drop {b o : Nat} (h : Lies w (some ⟨b, o, none⟩) xs) (k : Nat) : Lies w (some ⟨b, o + k, none⟩) (xs.drop k) := by
  rcases h with rfl | ⟨b', o', hA, hc⟩
  · exact .inl (by simp)
  · injection hA with hA
    injection hA with h1 h2
    subst h1 h2
    refine .inr ⟨_, _, rfl, fun j u hu => ?_⟩
    rw [Nat.add_assoc]
    exact hc (k + j) u (by rw [← hu, List.getElem?_drop])
theorem Lies.own {base : Nat} {e : TypeId} {size n c : Nat} (h : w.ownsRow base e size (.slice A n c) n xs) : Lies w A xs := by
  by_cases hn : n = 0
  · subst hn
    exact .inl (List.eq_nil_of_length_eq_zero (by simpa using h.1))
  · rcases h.2 with ⟨_, h0⟩ | ⟨g, cap, cur, hv, _⟩
    · exact absurd h0 hn
    · injection hv with hA _ _
      subst hA
      refine .inr ⟨g, 0, rfl, fun j u hu => ?_⟩
      have := h.cells (g := g) rfl j u hu
      rwa [Addr.add_lit] at this
end

/-- the value of a slice of the call's own has n elements -/
theorem own_shape {w : World} {base : Nat} {e : TypeId} {size : Nat} {v : Value} {n : Nat} {xs : List Value} (h : w.ownsRow base e size v n xs) :
    ∃ A c, v = .slice A n c ∧ n ≤ c ∧ c ≤ maxLen ∧ Lies w A xs := by
  rcases h.2 with ⟨rfl, rfl⟩ | ⟨g, cap, cur, rfl, _, _, h1, h2, _⟩
  · exact ⟨none, 0, rfl, Nat.le_refl _, by simp [maxLen], Lies.own h⟩
  · exact ⟨_, cap, rfl, h1, h2, Lies.own h⟩

theorem own_below {w w' : World} {base : Nat} {e : TypeId} {size : Nat} {v : Value} {n : Nat} {xs : List Value} (h : w.ownsRow base e size v n xs) (hb : Below w.heap.size w w') : w'.ownsRow base e size v n xs :=
  h.kept (row := none) ⟨hb.os, hb.tape, hb.output, hb.size, fun k hk _ => hb.block k hk⟩ (by cases hv : v.ownBlock <;> simp)
theorem own_mono {w : World} {base base' : Nat} {e : TypeId} {size : Nat} {v : Value} {n : Nat} {xs : List Value} (h : w.ownsRow base e size v n xs) (hb : base' ≤ base) : w.ownsRow base' e size v n xs := by
  refine ⟨h.1, ?_⟩
  rcases h.2 with hn | ⟨g, cap, cur, hv, hg, rest⟩
  · exact .inl hn
  · exact .inr ⟨g, cap, cur, hv, Nat.le_trans hb hg, rest⟩

section
variable {P : Program} (w : World)

theorem Src.of_lies {size : Nat} {tx e' : TypeId} (hk : P.underlying tx = some (.slice e')) {A : Option Addr} {n : Nat} (c : Nat) {news : List Value} (hl : news.length = n * size) (hA : A = none → n = 0) (h : Lies w A news)
    (h1 : ∀ u ∈ news, u.oneCell' = true) : Src P size tx (.slice A n c) n news w := by
  cases A with
  | none =>
    have := hA rfl
    subst this
    have hn : news = [] := List.eq_nil_of_length_eq_zero (by simpa using hl)
    subst hn
    exact Src.ofNil w hk c
  | some a =>
    refine Src.ofSlice w hk a n c news hl ?_ h1
    intro j u hu
    rcases h with rfl | ⟨b, o, hA', hc⟩
    · simp at hu
    · injection hA' with hA'
      subst hA'
      rw [Addr.add_lit]
      exact hc j u hu

end

/-- a byte as a cell -/
def bv (c : UInt8) : Value := .int .u8 (c.toNat : Int)
/-- a part of a slice of one-cell elements -/
theorem Lies.part {w : World} {A : Option Addr} {xs : List Value} (h : Lies w A xs) {lo hi mx : Nat} (h1 : hi ≤ mx) : Lies w (if mx = lo then A else A.map (·.add lo)) ((xs.take hi).drop lo) := by
  by_cases he : mx = lo
  · refine .inl (List.drop_eq_nil_of_le ?_)
    rw [List.length_take]; omega
  · rw [if_neg he]
    rcases h.take hi with h' | ⟨b, o, rfl, hc⟩
    · rw [h']; exact .inl (by simp)
    · have : Lies w (some ⟨b, o, none⟩) (xs.take hi) := .inr ⟨b, o, rfl, hc⟩
      have := this.drop lo
      simpa [Addr.add_lit] using this

/-- bytes as a string -/
def bstr (l : List UInt8) : ByteArray := ⟨l.toArray⟩
theorem ret_int {k : IntKind} {a b : Int} (h : a = b) : Ending.returned (.int k a) = .returned (.int k b) := by rw [h]
theorem ret_bool {a b : Bool} (h : a = b) : Ending.returned (.bool a) = .returned (.bool b) := by rw [h]

end Go.Proofs.Ytmjjkloeipoefaa
