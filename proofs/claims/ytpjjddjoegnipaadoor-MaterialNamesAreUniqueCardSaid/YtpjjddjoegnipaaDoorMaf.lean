/-
  Where slices of the call's own and blocks lie.
-/
import Derived.Test.YtpjjddjoegnipaaDoorMae
namespace Go.Proofs.YtpjjddjoegnipaaDoor
open Go Go.RowKit
set_option linter.unusedVariables false
theorem own_adr {w : World} {e : TypeId} {A : Option Addr} {n c size : Nat} {xs : List Value} (h : w.ownsRow 0 e size (.slice A n c) n xs) (h0 : 0 < n) : n ≤ c ∧ ∃ g, A = some ⟨g, 0, none⟩ ∧ g < w.heap.size := by
  rcases h.2 with ⟨_, hn⟩ | ⟨g, cap, cur, hv, _, hg, h1, _⟩
  · omega
  · injection hv with hA _ hc
    subst hc
    exact ⟨h1, g, hA, (Array.getElem?_eq_some_iff.1 hg).1⟩
theorem blk_lt {w0 w : World} {F : Nat → Prop} {L : List HP} {g : Nat} {t : TypeId} {cs : List Value} (h : St w0 F L w) (i : Nat) (hL : L[i]? = some (blk g t cs)) : g < w.heap.size := (Array.getElem?_eq_some_iff.1 (h.heap i hL)).1
end Go.Proofs.YtpjjddjoegnipaaDoor
