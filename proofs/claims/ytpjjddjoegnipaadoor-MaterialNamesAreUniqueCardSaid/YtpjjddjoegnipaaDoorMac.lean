/-
  The table of kinds in memory; what a name's kind is, field by field. Lemmas on names.
-/
import Derived.Test.YtpjjddjoegnipaaDoorMab
namespace Go.Proofs.YtpjjddjoegnipaaDoor
open Go Go.RowKit
set_option linter.unusedVariables false
/-- the program's table of kinds lies -/
def Kt (w : World) : Prop := w.rangeAt 0 0 [.string (bstr Ma.wGas), .bool false, .bool false, .bool false, .string (bstr Ma.wSolid), .bool true, .bool false, .bool false, .string (bstr Ma.wFalling), .bool true, .bool false, .bool true, .string (bstr Ma.wLiquid), .bool false, .bool true, .bool false]
theorem Kt.gr {w w' : World} (h : Kt w) (g : Gr w w') : Kt w' := fun j v hj => (g.cell (World.block_lt_of_cell? w _ (h j v hj))).trans (h j v hj)
namespace Ma
def kdn (s l f : Bool) : By := (kd s l f).getD []
def kN (x : By) : By := if (kn x).isSome then x else []
def kS (x : By) : Bool := ((kn x).getD (false, false, false)).1
def kL (x : By) : Bool := ((kn x).getD (false, false, false)).2.1
def kF (x : By) : Bool := ((kn x).getD (false, false, false)).2.2
theorem kn_none {x : By} (h1 : ¬ x = wGas) (h2 : ¬ x = wSolid) (h3 : ¬ x = wFalling) (h4 : ¬ x = wLiquid) : kn x = none := by
  unfold kn; rw [if_neg h1, if_neg h2, if_neg h3, if_neg h4]
theorem okc_letter {x : By} {k : Nat} (h : letter (byt x k) = true) : okc x k = true := by unfold okc; rw [h]; rfl
theorem okc_inner {x : By} {k : Nat} (h : byt x k = 45) (h0 : k ≠ 0) (h1 : k + 1 ≠ x.length) : okc x k = true := by unfold okc; rw [h, decide_eq_true h0, decide_eq_true h1]; rfl
theorem okc_no {x : By} {k : Nat} (h : letter (byt x k) = false) (h1 : byt x k ≠ 45 ∨ k = 0 ∨ k + 1 = x.length) : okc x k = false := by
  unfold okc; rw [h]
  rcases h1 with h1 | h1 | h1
  · rw [decide_eq_false h1]; rfl
  · rw [h1]; simp
  · rw [h1]; simp
theorem u8_eq {a b : UInt8} (h : (a.toNat : Int) = (b.toNat : Int)) : a = b := UInt8.toNat_inj.1 (by omega)
theorem is45 {a : UInt8} : (a.toNat : Int) = 45 ↔ a = 45 := ⟨fun h => u8_eq (b := 45) (by rw [h]; rfl), fun h => by rw [h]; rfl⟩
theorem letter_iff {b : UInt8} : letter b = true ↔ 97 ≤ (b.toNat : Int) ∧ (b.toNat : Int) ≤ 122 := by
  unfold letter; simp; omega
theorem nameOk_short {x : By} (h : ¬ (1 ≤ x.length ∧ x.length ≤ 32)) : nameOk x = false := by
  unfold nameOk
  rcases Classical.em (1 ≤ x.length) with h1 | h1
  · have h2 : ¬ x.length ≤ 32 := fun h2 => h ⟨h1, h2⟩
    rw [decide_eq_false h2]; simp
  · rw [decide_eq_false h1]; rfl
theorem nameOk_bad {x : By} {k : Nat} (hk : k ≤ ff (okc x) x.length) (h : k < x.length) (hc : okc x k = false) : nameOk x = false := by
  unfold nameOk
  rw [ff_hit hk h hc, decide_eq_false (show ¬ k = x.length by omega)]; simp
theorem nameOk_good {x : By} (h1 : 1 ≤ x.length) (h2 : x.length ≤ 32) (hk : x.length ≤ ff (okc x) x.length) : nameOk x = true := by
  unfold nameOk
  rw [ff_end hk, decide_eq_true h1, decide_eq_true h2]; simp
end Ma
end Go.Proofs.YtpjjddjoegnipaaDoor
