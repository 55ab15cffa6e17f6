/-
  The functions of symmetries, and those of their specification, with one answer each.
-/
import Derived.Test.YthadlgjobjnhcaaDoorPtv
import Derived.Test.YthadlgjobjnhcaaDoorPtt
import Derived.Test.YthadlgjobjnhcaaDoorPtx
import Derived.Test.YthadlgjobjnhcaaDoorPtz
import Derived.Test.YthadlgjobjnhcaaDoorPrs
import Derived.Test.YthadlgjobjnhcaaDoorPrt
import Derived.Test.YthadlgjobjnhcaaDoorPrm
import Derived.Test.YthadlgjobjnhcaaDoorPrn
import Derived.Test.YthadlgjobjnhcaaDoorPro
import Derived.Handy
namespace Go.Proofs.YthadlgjobjnhcaaDoor
open Go.RowKit
set_option linter.unusedVariables false
def isS (s : Int) : Bool := decide (0 ≤ s ∧ s < 48)
theorem isS_nat {s : Int} (h : isS s = true) : s.toNat < 48 ∧ ((s.toNat : Nat) : Int) = s := by
  have := of_decide_eq_true h
  exact ⟨by omega, Int.toNat_of_nonneg this.1⟩
def tnB : Bool → Int → Nat → Nat → Int → Int → Int → Int
  | true, less, n, i, x, y, z => Pt.tc less n i x y z
  | false, _, _, i, x, y, z => Pt.pick i x y z
def tbB : Bool → Bool → Int → Int → Int
  | false, _, a, _ => a
  | true, true, _, _ => 0
  | true, false, _, m => m
def cmB : Bool → Bool → Nat → Nat → Int
  | true, true, a, c => (Pt.comp a c : Int)
  | true, false, _, _ => -1
  | false, _, _, _ => -1
def ivB : Bool → Nat → Int
  | true, a => (Pt.inv a : Int)
  | false, _ => -1
def mrB : Bool → Nat → Bool
  | true, a => Pt.mirror a
  | false, _ => false
def nmB : Bool → Nat → ByteArray
  | true, a => bstr (Pt.name a)
  | false, _ => bstr []
theorem turn_s (s x1 x2 x3 : Int) (w : World) (hT : Tab w) (b : (-2097152 ≤ x1 ∧ x1 ≤ 2097152) ∧ (-2097152 ≤ x2 ∧ x2 ≤ 2097152) ∧ (-2097152 ≤ x3 ∧ x3 ≤ 2097152)) :
    Calls Tryd.prog 47 #[.int .i64 s, .agg #[.int .i64 x1, .int .i64 x2, .int .i64 x3]] w fun e w' => e = .returned (.agg #[.int .i64 (tnB (isS s) 0 s.toNat 0 x1 x2 x3), .int .i64 (tnB (isS s) 0 s.toNat 1 x1 x2 x3), .int .i64 (tnB (isS s) 0 s.toNat 2 x1 x2 x3)]) ∧ Below w.heap.size w w' := by
  cases h : isS s with
  | true =>
    obtain ⟨h1, h2⟩ := isS_nat h
    have c := turn_any s.toNat x1 x2 x3 w hT h1 b
    rw [h2] at c
    exact c
  | false => exact turn_out s x1 x2 x3 w h
theorem turncell_s (s x1 x2 x3 : Int) (w : World) (hT : Tab w) (b : (-2097152 ≤ x1 ∧ x1 ≤ 2097152) ∧ (-2097152 ≤ x2 ∧ x2 ≤ 2097152) ∧ (-2097152 ≤ x3 ∧ x3 ≤ 2097152)) :
    Calls Tryd.prog 49 #[.int .i64 s, .agg #[.int .i64 x1, .int .i64 x2, .int .i64 x3]] w fun e w' => e = .returned (.agg #[.int .i64 (tnB (isS s) 1 s.toNat 0 x1 x2 x3), .int .i64 (tnB (isS s) 1 s.toNat 1 x1 x2 x3), .int .i64 (tnB (isS s) 1 s.toNat 2 x1 x2 x3)]) ∧ Below w.heap.size w w' := by
  cases h : isS s with
  | true =>
    obtain ⟨h1, h2⟩ := isS_nat h
    have c := turncell_any s.toNat x1 x2 x3 w hT h1 b
    rw [h2] at c
    exact c
  | false => exact turncell_out s x1 x2 x3 w h
theorem turnbox_s (s a1 a2 a3 a4 a5 a6 : Int) (w : World) (hT : Tab w) (b : (-1048575 ≤ a1 ∧ a1 ≤ 1048575) ∧ (-1048575 ≤ a2 ∧ a2 ≤ 1048575) ∧ (-1048575 ≤ a3 ∧ a3 ≤ 1048575) ∧ (-1048575 ≤ a4 ∧ a4 ≤ 1048575) ∧ (-1048575 ≤ a5 ∧ a5 ≤ 1048575) ∧ (-1048575 ≤ a6 ∧ a6 ≤ 1048575)) :
    Calls Tryd.prog 51 #[.int .i64 s, .agg #[.int .i64 a1, .int .i64 a2, .int .i64 a3, .int .i64 a4, .int .i64 a5, .int .i64 a6]] w fun e w' => e = .returned (.agg #[.int .i64 (tbB (isS s) (Pt.emp a1 a2 a3 a4 a5 a6) a1 (min (Pt.tc 0 s.toNat 0 a1 a2 a3) (Pt.tc 0 s.toNat 0 a4 a5 a6))), .int .i64 (tbB (isS s) (Pt.emp a1 a2 a3 a4 a5 a6) a2 (min (Pt.tc 0 s.toNat 1 a1 a2 a3) (Pt.tc 0 s.toNat 1 a4 a5 a6))), .int .i64 (tbB (isS s) (Pt.emp a1 a2 a3 a4 a5 a6) a3 (min (Pt.tc 0 s.toNat 2 a1 a2 a3) (Pt.tc 0 s.toNat 2 a4 a5 a6))), .int .i64 (tbB (isS s) (Pt.emp a1 a2 a3 a4 a5 a6) a4 (max (Pt.tc 0 s.toNat 0 a1 a2 a3) (Pt.tc 0 s.toNat 0 a4 a5 a6))), .int .i64 (tbB (isS s) (Pt.emp a1 a2 a3 a4 a5 a6) a5 (max (Pt.tc 0 s.toNat 1 a1 a2 a3) (Pt.tc 0 s.toNat 1 a4 a5 a6))), .int .i64 (tbB (isS s) (Pt.emp a1 a2 a3 a4 a5 a6) a6 (max (Pt.tc 0 s.toNat 2 a1 a2 a3) (Pt.tc 0 s.toNat 2 a4 a5 a6)))]) ∧ Below w.heap.size w w' := by
  cases h : isS s with
  | true =>
    obtain ⟨h1, h2⟩ := isS_nat h
    cases k : Pt.emp a1 a2 a3 a4 a5 a6 with
    | true =>
      have c := turnbox_t s.toNat a1 a2 a3 a4 a5 a6 w h1 k
      rw [h2] at c
      exact c
    | false =>
      have c := turnbox_f s.toNat a1 a2 a3 a4 a5 a6 w hT h1 (by omega) k
      rw [h2] at c
      exact c
  | false => exact turnbox_out s a1 a2 a3 a4 a5 a6 w h
theorem compose_s (a c : Int) (w : World) (hT : Tab w) :
    Calls Tryd.prog 53 #[.int .i64 a, .int .i64 c] w fun e w' => e = .returned (.int .i64 (cmB (isS a) (isS c) a.toNat c.toNat)) ∧ Below w.heap.size w w' := by
  cases h : isS a with
  | true =>
    obtain ⟨h1, h2⟩ := isS_nat h
    cases k : isS c with
    | true =>
      obtain ⟨k1, k2⟩ := isS_nat k
      have d := compose_any a.toNat c.toNat w hT h1 k1
      rw [h2, k2] at d
      exact d
    | false => exact compose_r a c w h k
  | false => exact compose_l a c w h
theorem invert_s (a : Int) (w : World) (hT : Tab w) :
    Calls Tryd.prog 55 #[.int .i64 a] w fun e w' => e = .returned (.int .i64 (ivB (isS a) a.toNat)) ∧ Below w.heap.size w w' := by
  cases h : isS a with
  | true =>
    obtain ⟨h1, h2⟩ := isS_nat h
    have d := invert_any a.toNat w hT h1
    rw [h2] at d
    exact d
  | false => exact invert_out a w h
theorem mirror_s (a : Int) (w : World) (hT : Tab w) :
    Calls Tryd.prog 57 #[.int .i64 a] w fun e w' => e = .returned (.bool (mrB (isS a) a.toNat)) ∧ Below w.heap.size w w' := by
  cases h : isS a with
  | true =>
    obtain ⟨h1, h2⟩ := isS_nat h
    have d := mirror_any a.toNat w hT h1
    rw [h2] at d
    exact d
  | false => exact mirror_out a w h
theorem name_s (a : Int) (w : World) (hT : Tab w) :
    Calls Tryd.prog 59 #[.int .i64 a] w fun e w' => e = .returned (.string (nmB (isS a) a.toNat)) ∧ Below w.heap.size w w' := by
  cases h : isS a with
  | true =>
    obtain ⟨h1, h2⟩ := isS_nat h
    have d := name_any a.toNat w hT h1
    rw [h2] at d
    exact d
  | false => exact name_out a w h
theorem rturn_s (s x1 x2 x3 : Int) (w : World) (b : (-2097152 ≤ x1 ∧ x1 ≤ 2097152) ∧ (-2097152 ≤ x2 ∧ x2 ≤ 2097152) ∧ (-2097152 ≤ x3 ∧ x3 ≤ 2097152)) :
    Calls Tryd.prog 48 #[.int .i64 s, .agg #[.int .i64 x1, .int .i64 x2, .int .i64 x3]] w fun e w' => e = .returned (.agg #[.int .i64 (tnB (isS s) 0 s.toNat 0 x1 x2 x3), .int .i64 (tnB (isS s) 0 s.toNat 1 x1 x2 x3), .int .i64 (tnB (isS s) 0 s.toNat 2 x1 x2 x3)]) ∧ Below w.heap.size w w' := by
  cases h : isS s with
  | true =>
    obtain ⟨h1, h2⟩ := isS_nat h
    have c := rturn_any s.toNat x1 x2 x3 w h1 b
    rw [h2] at c
    exact c
  | false => exact rturn_out s x1 x2 x3 w h
theorem rturncell_s (s x1 x2 x3 : Int) (w : World) (b : (-2097152 ≤ x1 ∧ x1 ≤ 2097152) ∧ (-2097152 ≤ x2 ∧ x2 ≤ 2097152) ∧ (-2097152 ≤ x3 ∧ x3 ≤ 2097152)) :
    Calls Tryd.prog 50 #[.int .i64 s, .agg #[.int .i64 x1, .int .i64 x2, .int .i64 x3]] w fun e w' => e = .returned (.agg #[.int .i64 (tnB (isS s) 1 s.toNat 0 x1 x2 x3), .int .i64 (tnB (isS s) 1 s.toNat 1 x1 x2 x3), .int .i64 (tnB (isS s) 1 s.toNat 2 x1 x2 x3)]) ∧ Below w.heap.size w w' := by
  cases h : isS s with
  | true =>
    obtain ⟨h1, h2⟩ := isS_nat h
    have c := rturncell_any s.toNat x1 x2 x3 w h1 b
    rw [h2] at c
    exact c
  | false => exact rturncell_out s x1 x2 x3 w h
theorem rturnbox_s (s a1 a2 a3 a4 a5 a6 : Int) (w : World) (b : (-1048575 ≤ a1 ∧ a1 ≤ 1048575) ∧ (-1048575 ≤ a2 ∧ a2 ≤ 1048575) ∧ (-1048575 ≤ a3 ∧ a3 ≤ 1048575) ∧ (-1048575 ≤ a4 ∧ a4 ≤ 1048575) ∧ (-1048575 ≤ a5 ∧ a5 ≤ 1048575) ∧ (-1048575 ≤ a6 ∧ a6 ≤ 1048575)) :
    Calls Tryd.prog 52 #[.int .i64 s, .agg #[.int .i64 a1, .int .i64 a2, .int .i64 a3, .int .i64 a4, .int .i64 a5, .int .i64 a6]] w fun e w' => e = .returned (.agg #[.int .i64 (tbB (isS s) (Pt.emp a1 a2 a3 a4 a5 a6) a1 (min (Pt.tc 0 s.toNat 0 a1 a2 a3) (Pt.tc 0 s.toNat 0 a4 a5 a6))), .int .i64 (tbB (isS s) (Pt.emp a1 a2 a3 a4 a5 a6) a2 (min (Pt.tc 0 s.toNat 1 a1 a2 a3) (Pt.tc 0 s.toNat 1 a4 a5 a6))), .int .i64 (tbB (isS s) (Pt.emp a1 a2 a3 a4 a5 a6) a3 (min (Pt.tc 0 s.toNat 2 a1 a2 a3) (Pt.tc 0 s.toNat 2 a4 a5 a6))), .int .i64 (tbB (isS s) (Pt.emp a1 a2 a3 a4 a5 a6) a4 (max (Pt.tc 0 s.toNat 0 a1 a2 a3) (Pt.tc 0 s.toNat 0 a4 a5 a6))), .int .i64 (tbB (isS s) (Pt.emp a1 a2 a3 a4 a5 a6) a5 (max (Pt.tc 0 s.toNat 1 a1 a2 a3) (Pt.tc 0 s.toNat 1 a4 a5 a6))), .int .i64 (tbB (isS s) (Pt.emp a1 a2 a3 a4 a5 a6) a6 (max (Pt.tc 0 s.toNat 2 a1 a2 a3) (Pt.tc 0 s.toNat 2 a4 a5 a6)))]) ∧ Below w.heap.size w w' := by
  cases h : isS s with
  | true =>
    obtain ⟨h1, h2⟩ := isS_nat h
    cases k : Pt.emp a1 a2 a3 a4 a5 a6 with
    | true =>
      have c := rturnbox_t s.toNat a1 a2 a3 a4 a5 a6 w h1 k
      rw [h2] at c
      exact c
    | false =>
      have c := rturnbox_f s.toNat a1 a2 a3 a4 a5 a6 w h1 (by omega) k
      rw [h2] at c
      exact c
  | false => exact rturnbox_out s a1 a2 a3 a4 a5 a6 w h
theorem rcompose_s (a c : Int) (w : World) :
    Calls Tryd.prog 54 #[.int .i64 a, .int .i64 c] w fun e w' => e = .returned (.int .i64 (cmB (isS a) (isS c) a.toNat c.toNat)) ∧ Below w.heap.size w w' := by
  cases h : isS a with
  | true =>
    obtain ⟨h1, h2⟩ := isS_nat h
    cases k : isS c with
    | true =>
      obtain ⟨k1, k2⟩ := isS_nat k
      have d := rcompose_any a.toNat c.toNat w h1 k1
      rw [h2, k2] at d
      exact d
    | false => exact rcompose_rf a c w h k
  | false => cases k : isS c with
    | true => exact rcompose_lt a c w h k
    | false => exact rcompose_lf a c w h k
theorem rinvert_s (a : Int) (w : World) :
    Calls Tryd.prog 56 #[.int .i64 a] w fun e w' => e = .returned (.int .i64 (ivB (isS a) a.toNat)) ∧ Below w.heap.size w w' := by
  cases h : isS a with
  | true =>
    obtain ⟨h1, h2⟩ := isS_nat h
    have d := rinvert_any a.toNat w h1
    rw [h2] at d
    exact d
  | false => exact rinvert_out a w h
theorem rmirror_s (a : Int) (w : World) :
    Calls Tryd.prog 58 #[.int .i64 a] w fun e w' => e = .returned (.bool (mrB (isS a) a.toNat)) ∧ Below w.heap.size w w' := by
  cases h : isS a with
  | true =>
    obtain ⟨h1, h2⟩ := isS_nat h
    have d := rmirror_any a.toNat w h1
    rw [h2] at d
    exact d
  | false => exact rmirror_out a w h
theorem rname_s (a : Int) (w : World) :
    Calls Tryd.prog 60 #[.int .i64 a] w fun e w' => e = .returned (.string (nmB (isS a) a.toNat)) ∧ Below w.heap.size w w' := by
  cases h : isS a with
  | true =>
    obtain ⟨h1, h2⟩ := isS_nat h
    have d := rname_any a.toNat w h1
    rw [h2] at d
    exact d
  | false => exact rname_out a w h

end Go.Proofs.YthadlgjobjnhcaaDoor
