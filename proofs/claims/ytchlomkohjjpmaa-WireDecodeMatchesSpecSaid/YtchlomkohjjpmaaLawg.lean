/-
  voxellaw01.WireDecodeMatchesSpec, its walk: each decoder answers as the reference does.
-/
import Derived.Test.YtchlomkohjjpmaaRefe
import Derived.Test.YtchlomkohjjpmaaLawc
namespace Go.Proofs.Ytchlomkohjjpmaa
open Go.RowKit

set_option maxRecDepth 1000000 in
set_option maxHeartbeats 1000000 in
theorem decode_big (A : Option Addr) (n c : Nat) (w : World) (h : 2000 < n) :
    Calls Try.prog 4 #[.slice A n c] w fun e w' => e = .returned (.bool true) ∧ Below w.heap.size w w' := by
  go_enter Try.func4, Try.ntmps4
  go_wp2_with fail
  refine (sanity_any _).mono ?_
  rintro e w1 ⟨rfl, hb⟩
  go_wp2_with fail
  go_ret
  exact ⟨rfl, hb⟩

set_option maxRecDepth 1000000 in
set_option maxHeartbeats 2000000 in
theorem decode_small (l : List UInt8) (A : Option Addr) (n c : Nat) (w : World) (h : n ≤ 2000) (hn : l.length = n) (hnc : n ≤ c) (hl : Lies w A (l.map bv)) :
    Calls Try.prog 4 #[.slice A n c] w fun e w' => e = .returned (.bool true) ∧ Below w.heap.size w w' := by
  have HL := Lib.hid hl
  have C1 := Lib.hid (getInt_any l A n c w hn (by omega) hl)
  have D1 := Lib.hid (refGetInt_any l A n c w hn (by omega) hl)
  have C2 := Lib.hid (getBytes_any l A n c w hn (by omega) hl hnc)
  have D2 := Lib.hid (refGetBytes_any l A n c w hn (by omega) hl hnc)
  have C3 := Lib.hid (getInts_any l A n c w hn (by omega) hl hnc)
  have D3 := Lib.hid (fun (W : World) (hW : Lies W A (l.map bv)) => refGetInts_any l A n c W hn (by omega) hW hnc)
  have C4 := Lib.hid (fun (W : World) (hW : Lies W A (l.map bv)) => getStrings_any l A n c W hn (by omega) hW hnc)
  have D4 := Lib.hid (fun (W : World) (hW : Lies W A (l.map bv)) => refGetStrings_any l A n c W hn (by omega) hW hnc)
  have C5 := Lib.hid (fun (W : World) (hW : Lies W A (l.map bv)) => getDigests_any l A n c W hn (by omega) hW hnc)
  have D5 := Lib.hid (fun (W : World) (hW : Lies W A (l.map bv)) => refGetDigests_any l A n c W hn (by omega) hW hnc)
  have n3 := (again_ints l).2.2
  have n4 := (again_strs l).2.2
  have n5 := (again_digs l).2.2
  have F5 := Lib.hid (again_digs l).2.1
  rw [hn] at n3 n4 n5
  clear hn hl
  generalize Wm.getI l = R1 at *
  generalize Wm.getS l = R2 at *
  generalize Wm.getL 1 Wm.getI l = R3 at *
  generalize Wm.getL 1 Wm.getS l = R4 at *
  generalize Wm.getL 16 Wm.getD l = R5 at *
  obtain ⟨x1, v1, e1⟩ := R1
  obtain ⟨x2, v2, e2⟩ := R2
  obtain ⟨x3, v3, e3⟩ := R3
  obtain ⟨x4, v4, e4⟩ := R4
  obtain ⟨x5, v5, e5⟩ := R5
  have ee : ∀ x : Int, (x != x) = false := fun x => by simp
  have eb : ∀ x : Int, (x == x) = true := fun x => by simp
  go_enter Try.func4, Try.ntmps4
  go_wp2_with fail
  refine C1.out.mono ?_
  rintro e w' ⟨rfl, rfl⟩
  clear C1
  go_wp2_with fail
  refine D1.out.mono ?_
  rintro e w' ⟨rfl, rfl⟩
  clear D1
  have g1 := ee x1
  have g2 := ee (v1 : Int)
  have g3 := ee e1
  go_wp2_with fail
  refine C2.out.mono ?_
  rintro e w' ⟨rfl, rfl⟩
  clear C2
  go_wp2_with fail
  refine D2.out.mono ?_
  rintro e w' ⟨rfl, rfl⟩
  clear D2 g1 g2 g3
  have g2 := ee (v2 : Int)
  have g3 := ee e2
  go_wp2_with fail
  refine C3.out.mono ?_
  rintro e wa3 ⟨q, rfl, o, b⟩
  obtain ⟨A3, c3, rfl, _, _, m⟩ := own_shape o
  have M := Lib.hid m
  have HL := Lib.hid (HL.out.below b)
  have HW := Lib.hid b
  have z3 := HW.out.size
  clear b o m C3
  clear g2 g3
  go_wp2_with fail
  refine (D3.out _ HL.out).mono ?_
  rintro e wb3 ⟨q, rfl, o, b⟩
  obtain ⟨B3, d3, rfl, _, _, m⟩ := own_shape o
  have Q := Lib.hid m
  have M := Lib.hid (M.out.below b)
  have HL := Lib.hid (HL.out.below b)
  have HW := Lib.hid (HW.out.trans (b.mono z3))
  have z := HW.out.size
  clear b o m D3 z3
  have g2 := ee (v3 : Int)
  have g3 := ee e3
  go_wp2_with fail
  refine (sameInts_any x3 A3 B3 _ _ c3 d3 wb3 rfl rfl (by omega) M.out Q.out).mono ?_
  rintro e wc3 ⟨rfl, b⟩
  have HL := Lib.hid (HL.out.below b)
  have HW := Lib.hid (HW.out.trans (b.mono z))
  have z := HW.out.size
  clear b M Q
  go_wp2_with fail
  refine (C4.out _ HL.out).mono ?_
  rintro e wa4 ⟨q, rfl, o, b⟩
  obtain ⟨A4, c4, rfl, _, _, m⟩ := own_shape o
  have M := Lib.hid m
  have HL := Lib.hid (HL.out.below b)
  have HW := Lib.hid (HW.out.trans (b.mono z))
  have z4 := HW.out.size
  clear b o m C4 z
  go_wp2_with fail
  refine (D4.out _ HL.out).mono ?_
  rintro e wb4 ⟨q, rfl, o, b⟩
  obtain ⟨B4, d4, rfl, _, _, m⟩ := own_shape o
  have Q := Lib.hid m
  have M := Lib.hid (M.out.below b)
  have HL := Lib.hid (HL.out.below b)
  have HW := Lib.hid (HW.out.trans (b.mono z4))
  have z := HW.out.size
  clear b o m D4 z4
  have g2 := ee (v4 : Int)
  have g3 := ee e4
  go_wp2_with fail
  refine (sameTexts_any x4 A4 B4 _ _ c4 d4 wb4 rfl rfl (by omega) M.out Q.out).mono ?_
  rintro e wc4 ⟨rfl, b⟩
  have HL := Lib.hid (HL.out.below b)
  have HW := Lib.hid (HW.out.trans (b.mono z))
  have z := HW.out.size
  clear b M Q
  go_wp2_with fail
  refine (C5.out _ HL.out).mono ?_
  rintro e wa5 ⟨q, rfl, o, b⟩
  obtain ⟨A5, c5, rfl, _, _, m⟩ := own_shape o
  have M := Lib.hid m
  have HL := Lib.hid (HL.out.below b)
  have HW := Lib.hid (HW.out.trans (b.mono z))
  have z5 := HW.out.size
  clear b o m C5 z
  go_wp2_with fail
  refine (D5.out _ HL.out).mono ?_
  rintro e wb5 ⟨q, rfl, o, b⟩
  obtain ⟨B5, d5, rfl, _, _, m⟩ := own_shape o
  have Q := Lib.hid m
  have M := Lib.hid (M.out.below b)
  have HL := Lib.hid (HL.out.below b)
  have HW := Lib.hid (HW.out.trans (b.mono z5))
  have z := HW.out.size
  clear b o m D5 z5
  clear g2 g3
  have g2 := eb (v5 : Int)
  have g3 := eb e5
  go_wp2_with fail
  refine (sanity_any wb5).mono ?_
  rintro e w6 ⟨rfl, b⟩
  have M := Lib.hid (M.out.below b)
  have Q := Lib.hid (Q.out.below b)
  have HW := Lib.hid (HW.out.trans (b.mono z))
  have z := HW.out.size
  clear b HL
  go_wp2_with fail
  refine (sameDigests_any x5 A5 B5 _ _ c5 d5 w6 rfl rfl F5.out (by omega) M.out Q.out).mono ?_
  rintro e w7 ⟨rfl, b⟩
  have HW := Lib.hid (HW.out.trans (b.mono z))
  clear b M Q
  go_wp2_with fail
  go_ret
  exact ⟨rfl, HW.out⟩

end Go.Proofs.Ytchlomkohjjpmaa
