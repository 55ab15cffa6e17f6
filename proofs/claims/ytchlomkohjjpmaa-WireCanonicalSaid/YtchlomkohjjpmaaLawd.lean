/-
  voxellaw01.WireCanonical, its walk: what is decoded and encoded again is what was consumed.
-/
import Derived.Test.YtchlomkohjjpmaaLawc
namespace Go.Proofs.Ytchlomkohjjpmaa
open Go.RowKit

theorem cell_new (w : World) (v : Value) (t : TypeId) : (w.alloc (.cells #[v] t)).cell? ⟨w.heap.size, 0, none⟩ = some v := by
  rw [cell_of_row _ _ _ _ _ _ (heap_alloc_last w _)]; rfl

set_option maxRecDepth 1000000 in
set_option maxHeartbeats 1000000 in
theorem canonical_big (A : Option Addr) (n c : Nat) (w : World) (h : 2000 < n) :
    Calls Try.prog 7 #[.slice A n c] w fun e w' => e = .returned (.bool true) ∧ Below w.heap.size w w' := by
  go_enter Try.func7, Try.ntmps7
  go_wp2_with fail
  refine (sanity_any _).mono ?_
  rintro e w1 ⟨rfl, hb⟩
  go_wp2_with fail
  go_ret
  exact ⟨rfl, (below_alloc w _).trans (hb.mono (by simp))⟩

set_option maxRecDepth 1000000 in
set_option maxHeartbeats 2000000 in
theorem canonical_small (l : List UInt8) (A : Option Addr) (n c : Nat) (w : World) (h : n ≤ 2000) (hn : l.length = n) (hnc : n ≤ c) (hl : Lies w A (l.map bv)) :
    Calls Try.prog 7 #[.slice A n c] w fun e w' => e = .returned (.bool true) ∧ Below w.heap.size w w' := by
  have hmf : ∀ (fn : Fn) (first cap : Array Value) (w : World), (Instr.makeFunc fn first cap).run Try.prog w = .ok (.func fn first cap) w := fun _ _ _ _ => rfl
  have HN := Lib.hid hn
  have HL := Lib.hid (hl.alloc (.cells #[.slice A n c] 28))
  have hg := cell_new w (.slice A n c) 28
  have HW := Lib.hid (below_alloc w (.cells #[.slice A n c] 28))
  -- the five decoders
  have C1 := fun (W : World) (hW : Lies W A (l.map bv)) => getInt_any l A n c W hn (by omega) hW
  have C2 := fun (W : World) (hW : Lies W A (l.map bv)) => getBytes_any l A n c W hn (by omega) hW hnc
  have C3 := fun (W : World) (hW : Lies W A (l.map bv)) => getInts_any l A n c W hn (by omega) hW hnc
  have C4 := fun (W : World) (hW : Lies W A (l.map bv)) => getStrings_any l A n c W hn (by omega) hW hnc
  have C5 := fun (W : World) (hW : Lies W A (l.map bv)) => getDigests_any l A n c W hn (by omega) hW hnc
  have a1 := again_int l
  have a2 := again_str l
  obtain ⟨a3, f3, n3⟩ := again_ints l
  obtain ⟨a4, f4, n4⟩ := again_strs l
  obtain ⟨a5, f5, n5⟩ := again_digs l
  obtain ⟨r1, r2⟩ := @Wm.getI_bd l
  have u1 := (@Wm.getI_used l).1
  have u2 := Wm.getS_used l
  have sl : (Wm.getS l).1.length ≤ l.length := by
    unfold Wm.getS
    split
    · simp
    · simp only [List.length_take, List.length_drop]; omega
  rw [hn] at n3 n4 n5 f4 u1 u2 sl
  generalize Wm.getI l = R1 at *
  generalize Wm.getS l = R2 at *
  generalize Wm.getL 1 Wm.getI l = R3 at *
  generalize Wm.getL 1 Wm.getS l = R4 at *
  generalize Wm.getL 16 Wm.getD l = R5 at *
  obtain ⟨x1, v1, e1⟩ := R1
  obtain ⟨x2, v2, e2⟩ := R2
  obtain ⟨x3, v3, e3⟩ := R3
  obtain ⟨x4, v4, e4⟩ := R4
  obtain ⟨x5, v5, e5⟩ := R5
  simp only at a1 a2 a3 a4 a5 f3 f4 f5 n3 n4 n5 r1 r2 u1 u2 sl
  have AA1 := Lib.hid a1
  have AA2 := Lib.hid a2
  have AA3 := Lib.hid a3
  have AA4 := Lib.hid a4
  have AA5 := Lib.hid a5
  have F3 := Lib.hid f3
  have F5 := Lib.hid f5
  have CC1 := Lib.hid C1
  have CC2 := Lib.hid C2
  have CC3 := Lib.hid C3
  have CC4 := Lib.hid C4
  have CC5 := Lib.hid C5
  clear a1 a2 a3 a4 a5 f3 f5 C1 C2 C3 C4 C5 hn hl
  go_enter Try.func7, Try.ntmps7
  go_wp2_with fail
  refine (CC1.out _ HL.out).mono ?_
  rintro e w1 ⟨rfl, rfl⟩
  clear CC1
  go_wp2_with fail
  refine (CC2.out _ HL.out).mono ?_
  rintro e w1 ⟨rfl, rfl⟩
  clear CC2
  go_wp2_with fail
  refine (CC3.out _ HL.out).mono ?_
  rintro e w3 ⟨q3, rfl, o3, b3⟩
  obtain ⟨A3, c3, rfl, _, _, l3⟩ := own_shape o3
  have L3 := Lib.hid l3
  have HL := Lib.hid (HL.out.below b3)
  have hg : w3.cell? ⟨w.heap.size, 0, none⟩ = some (.slice A n c) := (b3.cell (by simp)).trans hg
  have z3 := b3.size
  have HW := Lib.hid (HW.out.trans (b3.mono (by simp)))
  have zz3 := HW.out.size
  clear CC3 o3 b3 l3
  go_wp2_with fail
  refine (CC4.out _ HL.out).mono ?_
  rintro e w4 ⟨q4, rfl, o4, b4⟩
  obtain ⟨A4, c4, rfl, _, _, l4⟩ := own_shape o4
  have L4 := Lib.hid l4
  have L3 := Lib.hid (L3.out.below b4)
  have HL := Lib.hid (HL.out.below b4)
  have hg4 : w4.cell? ⟨w.heap.size, 0, none⟩ = some (.slice A n c) := (b4.cell (by simp at z3; show w.heap.size < _; omega)).trans hg
  have HW := Lib.hid (HW.out.trans (b4.mono zz3))
  have z4 := b4.size
  clear CC4 o4 b4 l4 hg
  go_wp2_with fail
  refine (CC5.out _ HL.out).mono ?_
  rintro e w5 ⟨q5, rfl, o5, b5⟩
  obtain ⟨A5, c5, rfl, _, _, l5⟩ := own_shape o5
  have L5 := Lib.hid l5
  have L4 := Lib.hid (L4.out.below b5)
  have L3 := Lib.hid (L3.out.below b5)
  have HL := Lib.hid (HL.out.below b5)
  have zg : w.heap.size < w4.heap.size := by simp at z3; omega
  have HG := Lib.hid ((b5.cell (p := ⟨w.heap.size, 0, none⟩) zg).trans hg4)
  have HW := Lib.hid (HW.out.trans (b5.mono (by omega)))
  have z5 := b5.size
  have zg5 : w.heap.size < w5.heap.size := by omega
  clear CC5 o5 b5 l5 hg4 z3 zz3 z4 z5 zg
  go_wp2_with fail
  refine (sanity_any w5).mono ?_
  rintro e w6 ⟨rfl, b6⟩
  have L5 := Lib.hid (L5.out.below b6)
  have L4 := Lib.hid (L4.out.below b6)
  have L3 := Lib.hid (L3.out.below b6)
  have HL := Lib.hid (HL.out.below b6)
  have HG := Lib.hid ((b6.cell (p := ⟨w.heap.size, 0, none⟩) zg5).trans HG.out)
  have HW := Lib.hid (HW.out.trans (b6.mono (by omega)))
  have zg6 : w.heap.size < w6.heap.size := by have := b6.size; omega
  clear b6 zg5
  go_wp2_with fail
  refine (int_any x1 w6 r1 r2).mono ?_
  rintro e w7 ⟨q, rfl, o7, b7⟩
  obtain ⟨B7, d7, rfl, _, _, m7⟩ := own_shape o7
  have M7 := Lib.hid m7
  have L5 := Lib.hid (L5.out.below b7)
  have L4 := Lib.hid (L4.out.below b7)
  have L3 := Lib.hid (L3.out.below b7)
  have HL := Lib.hid (HL.out.below b7)
  have HG := Lib.hid ((b7.cell (p := ⟨w.heap.size, 0, none⟩) zg6).trans HG.out)
  have HW := Lib.hid (HW.out.trans (b7.mono (by omega)))
  have zw7 : w.heap.size < w7.heap.size := by have := b7.size; omega
  clear b7 o7 m7 zg6
  go_wp2_with fail
  refine (is_any l (Wm.encI x1) A B7 n c (Wm.encI x1).length d7 w.heap.size v1 e1 w7 HN.out rfl AA1.out hnc HL.out M7.out HG.out).mono ?_
  rintro e w' ⟨rfl, rfl⟩
  clear M7
  go_wp2_with fail
  refine (bytes_any (bstr x2) w7 (by rw [bstr_size]; omega)).mono ?_
  rintro e w8 ⟨q, rfl, o8, b8⟩
  obtain ⟨B8, d8, rfl, _, _, m8⟩ := own_shape o8
  have M8 := Lib.hid m8
  have L5 := Lib.hid (L5.out.below b8)
  have L4 := Lib.hid (L4.out.below b8)
  have L3 := Lib.hid (L3.out.below b8)
  have HL := Lib.hid (HL.out.below b8)
  have HG := Lib.hid ((b8.cell (p := ⟨w.heap.size, 0, none⟩) zw7).trans HG.out)
  have HW := Lib.hid (HW.out.trans (b8.mono (by omega)))
  have zw8 : w.heap.size < w8.heap.size := by have := b8.size; omega
  clear b8 o8 m8 zw7
  go_wp2_with fail
  refine (is_any l (Wm.encS x2) A B8 n c (Wm.encS x2).length d8 w.heap.size v2 e2 w8 HN.out rfl AA2.out hnc HL.out M8.out HG.out).mono ?_
  rintro e w' ⟨rfl, rfl⟩
  clear M8
  go_wp2_with fail
  refine (ints_any x3 A3 x3.length c3 w8 rfl F3.out L3.out (by have := Wm.encIs_len x3 F3.out (by omega); omega) (by omega)).mono ?_
  rintro e w9 ⟨q, rfl, o9, b9⟩
  obtain ⟨B9, d9, rfl, _, _, m9⟩ := own_shape o9
  have M9 := Lib.hid m9
  have L5 := Lib.hid (L5.out.below b9)
  have L4 := Lib.hid (L4.out.below b9)
  have HL := Lib.hid (HL.out.below b9)
  have HG := Lib.hid ((b9.cell (p := ⟨w.heap.size, 0, none⟩) zw8).trans HG.out)
  have HW := Lib.hid (HW.out.trans (b9.mono (by omega)))
  have zw9 : w.heap.size < w9.heap.size := by have := b9.size; omega
  clear b9 o9 m9 zw8 L3
  go_wp2_with fail
  refine (is_any l (Wm.encIs x3) A B9 n c (Wm.encIs x3).length d9 w.heap.size v3 e3 w9 HN.out rfl AA3.out hnc HL.out M9.out HG.out).mono ?_
  rintro e w' ⟨rfl, rfl⟩
  clear M9
  go_wp2_with fail
  refine (strings_any x4 A4 x4.length c4 w9 rfl L4.out (by omega) (by omega)).mono ?_
  rintro e w10 ⟨q, rfl, o10, b10⟩
  obtain ⟨B10, d10, rfl, _, _, m10⟩ := own_shape o10
  have M10 := Lib.hid m10
  have L5 := Lib.hid (L5.out.below b10)
  have HL := Lib.hid (HL.out.below b10)
  have HG := Lib.hid ((b10.cell (p := ⟨w.heap.size, 0, none⟩) zw9).trans HG.out)
  have HW := Lib.hid (HW.out.trans (b10.mono (by omega)))
  have zw10 : w.heap.size < w10.heap.size := by have := b10.size; omega
  clear b10 o10 m10 zw9 L4
  go_wp2_with fail
  refine (is_any l (Wm.encSs x4) A B10 n c (Wm.encSs x4).length d10 w.heap.size v4 e4 w10 HN.out rfl AA4.out hnc HL.out M10.out HG.out).mono ?_
  rintro e w' ⟨rfl, rfl⟩
  clear M10
  go_wp2_with fail
  refine (digests_any x5 A5 x5.length c5 w10 rfl F5.out L5.out (by omega)).mono ?_
  rintro e w11 ⟨q, rfl, o11, b11⟩
  obtain ⟨B11, d11, rfl, _, _, m11⟩ := own_shape o11
  have M11 := Lib.hid m11
  have HL := Lib.hid (HL.out.below b11)
  have HG := Lib.hid ((b11.cell (p := ⟨w.heap.size, 0, none⟩) zw10).trans HG.out)
  have HW := Lib.hid (HW.out.trans (b11.mono (by omega)))
  have zw11 : w.heap.size < w11.heap.size := by have := b11.size; omega
  clear b11 o11 m11 zw10 L5
  go_wp2_with fail
  refine (is_any l (Wm.encDs x5) A B11 n c (Wm.encDs x5).length d11 w.heap.size v5 e5 w11 HN.out rfl AA5.out hnc HL.out M11.out HG.out).mono ?_
  rintro e w' ⟨rfl, rfl⟩
  clear M11
  go_wp2_with fail
  go_ret
  exact ⟨by simp, HW.out⟩

end Go.Proofs.Ytchlomkohjjpmaa
