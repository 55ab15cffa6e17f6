/-
  voxellaw01.WireListRoundTrip, its walk: decoding gives the value and the length of its encoding, whatever follows.
-/
import Derived.Test.YtchlomkohjjpmaaFew
import Derived.Test.YtchlomkohjjpmaaRefa
namespace Go.Proofs.Ytchlomkohjjpmaa
open Go.RowKit

set_option maxRecDepth 1000000 in
set_option maxHeartbeats 1000000 in
theorem listTrip_big (s : ByteArray) (A1 A2 A3 A4 : Option Addr) (n1 c1 n2 c2 n3 c3 n4 c4 : Nat) (w : World) (h : 2000 < s.size + n1 + n3 + n4) (h1 : s.size ≤ 140737488355328) (h2 : n1 ≤ 140737488355328) (h3 : n3 ≤ 140737488355328) (h4 : n4 ≤ 140737488355328) :
    Calls Try.prog 8 #[.string s, .slice A1 n1 c1, .slice A2 n2 c2, .slice A3 n3 c3, .slice A4 n4 c4] w fun e w' => e = .returned (.bool true) ∧ Below w.heap.size w w' := by
  have hx : (2000 : Int) < (s.size : Int) + (n1 : Int) + (n3 : Int) + (n4 : Int) := by omega
  go_enter Try.func8, Try.ntmps8
  go_wp2_with fail
  refine (sanity_any w).mono ?_
  rintro e w1 ⟨rfl, hb⟩
  go_wp2_with fail
  go_ret
  exact ⟨rfl, hb⟩

set_option maxRecDepth 1000000 in
set_option maxHeartbeats 1000000 in
theorem listTrip_many (s : ByteArray) (l2 : List (List UInt8)) (A1 A2 A3 A4 : Option Addr) (n1 c1 n2 c2 n3 c3 n4 c4 : Nat) (w : World) (h : s.size + n1 + n3 + n4 ≤ 2000) (hn2 : l2.length = n2) (ht : total l2 ≤ 1099511627776) (hbig : 2000 < total l2) (hl2 : Lies w A2 (l2.map sv)) :
    Calls Try.prog 8 #[.string s, .slice A1 n1 c1, .slice A2 n2 c2, .slice A3 n3 c3, .slice A4 n4 c4] w fun e w' => e = .returned (.bool true) ∧ Below w.heap.size w w' := by
  have hx : ¬ (2000 : Int) < (s.size : Int) + (n1 : Int) + (n3 : Int) + (n4 : Int) := by omega
  have C := few_any l2 A2 n2 c2 w hn2 ht hl2
  rw [show decide (total l2 ≤ 2000) = false from by simp; omega] at C
  have HC := Lib.hid C
  clear C hl2 hn2 ht hbig
  go_enter Try.func8, Try.ntmps8
  go_wp2_with fail
  refine HC.out.mono ?_
  rintro e w1 ⟨rfl, rfl⟩
  go_wp2_with fail
  refine (sanity_any w).mono ?_
  rintro e w1 ⟨rfl, hb⟩
  go_wp2_with fail
  go_ret
  exact ⟨rfl, hb⟩

/-- the mathematics of the four round trips -/
theorem trips (s tail : List UInt8) (l1 : List Int) (l2 l3 : List (List UInt8)) (hs : s.length ≤ 2000) (h1 : l1.length ≤ 2000) (hf1 : Fits l1) (ht : total l2 ≤ 2000) (h3 : l3.length ≤ 2000) (hf3 : Is16 l3) :
    Wm.getS (Wm.encS s ++ tail) = (s, (Wm.encS s).length, 0) ∧ Wm.getL 1 Wm.getI (Wm.encIs l1 ++ tail) = (l1, (Wm.encIs l1).length, 0) ∧ Wm.getL 1 Wm.getS (Wm.encSs l2 ++ tail) = (l2, (Wm.encSs l2).length, 0) ∧ Wm.getL 16 Wm.getD (Wm.encDs l3 ++ tail) = (l3, (Wm.encDs l3).length, 0) := by
  have h2 := total_len l2
  refine ⟨Wm.getS_enc s tail (by omega), Wm.getIs_enc l1 tail (by omega) hf1, Wm.getSs_enc l2 tail (by omega) (fun x hx => ?_), Wm.getDs_enc l3 tail (by omega) hf3⟩
  have := total_mem hx; omega

set_option maxRecDepth 1000000 in
set_option maxHeartbeats 2000000 in
theorem listTrip_small (s : ByteArray) (l1 : List Int) (l2 l3 : List (List UInt8)) (l4 : List UInt8) (A1 A2 A3 A4 : Option Addr) (n1 c1 n2 c2 n3 c3 n4 c4 : Nat) (w : World) (h : s.size + n1 + n3 + n4 ≤ 2000)
    (hn1 : l1.length = n1) (hf1 : Fits l1) (hl1 : Lies w A1 (l1.map iv)) (hn2 : l2.length = n2) (ht : total l2 ≤ 2000) (hl2 : Lies w A2 (l2.map sv)) (hn3 : l3.length = n3) (hf3 : Is16 l3) (hl3 : Lies w A3 (dcells l3))
    (hn4 : l4.length = n4) (hl4 : Lies w A4 (l4.map bv)) :
    Calls Try.prog 8 #[.string s, .slice A1 n1 c1, .slice A2 n2 c2, .slice A3 n3 c3, .slice A4 n4 c4] w fun e w' => e = .returned (.bool true) ∧ Below w.heap.size w w' := by
  obtain ⟨i0, hi, hz0, hz1, hz2⟩ := info_parts Try.infoU8
  have hx : ¬ (2000 : Int) < (s.size : Int) + (n1 : Int) + (n3 : Int) + (n4 : Int) := by omega
  have C := few_any l2 A2 n2 c2 w hn2 (by omega) hl2
  rw [show decide (total l2 ≤ 2000) = true from by simp; omega] at C
  have HC := Lib.hid C
  have hsl := ba_len s
  have e1 : (Wm.encS s.data.toList).length ≤ 2010 := by
    unfold Wm.encS; rw [List.length_append]
    have := Wm.encI_len (s.data.toList.length : Int) (by omega) (by omega)
    omega
  have e2 := Wm.encIs_len l1 hf1 (by omega)
  have e3 := encSs_total l2 (by omega)
  have e4 : (Wm.encDs l3).length ≤ 32010 := by
    unfold Wm.encDs; rw [List.length_append, flatten_len hf3]
    have := Wm.encI_len (l3.length : Int) (by omega) (by omega)
    omega
  have k3 : n2 ≤ 2000 := by have := total_len l2; omega
  obtain ⟨g1, g2, g3, g4⟩ := trips s.data.toList l4 l1 l2 l3 (by omega) (by omega) hf1 ht (by omega) hf3
  have G1 := Lib.hid g1
  have G2 := Lib.hid g2
  have G3 := Lib.hid g3
  have G4 := Lib.hid g4
  have E1 := Lib.hid e1
  have E2 := Lib.hid (show (Wm.encIs l1).length ≤ 20010 by omega)
  have E3 := Lib.hid (show (Wm.encSs l2).length ≤ 22010 by omega)
  have E4 := Lib.hid e4
  have N1 := Lib.hid hn1
  have N2 := Lib.hid hn2
  have N3 := Lib.hid hn3
  have N4 := Lib.hid hn4
  have F1 := Lib.hid hf1
  have F3 := Lib.hid hf3
  have L1 := Lib.hid hl1
  have L2 := Lib.hid hl2
  have L3 := Lib.hid hl3
  have L4 := Lib.hid hl4
  clear C hn1 hn2 hn3 hn4 hf1 hf3 hl1 hl2 hl3 hl4 ht e1 e2 e3 e4 g1 g2 g3 g4 hsl
  go_enter Try.func8, Try.ntmps8
  go_wp2_with fail
  refine HC.out.mono ?_
  rintro e w1 ⟨rfl, rfl⟩
  clear HC
  go_wp2_with fail
  have HW : Hid (Below w.heap.size w w) := Lib.hid (Below.refl _ _)
  have z0 : w.heap.size ≤ w.heap.size := Nat.le_refl _
  refine (bytes_any s w (by omega)).mono ?_
  rintro e w1 ⟨q1, rfl, o1, b1⟩
  obtain ⟨B1, d1, rfl, _, _, m1⟩ := own_shape o1
  clear o1
  have L1 := Lib.hid (L1.out.below b1)
  have L2 := Lib.hid (L2.out.below b1)
  have L3 := Lib.hid (L3.out.below b1)
  have L4 := Lib.hid (L4.out.below b1)
  have HW := Lib.hid (HW.out.trans (b1.mono (by omega)))
  have z1 : w.heap.size ≤ w1.heap.size := by have := b1.size; omega
  clear b1 z0
  have M1 := Lib.hid m1
  clear m1
  go_wp2_with fail
  refine (ints_any l1 A1 n1 c1 w1 N1.out F1.out L1.out (by have := E2.out; omega) (by omega)).mono ?_
  rintro e w2 ⟨q2, rfl, o2, b2⟩
  obtain ⟨B2, d2, rfl, _, _, m2⟩ := own_shape o2
  clear o2
  have L1 := Lib.hid (L1.out.below b2)
  have L2 := Lib.hid (L2.out.below b2)
  have L3 := Lib.hid (L3.out.below b2)
  have L4 := Lib.hid (L4.out.below b2)
  have M1 := Lib.hid (M1.out.below b2)
  have HW := Lib.hid (HW.out.trans (b2.mono (by omega)))
  have z2 : w.heap.size ≤ w2.heap.size := by have := b2.size; omega
  clear b2 z1
  have M2 := Lib.hid m2
  clear m2
  go_wp2_with fail
  refine (digests_any l3 A3 n3 c3 w2 N3.out F3.out L3.out (by omega)).mono ?_
  rintro e w3 ⟨q3, rfl, o3, b3⟩
  obtain ⟨B3, d3, rfl, _, _, m3⟩ := own_shape o3
  clear o3
  have L1 := Lib.hid (L1.out.below b3)
  have L2 := Lib.hid (L2.out.below b3)
  have L3 := Lib.hid (L3.out.below b3)
  have L4 := Lib.hid (L4.out.below b3)
  have M1 := Lib.hid (M1.out.below b3)
  have M2 := Lib.hid (M2.out.below b3)
  have HW := Lib.hid (HW.out.trans (b3.mono (by omega)))
  have z3 : w.heap.size ≤ w3.heap.size := by have := b3.size; omega
  clear b3 z2
  have M3 := Lib.hid m3
  clear m3
  go_wp2_with fail
  refine (strings_any l2 A2 n2 c2 w3 N2.out L2.out (by have := E3.out; omega) (by omega)).mono ?_
  rintro e w4 ⟨q4, rfl, o4, b4⟩
  obtain ⟨B4, d4, rfl, _, _, m4⟩ := own_shape o4
  clear o4
  have L1 := Lib.hid (L1.out.below b4)
  have L2 := Lib.hid (L2.out.below b4)
  have L3 := Lib.hid (L3.out.below b4)
  have L4 := Lib.hid (L4.out.below b4)
  have M1 := Lib.hid (M1.out.below b4)
  have M2 := Lib.hid (M2.out.below b4)
  have M3 := Lib.hid (M3.out.below b4)
  have HW := Lib.hid (HW.out.trans (b4.mono (by omega)))
  have z4 : w.heap.size ≤ w4.heap.size := by have := b4.size; omega
  clear b4 z3
  have M4 := Lib.hid m4
  clear m4
  go_wp2_with (at_builtin; go_loud (refine wpList_append_full w4 rfl _ _ 28 28 rfl 5 i0 (.int .u8 0) 1 Try.underlying28 hi hz0 hz1 hz2 B1 (Wm.encS s.data.toList).length _ (List.length_map _) (fun h0 => by have := M1.out.none_ h0; rw [this]; rfl) M1.out (.slice A4 n4 c4) n4 _ (src_own N4.out L4.out) rfl rfl ?q1 ?q2 ?_))
  case q1 => have := E1.out; unfold maxLen; omega
  case q2 => have := E1.out; omega
  intro A5x c5x w5 hc5 hl5 _ b5
  rw [← List.map_append] at hl5
  have L1 := Lib.hid (L1.out.below b5)
  have L2 := Lib.hid (L2.out.below b5)
  have L3 := Lib.hid (L3.out.below b5)
  have L4 := Lib.hid (L4.out.below b5)
  have M2 := Lib.hid (M2.out.below b5)
  have M3 := Lib.hid (M3.out.below b5)
  have M4 := Lib.hid (M4.out.below b5)
  have HW := Lib.hid (HW.out.trans (b5.mono (by omega)))
  have z5 : w.heap.size ≤ w5.heap.size := by have := b5.size; omega
  clear b5 z4
  have C := getBytes_any ((Wm.encS s.data.toList) ++ l4) A5x ((Wm.encS s.data.toList).length + n4) c5x w5 (by rw [List.length_append, N4.out]) (by have := E1.out; omega) hl5 hc5
  rw [G1.out] at C
  have C : Calls Try.prog 26 #[.slice A5x ((Wm.encS s.data.toList).length + n4) c5x] w5 fun e w' => e = .returned (.tuple #[.string s, .int .i64 ((Wm.encS s.data.toList).length : Int), .int .i64 0]) ∧ w5 = w' := C
  have HC := Lib.hid C
  clear C hl5
  go_wp2_with fail
  refine HC.out.mono ?_
  rintro e w' ⟨rfl, rfl⟩
  clear HC
  go_wp2_with (at_builtin; go_loud (refine wpList_append_full w5 rfl _ _ 28 28 rfl 5 i0 (.int .u8 0) 1 Try.underlying28 hi hz0 hz1 hz2 B2 (Wm.encIs l1).length _ (List.length_map _) (fun h0 => by have := M2.out.none_ h0; rw [this]; rfl) M2.out (.slice A4 n4 c4) n4 _ (src_own N4.out L4.out) rfl rfl ?q1 ?q2 ?_))
  case q1 => have := E2.out; unfold maxLen; omega
  case q2 => have := E2.out; omega
  intro A6x c6x w6 hc6 hl6 _ b6
  rw [← List.map_append] at hl6
  have L1 := Lib.hid (L1.out.below b6)
  have L2 := Lib.hid (L2.out.below b6)
  have L3 := Lib.hid (L3.out.below b6)
  have L4 := Lib.hid (L4.out.below b6)
  have M3 := Lib.hid (M3.out.below b6)
  have M4 := Lib.hid (M4.out.below b6)
  have HW := Lib.hid (HW.out.trans (b6.mono (by omega)))
  have z6 : w.heap.size ≤ w6.heap.size := by have := b6.size; omega
  clear b6 z5
  have C := getInts_any ((Wm.encIs l1) ++ l4) A6x ((Wm.encIs l1).length + n4) c6x w6 (by rw [List.length_append, N4.out]) (by have := E2.out; omega) hl6 hc6
  rw [G2.out] at C
  have HC := Lib.hid C
  clear C hl6
  go_wp2_with fail
  refine HC.out.mono ?_
  rintro e w7 ⟨q7, rfl, o7, b7⟩
  obtain ⟨K1a, K1c, rfl, _, _, m7⟩ := own_shape o7
  clear HC o7
  have L1 := Lib.hid (L1.out.below b7)
  have L2 := Lib.hid (L2.out.below b7)
  have L3 := Lib.hid (L3.out.below b7)
  have L4 := Lib.hid (L4.out.below b7)
  have M3 := Lib.hid (M3.out.below b7)
  have M4 := Lib.hid (M4.out.below b7)
  have HW := Lib.hid (HW.out.trans (b7.mono (by omega)))
  have z7 : w.heap.size ≤ w7.heap.size := by have := b7.size; omega
  clear b7 z6
  have K1 := Lib.hid m7
  clear m7
  go_wp2_with (at_builtin; go_loud (refine wpList_append_full w7 rfl _ _ 28 28 rfl 5 i0 (.int .u8 0) 1 Try.underlying28 hi hz0 hz1 hz2 B3 (Wm.encDs l3).length _ (List.length_map _) (fun h0 => by have := M3.out.none_ h0; rw [this]; rfl) M3.out (.slice A4 n4 c4) n4 _ (src_own N4.out L4.out) rfl rfl ?q1 ?q2 ?_))
  case q1 => have := E4.out; unfold maxLen; omega
  case q2 => have := E4.out; omega
  intro A8x c8x w8 hc8 hl8 _ b8
  rw [← List.map_append] at hl8
  have L1 := Lib.hid (L1.out.below b8)
  have L2 := Lib.hid (L2.out.below b8)
  have L3 := Lib.hid (L3.out.below b8)
  have L4 := Lib.hid (L4.out.below b8)
  have M4 := Lib.hid (M4.out.below b8)
  have K1 := Lib.hid (K1.out.below b8)
  have HW := Lib.hid (HW.out.trans (b8.mono (by omega)))
  have z8 : w.heap.size ≤ w8.heap.size := by have := b8.size; omega
  clear b8 z7
  have C := getDigests_any ((Wm.encDs l3) ++ l4) A8x ((Wm.encDs l3).length + n4) c8x w8 (by rw [List.length_append, N4.out]) (by have := E4.out; omega) hl8 hc8
  rw [G4.out] at C
  have HC := Lib.hid C
  clear C hl8
  go_wp2_with fail
  refine HC.out.mono ?_
  rintro e w9 ⟨q9, rfl, o9, b9⟩
  obtain ⟨K2a, K2c, rfl, _, _, m9⟩ := own_shape o9
  clear HC o9
  have L1 := Lib.hid (L1.out.below b9)
  have L2 := Lib.hid (L2.out.below b9)
  have L3 := Lib.hid (L3.out.below b9)
  have L4 := Lib.hid (L4.out.below b9)
  have M4 := Lib.hid (M4.out.below b9)
  have K1 := Lib.hid (K1.out.below b9)
  have HW := Lib.hid (HW.out.trans (b9.mono (by omega)))
  have z9 : w.heap.size ≤ w9.heap.size := by have := b9.size; omega
  clear b9 z8
  have K2 := Lib.hid m9
  clear m9
  go_wp2_with (at_builtin; go_loud (refine wpList_append_full w9 rfl _ _ 28 28 rfl 5 i0 (.int .u8 0) 1 Try.underlying28 hi hz0 hz1 hz2 B4 (Wm.encSs l2).length _ (List.length_map _) (fun h0 => by have := M4.out.none_ h0; rw [this]; rfl) M4.out (.slice A4 n4 c4) n4 _ (src_own N4.out L4.out) rfl rfl ?q1 ?q2 ?_))
  case q1 => have := E3.out; unfold maxLen; omega
  case q2 => have := E3.out; omega
  intro A10x c10x w10 hc10 hl10 _ b10
  rw [← List.map_append] at hl10
  have L1 := Lib.hid (L1.out.below b10)
  have L2 := Lib.hid (L2.out.below b10)
  have L3 := Lib.hid (L3.out.below b10)
  have L4 := Lib.hid (L4.out.below b10)
  have K1 := Lib.hid (K1.out.below b10)
  have K2 := Lib.hid (K2.out.below b10)
  have HW := Lib.hid (HW.out.trans (b10.mono (by omega)))
  have z10 : w.heap.size ≤ w10.heap.size := by have := b10.size; omega
  clear b10 z9
  have C := getStrings_any ((Wm.encSs l2) ++ l4) A10x ((Wm.encSs l2).length + n4) c10x w10 (by rw [List.length_append, N4.out]) (by have := E3.out; omega) hl10 hc10
  rw [G3.out] at C
  have HC := Lib.hid C
  clear C hl10
  go_wp2_with fail
  refine HC.out.mono ?_
  rintro e w11 ⟨q11, rfl, o11, b11⟩
  obtain ⟨K3a, K3c, rfl, _, _, m11⟩ := own_shape o11
  clear HC o11
  have L1 := Lib.hid (L1.out.below b11)
  have L2 := Lib.hid (L2.out.below b11)
  have L3 := Lib.hid (L3.out.below b11)
  have L4 := Lib.hid (L4.out.below b11)
  have K1 := Lib.hid (K1.out.below b11)
  have K2 := Lib.hid (K2.out.below b11)
  have HW := Lib.hid (HW.out.trans (b11.mono (by omega)))
  have z11 : w.heap.size ≤ w11.heap.size := by have := b11.size; omega
  clear b11 z10
  have K3 := Lib.hid m11
  clear m11
  go_wp2_with fail
  refine (sanity_any w11).mono ?_
  rintro e w12 ⟨rfl, b12⟩
  have L1 := Lib.hid (L1.out.below b12)
  have L2 := Lib.hid (L2.out.below b12)
  have L3 := Lib.hid (L3.out.below b12)
  have K1 := Lib.hid (K1.out.below b12)
  have K2 := Lib.hid (K2.out.below b12)
  have K3 := Lib.hid (K3.out.below b12)
  have HW := Lib.hid (HW.out.trans (b12.mono (by omega)))
  have z12 : w.heap.size ≤ w12.heap.size := by have := b12.size; omega
  clear b12 z11
  go_wp2_with fail
  refine (sameTexts_any l2 K3a A2 l2.length n2 K3c c2 w12 rfl N2.out (by rw [N2.out]; omega) K3.out L2.out).mono ?_
  rintro e w13 ⟨rfl, b13⟩
  have L1 := Lib.hid (L1.out.below b13)
  have L3 := Lib.hid (L3.out.below b13)
  have K1 := Lib.hid (K1.out.below b13)
  have K2 := Lib.hid (K2.out.below b13)
  have HW := Lib.hid (HW.out.trans (b13.mono (by omega)))
  have z13 : w.heap.size ≤ w13.heap.size := by have := b13.size; omega
  clear b13 z12
  go_wp2_with fail
  refine (sameInts_any l1 K1a A1 l1.length n1 K1c c1 w13 rfl N1.out (by rw [N1.out]; omega) K1.out L1.out).mono ?_
  rintro e w14 ⟨rfl, b14⟩
  have L3 := Lib.hid (L3.out.below b14)
  have K2 := Lib.hid (K2.out.below b14)
  have HW := Lib.hid (HW.out.trans (b14.mono (by omega)))
  have z14 : w.heap.size ≤ w14.heap.size := by have := b14.size; omega
  clear b14 z13
  go_wp2_with fail
  refine (sameDigests_any l3 K2a A3 l3.length n3 K2c c3 w14 rfl N3.out F3.out (by rw [N3.out]; omega) K2.out L3.out).mono ?_
  rintro e w15 ⟨rfl, b15⟩
  have HW := Lib.hid (HW.out.trans (b15.mono (by omega)))
  have z15 : w.heap.size ≤ w15.heap.size := by have := b15.size; omega
  clear b15 z14
  go_wp2_with fail
  go_ret
  exact ⟨by simp, HW.out⟩

end Go.Proofs.Ytchlomkohjjpmaa
