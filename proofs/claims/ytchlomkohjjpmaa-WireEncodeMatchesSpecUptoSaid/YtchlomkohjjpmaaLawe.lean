/-
  voxellaw01.WireEncodeMatchesSpec, its walk: each encoding is the reference's.
-/
import Derived.Test.YtchlomkohjjpmaaFew
import Derived.Test.YtchlomkohjjpmaaRefa
namespace Go.Proofs.Ytchlomkohjjpmaa
open Go.RowKit

set_option maxRecDepth 1000000 in
set_option maxHeartbeats 1000000 in
theorem encode_big (x : Int) (s : ByteArray) (A1 A2 A3 : Option Addr) (n1 c1 n2 c2 n3 c3 : Nat) (w : World) (h : 2000 < s.size + n1 + n3) (h1 : s.size ≤ 140737488355328) (h2 : n1 ≤ 140737488355328) (h3 : n3 ≤ 140737488355328) :
    Calls Try.prog 3 #[.int .i64 x, .string s, .slice A1 n1 c1, .slice A2 n2 c2, .slice A3 n3 c3] w fun e w' => e = .returned (.bool true) ∧ Below w.heap.size w w' := by
  have hx : (2000 : Int) < (s.size : Int) + (n1 : Int) + (n3 : Int) := by omega
  go_enter Try.func3, Try.ntmps3
  go_wp2_with fail
  refine (sanity_any w).mono ?_
  rintro e w1 ⟨rfl, hb⟩
  go_wp2_with fail
  go_ret
  exact ⟨rfl, hb⟩

set_option maxRecDepth 1000000 in
set_option maxHeartbeats 1000000 in
theorem encode_many (x : Int) (s : ByteArray) (l2 : List (List UInt8)) (A1 A2 A3 : Option Addr) (n1 c1 n2 c2 n3 c3 : Nat) (w : World) (h : s.size + n1 + n3 ≤ 2000) (hn2 : l2.length = n2) (ht : total l2 ≤ 1099511627776) (hbig : 2000 < total l2) (hl2 : Lies w A2 (l2.map sv)) :
    Calls Try.prog 3 #[.int .i64 x, .string s, .slice A1 n1 c1, .slice A2 n2 c2, .slice A3 n3 c3] w fun e w' => e = .returned (.bool true) ∧ Below w.heap.size w w' := by
  have hx : ¬ (2000 : Int) < (s.size : Int) + (n1 : Int) + (n3 : Int) := by omega
  have C := few_any l2 A2 n2 c2 w hn2 ht hl2
  rw [show decide (total l2 ≤ 2000) = false from by simp; omega] at C
  have HC := Lib.hid C
  clear C hl2 hn2 ht hbig
  go_enter Try.func3, Try.ntmps3
  go_wp2_with fail
  refine HC.out.mono ?_
  rintro e w1 ⟨rfl, rfl⟩
  go_wp2_with fail
  refine (sanity_any w).mono ?_
  rintro e w1 ⟨rfl, hb⟩
  go_wp2_with fail
  go_ret
  exact ⟨rfl, hb⟩

set_option maxRecDepth 1000000 in
set_option maxHeartbeats 2000000 in
theorem encode_small (x : Int) (s : ByteArray) (l1 : List Int) (l2 l3 : List (List UInt8)) (A1 A2 A3 : Option Addr) (n1 c1 n2 c2 n3 c3 : Nat) (w : World) (h1 : -9223372036854775808 ≤ x) (h2 : x ≤ 9223372036854775807) (h : s.size + n1 + n3 ≤ 2000)
    (hn1 : l1.length = n1) (hf1 : Fits l1) (hl1 : Lies w A1 (l1.map iv)) (hn2 : l2.length = n2) (ht : total l2 ≤ 2000) (hl2 : Lies w A2 (l2.map sv)) (hn3 : l3.length = n3) (hf3 : Is16 l3) (hl3 : Lies w A3 (dcells l3)) :
    Calls Try.prog 3 #[.int .i64 x, .string s, .slice A1 n1 c1, .slice A2 n2 c2, .slice A3 n3 c3] w fun e w' => e = .returned (.bool true) ∧ Below w.heap.size w w' := by
  have hx : ¬ (2000 : Int) < (s.size : Int) + (n1 : Int) + (n3 : Int) := by omega
  have C := few_any l2 A2 n2 c2 w hn2 (by omega) hl2
  rw [show decide (total l2 ≤ 2000) = true from by simp; omega] at C
  have HC := Lib.hid C
  have k1 := Wm.encIs_len l1 hf1 (by omega)
  have k2 := encSs_total l2 (by omega)
  have k3 : n2 ≤ 2000 := by have := total_len l2; omega
  have K1 := Lib.hid (show (Wm.encIs l1).length ≤ 70368744170000 by omega)
  have K2 := Lib.hid (show (Wm.encSs l2).length ≤ 70368744170000 by omega)
  have N1 := Lib.hid hn1
  have N2 := Lib.hid hn2
  have N3 := Lib.hid hn3
  have F1 := Lib.hid hf1
  have F3 := Lib.hid hf3
  have L1 := Lib.hid hl1
  have L2 := Lib.hid hl2
  have L3 := Lib.hid hl3
  clear C hn1 hn2 hn3 hf1 hf3 hl1 hl2 hl3 ht k1 k2
  go_enter Try.func3, Try.ntmps3
  go_wp2_with fail
  refine HC.out.mono ?_
  rintro e w1 ⟨rfl, rfl⟩
  clear HC
  go_wp2_with fail
  refine (sanity_any w).mono ?_
  rintro e w1 ⟨rfl, b1⟩
  have L1 := Lib.hid (L1.out.below b1)
  have L2 := Lib.hid (L2.out.below b1)
  have L3 := Lib.hid (L3.out.below b1)
  have HW := Lib.hid b1
  have z1 := b1.size
  clear b1
  go_wp2_with fail
  refine (int_any x w1 h1 h2).mono ?_
  rintro e w2 ⟨q2, rfl, o2, b2⟩
  obtain ⟨B2, d2, rfl, _, _, m2⟩ := own_shape o2
  have L1 := Lib.hid (L1.out.below b2)
  have L2 := Lib.hid (L2.out.below b2)
  have L3 := Lib.hid (L3.out.below b2)
  have M := Lib.hid m2
  have HW := Lib.hid (HW.out.trans (b2.mono (by omega)))
  have z2 : w.heap.size ≤ w2.heap.size := by have := b2.size; omega
  clear b2 o2 m2 z1
  go_wp2_with fail
  refine (refInt_any x w2 h1 h2).mono ?_
  rintro e w3 ⟨q3, rfl, o3, b3⟩
  obtain ⟨B3, d3, rfl, _, _, m3⟩ := own_shape o3
  have L1 := Lib.hid (L1.out.below b3)
  have L2 := Lib.hid (L2.out.below b3)
  have L3 := Lib.hid (L3.out.below b3)
  have M := Lib.hid (M.out.below b3)
  have Q := Lib.hid m3
  have HW := Lib.hid (HW.out.trans (b3.mono (by omega)))
  have z3 : w.heap.size ≤ w3.heap.size := by have := b3.size; omega
  clear b3 o3 m3 z2
  go_wp2_with fail
  refine (same_any (Wm.encI x) B2 B3 _ _ d2 d3 w3 rfl rfl M.out Q.out).mono ?_
  rintro e w' ⟨rfl, rfl⟩
  clear M Q
  go_wp2_with fail
  refine (bytes_any s w3 (by omega)).mono ?_
  rintro e w4 ⟨q4, rfl, o4, b4⟩
  obtain ⟨B4, d4, rfl, _, _, m4⟩ := own_shape o4
  have L1 := Lib.hid (L1.out.below b4)
  have L2 := Lib.hid (L2.out.below b4)
  have L3 := Lib.hid (L3.out.below b4)
  have M := Lib.hid m4
  have HW := Lib.hid (HW.out.trans (b4.mono (by omega)))
  have z4 : w.heap.size ≤ w4.heap.size := by have := b4.size; omega
  clear b4 o4 m4 z3
  go_wp2_with fail
  refine (refBytes_any s w4 (by omega)).mono ?_
  rintro e w5 ⟨q5, rfl, o5, b5⟩
  obtain ⟨B5, d5, rfl, _, _, m5⟩ := own_shape o5
  have L1 := Lib.hid (L1.out.below b5)
  have L2 := Lib.hid (L2.out.below b5)
  have L3 := Lib.hid (L3.out.below b5)
  have M := Lib.hid (M.out.below b5)
  have Q := Lib.hid m5
  have HW := Lib.hid (HW.out.trans (b5.mono (by omega)))
  have z5 : w.heap.size ≤ w5.heap.size := by have := b5.size; omega
  clear b5 o5 m5 z4
  go_wp2_with fail
  refine (same_any (Wm.encS s.data.toList) B4 B5 _ _ d4 d5 w5 rfl rfl M.out Q.out).mono ?_
  rintro e w' ⟨rfl, rfl⟩
  clear M Q
  go_wp2_with fail
  refine (ints_any l1 A1 n1 c1 w5 N1.out F1.out L1.out K1.out (by omega)).mono ?_
  rintro e w6 ⟨q6, rfl, o6, b6⟩
  obtain ⟨B6, d6, rfl, _, _, m6⟩ := own_shape o6
  have L1 := Lib.hid (L1.out.below b6)
  have L2 := Lib.hid (L2.out.below b6)
  have L3 := Lib.hid (L3.out.below b6)
  have M := Lib.hid m6
  have HW := Lib.hid (HW.out.trans (b6.mono (by omega)))
  have z6 : w.heap.size ≤ w6.heap.size := by have := b6.size; omega
  clear b6 o6 m6 z5
  go_wp2_with fail
  refine (refInts_any l1 A1 n1 c1 w6 N1.out F1.out L1.out K1.out (by omega)).mono ?_
  rintro e w7 ⟨q7, rfl, o7, b7⟩
  obtain ⟨B7, d7, rfl, _, _, m7⟩ := own_shape o7
  have L1 := Lib.hid (L1.out.below b7)
  have L2 := Lib.hid (L2.out.below b7)
  have L3 := Lib.hid (L3.out.below b7)
  have M := Lib.hid (M.out.below b7)
  have Q := Lib.hid m7
  have HW := Lib.hid (HW.out.trans (b7.mono (by omega)))
  have z7 : w.heap.size ≤ w7.heap.size := by have := b7.size; omega
  clear b7 o7 m7 z6
  go_wp2_with fail
  refine (same_any (Wm.encIs l1) B6 B7 _ _ d6 d7 w7 rfl rfl M.out Q.out).mono ?_
  rintro e w' ⟨rfl, rfl⟩
  clear M Q
  go_wp2_with fail
  refine (strings_any l2 A2 n2 c2 w7 N2.out L2.out K2.out (by omega)).mono ?_
  rintro e w8 ⟨q8, rfl, o8, b8⟩
  obtain ⟨B8, d8, rfl, _, _, m8⟩ := own_shape o8
  have L2 := Lib.hid (L2.out.below b8)
  have L3 := Lib.hid (L3.out.below b8)
  have M := Lib.hid m8
  have HW := Lib.hid (HW.out.trans (b8.mono (by omega)))
  have z8 : w.heap.size ≤ w8.heap.size := by have := b8.size; omega
  clear b8 o8 m8 z7
  go_wp2_with fail
  refine (refStrings_any l2 A2 n2 c2 w8 N2.out L2.out K2.out (by omega)).mono ?_
  rintro e w9 ⟨q9, rfl, o9, b9⟩
  obtain ⟨B9, d9, rfl, _, _, m9⟩ := own_shape o9
  have L2 := Lib.hid (L2.out.below b9)
  have L3 := Lib.hid (L3.out.below b9)
  have M := Lib.hid (M.out.below b9)
  have Q := Lib.hid m9
  have HW := Lib.hid (HW.out.trans (b9.mono (by omega)))
  have z9 : w.heap.size ≤ w9.heap.size := by have := b9.size; omega
  clear b9 o9 m9 z8
  go_wp2_with fail
  refine (same_any (Wm.encSs l2) B8 B9 _ _ d8 d9 w9 rfl rfl M.out Q.out).mono ?_
  rintro e w' ⟨rfl, rfl⟩
  clear M Q
  go_wp2_with fail
  refine (digests_any l3 A3 n3 c3 w9 N3.out F3.out L3.out (by omega)).mono ?_
  rintro e w10 ⟨q10, rfl, o10, b10⟩
  obtain ⟨B10, d10, rfl, _, _, m10⟩ := own_shape o10
  have L3 := Lib.hid (L3.out.below b10)
  have M := Lib.hid m10
  have HW := Lib.hid (HW.out.trans (b10.mono (by omega)))
  have z10 : w.heap.size ≤ w10.heap.size := by have := b10.size; omega
  clear b10 o10 m10 z9
  go_wp2_with fail
  refine (refDigests_any l3 A3 n3 c3 w10 N3.out F3.out L3.out (by omega)).mono ?_
  rintro e w11 ⟨q11, rfl, o11, b11⟩
  obtain ⟨B11, d11, rfl, _, _, m11⟩ := own_shape o11
  have L3 := Lib.hid (L3.out.below b11)
  have M := Lib.hid (M.out.below b11)
  have Q := Lib.hid m11
  have HW := Lib.hid (HW.out.trans (b11.mono (by omega)))
  have z11 : w.heap.size ≤ w11.heap.size := by have := b11.size; omega
  clear b11 o11 m11 z10
  go_wp2_with fail
  refine (same_any (Wm.encDs l3) B10 B11 _ _ d10 d11 w11 rfl rfl M.out Q.out).mono ?_
  rintro e w' ⟨rfl, rfl⟩
  clear M Q
  go_wp2_with fail
  go_ret
  exact ⟨by simp, HW.out⟩

end Go.Proofs.Ytchlomkohjjpmaa
