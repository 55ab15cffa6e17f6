/-
  voxellaw01.WireTruncated, its walk.
-/
import Derived.Test.YtchlomkohjjpmaaFewb
import Derived.Test.YtchlomkohjjpmaaMathc
namespace Go.Proofs.Ytchlomkohjjpmaa
open Go.RowKit

set_option maxRecDepth 1000000 in
set_option maxHeartbeats 1000000 in
theorem truncated_big (x : Int) (s : ByteArray) (A1 A2 A3 : Option Addr) (n1 c1 n2 c2 n3 c3 : Nat) (w : World) (h1 : s.size ≤ 140737488355328) (h2 : n1 ≤ 140737488355328) (h3 : n3 ≤ 140737488355328) (h : 400 < s.size + 10 * n1 + 16 * n3) :
    Calls Try.prog 9 #[.int .i64 x, .string s, .slice A1 n1 c1, .slice A2 n2 c2, .slice A3 n3 c3] w fun e w' => e = .returned (.bool true) ∧ Below w.heap.size w w' := by
  have hx : (400 : Int) < (s.size : Int) + 10 * (n1 : Int) + 16 * (n3 : Int) := by omega
  go_enter Try.func9, Try.ntmps9
  go_wp2_with fail
  refine (sanity_any w).mono ?_
  rintro e w1 ⟨rfl, hb⟩
  go_wp2_with fail
  go_ret
  exact ⟨rfl, hb⟩

set_option maxRecDepth 1000000 in
set_option maxHeartbeats 1000000 in
theorem truncated_wide (x : Int) (s : ByteArray) (A1 A2 A3 : Option Addr) (n1 c1 n2 c2 n3 c3 : Nat) (w : World) (h : s.size + 10 * n1 + 16 * n3 ≤ 400) (hw : 40 < n2) :
    Calls Try.prog 9 #[.int .i64 x, .string s, .slice A1 n1 c1, .slice A2 n2 c2, .slice A3 n3 c3] w fun e w' => e = .returned (.bool true) ∧ Below w.heap.size w w' := by
  have hx : (s.size : Int) + 10 * (n1 : Int) + 16 * (n3 : Int) ≤ 400 := by omega
  have hy : (40 : Int) < (n2 : Int) := by omega
  go_enter Try.func9, Try.ntmps9
  go_wp2_with fail
  refine (sanity_any w).mono ?_
  rintro e w1 ⟨rfl, hb⟩
  go_wp2_with fail
  go_ret
  exact ⟨rfl, hb⟩

set_option maxRecDepth 1000000 in
set_option maxHeartbeats 1000000 in
theorem truncated_many (x : Int) (s : ByteArray) (l2 : List (List UInt8)) (A1 A2 A3 : Option Addr) (n1 c1 n2 c2 n3 c3 : Nat) (w : World) (h : s.size + 10 * n1 + 16 * n3 ≤ 400) (hw : n2 ≤ 40)
    (hn2 : l2.length = n2) (ht : total l2 ≤ 1000000000000000000) (hbig : 2000 < total l2) (hl2 : Lies w A2 (l2.map sv)) :
    Calls Try.prog 9 #[.int .i64 x, .string s, .slice A1 n1 c1, .slice A2 n2 c2, .slice A3 n3 c3] w fun e w' => e = .returned (.bool true) ∧ Below w.heap.size w w' := by
  have hx : (s.size : Int) + 10 * (n1 : Int) + 16 * (n3 : Int) ≤ 400 := by omega
  have hy : (n2 : Int) ≤ 40 := by omega
  have C := few_wide l2 A2 n2 c2 w hn2 ht hl2
  rw [show decide (total l2 ≤ 2000) = false from by simp; omega] at C
  have HC := Lib.hid C
  have hsz : s.size ≤ 400 := by omega
  have hn1b : n1 ≤ 40 := by omega
  have hn3b : n3 ≤ 40 := by omega
  clear C hl2 hn2 ht hbig h
  go_enter Try.func9, Try.ntmps9
  go_wp2_with fail
  refine HC.out.mono ?_
  rintro e w1 ⟨rfl, rfl⟩
  go_wp2_with fail
  refine (sanity_any w).mono ?_
  rintro e w1 ⟨rfl, hb⟩
  go_wp2_with fail
  go_ret
  exact ⟨rfl, hb⟩

set_option maxRecDepth 1000000 in
set_option maxHeartbeats 4000000 in
theorem truncated_small (x : Int) (s : ByteArray) (l1 : List Int) (l2 l3 : List (List UInt8)) (A1 A2 A3 : Option Addr) (n1 c1 n2 c2 n3 c3 : Nat) (w : World) (b1 : -9223372036854775808 ≤ x) (b2 : x ≤ 9223372036854775807) (h : s.size + 10 * n1 + 16 * n3 ≤ 400) (hw : n2 ≤ 40)
    (hn1 : l1.length = n1) (hf1 : Fits l1) (hl1 : Lies w A1 (l1.map iv)) (hn2 : l2.length = n2) (ht : total l2 ≤ 2000) (hl2 : Lies w A2 (l2.map sv)) (hn3 : l3.length = n3) (hf3 : Is16 l3) (hl3 : Lies w A3 (dcells l3)) :
    Calls Try.prog 9 #[.int .i64 x, .string s, .slice A1 n1 c1, .slice A2 n2 c2, .slice A3 n3 c3] w fun e w' => e = .returned (.bool true) ∧ Below w.heap.size w w' := by
  have hx : (s.size : Int) + 10 * (n1 : Int) + 16 * (n3 : Int) ≤ 400 := by omega
  have hy : (n2 : Int) ≤ 40 := by omega
  have C := few_wide l2 A2 n2 c2 w hn2 (by omega) hl2
  rw [show decide (total l2 ≤ 2000) = true from by simp; omega] at C
  have HC := Lib.hid C
  have hsl := ba_len s
  have hk1 := Wm.encIs_len l1 hf1 (by omega)
  have hk2 := encSs_total l2 (by omega)
  have K1 := Lib.hid (show (Wm.encIs l1).length ≤ 70368744170000 by omega)
  have K2 := Lib.hid (show (Wm.encSs l2).length ≤ 70368744170000 by omega)
  have E0 := Lib.hid (show (Wm.encI x).length ≤ 1099511627776 by have := Wm.encI_len x b1 b2; omega)
  have E1 := Lib.hid (show (Wm.encS s.data.toList).length ≤ 1099511627776 by
    unfold Wm.encS
    have := Wm.encI_len (s.data.toList.length : Int) (by omega) (by omega)
    rw [List.length_append]; omega)
  have E2 := Lib.hid (show (Wm.encIs l1).length ≤ 1099511627776 by omega)
  have E3 := Lib.hid (show (Wm.encSs l2).length ≤ 1099511627776 by omega)
  have E4 := Lib.hid (show (Wm.encDs l3).length ≤ 1099511627776 by
    unfold Wm.encDs
    have h0 := Wm.encI_len (l3.length : Int) (by omega) (by omega)
    have h1 : l3.flatten.length = l3.length * 16 := by
      have hf := hf3
      clear hl3 hn3 hf3 h0
      induction l3 with
      | nil => rfl
      | cons d r ih => rw [List.flatten_cons, List.length_append, hf d (by simp), ih (fun x hx => hf x (by simp [hx])), List.length_cons]; omega
    rw [List.length_append]; omega)
  have Z0 := Lib.hid (fun j (hj : j < (Wm.encI x).length) => Wm.getI_cut x j b1 b2 hj)
  have Z1 := Lib.hid (fun j (hj : j < (Wm.encS s.data.toList).length) => Wm.getS_cut s.data.toList j (by omega) hj)
  have Z2 := Lib.hid (fun j (hj : j < (Wm.encIs l1).length) => Wm.getIs_cut l1 j (by omega) hf1 hj)
  have Z3 := Lib.hid (fun j (hj : j < (Wm.encSs l2).length) => Wm.getSs_cut l2 j (by omega) (fun x hx => by have := total_mem hx; omega) hj)
  have Z4 := Lib.hid (fun j (hj : j < (Wm.encDs l3).length) => Wm.getDs_cut l3 j (by omega) hf3 hj)
  have N1 := Lib.hid hn1
  have N2 := Lib.hid hn2
  have N3 := Lib.hid hn3
  have F1 := Lib.hid hf1
  have F3 := Lib.hid hf3
  have L1 := Lib.hid hl1
  have L2 := Lib.hid hl2
  have L3 := Lib.hid hl3
  have hsz : s.size ≤ 400 := by omega
  have hn1b : n1 ≤ 40 := by omega
  have hn3b : n3 ≤ 40 := by omega
  clear C hn1 hn2 hn3 hf1 hf3 hl1 hl2 hl3 ht hk1 hk2 hsl h
  go_enter Try.func9, Try.ntmps9
  go_wp2_with fail
  refine HC.out.mono ?_
  rintro e w0 ⟨rfl, rfl⟩
  clear HC
  go_wp2_with fail
  refine (int_any x w b1 b2).mono ?_
  rintro e w1 ⟨v, rfl, o, b⟩
  obtain ⟨B0, d0, rfl, kc0, _, m⟩ := own_shape o
  have L1 := Lib.hid (L1.out.below b)
  have L2 := Lib.hid (L2.out.below b)
  have L3 := Lib.hid (L3.out.below b)
  have M0 := Lib.hid m
  have HW := Lib.hid b
  have z := HW.out.size
  clear b o m
  go_wp2_with fail
  refine (bytes_any s w1 (by omega)).mono ?_
  rintro e w2 ⟨v, rfl, o, b⟩
  obtain ⟨B1, d1, rfl, kc1, _, m⟩ := own_shape o
  have L1 := Lib.hid (L1.out.below b)
  have L2 := Lib.hid (L2.out.below b)
  have L3 := Lib.hid (L3.out.below b)
  have M0 := Lib.hid (M0.out.below b)
  have M1 := Lib.hid m
  have HW := Lib.hid (HW.out.trans (b.mono z))
  have z1 := HW.out.size
  clear b o m z
  have z := z1
  clear z1
  go_wp2_with fail
  refine (ints_any l1 A1 n1 c1 w2 N1.out F1.out L1.out K1.out (by omega)).mono ?_
  rintro e w3 ⟨v, rfl, o, b⟩
  obtain ⟨B2, d2, rfl, kc2, _, m⟩ := own_shape o
  have L1 := Lib.hid (L1.out.below b)
  have L2 := Lib.hid (L2.out.below b)
  have L3 := Lib.hid (L3.out.below b)
  have M0 := Lib.hid (M0.out.below b)
  have M1 := Lib.hid (M1.out.below b)
  have M2 := Lib.hid m
  have HW := Lib.hid (HW.out.trans (b.mono z))
  have z2 := HW.out.size
  clear b o m z
  have z := z2
  clear z2
  go_wp2_with fail
  refine (strings_any l2 A2 n2 c2 w3 N2.out L2.out K2.out (by omega)).mono ?_
  rintro e w4 ⟨v, rfl, o, b⟩
  obtain ⟨B3, d3, rfl, kc3, _, m⟩ := own_shape o
  have L1 := Lib.hid (L1.out.below b)
  have L2 := Lib.hid (L2.out.below b)
  have L3 := Lib.hid (L3.out.below b)
  have M0 := Lib.hid (M0.out.below b)
  have M1 := Lib.hid (M1.out.below b)
  have M2 := Lib.hid (M2.out.below b)
  have M3 := Lib.hid m
  have HW := Lib.hid (HW.out.trans (b.mono z))
  have z3 := HW.out.size
  clear b o m z
  have z := z3
  clear z3
  go_wp2_with fail
  refine (digests_any l3 A3 n3 c3 w4 N3.out F3.out L3.out (by omega)).mono ?_
  rintro e w5 ⟨v, rfl, o, b⟩
  obtain ⟨B4, d4, rfl, kc4, _, m⟩ := own_shape o
  have M0 := Lib.hid (M0.out.below b)
  have M1 := Lib.hid (M1.out.below b)
  have M2 := Lib.hid (M2.out.below b)
  have M3 := Lib.hid (M3.out.below b)
  have M4 := Lib.hid m
  have HW := Lib.hid (HW.out.trans (b.mono z))
  have z4 := HW.out.size
  clear b o m z
  have z := z4
  clear z4
  clear L1 L2 L3 N1 N2 N3 F1 F3 K1 K2
  go_wp2_with fail
  generalize hp0 : (Wm.encI x).length = p0 at *
  generalize hp1 : (Wm.encS s.data.toList).length = p1 at *
  generalize hp2 : (Wm.encIs l1).length = p2 at *
  generalize hp3 : (Wm.encSs l2).length = p3 at *
  generalize hp4 : (Wm.encDs l3).length = p4 at *
  have hg : w5.heap.size < (w5.alloc (.cells #[.slice B0 p0 d0, .slice B1 p1 d1, .slice B2 p2 d2, .slice B3 p3 d3, .slice B4 p4 d4] 28)).heap.size := by simp
  have q0 := World.cell?_alloc_new w5 #[.slice B0 p0 d0, .slice B1 p1 d1, .slice B2 p2 d2, .slice B3 p3 d3, .slice B4 p4 d4] 28 0
  have M0 := Lib.hid (M0.out.alloc (.cells #[.slice B0 p0 d0, .slice B1 p1 d1, .slice B2 p2 d2, .slice B3 p3 d3, .slice B4 p4 d4] 28))
  have P0 := Lib.hid hp0
  have q1 := World.cell?_alloc_new w5 #[.slice B0 p0 d0, .slice B1 p1 d1, .slice B2 p2 d2, .slice B3 p3 d3, .slice B4 p4 d4] 28 1
  have M1 := Lib.hid (M1.out.alloc (.cells #[.slice B0 p0 d0, .slice B1 p1 d1, .slice B2 p2 d2, .slice B3 p3 d3, .slice B4 p4 d4] 28))
  have P1 := Lib.hid hp1
  have q2 := World.cell?_alloc_new w5 #[.slice B0 p0 d0, .slice B1 p1 d1, .slice B2 p2 d2, .slice B3 p3 d3, .slice B4 p4 d4] 28 2
  have M2 := Lib.hid (M2.out.alloc (.cells #[.slice B0 p0 d0, .slice B1 p1 d1, .slice B2 p2 d2, .slice B3 p3 d3, .slice B4 p4 d4] 28))
  have P2 := Lib.hid hp2
  have q3 := World.cell?_alloc_new w5 #[.slice B0 p0 d0, .slice B1 p1 d1, .slice B2 p2 d2, .slice B3 p3 d3, .slice B4 p4 d4] 28 3
  have M3 := Lib.hid (M3.out.alloc (.cells #[.slice B0 p0 d0, .slice B1 p1 d1, .slice B2 p2 d2, .slice B3 p3 d3, .slice B4 p4 d4] 28))
  have P3 := Lib.hid hp3
  have q4 := World.cell?_alloc_new w5 #[.slice B0 p0 d0, .slice B1 p1 d1, .slice B2 p2 d2, .slice B3 p3 d3, .slice B4 p4 d4] 28 4
  have M4 := Lib.hid (M4.out.alloc (.cells #[.slice B0 p0 d0, .slice B1 p1 d1, .slice B2 p2 d2, .slice B3 p3 d3, .slice B4 p4 d4] 28))
  have P4 := Lib.hid hp4
  have HW := Lib.hid (HW.out.trans ((below_alloc w5 (.cells #[.slice B0 p0 d0, .slice B1 p1 d1, .slice B2 p2 d2, .slice B3 p3 d3, .slice B4 p4 d4] 28)).mono z))
  generalize w5.alloc (.cells #[.slice B0 p0 d0, .slice B1 p1 d1, .slice B2 p2 d2, .slice B3 p3 d3, .slice B4 p4 d4] 28) = WB at *
  generalize w5.heap.size = g at *
  have Q0 : Hid (WB.cell? ⟨g, 0, none⟩ = some (.slice B0 p0 d0)) := Lib.hid q0
  have Q1 : Hid (WB.cell? ⟨g, 1, none⟩ = some (.slice B1 p1 d1)) := Lib.hid q1
  have Q2 : Hid (WB.cell? ⟨g, 2, none⟩ = some (.slice B2 p2 d2)) := Lib.hid q2
  have Q3 : Hid (WB.cell? ⟨g, 3, none⟩ = some (.slice B3 p3 d3)) := Lib.hid q3
  have Q4 : Hid (WB.cell? ⟨g, 4, none⟩ = some (.slice B4 p4 d4)) := Lib.hid q4
  have hz := HW.out.size
  have e0 : p0 ≤ 1099511627776 := E0.out
  have e1 : p1 ≤ 1099511627776 := E1.out
  have e2 : p2 ≤ 1099511627776 := E2.out
  have e3 : p3 ≤ 1099511627776 := E3.out
  have e4 : p4 ≤ 1099511627776 := E4.out
  clear q0 q1 q2 q3 q4 hp0 hp1 hp2 hp3 hp4 z
  go_loopw [49] (fun i wr => ∃ k : Int, i = .int .i64 k ∧ 0 ≤ k ∧ k ≤ 5 ∧ Below WB.heap.size WB wr) (fun i _ => 5 - (intOf i).toNat)
  case atStart => exact ⟨0, rfl, by omega, by omega, Below.refl _ _⟩
  case round =>
    obtain ⟨k, rfl, hk0, hk5, hbel⟩ := hrel
    rcases (show k = 0 ∨ k = 1 ∨ k = 2 ∨ k = 3 ∨ k = 4 ∨ k = 5 by omega) with rfl | rfl | rfl | rfl | rfl | rfl
    · have hc := (hbel.cell (p := ⟨g, 0, none⟩) hg).trans Q0.out
      by_cases hp : p0 ≤ 500
      · have hpi : (p0 : Int) ≤ 500 := by omega
        clear hp
        go_wp2_with fail
        go_loopw [57] (fun i wr2 => ∃ j : Nat, i = .int .i64 (j : Int) ∧ j ≤ p0 ∧ Below WB.heap.size WB wr2) (fun i _ => p0 - (intOf i).toNat)
        case atStart => exact ⟨0, rfl, by omega, hbel⟩
        case round =>
          obtain ⟨j, rfl, hj, hbel2⟩ := hrel
          by_cases hlt : j < p0
          · have C := getInt_any ((Wm.encI x).take j) B0 j d0 wr (by rw [List.length_take, P0.out]; omega) (by omega) (by rw [List.map_take]; exact (M0.out.below hbel2).take j)
            rw [Z0.out j (by omega)] at C
            have HC := Lib.hid C
            have hb2 := Lib.hid hbel2
            have hji : (j : Int) ≤ (p0 : Int) := by omega
            have hjd : (j : Int) ≤ (d0 : Int) := by omega
            clear C hbel2 hc
            go_wp2_with fail
            refine HC.out.mono ?_
            rintro e w8 ⟨rfl, rfl⟩
            clear HC
            go_wp2_with fail
            go_roundw
            case rel => exact ⟨j + 1, by go_num, by omega, hb2.out⟩
            case measure => simp [intOf]; omega
          · have hjm : j = p0 := by omega
            subst hjm
            go_wp2_with fail
            go_roundw
            case rel => exact ⟨1, by go_num, by omega, by omega, hbel2⟩
            case measure => simp [intOf]
      · have hpi : (500 : Int) < (p0 : Int) := by omega
        clear hp
        go_wp2_with fail
        go_loopw [57] (fun i wr2 => ∃ j : Nat, i = .int .i64 (j : Int) ∧ j ≤ 500 ∧ Below WB.heap.size WB wr2) (fun i _ => 500 - (intOf i).toNat)
        case atStart => exact ⟨0, rfl, by omega, hbel⟩
        case round =>
          obtain ⟨j, rfl, hj, hbel2⟩ := hrel
          by_cases hlt : j < 500
          · have C := getInt_any ((Wm.encI x).take j) B0 j d0 wr (by rw [List.length_take, P0.out]; omega) (by omega) (by rw [List.map_take]; exact (M0.out.below hbel2).take j)
            rw [Z0.out j (by omega)] at C
            have HC := Lib.hid C
            have hb2 := Lib.hid hbel2
            have hji : (j : Int) ≤ (p0 : Int) := by omega
            have hjd : (j : Int) ≤ (d0 : Int) := by omega
            clear C hbel2 hc
            go_wp2_with fail
            refine HC.out.mono ?_
            rintro e w8 ⟨rfl, rfl⟩
            clear HC
            go_wp2_with fail
            go_roundw
            case rel => exact ⟨j + 1, by go_num, by omega, hb2.out⟩
            case measure => simp [intOf]; omega
          · have hjm : j = 500 := by omega
            subst hjm
            go_wp2_with fail
            go_roundw
            case rel => exact ⟨1, by go_num, by omega, by omega, hbel2⟩
            case measure => simp [intOf]
    · have hc := (hbel.cell (p := ⟨g, 1, none⟩) hg).trans Q1.out
      by_cases hp : p1 ≤ 500
      · have hpi : (p1 : Int) ≤ 500 := by omega
        clear hp
        go_wp2_with fail
        go_loopw [57] (fun i wr2 => ∃ j : Nat, i = .int .i64 (j : Int) ∧ j ≤ p1 ∧ Below WB.heap.size WB wr2) (fun i _ => p1 - (intOf i).toNat)
        case atStart => exact ⟨0, rfl, by omega, hbel⟩
        case round =>
          obtain ⟨j, rfl, hj, hbel2⟩ := hrel
          by_cases hlt : j < p1
          · have C := getBytes_any ((Wm.encS s.data.toList).take j) B1 j d1 wr (by rw [List.length_take, P1.out]; omega) (by omega) (by rw [List.map_take]; exact (M1.out.below hbel2).take j) (by omega)
            rw [Z1.out j (by omega)] at C
            have HC := Lib.hid C
            have hb2 := Lib.hid hbel2
            have hji : (j : Int) ≤ (p1 : Int) := by omega
            have hjd : (j : Int) ≤ (d1 : Int) := by omega
            clear C hbel2 hc
            go_wp2_with fail
            refine HC.out.mono ?_
            rintro e w8 ⟨rfl, rfl⟩
            clear HC
            go_wp2_with fail
            go_roundw
            case rel => exact ⟨j + 1, by go_num, by omega, hb2.out⟩
            case measure => simp [intOf]; omega
          · have hjm : j = p1 := by omega
            subst hjm
            go_wp2_with fail
            go_roundw
            case rel => exact ⟨2, by go_num, by omega, by omega, hbel2⟩
            case measure => simp [intOf]
      · have hpi : (500 : Int) < (p1 : Int) := by omega
        clear hp
        go_wp2_with fail
        go_loopw [57] (fun i wr2 => ∃ j : Nat, i = .int .i64 (j : Int) ∧ j ≤ 500 ∧ Below WB.heap.size WB wr2) (fun i _ => 500 - (intOf i).toNat)
        case atStart => exact ⟨0, rfl, by omega, hbel⟩
        case round =>
          obtain ⟨j, rfl, hj, hbel2⟩ := hrel
          by_cases hlt : j < 500
          · have C := getBytes_any ((Wm.encS s.data.toList).take j) B1 j d1 wr (by rw [List.length_take, P1.out]; omega) (by omega) (by rw [List.map_take]; exact (M1.out.below hbel2).take j) (by omega)
            rw [Z1.out j (by omega)] at C
            have HC := Lib.hid C
            have hb2 := Lib.hid hbel2
            have hji : (j : Int) ≤ (p1 : Int) := by omega
            have hjd : (j : Int) ≤ (d1 : Int) := by omega
            clear C hbel2 hc
            go_wp2_with fail
            refine HC.out.mono ?_
            rintro e w8 ⟨rfl, rfl⟩
            clear HC
            go_wp2_with fail
            go_roundw
            case rel => exact ⟨j + 1, by go_num, by omega, hb2.out⟩
            case measure => simp [intOf]; omega
          · have hjm : j = 500 := by omega
            subst hjm
            go_wp2_with fail
            go_roundw
            case rel => exact ⟨2, by go_num, by omega, by omega, hbel2⟩
            case measure => simp [intOf]
    · have hc := (hbel.cell (p := ⟨g, 2, none⟩) hg).trans Q2.out
      by_cases hp : p2 ≤ 500
      · have hpi : (p2 : Int) ≤ 500 := by omega
        clear hp
        go_wp2_with fail
        go_loopw [57] (fun i wr2 => ∃ j : Nat, i = .int .i64 (j : Int) ∧ j ≤ p2 ∧ Below WB.heap.size WB wr2) (fun i _ => p2 - (intOf i).toNat)
        case atStart => exact ⟨0, rfl, by omega, hbel⟩
        case round =>
          obtain ⟨j, rfl, hj, hbel2⟩ := hrel
          by_cases hlt : j < p2
          · have C := getInts_any ((Wm.encIs l1).take j) B2 j d2 wr (by rw [List.length_take, P2.out]; omega) (by omega) (by rw [List.map_take]; exact (M2.out.below hbel2).take j) (by omega)
            unfold LPost at C
            rw [Z2.out j (by omega)] at C
            have HC := Lib.hid C
            have hb2 := Lib.hid hbel2
            have hji : (j : Int) ≤ (p2 : Int) := by omega
            have hjd : (j : Int) ≤ (d2 : Int) := by omega
            clear C hbel2 hc
            go_wp2_with fail
            refine HC.out.mono ?_
            rintro e w8 ⟨v, rfl, _, b3⟩
            clear HC
            go_wp2_with fail
            go_roundw
            case rel => exact ⟨j + 1, by go_num, by omega, (hb2.out.trans (b3.mono hb2.out.size))⟩
            case measure => simp [intOf]; omega
          · have hjm : j = p2 := by omega
            subst hjm
            go_wp2_with fail
            go_roundw
            case rel => exact ⟨3, by go_num, by omega, by omega, hbel2⟩
            case measure => simp [intOf]
      · have hpi : (500 : Int) < (p2 : Int) := by omega
        clear hp
        go_wp2_with fail
        go_loopw [57] (fun i wr2 => ∃ j : Nat, i = .int .i64 (j : Int) ∧ j ≤ 500 ∧ Below WB.heap.size WB wr2) (fun i _ => 500 - (intOf i).toNat)
        case atStart => exact ⟨0, rfl, by omega, hbel⟩
        case round =>
          obtain ⟨j, rfl, hj, hbel2⟩ := hrel
          by_cases hlt : j < 500
          · have C := getInts_any ((Wm.encIs l1).take j) B2 j d2 wr (by rw [List.length_take, P2.out]; omega) (by omega) (by rw [List.map_take]; exact (M2.out.below hbel2).take j) (by omega)
            unfold LPost at C
            rw [Z2.out j (by omega)] at C
            have HC := Lib.hid C
            have hb2 := Lib.hid hbel2
            have hji : (j : Int) ≤ (p2 : Int) := by omega
            have hjd : (j : Int) ≤ (d2 : Int) := by omega
            clear C hbel2 hc
            go_wp2_with fail
            refine HC.out.mono ?_
            rintro e w8 ⟨v, rfl, _, b3⟩
            clear HC
            go_wp2_with fail
            go_roundw
            case rel => exact ⟨j + 1, by go_num, by omega, (hb2.out.trans (b3.mono hb2.out.size))⟩
            case measure => simp [intOf]; omega
          · have hjm : j = 500 := by omega
            subst hjm
            go_wp2_with fail
            go_roundw
            case rel => exact ⟨3, by go_num, by omega, by omega, hbel2⟩
            case measure => simp [intOf]
    · have hc := (hbel.cell (p := ⟨g, 3, none⟩) hg).trans Q3.out
      by_cases hp : p3 ≤ 500
      · have hpi : (p3 : Int) ≤ 500 := by omega
        clear hp
        go_wp2_with fail
        go_loopw [57] (fun i wr2 => ∃ j : Nat, i = .int .i64 (j : Int) ∧ j ≤ p3 ∧ Below WB.heap.size WB wr2) (fun i _ => p3 - (intOf i).toNat)
        case atStart => exact ⟨0, rfl, by omega, hbel⟩
        case round =>
          obtain ⟨j, rfl, hj, hbel2⟩ := hrel
          by_cases hlt : j < p3
          · have C := getStrings_any ((Wm.encSs l2).take j) B3 j d3 wr (by rw [List.length_take, P3.out]; omega) (by omega) (by rw [List.map_take]; exact (M3.out.below hbel2).take j) (by omega)
            unfold LPost at C
            rw [Z3.out j (by omega)] at C
            have HC := Lib.hid C
            have hb2 := Lib.hid hbel2
            have hji : (j : Int) ≤ (p3 : Int) := by omega
            have hjd : (j : Int) ≤ (d3 : Int) := by omega
            clear C hbel2 hc
            go_wp2_with fail
            refine HC.out.mono ?_
            rintro e w8 ⟨v, rfl, _, b3⟩
            clear HC
            go_wp2_with fail
            go_roundw
            case rel => exact ⟨j + 1, by go_num, by omega, (hb2.out.trans (b3.mono hb2.out.size))⟩
            case measure => simp [intOf]; omega
          · have hjm : j = p3 := by omega
            subst hjm
            go_wp2_with fail
            go_roundw
            case rel => exact ⟨4, by go_num, by omega, by omega, hbel2⟩
            case measure => simp [intOf]
      · have hpi : (500 : Int) < (p3 : Int) := by omega
        clear hp
        go_wp2_with fail
        go_loopw [57] (fun i wr2 => ∃ j : Nat, i = .int .i64 (j : Int) ∧ j ≤ 500 ∧ Below WB.heap.size WB wr2) (fun i _ => 500 - (intOf i).toNat)
        case atStart => exact ⟨0, rfl, by omega, hbel⟩
        case round =>
          obtain ⟨j, rfl, hj, hbel2⟩ := hrel
          by_cases hlt : j < 500
          · have C := getStrings_any ((Wm.encSs l2).take j) B3 j d3 wr (by rw [List.length_take, P3.out]; omega) (by omega) (by rw [List.map_take]; exact (M3.out.below hbel2).take j) (by omega)
            unfold LPost at C
            rw [Z3.out j (by omega)] at C
            have HC := Lib.hid C
            have hb2 := Lib.hid hbel2
            have hji : (j : Int) ≤ (p3 : Int) := by omega
            have hjd : (j : Int) ≤ (d3 : Int) := by omega
            clear C hbel2 hc
            go_wp2_with fail
            refine HC.out.mono ?_
            rintro e w8 ⟨v, rfl, _, b3⟩
            clear HC
            go_wp2_with fail
            go_roundw
            case rel => exact ⟨j + 1, by go_num, by omega, (hb2.out.trans (b3.mono hb2.out.size))⟩
            case measure => simp [intOf]; omega
          · have hjm : j = 500 := by omega
            subst hjm
            go_wp2_with fail
            go_roundw
            case rel => exact ⟨4, by go_num, by omega, by omega, hbel2⟩
            case measure => simp [intOf]
    · have hc := (hbel.cell (p := ⟨g, 4, none⟩) hg).trans Q4.out
      by_cases hp : p4 ≤ 500
      · have hpi : (p4 : Int) ≤ 500 := by omega
        clear hp
        go_wp2_with fail
        go_loopw [57] (fun i wr2 => ∃ j : Nat, i = .int .i64 (j : Int) ∧ j ≤ p4 ∧ Below WB.heap.size WB wr2) (fun i _ => p4 - (intOf i).toNat)
        case atStart => exact ⟨0, rfl, by omega, hbel⟩
        case round =>
          obtain ⟨j, rfl, hj, hbel2⟩ := hrel
          by_cases hlt : j < p4
          · have C := getDigests_any ((Wm.encDs l3).take j) B4 j d4 wr (by rw [List.length_take, P4.out]; omega) (by omega) (by rw [List.map_take]; exact (M4.out.below hbel2).take j) (by omega)
            unfold LPost at C
            rw [Z4.out j (by omega)] at C
            have HC := Lib.hid C
            have hb2 := Lib.hid hbel2
            have hji : (j : Int) ≤ (p4 : Int) := by omega
            have hjd : (j : Int) ≤ (d4 : Int) := by omega
            clear C hbel2 hc
            go_wp2_with fail
            refine HC.out.mono ?_
            rintro e w8 ⟨v, rfl, _, b3⟩
            clear HC
            go_wp2_with fail
            go_roundw
            case rel => exact ⟨j + 1, by go_num, by omega, (hb2.out.trans (b3.mono hb2.out.size))⟩
            case measure => simp [intOf]; omega
          · have hjm : j = p4 := by omega
            subst hjm
            go_wp2_with fail
            go_roundw
            case rel => exact ⟨5, by go_num, by omega, by omega, hbel2⟩
            case measure => simp [intOf]
      · have hpi : (500 : Int) < (p4 : Int) := by omega
        clear hp
        go_wp2_with fail
        go_loopw [57] (fun i wr2 => ∃ j : Nat, i = .int .i64 (j : Int) ∧ j ≤ 500 ∧ Below WB.heap.size WB wr2) (fun i _ => 500 - (intOf i).toNat)
        case atStart => exact ⟨0, rfl, by omega, hbel⟩
        case round =>
          obtain ⟨j, rfl, hj, hbel2⟩ := hrel
          by_cases hlt : j < 500
          · have C := getDigests_any ((Wm.encDs l3).take j) B4 j d4 wr (by rw [List.length_take, P4.out]; omega) (by omega) (by rw [List.map_take]; exact (M4.out.below hbel2).take j) (by omega)
            unfold LPost at C
            rw [Z4.out j (by omega)] at C
            have HC := Lib.hid C
            have hb2 := Lib.hid hbel2
            have hji : (j : Int) ≤ (p4 : Int) := by omega
            have hjd : (j : Int) ≤ (d4 : Int) := by omega
            clear C hbel2 hc
            go_wp2_with fail
            refine HC.out.mono ?_
            rintro e w8 ⟨v, rfl, _, b3⟩
            clear HC
            go_wp2_with fail
            go_roundw
            case rel => exact ⟨j + 1, by go_num, by omega, (hb2.out.trans (b3.mono hb2.out.size))⟩
            case measure => simp [intOf]; omega
          · have hjm : j = 500 := by omega
            subst hjm
            go_wp2_with fail
            go_roundw
            case rel => exact ⟨5, by go_num, by omega, by omega, hbel2⟩
            case measure => simp [intOf]
    · go_wp2_with fail
      refine (sanity_any _).mono ?_
      rintro e w9 ⟨rfl, b9⟩
      have hb := (HW.out.trans (hbel.mono hz)).trans (b9.mono (by have := hbel.size; omega))
      clear b9
      go_wp2_with fail
      go_ret
      exact ⟨rfl, hb⟩

end Go.Proofs.Ytchlomkohjjpmaa
