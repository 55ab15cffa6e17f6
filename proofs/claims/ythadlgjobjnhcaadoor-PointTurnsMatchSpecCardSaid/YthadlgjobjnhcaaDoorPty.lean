/-
  Name.
-/
import Derived.Test.YthadlgjobjnhcaaDoorPtx
import Derived.Handy
namespace Go.Proofs.YthadlgjobjnhcaaDoor
open Go.RowKit
set_option linter.unusedVariables false
theorem bcat (a b : List UInt8) : bstr a ++ bstr b = bstr (a ++ b) := by
  apply ByteArray.ext; unfold bstr; simp
theorem name_len (s : Nat) : (Pt.name s).length = 6 := rfl
set_option maxRecDepth 1000000 in
set_option maxHeartbeats 4000000 in
theorem name_o0 (s : Nat) (w : World) (hT : Tab w) (hs : s < 48) (hk : (s : Int) / 8 = 0) :
    Calls Tryd.prog 59 #[.int .i64 (s : Int)] w fun e w' => e = .returned (.string (bstr (Pt.name s))) ∧ Below w.heap.size w w' := by
  have CS : Hid (∀ W, Calls Tryd.prog 80 #[.int .i64 (s : Int)] W fun e w' => e = .returned (.bool true) ∧ w' = W) := Lib.hid (fun W => by
    have := symmetry_same (s : Int) W
    rwa [decide_eq_true (show 0 ≤ (s : Int) ∧ (s : Int) < 48 by omega)] at this)
  have CN : Hid (∀ i : Nat, i < 3 → ∀ W, Calls Tryd.prog 89 #[.int .i64 (s : Int), .int .i64 (i : Int)] W fun e w' => e = .returned (.bool (Pt.bit s i)) ∧ w' = W) := Lib.hid (fun i hi W => negates_same s i W hs hi)
  have HK := Lib.hid (show s / 8 = 0 by omega)
  have hg := hT 0 _ rfl
  have hgl : 0 < w.heap.size := World.block_lt_of_cell? w _ hg
  rw [Nat.zero_add] at hg
  go_enter Tryd.func59, Tryd.ntmps59
  go_wp2_with fail
  refine (CS.out _).mono ?_
  rintro e w1 ⟨rfl, rfl⟩
  go_wp2_with fail
  go_loopw [3] (fun n wr => ∃ (i : Nat) (z : ByteArray), i ≤ 3 ∧ n = .string z ∧ z = bstr ((Pt.name s).take (2 * i)) ∧ wr.heap[w1.heap.size]? = some (.stringIter ⟨#[120, 121, 122]⟩ i) ∧ Below w1.heap.size w1 wr) (fun _ wr => 3 - wr.iterPos w1.heap.size)
  case atStart => exact ⟨0, _, by omega, rfl, rfl, World.iter_heap w1 ⟨#[120, 121, 122]⟩ 0, (Below.refl _ _).alloc (Nat.le_refl _) _⟩
  case round =>
    obtain ⟨i, z, hi, rfl, hz, hit, hbl⟩ := hrel
    have hc : i = 0 ∨ i = 1 ∨ i = 2 ∨ i = 3 := by omega
    rcases hc with rfl | rfl | rfl | rfl
    · have hzs : z.size = 0 := by rw [hz, bstr_size, List.length_take, name_len]; omega
      have hnx0 : ∀ ty, (Instr.next (.pointer (some ⟨w1.heap.size, 0, none⟩)) true ty).run Tryd.prog wr = .ok (.tuple #[.bool true, .int .i64 0, .int .i32 120]) (wr.iterAt w1.heap.size ⟨#[120, 121, 122]⟩ 1) := fun ty => Lib.run_next_ascii_at wr w1.heap.size ⟨#[120, 121, 122]⟩ 0 ty hit (by decide) (by decide)
      have HP : Hid (wr.iterPos w1.heap.size = 0) := Lib.hid (by unfold World.iterPos; rw [hit])
      have hit1 := Lib.iterAt_heap wr w1.heap.size ⟨#[120, 121, 122]⟩ 0 1 hit
      have hbl1 := Lib.below_iterAt hbl (Nat.le_refl _) ⟨#[120, 121, 122]⟩ 1
      obtain ⟨W1, hW1⟩ : ∃ z, z = wr.iterAt w1.heap.size ⟨#[120, 121, 122]⟩ 1 := ⟨_, rfl⟩
      rw [← hW1] at hit1 hbl1
      have hnx : ∀ ty, (Instr.next (.pointer (some ⟨w1.heap.size, 0, none⟩)) true ty).run Tryd.prog wr = .ok (.tuple #[.bool true, .int .i64 0, .int .i32 120]) W1 := by rw [hW1]; exact hnx0
      have HI := Lib.hid hit1
      have HB := Lib.hid hbl1
      have HZ := Lib.hid hz
      have N := CN.out 0 (by decide)
      have N2 : ∀ W, Calls Tryd.prog 89 #[.int .i64 (s : Int), .int .i64 0] W fun e w' => e = .returned (.bool (Pt.bit s 0)) ∧ w' = W := N
      have hch : Pt.chr (Pt.axis (s / 8) 0) = 120 := by rw [HK.out]; rfl
      clear hz hit hbl hnx0 hW1 hit1 hbl1 hi N
      cases hb : Pt.bit s 0 with
      | false =>
        rw [hb] at N2
        have N3 := Lib.hid N2
        have hsg : Pt.sgn s 0 = 43 := by unfold Pt.sgn; rw [hb]; rfl
        have HT2 : Hid (bstr ((Pt.name s).take 0) ++ bstr [43, 120] = bstr ((Pt.name s).take 2)) := Lib.hid (by rw [bcat, ← hsg, ← hch]; rfl)
        clear N2 hb hsg hch
        go_wp2_with fail
        refine (N3.out _).mono ?_
        rintro e w2 ⟨rfl, rfl⟩
        go_wp2_with fail
        go_roundw
        case rel => exact ⟨1, _, by omega, rfl, by rw [HZ.out]; exact HT2.out, HI.out, HB.out⟩
        case measure => rw [HP.out]; have hp2 := iterPos_of HI.out; rw [hp2]; omega
      | true =>
        rw [hb] at N2
        have N3 := Lib.hid N2
        have hsg : Pt.sgn s 0 = 45 := by unfold Pt.sgn; rw [hb]; rfl
        have HT2 : Hid (bstr ((Pt.name s).take 0) ++ bstr [45, 120] = bstr ((Pt.name s).take 2)) := Lib.hid (by rw [bcat, ← hsg, ← hch]; rfl)
        clear N2 hb hsg hch
        go_wp2_with fail
        refine (N3.out _).mono ?_
        rintro e w2 ⟨rfl, rfl⟩
        go_wp2_with fail
        go_roundw
        case rel => exact ⟨1, _, by omega, rfl, by rw [HZ.out]; exact HT2.out, HI.out, HB.out⟩
        case measure => rw [HP.out]; have hp2 := iterPos_of HI.out; rw [hp2]; omega
    · have hzs : z.size = 2 := by rw [hz, bstr_size, List.length_take, name_len]; omega
      have hnx0 : ∀ ty, (Instr.next (.pointer (some ⟨w1.heap.size, 0, none⟩)) true ty).run Tryd.prog wr = .ok (.tuple #[.bool true, .int .i64 1, .int .i32 121]) (wr.iterAt w1.heap.size ⟨#[120, 121, 122]⟩ 2) := fun ty => Lib.run_next_ascii_at wr w1.heap.size ⟨#[120, 121, 122]⟩ 1 ty hit (by decide) (by decide)
      have HP : Hid (wr.iterPos w1.heap.size = 1) := Lib.hid (by unfold World.iterPos; rw [hit])
      have hit1 := Lib.iterAt_heap wr w1.heap.size ⟨#[120, 121, 122]⟩ 1 2 hit
      have hbl1 := Lib.below_iterAt hbl (Nat.le_refl _) ⟨#[120, 121, 122]⟩ 2
      obtain ⟨W1, hW1⟩ : ∃ z, z = wr.iterAt w1.heap.size ⟨#[120, 121, 122]⟩ 2 := ⟨_, rfl⟩
      rw [← hW1] at hit1 hbl1
      have hnx : ∀ ty, (Instr.next (.pointer (some ⟨w1.heap.size, 0, none⟩)) true ty).run Tryd.prog wr = .ok (.tuple #[.bool true, .int .i64 1, .int .i32 121]) W1 := by rw [hW1]; exact hnx0
      have HI := Lib.hid hit1
      have HB := Lib.hid hbl1
      have HZ := Lib.hid hz
      have N := CN.out 1 (by decide)
      have N2 : ∀ W, Calls Tryd.prog 89 #[.int .i64 (s : Int), .int .i64 1] W fun e w' => e = .returned (.bool (Pt.bit s 1)) ∧ w' = W := N
      have hch : Pt.chr (Pt.axis (s / 8) 1) = 121 := by rw [HK.out]; rfl
      clear hz hit hbl hnx0 hW1 hit1 hbl1 hi N
      cases hb : Pt.bit s 1 with
      | false =>
        rw [hb] at N2
        have N3 := Lib.hid N2
        have hsg : Pt.sgn s 1 = 43 := by unfold Pt.sgn; rw [hb]; rfl
        have HT2 : Hid (bstr ((Pt.name s).take 2) ++ bstr [43, 121] = bstr ((Pt.name s).take 4)) := Lib.hid (by rw [bcat, ← hsg, ← hch]; rfl)
        clear N2 hb hsg hch
        go_wp2_with fail
        refine (N3.out _).mono ?_
        rintro e w2 ⟨rfl, rfl⟩
        go_wp2_with fail
        go_roundw
        case rel => exact ⟨2, _, by omega, rfl, by rw [HZ.out]; exact HT2.out, HI.out, HB.out⟩
        case measure => rw [HP.out]; have hp2 := iterPos_of HI.out; rw [hp2]; omega
      | true =>
        rw [hb] at N2
        have N3 := Lib.hid N2
        have hsg : Pt.sgn s 1 = 45 := by unfold Pt.sgn; rw [hb]; rfl
        have HT2 : Hid (bstr ((Pt.name s).take 2) ++ bstr [45, 121] = bstr ((Pt.name s).take 4)) := Lib.hid (by rw [bcat, ← hsg, ← hch]; rfl)
        clear N2 hb hsg hch
        go_wp2_with fail
        refine (N3.out _).mono ?_
        rintro e w2 ⟨rfl, rfl⟩
        go_wp2_with fail
        go_roundw
        case rel => exact ⟨2, _, by omega, rfl, by rw [HZ.out]; exact HT2.out, HI.out, HB.out⟩
        case measure => rw [HP.out]; have hp2 := iterPos_of HI.out; rw [hp2]; omega
    · have hzs : z.size = 4 := by rw [hz, bstr_size, List.length_take, name_len]; omega
      have hnx0 : ∀ ty, (Instr.next (.pointer (some ⟨w1.heap.size, 0, none⟩)) true ty).run Tryd.prog wr = .ok (.tuple #[.bool true, .int .i64 2, .int .i32 122]) (wr.iterAt w1.heap.size ⟨#[120, 121, 122]⟩ 3) := fun ty => Lib.run_next_ascii_at wr w1.heap.size ⟨#[120, 121, 122]⟩ 2 ty hit (by decide) (by decide)
      have HP : Hid (wr.iterPos w1.heap.size = 2) := Lib.hid (by unfold World.iterPos; rw [hit])
      have hit1 := Lib.iterAt_heap wr w1.heap.size ⟨#[120, 121, 122]⟩ 2 3 hit
      have hbl1 := Lib.below_iterAt hbl (Nat.le_refl _) ⟨#[120, 121, 122]⟩ 3
      obtain ⟨W1, hW1⟩ : ∃ z, z = wr.iterAt w1.heap.size ⟨#[120, 121, 122]⟩ 3 := ⟨_, rfl⟩
      rw [← hW1] at hit1 hbl1
      have hnx : ∀ ty, (Instr.next (.pointer (some ⟨w1.heap.size, 0, none⟩)) true ty).run Tryd.prog wr = .ok (.tuple #[.bool true, .int .i64 2, .int .i32 122]) W1 := by rw [hW1]; exact hnx0
      have HI := Lib.hid hit1
      have HB := Lib.hid hbl1
      have HZ := Lib.hid hz
      have N := CN.out 2 (by decide)
      have N2 : ∀ W, Calls Tryd.prog 89 #[.int .i64 (s : Int), .int .i64 2] W fun e w' => e = .returned (.bool (Pt.bit s 2)) ∧ w' = W := N
      have hch : Pt.chr (Pt.axis (s / 8) 2) = 122 := by rw [HK.out]; rfl
      clear hz hit hbl hnx0 hW1 hit1 hbl1 hi N
      cases hb : Pt.bit s 2 with
      | false =>
        rw [hb] at N2
        have N3 := Lib.hid N2
        have hsg : Pt.sgn s 2 = 43 := by unfold Pt.sgn; rw [hb]; rfl
        have HT2 : Hid (bstr ((Pt.name s).take 4) ++ bstr [43, 122] = bstr ((Pt.name s).take 6)) := Lib.hid (by rw [bcat, ← hsg, ← hch]; rfl)
        clear N2 hb hsg hch
        go_wp2_with fail
        refine (N3.out _).mono ?_
        rintro e w2 ⟨rfl, rfl⟩
        go_wp2_with fail
        go_roundw
        case rel => exact ⟨3, _, by omega, rfl, by rw [HZ.out]; exact HT2.out, HI.out, HB.out⟩
        case measure => rw [HP.out]; have hp2 := iterPos_of HI.out; rw [hp2]; omega
      | true =>
        rw [hb] at N2
        have N3 := Lib.hid N2
        have hsg : Pt.sgn s 2 = 45 := by unfold Pt.sgn; rw [hb]; rfl
        have HT2 : Hid (bstr ((Pt.name s).take 4) ++ bstr [45, 122] = bstr ((Pt.name s).take 6)) := Lib.hid (by rw [bcat, ← hsg, ← hch]; rfl)
        clear N2 hb hsg hch
        go_wp2_with fail
        refine (N3.out _).mono ?_
        rintro e w2 ⟨rfl, rfl⟩
        go_wp2_with fail
        go_roundw
        case rel => exact ⟨3, _, by omega, rfl, by rw [HZ.out]; exact HT2.out, HI.out, HB.out⟩
        case measure => rw [HP.out]; have hp2 := iterPos_of HI.out; rw [hp2]; omega
    · have hnx : ∀ ty, (Instr.next (.pointer (some ⟨w1.heap.size, 0, none⟩)) true ty).run Tryd.prog wr = .ok (.tuple #[.bool false]) wr := fun ty => Lib.run_next_end_at wr w1.heap.size ⟨#[120, 121, 122]⟩ 3 ty hit (by decide)
      have HZ := Lib.hid hz
      have HB := Lib.hid hbl
      clear hz hit hbl hi
      go_wp2_with fail
      go_ret
      exact ⟨by rw [HZ.out]; rfl, HB.out⟩
set_option maxRecDepth 1000000 in
set_option maxHeartbeats 4000000 in
theorem name_o1 (s : Nat) (w : World) (hT : Tab w) (hs : s < 48) (hk : (s : Int) / 8 = 1) :
    Calls Tryd.prog 59 #[.int .i64 (s : Int)] w fun e w' => e = .returned (.string (bstr (Pt.name s))) ∧ Below w.heap.size w w' := by
  have CS : Hid (∀ W, Calls Tryd.prog 80 #[.int .i64 (s : Int)] W fun e w' => e = .returned (.bool true) ∧ w' = W) := Lib.hid (fun W => by
    have := symmetry_same (s : Int) W
    rwa [decide_eq_true (show 0 ≤ (s : Int) ∧ (s : Int) < 48 by omega)] at this)
  have CN : Hid (∀ i : Nat, i < 3 → ∀ W, Calls Tryd.prog 89 #[.int .i64 (s : Int), .int .i64 (i : Int)] W fun e w' => e = .returned (.bool (Pt.bit s i)) ∧ w' = W) := Lib.hid (fun i hi W => negates_same s i W hs hi)
  have HK := Lib.hid (show s / 8 = 1 by omega)
  have hg := hT 1 _ rfl
  have hgl : 0 < w.heap.size := World.block_lt_of_cell? w _ hg
  rw [Nat.zero_add] at hg
  go_enter Tryd.func59, Tryd.ntmps59
  go_wp2_with fail
  refine (CS.out _).mono ?_
  rintro e w1 ⟨rfl, rfl⟩
  go_wp2_with fail
  go_loopw [3] (fun n wr => ∃ (i : Nat) (z : ByteArray), i ≤ 3 ∧ n = .string z ∧ z = bstr ((Pt.name s).take (2 * i)) ∧ wr.heap[w1.heap.size]? = some (.stringIter ⟨#[120, 122, 121]⟩ i) ∧ Below w1.heap.size w1 wr) (fun _ wr => 3 - wr.iterPos w1.heap.size)
  case atStart => exact ⟨0, _, by omega, rfl, rfl, World.iter_heap w1 ⟨#[120, 122, 121]⟩ 0, (Below.refl _ _).alloc (Nat.le_refl _) _⟩
  case round =>
    obtain ⟨i, z, hi, rfl, hz, hit, hbl⟩ := hrel
    have hc : i = 0 ∨ i = 1 ∨ i = 2 ∨ i = 3 := by omega
    rcases hc with rfl | rfl | rfl | rfl
    · have hzs : z.size = 0 := by rw [hz, bstr_size, List.length_take, name_len]; omega
      have hnx0 : ∀ ty, (Instr.next (.pointer (some ⟨w1.heap.size, 0, none⟩)) true ty).run Tryd.prog wr = .ok (.tuple #[.bool true, .int .i64 0, .int .i32 120]) (wr.iterAt w1.heap.size ⟨#[120, 122, 121]⟩ 1) := fun ty => Lib.run_next_ascii_at wr w1.heap.size ⟨#[120, 122, 121]⟩ 0 ty hit (by decide) (by decide)
      have HP : Hid (wr.iterPos w1.heap.size = 0) := Lib.hid (by unfold World.iterPos; rw [hit])
      have hit1 := Lib.iterAt_heap wr w1.heap.size ⟨#[120, 122, 121]⟩ 0 1 hit
      have hbl1 := Lib.below_iterAt hbl (Nat.le_refl _) ⟨#[120, 122, 121]⟩ 1
      obtain ⟨W1, hW1⟩ : ∃ z, z = wr.iterAt w1.heap.size ⟨#[120, 122, 121]⟩ 1 := ⟨_, rfl⟩
      rw [← hW1] at hit1 hbl1
      have hnx : ∀ ty, (Instr.next (.pointer (some ⟨w1.heap.size, 0, none⟩)) true ty).run Tryd.prog wr = .ok (.tuple #[.bool true, .int .i64 0, .int .i32 120]) W1 := by rw [hW1]; exact hnx0
      have HI := Lib.hid hit1
      have HB := Lib.hid hbl1
      have HZ := Lib.hid hz
      have N := CN.out 0 (by decide)
      have N2 : ∀ W, Calls Tryd.prog 89 #[.int .i64 (s : Int), .int .i64 0] W fun e w' => e = .returned (.bool (Pt.bit s 0)) ∧ w' = W := N
      have hch : Pt.chr (Pt.axis (s / 8) 0) = 120 := by rw [HK.out]; rfl
      clear hz hit hbl hnx0 hW1 hit1 hbl1 hi N
      cases hb : Pt.bit s 0 with
      | false =>
        rw [hb] at N2
        have N3 := Lib.hid N2
        have hsg : Pt.sgn s 0 = 43 := by unfold Pt.sgn; rw [hb]; rfl
        have HT2 : Hid (bstr ((Pt.name s).take 0) ++ bstr [43, 120] = bstr ((Pt.name s).take 2)) := Lib.hid (by rw [bcat, ← hsg, ← hch]; rfl)
        clear N2 hb hsg hch
        go_wp2_with fail
        refine (N3.out _).mono ?_
        rintro e w2 ⟨rfl, rfl⟩
        go_wp2_with fail
        go_roundw
        case rel => exact ⟨1, _, by omega, rfl, by rw [HZ.out]; exact HT2.out, HI.out, HB.out⟩
        case measure => rw [HP.out]; have hp2 := iterPos_of HI.out; rw [hp2]; omega
      | true =>
        rw [hb] at N2
        have N3 := Lib.hid N2
        have hsg : Pt.sgn s 0 = 45 := by unfold Pt.sgn; rw [hb]; rfl
        have HT2 : Hid (bstr ((Pt.name s).take 0) ++ bstr [45, 120] = bstr ((Pt.name s).take 2)) := Lib.hid (by rw [bcat, ← hsg, ← hch]; rfl)
        clear N2 hb hsg hch
        go_wp2_with fail
        refine (N3.out _).mono ?_
        rintro e w2 ⟨rfl, rfl⟩
        go_wp2_with fail
        go_roundw
        case rel => exact ⟨1, _, by omega, rfl, by rw [HZ.out]; exact HT2.out, HI.out, HB.out⟩
        case measure => rw [HP.out]; have hp2 := iterPos_of HI.out; rw [hp2]; omega
    · have hzs : z.size = 2 := by rw [hz, bstr_size, List.length_take, name_len]; omega
      have hnx0 : ∀ ty, (Instr.next (.pointer (some ⟨w1.heap.size, 0, none⟩)) true ty).run Tryd.prog wr = .ok (.tuple #[.bool true, .int .i64 1, .int .i32 122]) (wr.iterAt w1.heap.size ⟨#[120, 122, 121]⟩ 2) := fun ty => Lib.run_next_ascii_at wr w1.heap.size ⟨#[120, 122, 121]⟩ 1 ty hit (by decide) (by decide)
      have HP : Hid (wr.iterPos w1.heap.size = 1) := Lib.hid (by unfold World.iterPos; rw [hit])
      have hit1 := Lib.iterAt_heap wr w1.heap.size ⟨#[120, 122, 121]⟩ 1 2 hit
      have hbl1 := Lib.below_iterAt hbl (Nat.le_refl _) ⟨#[120, 122, 121]⟩ 2
      obtain ⟨W1, hW1⟩ : ∃ z, z = wr.iterAt w1.heap.size ⟨#[120, 122, 121]⟩ 2 := ⟨_, rfl⟩
      rw [← hW1] at hit1 hbl1
      have hnx : ∀ ty, (Instr.next (.pointer (some ⟨w1.heap.size, 0, none⟩)) true ty).run Tryd.prog wr = .ok (.tuple #[.bool true, .int .i64 1, .int .i32 122]) W1 := by rw [hW1]; exact hnx0
      have HI := Lib.hid hit1
      have HB := Lib.hid hbl1
      have HZ := Lib.hid hz
      have N := CN.out 1 (by decide)
      have N2 : ∀ W, Calls Tryd.prog 89 #[.int .i64 (s : Int), .int .i64 1] W fun e w' => e = .returned (.bool (Pt.bit s 1)) ∧ w' = W := N
      have hch : Pt.chr (Pt.axis (s / 8) 1) = 122 := by rw [HK.out]; rfl
      clear hz hit hbl hnx0 hW1 hit1 hbl1 hi N
      cases hb : Pt.bit s 1 with
      | false =>
        rw [hb] at N2
        have N3 := Lib.hid N2
        have hsg : Pt.sgn s 1 = 43 := by unfold Pt.sgn; rw [hb]; rfl
        have HT2 : Hid (bstr ((Pt.name s).take 2) ++ bstr [43, 122] = bstr ((Pt.name s).take 4)) := Lib.hid (by rw [bcat, ← hsg, ← hch]; rfl)
        clear N2 hb hsg hch
        go_wp2_with fail
        refine (N3.out _).mono ?_
        rintro e w2 ⟨rfl, rfl⟩
        go_wp2_with fail
        go_roundw
        case rel => exact ⟨2, _, by omega, rfl, by rw [HZ.out]; exact HT2.out, HI.out, HB.out⟩
        case measure => rw [HP.out]; have hp2 := iterPos_of HI.out; rw [hp2]; omega
      | true =>
        rw [hb] at N2
        have N3 := Lib.hid N2
        have hsg : Pt.sgn s 1 = 45 := by unfold Pt.sgn; rw [hb]; rfl
        have HT2 : Hid (bstr ((Pt.name s).take 2) ++ bstr [45, 122] = bstr ((Pt.name s).take 4)) := Lib.hid (by rw [bcat, ← hsg, ← hch]; rfl)
        clear N2 hb hsg hch
        go_wp2_with fail
        refine (N3.out _).mono ?_
        rintro e w2 ⟨rfl, rfl⟩
        go_wp2_with fail
        go_roundw
        case rel => exact ⟨2, _, by omega, rfl, by rw [HZ.out]; exact HT2.out, HI.out, HB.out⟩
        case measure => rw [HP.out]; have hp2 := iterPos_of HI.out; rw [hp2]; omega
    · have hzs : z.size = 4 := by rw [hz, bstr_size, List.length_take, name_len]; omega
      have hnx0 : ∀ ty, (Instr.next (.pointer (some ⟨w1.heap.size, 0, none⟩)) true ty).run Tryd.prog wr = .ok (.tuple #[.bool true, .int .i64 2, .int .i32 121]) (wr.iterAt w1.heap.size ⟨#[120, 122, 121]⟩ 3) := fun ty => Lib.run_next_ascii_at wr w1.heap.size ⟨#[120, 122, 121]⟩ 2 ty hit (by decide) (by decide)
      have HP : Hid (wr.iterPos w1.heap.size = 2) := Lib.hid (by unfold World.iterPos; rw [hit])
      have hit1 := Lib.iterAt_heap wr w1.heap.size ⟨#[120, 122, 121]⟩ 2 3 hit
      have hbl1 := Lib.below_iterAt hbl (Nat.le_refl _) ⟨#[120, 122, 121]⟩ 3
      obtain ⟨W1, hW1⟩ : ∃ z, z = wr.iterAt w1.heap.size ⟨#[120, 122, 121]⟩ 3 := ⟨_, rfl⟩
      rw [← hW1] at hit1 hbl1
      have hnx : ∀ ty, (Instr.next (.pointer (some ⟨w1.heap.size, 0, none⟩)) true ty).run Tryd.prog wr = .ok (.tuple #[.bool true, .int .i64 2, .int .i32 121]) W1 := by rw [hW1]; exact hnx0
      have HI := Lib.hid hit1
      have HB := Lib.hid hbl1
      have HZ := Lib.hid hz
      have N := CN.out 2 (by decide)
      have N2 : ∀ W, Calls Tryd.prog 89 #[.int .i64 (s : Int), .int .i64 2] W fun e w' => e = .returned (.bool (Pt.bit s 2)) ∧ w' = W := N
      have hch : Pt.chr (Pt.axis (s / 8) 2) = 121 := by rw [HK.out]; rfl
      clear hz hit hbl hnx0 hW1 hit1 hbl1 hi N
      cases hb : Pt.bit s 2 with
      | false =>
        rw [hb] at N2
        have N3 := Lib.hid N2
        have hsg : Pt.sgn s 2 = 43 := by unfold Pt.sgn; rw [hb]; rfl
        have HT2 : Hid (bstr ((Pt.name s).take 4) ++ bstr [43, 121] = bstr ((Pt.name s).take 6)) := Lib.hid (by rw [bcat, ← hsg, ← hch]; rfl)
        clear N2 hb hsg hch
        go_wp2_with fail
        refine (N3.out _).mono ?_
        rintro e w2 ⟨rfl, rfl⟩
        go_wp2_with fail
        go_roundw
        case rel => exact ⟨3, _, by omega, rfl, by rw [HZ.out]; exact HT2.out, HI.out, HB.out⟩
        case measure => rw [HP.out]; have hp2 := iterPos_of HI.out; rw [hp2]; omega
      | true =>
        rw [hb] at N2
        have N3 := Lib.hid N2
        have hsg : Pt.sgn s 2 = 45 := by unfold Pt.sgn; rw [hb]; rfl
        have HT2 : Hid (bstr ((Pt.name s).take 4) ++ bstr [45, 121] = bstr ((Pt.name s).take 6)) := Lib.hid (by rw [bcat, ← hsg, ← hch]; rfl)
        clear N2 hb hsg hch
        go_wp2_with fail
        refine (N3.out _).mono ?_
        rintro e w2 ⟨rfl, rfl⟩
        go_wp2_with fail
        go_roundw
        case rel => exact ⟨3, _, by omega, rfl, by rw [HZ.out]; exact HT2.out, HI.out, HB.out⟩
        case measure => rw [HP.out]; have hp2 := iterPos_of HI.out; rw [hp2]; omega
    · have hnx : ∀ ty, (Instr.next (.pointer (some ⟨w1.heap.size, 0, none⟩)) true ty).run Tryd.prog wr = .ok (.tuple #[.bool false]) wr := fun ty => Lib.run_next_end_at wr w1.heap.size ⟨#[120, 122, 121]⟩ 3 ty hit (by decide)
      have HZ := Lib.hid hz
      have HB := Lib.hid hbl
      clear hz hit hbl hi
      go_wp2_with fail
      go_ret
      exact ⟨by rw [HZ.out]; rfl, HB.out⟩
set_option maxRecDepth 1000000 in
set_option maxHeartbeats 4000000 in
theorem name_o2 (s : Nat) (w : World) (hT : Tab w) (hs : s < 48) (hk : (s : Int) / 8 = 2) :
    Calls Tryd.prog 59 #[.int .i64 (s : Int)] w fun e w' => e = .returned (.string (bstr (Pt.name s))) ∧ Below w.heap.size w w' := by
  have CS : Hid (∀ W, Calls Tryd.prog 80 #[.int .i64 (s : Int)] W fun e w' => e = .returned (.bool true) ∧ w' = W) := Lib.hid (fun W => by
    have := symmetry_same (s : Int) W
    rwa [decide_eq_true (show 0 ≤ (s : Int) ∧ (s : Int) < 48 by omega)] at this)
  have CN : Hid (∀ i : Nat, i < 3 → ∀ W, Calls Tryd.prog 89 #[.int .i64 (s : Int), .int .i64 (i : Int)] W fun e w' => e = .returned (.bool (Pt.bit s i)) ∧ w' = W) := Lib.hid (fun i hi W => negates_same s i W hs hi)
  have HK := Lib.hid (show s / 8 = 2 by omega)
  have hg := hT 2 _ rfl
  have hgl : 0 < w.heap.size := World.block_lt_of_cell? w _ hg
  rw [Nat.zero_add] at hg
  go_enter Tryd.func59, Tryd.ntmps59
  go_wp2_with fail
  refine (CS.out _).mono ?_
  rintro e w1 ⟨rfl, rfl⟩
  go_wp2_with fail
  go_loopw [3] (fun n wr => ∃ (i : Nat) (z : ByteArray), i ≤ 3 ∧ n = .string z ∧ z = bstr ((Pt.name s).take (2 * i)) ∧ wr.heap[w1.heap.size]? = some (.stringIter ⟨#[121, 120, 122]⟩ i) ∧ Below w1.heap.size w1 wr) (fun _ wr => 3 - wr.iterPos w1.heap.size)
  case atStart => exact ⟨0, _, by omega, rfl, rfl, World.iter_heap w1 ⟨#[121, 120, 122]⟩ 0, (Below.refl _ _).alloc (Nat.le_refl _) _⟩
  case round =>
    obtain ⟨i, z, hi, rfl, hz, hit, hbl⟩ := hrel
    have hc : i = 0 ∨ i = 1 ∨ i = 2 ∨ i = 3 := by omega
    rcases hc with rfl | rfl | rfl | rfl
    · have hzs : z.size = 0 := by rw [hz, bstr_size, List.length_take, name_len]; omega
      have hnx0 : ∀ ty, (Instr.next (.pointer (some ⟨w1.heap.size, 0, none⟩)) true ty).run Tryd.prog wr = .ok (.tuple #[.bool true, .int .i64 0, .int .i32 121]) (wr.iterAt w1.heap.size ⟨#[121, 120, 122]⟩ 1) := fun ty => Lib.run_next_ascii_at wr w1.heap.size ⟨#[121, 120, 122]⟩ 0 ty hit (by decide) (by decide)
      have HP : Hid (wr.iterPos w1.heap.size = 0) := Lib.hid (by unfold World.iterPos; rw [hit])
      have hit1 := Lib.iterAt_heap wr w1.heap.size ⟨#[121, 120, 122]⟩ 0 1 hit
      have hbl1 := Lib.below_iterAt hbl (Nat.le_refl _) ⟨#[121, 120, 122]⟩ 1
      obtain ⟨W1, hW1⟩ : ∃ z, z = wr.iterAt w1.heap.size ⟨#[121, 120, 122]⟩ 1 := ⟨_, rfl⟩
      rw [← hW1] at hit1 hbl1
      have hnx : ∀ ty, (Instr.next (.pointer (some ⟨w1.heap.size, 0, none⟩)) true ty).run Tryd.prog wr = .ok (.tuple #[.bool true, .int .i64 0, .int .i32 121]) W1 := by rw [hW1]; exact hnx0
      have HI := Lib.hid hit1
      have HB := Lib.hid hbl1
      have HZ := Lib.hid hz
      have N := CN.out 0 (by decide)
      have N2 : ∀ W, Calls Tryd.prog 89 #[.int .i64 (s : Int), .int .i64 0] W fun e w' => e = .returned (.bool (Pt.bit s 0)) ∧ w' = W := N
      have hch : Pt.chr (Pt.axis (s / 8) 0) = 121 := by rw [HK.out]; rfl
      clear hz hit hbl hnx0 hW1 hit1 hbl1 hi N
      cases hb : Pt.bit s 0 with
      | false =>
        rw [hb] at N2
        have N3 := Lib.hid N2
        have hsg : Pt.sgn s 0 = 43 := by unfold Pt.sgn; rw [hb]; rfl
        have HT2 : Hid (bstr ((Pt.name s).take 0) ++ bstr [43, 121] = bstr ((Pt.name s).take 2)) := Lib.hid (by rw [bcat, ← hsg, ← hch]; rfl)
        clear N2 hb hsg hch
        go_wp2_with fail
        refine (N3.out _).mono ?_
        rintro e w2 ⟨rfl, rfl⟩
        go_wp2_with fail
        go_roundw
        case rel => exact ⟨1, _, by omega, rfl, by rw [HZ.out]; exact HT2.out, HI.out, HB.out⟩
        case measure => rw [HP.out]; have hp2 := iterPos_of HI.out; rw [hp2]; omega
      | true =>
        rw [hb] at N2
        have N3 := Lib.hid N2
        have hsg : Pt.sgn s 0 = 45 := by unfold Pt.sgn; rw [hb]; rfl
        have HT2 : Hid (bstr ((Pt.name s).take 0) ++ bstr [45, 121] = bstr ((Pt.name s).take 2)) := Lib.hid (by rw [bcat, ← hsg, ← hch]; rfl)
        clear N2 hb hsg hch
        go_wp2_with fail
        refine (N3.out _).mono ?_
        rintro e w2 ⟨rfl, rfl⟩
        go_wp2_with fail
        go_roundw
        case rel => exact ⟨1, _, by omega, rfl, by rw [HZ.out]; exact HT2.out, HI.out, HB.out⟩
        case measure => rw [HP.out]; have hp2 := iterPos_of HI.out; rw [hp2]; omega
    · have hzs : z.size = 2 := by rw [hz, bstr_size, List.length_take, name_len]; omega
      have hnx0 : ∀ ty, (Instr.next (.pointer (some ⟨w1.heap.size, 0, none⟩)) true ty).run Tryd.prog wr = .ok (.tuple #[.bool true, .int .i64 1, .int .i32 120]) (wr.iterAt w1.heap.size ⟨#[121, 120, 122]⟩ 2) := fun ty => Lib.run_next_ascii_at wr w1.heap.size ⟨#[121, 120, 122]⟩ 1 ty hit (by decide) (by decide)
      have HP : Hid (wr.iterPos w1.heap.size = 1) := Lib.hid (by unfold World.iterPos; rw [hit])
      have hit1 := Lib.iterAt_heap wr w1.heap.size ⟨#[121, 120, 122]⟩ 1 2 hit
      have hbl1 := Lib.below_iterAt hbl (Nat.le_refl _) ⟨#[121, 120, 122]⟩ 2
      obtain ⟨W1, hW1⟩ : ∃ z, z = wr.iterAt w1.heap.size ⟨#[121, 120, 122]⟩ 2 := ⟨_, rfl⟩
      rw [← hW1] at hit1 hbl1
      have hnx : ∀ ty, (Instr.next (.pointer (some ⟨w1.heap.size, 0, none⟩)) true ty).run Tryd.prog wr = .ok (.tuple #[.bool true, .int .i64 1, .int .i32 120]) W1 := by rw [hW1]; exact hnx0
      have HI := Lib.hid hit1
      have HB := Lib.hid hbl1
      have HZ := Lib.hid hz
      have N := CN.out 1 (by decide)
      have N2 : ∀ W, Calls Tryd.prog 89 #[.int .i64 (s : Int), .int .i64 1] W fun e w' => e = .returned (.bool (Pt.bit s 1)) ∧ w' = W := N
      have hch : Pt.chr (Pt.axis (s / 8) 1) = 120 := by rw [HK.out]; rfl
      clear hz hit hbl hnx0 hW1 hit1 hbl1 hi N
      cases hb : Pt.bit s 1 with
      | false =>
        rw [hb] at N2
        have N3 := Lib.hid N2
        have hsg : Pt.sgn s 1 = 43 := by unfold Pt.sgn; rw [hb]; rfl
        have HT2 : Hid (bstr ((Pt.name s).take 2) ++ bstr [43, 120] = bstr ((Pt.name s).take 4)) := Lib.hid (by rw [bcat, ← hsg, ← hch]; rfl)
        clear N2 hb hsg hch
        go_wp2_with fail
        refine (N3.out _).mono ?_
        rintro e w2 ⟨rfl, rfl⟩
        go_wp2_with fail
        go_roundw
        case rel => exact ⟨2, _, by omega, rfl, by rw [HZ.out]; exact HT2.out, HI.out, HB.out⟩
        case measure => rw [HP.out]; have hp2 := iterPos_of HI.out; rw [hp2]; omega
      | true =>
        rw [hb] at N2
        have N3 := Lib.hid N2
        have hsg : Pt.sgn s 1 = 45 := by unfold Pt.sgn; rw [hb]; rfl
        have HT2 : Hid (bstr ((Pt.name s).take 2) ++ bstr [45, 120] = bstr ((Pt.name s).take 4)) := Lib.hid (by rw [bcat, ← hsg, ← hch]; rfl)
        clear N2 hb hsg hch
        go_wp2_with fail
        refine (N3.out _).mono ?_
        rintro e w2 ⟨rfl, rfl⟩
        go_wp2_with fail
        go_roundw
        case rel => exact ⟨2, _, by omega, rfl, by rw [HZ.out]; exact HT2.out, HI.out, HB.out⟩
        case measure => rw [HP.out]; have hp2 := iterPos_of HI.out; rw [hp2]; omega
    · have hzs : z.size = 4 := by rw [hz, bstr_size, List.length_take, name_len]; omega
      have hnx0 : ∀ ty, (Instr.next (.pointer (some ⟨w1.heap.size, 0, none⟩)) true ty).run Tryd.prog wr = .ok (.tuple #[.bool true, .int .i64 2, .int .i32 122]) (wr.iterAt w1.heap.size ⟨#[121, 120, 122]⟩ 3) := fun ty => Lib.run_next_ascii_at wr w1.heap.size ⟨#[121, 120, 122]⟩ 2 ty hit (by decide) (by decide)
      have HP : Hid (wr.iterPos w1.heap.size = 2) := Lib.hid (by unfold World.iterPos; rw [hit])
      have hit1 := Lib.iterAt_heap wr w1.heap.size ⟨#[121, 120, 122]⟩ 2 3 hit
      have hbl1 := Lib.below_iterAt hbl (Nat.le_refl _) ⟨#[121, 120, 122]⟩ 3
      obtain ⟨W1, hW1⟩ : ∃ z, z = wr.iterAt w1.heap.size ⟨#[121, 120, 122]⟩ 3 := ⟨_, rfl⟩
      rw [← hW1] at hit1 hbl1
      have hnx : ∀ ty, (Instr.next (.pointer (some ⟨w1.heap.size, 0, none⟩)) true ty).run Tryd.prog wr = .ok (.tuple #[.bool true, .int .i64 2, .int .i32 122]) W1 := by rw [hW1]; exact hnx0
      have HI := Lib.hid hit1
      have HB := Lib.hid hbl1
      have HZ := Lib.hid hz
      have N := CN.out 2 (by decide)
      have N2 : ∀ W, Calls Tryd.prog 89 #[.int .i64 (s : Int), .int .i64 2] W fun e w' => e = .returned (.bool (Pt.bit s 2)) ∧ w' = W := N
      have hch : Pt.chr (Pt.axis (s / 8) 2) = 122 := by rw [HK.out]; rfl
      clear hz hit hbl hnx0 hW1 hit1 hbl1 hi N
      cases hb : Pt.bit s 2 with
      | false =>
        rw [hb] at N2
        have N3 := Lib.hid N2
        have hsg : Pt.sgn s 2 = 43 := by unfold Pt.sgn; rw [hb]; rfl
        have HT2 : Hid (bstr ((Pt.name s).take 4) ++ bstr [43, 122] = bstr ((Pt.name s).take 6)) := Lib.hid (by rw [bcat, ← hsg, ← hch]; rfl)
        clear N2 hb hsg hch
        go_wp2_with fail
        refine (N3.out _).mono ?_
        rintro e w2 ⟨rfl, rfl⟩
        go_wp2_with fail
        go_roundw
        case rel => exact ⟨3, _, by omega, rfl, by rw [HZ.out]; exact HT2.out, HI.out, HB.out⟩
        case measure => rw [HP.out]; have hp2 := iterPos_of HI.out; rw [hp2]; omega
      | true =>
        rw [hb] at N2
        have N3 := Lib.hid N2
        have hsg : Pt.sgn s 2 = 45 := by unfold Pt.sgn; rw [hb]; rfl
        have HT2 : Hid (bstr ((Pt.name s).take 4) ++ bstr [45, 122] = bstr ((Pt.name s).take 6)) := Lib.hid (by rw [bcat, ← hsg, ← hch]; rfl)
        clear N2 hb hsg hch
        go_wp2_with fail
        refine (N3.out _).mono ?_
        rintro e w2 ⟨rfl, rfl⟩
        go_wp2_with fail
        go_roundw
        case rel => exact ⟨3, _, by omega, rfl, by rw [HZ.out]; exact HT2.out, HI.out, HB.out⟩
        case measure => rw [HP.out]; have hp2 := iterPos_of HI.out; rw [hp2]; omega
    · have hnx : ∀ ty, (Instr.next (.pointer (some ⟨w1.heap.size, 0, none⟩)) true ty).run Tryd.prog wr = .ok (.tuple #[.bool false]) wr := fun ty => Lib.run_next_end_at wr w1.heap.size ⟨#[121, 120, 122]⟩ 3 ty hit (by decide)
      have HZ := Lib.hid hz
      have HB := Lib.hid hbl
      clear hz hit hbl hi
      go_wp2_with fail
      go_ret
      exact ⟨by rw [HZ.out]; rfl, HB.out⟩
set_option maxRecDepth 1000000 in
set_option maxHeartbeats 4000000 in
theorem name_o3 (s : Nat) (w : World) (hT : Tab w) (hs : s < 48) (hk : (s : Int) / 8 = 3) :
    Calls Tryd.prog 59 #[.int .i64 (s : Int)] w fun e w' => e = .returned (.string (bstr (Pt.name s))) ∧ Below w.heap.size w w' := by
  have CS : Hid (∀ W, Calls Tryd.prog 80 #[.int .i64 (s : Int)] W fun e w' => e = .returned (.bool true) ∧ w' = W) := Lib.hid (fun W => by
    have := symmetry_same (s : Int) W
    rwa [decide_eq_true (show 0 ≤ (s : Int) ∧ (s : Int) < 48 by omega)] at this)
  have CN : Hid (∀ i : Nat, i < 3 → ∀ W, Calls Tryd.prog 89 #[.int .i64 (s : Int), .int .i64 (i : Int)] W fun e w' => e = .returned (.bool (Pt.bit s i)) ∧ w' = W) := Lib.hid (fun i hi W => negates_same s i W hs hi)
  have HK := Lib.hid (show s / 8 = 3 by omega)
  have hg := hT 3 _ rfl
  have hgl : 0 < w.heap.size := World.block_lt_of_cell? w _ hg
  rw [Nat.zero_add] at hg
  go_enter Tryd.func59, Tryd.ntmps59
  go_wp2_with fail
  refine (CS.out _).mono ?_
  rintro e w1 ⟨rfl, rfl⟩
  go_wp2_with fail
  go_loopw [3] (fun n wr => ∃ (i : Nat) (z : ByteArray), i ≤ 3 ∧ n = .string z ∧ z = bstr ((Pt.name s).take (2 * i)) ∧ wr.heap[w1.heap.size]? = some (.stringIter ⟨#[121, 122, 120]⟩ i) ∧ Below w1.heap.size w1 wr) (fun _ wr => 3 - wr.iterPos w1.heap.size)
  case atStart => exact ⟨0, _, by omega, rfl, rfl, World.iter_heap w1 ⟨#[121, 122, 120]⟩ 0, (Below.refl _ _).alloc (Nat.le_refl _) _⟩
  case round =>
    obtain ⟨i, z, hi, rfl, hz, hit, hbl⟩ := hrel
    have hc : i = 0 ∨ i = 1 ∨ i = 2 ∨ i = 3 := by omega
    rcases hc with rfl | rfl | rfl | rfl
    · have hzs : z.size = 0 := by rw [hz, bstr_size, List.length_take, name_len]; omega
      have hnx0 : ∀ ty, (Instr.next (.pointer (some ⟨w1.heap.size, 0, none⟩)) true ty).run Tryd.prog wr = .ok (.tuple #[.bool true, .int .i64 0, .int .i32 121]) (wr.iterAt w1.heap.size ⟨#[121, 122, 120]⟩ 1) := fun ty => Lib.run_next_ascii_at wr w1.heap.size ⟨#[121, 122, 120]⟩ 0 ty hit (by decide) (by decide)
      have HP : Hid (wr.iterPos w1.heap.size = 0) := Lib.hid (by unfold World.iterPos; rw [hit])
      have hit1 := Lib.iterAt_heap wr w1.heap.size ⟨#[121, 122, 120]⟩ 0 1 hit
      have hbl1 := Lib.below_iterAt hbl (Nat.le_refl _) ⟨#[121, 122, 120]⟩ 1
      obtain ⟨W1, hW1⟩ : ∃ z, z = wr.iterAt w1.heap.size ⟨#[121, 122, 120]⟩ 1 := ⟨_, rfl⟩
      rw [← hW1] at hit1 hbl1
      have hnx : ∀ ty, (Instr.next (.pointer (some ⟨w1.heap.size, 0, none⟩)) true ty).run Tryd.prog wr = .ok (.tuple #[.bool true, .int .i64 0, .int .i32 121]) W1 := by rw [hW1]; exact hnx0
      have HI := Lib.hid hit1
      have HB := Lib.hid hbl1
      have HZ := Lib.hid hz
      have N := CN.out 0 (by decide)
      have N2 : ∀ W, Calls Tryd.prog 89 #[.int .i64 (s : Int), .int .i64 0] W fun e w' => e = .returned (.bool (Pt.bit s 0)) ∧ w' = W := N
      have hch : Pt.chr (Pt.axis (s / 8) 0) = 121 := by rw [HK.out]; rfl
      clear hz hit hbl hnx0 hW1 hit1 hbl1 hi N
      cases hb : Pt.bit s 0 with
      | false =>
        rw [hb] at N2
        have N3 := Lib.hid N2
        have hsg : Pt.sgn s 0 = 43 := by unfold Pt.sgn; rw [hb]; rfl
        have HT2 : Hid (bstr ((Pt.name s).take 0) ++ bstr [43, 121] = bstr ((Pt.name s).take 2)) := Lib.hid (by rw [bcat, ← hsg, ← hch]; rfl)
        clear N2 hb hsg hch
        go_wp2_with fail
        refine (N3.out _).mono ?_
        rintro e w2 ⟨rfl, rfl⟩
        go_wp2_with fail
        go_roundw
        case rel => exact ⟨1, _, by omega, rfl, by rw [HZ.out]; exact HT2.out, HI.out, HB.out⟩
        case measure => rw [HP.out]; have hp2 := iterPos_of HI.out; rw [hp2]; omega
      | true =>
        rw [hb] at N2
        have N3 := Lib.hid N2
        have hsg : Pt.sgn s 0 = 45 := by unfold Pt.sgn; rw [hb]; rfl
        have HT2 : Hid (bstr ((Pt.name s).take 0) ++ bstr [45, 121] = bstr ((Pt.name s).take 2)) := Lib.hid (by rw [bcat, ← hsg, ← hch]; rfl)
        clear N2 hb hsg hch
        go_wp2_with fail
        refine (N3.out _).mono ?_
        rintro e w2 ⟨rfl, rfl⟩
        go_wp2_with fail
        go_roundw
        case rel => exact ⟨1, _, by omega, rfl, by rw [HZ.out]; exact HT2.out, HI.out, HB.out⟩
        case measure => rw [HP.out]; have hp2 := iterPos_of HI.out; rw [hp2]; omega
    · have hzs : z.size = 2 := by rw [hz, bstr_size, List.length_take, name_len]; omega
      have hnx0 : ∀ ty, (Instr.next (.pointer (some ⟨w1.heap.size, 0, none⟩)) true ty).run Tryd.prog wr = .ok (.tuple #[.bool true, .int .i64 1, .int .i32 122]) (wr.iterAt w1.heap.size ⟨#[121, 122, 120]⟩ 2) := fun ty => Lib.run_next_ascii_at wr w1.heap.size ⟨#[121, 122, 120]⟩ 1 ty hit (by decide) (by decide)
      have HP : Hid (wr.iterPos w1.heap.size = 1) := Lib.hid (by unfold World.iterPos; rw [hit])
      have hit1 := Lib.iterAt_heap wr w1.heap.size ⟨#[121, 122, 120]⟩ 1 2 hit
      have hbl1 := Lib.below_iterAt hbl (Nat.le_refl _) ⟨#[121, 122, 120]⟩ 2
      obtain ⟨W1, hW1⟩ : ∃ z, z = wr.iterAt w1.heap.size ⟨#[121, 122, 120]⟩ 2 := ⟨_, rfl⟩
      rw [← hW1] at hit1 hbl1
      have hnx : ∀ ty, (Instr.next (.pointer (some ⟨w1.heap.size, 0, none⟩)) true ty).run Tryd.prog wr = .ok (.tuple #[.bool true, .int .i64 1, .int .i32 122]) W1 := by rw [hW1]; exact hnx0
      have HI := Lib.hid hit1
      have HB := Lib.hid hbl1
      have HZ := Lib.hid hz
      have N := CN.out 1 (by decide)
      have N2 : ∀ W, Calls Tryd.prog 89 #[.int .i64 (s : Int), .int .i64 1] W fun e w' => e = .returned (.bool (Pt.bit s 1)) ∧ w' = W := N
      have hch : Pt.chr (Pt.axis (s / 8) 1) = 122 := by rw [HK.out]; rfl
      clear hz hit hbl hnx0 hW1 hit1 hbl1 hi N
      cases hb : Pt.bit s 1 with
      | false =>
        rw [hb] at N2
        have N3 := Lib.hid N2
        have hsg : Pt.sgn s 1 = 43 := by unfold Pt.sgn; rw [hb]; rfl
        have HT2 : Hid (bstr ((Pt.name s).take 2) ++ bstr [43, 122] = bstr ((Pt.name s).take 4)) := Lib.hid (by rw [bcat, ← hsg, ← hch]; rfl)
        clear N2 hb hsg hch
        go_wp2_with fail
        refine (N3.out _).mono ?_
        rintro e w2 ⟨rfl, rfl⟩
        go_wp2_with fail
        go_roundw
        case rel => exact ⟨2, _, by omega, rfl, by rw [HZ.out]; exact HT2.out, HI.out, HB.out⟩
        case measure => rw [HP.out]; have hp2 := iterPos_of HI.out; rw [hp2]; omega
      | true =>
        rw [hb] at N2
        have N3 := Lib.hid N2
        have hsg : Pt.sgn s 1 = 45 := by unfold Pt.sgn; rw [hb]; rfl
        have HT2 : Hid (bstr ((Pt.name s).take 2) ++ bstr [45, 122] = bstr ((Pt.name s).take 4)) := Lib.hid (by rw [bcat, ← hsg, ← hch]; rfl)
        clear N2 hb hsg hch
        go_wp2_with fail
        refine (N3.out _).mono ?_
        rintro e w2 ⟨rfl, rfl⟩
        go_wp2_with fail
        go_roundw
        case rel => exact ⟨2, _, by omega, rfl, by rw [HZ.out]; exact HT2.out, HI.out, HB.out⟩
        case measure => rw [HP.out]; have hp2 := iterPos_of HI.out; rw [hp2]; omega
    · have hzs : z.size = 4 := by rw [hz, bstr_size, List.length_take, name_len]; omega
      have hnx0 : ∀ ty, (Instr.next (.pointer (some ⟨w1.heap.size, 0, none⟩)) true ty).run Tryd.prog wr = .ok (.tuple #[.bool true, .int .i64 2, .int .i32 120]) (wr.iterAt w1.heap.size ⟨#[121, 122, 120]⟩ 3) := fun ty => Lib.run_next_ascii_at wr w1.heap.size ⟨#[121, 122, 120]⟩ 2 ty hit (by decide) (by decide)
      have HP : Hid (wr.iterPos w1.heap.size = 2) := Lib.hid (by unfold World.iterPos; rw [hit])
      have hit1 := Lib.iterAt_heap wr w1.heap.size ⟨#[121, 122, 120]⟩ 2 3 hit
      have hbl1 := Lib.below_iterAt hbl (Nat.le_refl _) ⟨#[121, 122, 120]⟩ 3
      obtain ⟨W1, hW1⟩ : ∃ z, z = wr.iterAt w1.heap.size ⟨#[121, 122, 120]⟩ 3 := ⟨_, rfl⟩
      rw [← hW1] at hit1 hbl1
      have hnx : ∀ ty, (Instr.next (.pointer (some ⟨w1.heap.size, 0, none⟩)) true ty).run Tryd.prog wr = .ok (.tuple #[.bool true, .int .i64 2, .int .i32 120]) W1 := by rw [hW1]; exact hnx0
      have HI := Lib.hid hit1
      have HB := Lib.hid hbl1
      have HZ := Lib.hid hz
      have N := CN.out 2 (by decide)
      have N2 : ∀ W, Calls Tryd.prog 89 #[.int .i64 (s : Int), .int .i64 2] W fun e w' => e = .returned (.bool (Pt.bit s 2)) ∧ w' = W := N
      have hch : Pt.chr (Pt.axis (s / 8) 2) = 120 := by rw [HK.out]; rfl
      clear hz hit hbl hnx0 hW1 hit1 hbl1 hi N
      cases hb : Pt.bit s 2 with
      | false =>
        rw [hb] at N2
        have N3 := Lib.hid N2
        have hsg : Pt.sgn s 2 = 43 := by unfold Pt.sgn; rw [hb]; rfl
        have HT2 : Hid (bstr ((Pt.name s).take 4) ++ bstr [43, 120] = bstr ((Pt.name s).take 6)) := Lib.hid (by rw [bcat, ← hsg, ← hch]; rfl)
        clear N2 hb hsg hch
        go_wp2_with fail
        refine (N3.out _).mono ?_
        rintro e w2 ⟨rfl, rfl⟩
        go_wp2_with fail
        go_roundw
        case rel => exact ⟨3, _, by omega, rfl, by rw [HZ.out]; exact HT2.out, HI.out, HB.out⟩
        case measure => rw [HP.out]; have hp2 := iterPos_of HI.out; rw [hp2]; omega
      | true =>
        rw [hb] at N2
        have N3 := Lib.hid N2
        have hsg : Pt.sgn s 2 = 45 := by unfold Pt.sgn; rw [hb]; rfl
        have HT2 : Hid (bstr ((Pt.name s).take 4) ++ bstr [45, 120] = bstr ((Pt.name s).take 6)) := Lib.hid (by rw [bcat, ← hsg, ← hch]; rfl)
        clear N2 hb hsg hch
        go_wp2_with fail
        refine (N3.out _).mono ?_
        rintro e w2 ⟨rfl, rfl⟩
        go_wp2_with fail
        go_roundw
        case rel => exact ⟨3, _, by omega, rfl, by rw [HZ.out]; exact HT2.out, HI.out, HB.out⟩
        case measure => rw [HP.out]; have hp2 := iterPos_of HI.out; rw [hp2]; omega
    · have hnx : ∀ ty, (Instr.next (.pointer (some ⟨w1.heap.size, 0, none⟩)) true ty).run Tryd.prog wr = .ok (.tuple #[.bool false]) wr := fun ty => Lib.run_next_end_at wr w1.heap.size ⟨#[121, 122, 120]⟩ 3 ty hit (by decide)
      have HZ := Lib.hid hz
      have HB := Lib.hid hbl
      clear hz hit hbl hi
      go_wp2_with fail
      go_ret
      exact ⟨by rw [HZ.out]; rfl, HB.out⟩
set_option maxRecDepth 1000000 in
set_option maxHeartbeats 4000000 in
theorem name_o4 (s : Nat) (w : World) (hT : Tab w) (hs : s < 48) (hk : (s : Int) / 8 = 4) :
    Calls Tryd.prog 59 #[.int .i64 (s : Int)] w fun e w' => e = .returned (.string (bstr (Pt.name s))) ∧ Below w.heap.size w w' := by
  have CS : Hid (∀ W, Calls Tryd.prog 80 #[.int .i64 (s : Int)] W fun e w' => e = .returned (.bool true) ∧ w' = W) := Lib.hid (fun W => by
    have := symmetry_same (s : Int) W
    rwa [decide_eq_true (show 0 ≤ (s : Int) ∧ (s : Int) < 48 by omega)] at this)
  have CN : Hid (∀ i : Nat, i < 3 → ∀ W, Calls Tryd.prog 89 #[.int .i64 (s : Int), .int .i64 (i : Int)] W fun e w' => e = .returned (.bool (Pt.bit s i)) ∧ w' = W) := Lib.hid (fun i hi W => negates_same s i W hs hi)
  have HK := Lib.hid (show s / 8 = 4 by omega)
  have hg := hT 4 _ rfl
  have hgl : 0 < w.heap.size := World.block_lt_of_cell? w _ hg
  rw [Nat.zero_add] at hg
  go_enter Tryd.func59, Tryd.ntmps59
  go_wp2_with fail
  refine (CS.out _).mono ?_
  rintro e w1 ⟨rfl, rfl⟩
  go_wp2_with fail
  go_loopw [3] (fun n wr => ∃ (i : Nat) (z : ByteArray), i ≤ 3 ∧ n = .string z ∧ z = bstr ((Pt.name s).take (2 * i)) ∧ wr.heap[w1.heap.size]? = some (.stringIter ⟨#[122, 120, 121]⟩ i) ∧ Below w1.heap.size w1 wr) (fun _ wr => 3 - wr.iterPos w1.heap.size)
  case atStart => exact ⟨0, _, by omega, rfl, rfl, World.iter_heap w1 ⟨#[122, 120, 121]⟩ 0, (Below.refl _ _).alloc (Nat.le_refl _) _⟩
  case round =>
    obtain ⟨i, z, hi, rfl, hz, hit, hbl⟩ := hrel
    have hc : i = 0 ∨ i = 1 ∨ i = 2 ∨ i = 3 := by omega
    rcases hc with rfl | rfl | rfl | rfl
    · have hzs : z.size = 0 := by rw [hz, bstr_size, List.length_take, name_len]; omega
      have hnx0 : ∀ ty, (Instr.next (.pointer (some ⟨w1.heap.size, 0, none⟩)) true ty).run Tryd.prog wr = .ok (.tuple #[.bool true, .int .i64 0, .int .i32 122]) (wr.iterAt w1.heap.size ⟨#[122, 120, 121]⟩ 1) := fun ty => Lib.run_next_ascii_at wr w1.heap.size ⟨#[122, 120, 121]⟩ 0 ty hit (by decide) (by decide)
      have HP : Hid (wr.iterPos w1.heap.size = 0) := Lib.hid (by unfold World.iterPos; rw [hit])
      have hit1 := Lib.iterAt_heap wr w1.heap.size ⟨#[122, 120, 121]⟩ 0 1 hit
      have hbl1 := Lib.below_iterAt hbl (Nat.le_refl _) ⟨#[122, 120, 121]⟩ 1
      obtain ⟨W1, hW1⟩ : ∃ z, z = wr.iterAt w1.heap.size ⟨#[122, 120, 121]⟩ 1 := ⟨_, rfl⟩
      rw [← hW1] at hit1 hbl1
      have hnx : ∀ ty, (Instr.next (.pointer (some ⟨w1.heap.size, 0, none⟩)) true ty).run Tryd.prog wr = .ok (.tuple #[.bool true, .int .i64 0, .int .i32 122]) W1 := by rw [hW1]; exact hnx0
      have HI := Lib.hid hit1
      have HB := Lib.hid hbl1
      have HZ := Lib.hid hz
      have N := CN.out 0 (by decide)
      have N2 : ∀ W, Calls Tryd.prog 89 #[.int .i64 (s : Int), .int .i64 0] W fun e w' => e = .returned (.bool (Pt.bit s 0)) ∧ w' = W := N
      have hch : Pt.chr (Pt.axis (s / 8) 0) = 122 := by rw [HK.out]; rfl
      clear hz hit hbl hnx0 hW1 hit1 hbl1 hi N
      cases hb : Pt.bit s 0 with
      | false =>
        rw [hb] at N2
        have N3 := Lib.hid N2
        have hsg : Pt.sgn s 0 = 43 := by unfold Pt.sgn; rw [hb]; rfl
        have HT2 : Hid (bstr ((Pt.name s).take 0) ++ bstr [43, 122] = bstr ((Pt.name s).take 2)) := Lib.hid (by rw [bcat, ← hsg, ← hch]; rfl)
        clear N2 hb hsg hch
        go_wp2_with fail
        refine (N3.out _).mono ?_
        rintro e w2 ⟨rfl, rfl⟩
        go_wp2_with fail
        go_roundw
        case rel => exact ⟨1, _, by omega, rfl, by rw [HZ.out]; exact HT2.out, HI.out, HB.out⟩
        case measure => rw [HP.out]; have hp2 := iterPos_of HI.out; rw [hp2]; omega
      | true =>
        rw [hb] at N2
        have N3 := Lib.hid N2
        have hsg : Pt.sgn s 0 = 45 := by unfold Pt.sgn; rw [hb]; rfl
        have HT2 : Hid (bstr ((Pt.name s).take 0) ++ bstr [45, 122] = bstr ((Pt.name s).take 2)) := Lib.hid (by rw [bcat, ← hsg, ← hch]; rfl)
        clear N2 hb hsg hch
        go_wp2_with fail
        refine (N3.out _).mono ?_
        rintro e w2 ⟨rfl, rfl⟩
        go_wp2_with fail
        go_roundw
        case rel => exact ⟨1, _, by omega, rfl, by rw [HZ.out]; exact HT2.out, HI.out, HB.out⟩
        case measure => rw [HP.out]; have hp2 := iterPos_of HI.out; rw [hp2]; omega
    · have hzs : z.size = 2 := by rw [hz, bstr_size, List.length_take, name_len]; omega
      have hnx0 : ∀ ty, (Instr.next (.pointer (some ⟨w1.heap.size, 0, none⟩)) true ty).run Tryd.prog wr = .ok (.tuple #[.bool true, .int .i64 1, .int .i32 120]) (wr.iterAt w1.heap.size ⟨#[122, 120, 121]⟩ 2) := fun ty => Lib.run_next_ascii_at wr w1.heap.size ⟨#[122, 120, 121]⟩ 1 ty hit (by decide) (by decide)
      have HP : Hid (wr.iterPos w1.heap.size = 1) := Lib.hid (by unfold World.iterPos; rw [hit])
      have hit1 := Lib.iterAt_heap wr w1.heap.size ⟨#[122, 120, 121]⟩ 1 2 hit
      have hbl1 := Lib.below_iterAt hbl (Nat.le_refl _) ⟨#[122, 120, 121]⟩ 2
      obtain ⟨W1, hW1⟩ : ∃ z, z = wr.iterAt w1.heap.size ⟨#[122, 120, 121]⟩ 2 := ⟨_, rfl⟩
      rw [← hW1] at hit1 hbl1
      have hnx : ∀ ty, (Instr.next (.pointer (some ⟨w1.heap.size, 0, none⟩)) true ty).run Tryd.prog wr = .ok (.tuple #[.bool true, .int .i64 1, .int .i32 120]) W1 := by rw [hW1]; exact hnx0
      have HI := Lib.hid hit1
      have HB := Lib.hid hbl1
      have HZ := Lib.hid hz
      have N := CN.out 1 (by decide)
      have N2 : ∀ W, Calls Tryd.prog 89 #[.int .i64 (s : Int), .int .i64 1] W fun e w' => e = .returned (.bool (Pt.bit s 1)) ∧ w' = W := N
      have hch : Pt.chr (Pt.axis (s / 8) 1) = 120 := by rw [HK.out]; rfl
      clear hz hit hbl hnx0 hW1 hit1 hbl1 hi N
      cases hb : Pt.bit s 1 with
      | false =>
        rw [hb] at N2
        have N3 := Lib.hid N2
        have hsg : Pt.sgn s 1 = 43 := by unfold Pt.sgn; rw [hb]; rfl
        have HT2 : Hid (bstr ((Pt.name s).take 2) ++ bstr [43, 120] = bstr ((Pt.name s).take 4)) := Lib.hid (by rw [bcat, ← hsg, ← hch]; rfl)
        clear N2 hb hsg hch
        go_wp2_with fail
        refine (N3.out _).mono ?_
        rintro e w2 ⟨rfl, rfl⟩
        go_wp2_with fail
        go_roundw
        case rel => exact ⟨2, _, by omega, rfl, by rw [HZ.out]; exact HT2.out, HI.out, HB.out⟩
        case measure => rw [HP.out]; have hp2 := iterPos_of HI.out; rw [hp2]; omega
      | true =>
        rw [hb] at N2
        have N3 := Lib.hid N2
        have hsg : Pt.sgn s 1 = 45 := by unfold Pt.sgn; rw [hb]; rfl
        have HT2 : Hid (bstr ((Pt.name s).take 2) ++ bstr [45, 120] = bstr ((Pt.name s).take 4)) := Lib.hid (by rw [bcat, ← hsg, ← hch]; rfl)
        clear N2 hb hsg hch
        go_wp2_with fail
        refine (N3.out _).mono ?_
        rintro e w2 ⟨rfl, rfl⟩
        go_wp2_with fail
        go_roundw
        case rel => exact ⟨2, _, by omega, rfl, by rw [HZ.out]; exact HT2.out, HI.out, HB.out⟩
        case measure => rw [HP.out]; have hp2 := iterPos_of HI.out; rw [hp2]; omega
    · have hzs : z.size = 4 := by rw [hz, bstr_size, List.length_take, name_len]; omega
      have hnx0 : ∀ ty, (Instr.next (.pointer (some ⟨w1.heap.size, 0, none⟩)) true ty).run Tryd.prog wr = .ok (.tuple #[.bool true, .int .i64 2, .int .i32 121]) (wr.iterAt w1.heap.size ⟨#[122, 120, 121]⟩ 3) := fun ty => Lib.run_next_ascii_at wr w1.heap.size ⟨#[122, 120, 121]⟩ 2 ty hit (by decide) (by decide)
      have HP : Hid (wr.iterPos w1.heap.size = 2) := Lib.hid (by unfold World.iterPos; rw [hit])
      have hit1 := Lib.iterAt_heap wr w1.heap.size ⟨#[122, 120, 121]⟩ 2 3 hit
      have hbl1 := Lib.below_iterAt hbl (Nat.le_refl _) ⟨#[122, 120, 121]⟩ 3
      obtain ⟨W1, hW1⟩ : ∃ z, z = wr.iterAt w1.heap.size ⟨#[122, 120, 121]⟩ 3 := ⟨_, rfl⟩
      rw [← hW1] at hit1 hbl1
      have hnx : ∀ ty, (Instr.next (.pointer (some ⟨w1.heap.size, 0, none⟩)) true ty).run Tryd.prog wr = .ok (.tuple #[.bool true, .int .i64 2, .int .i32 121]) W1 := by rw [hW1]; exact hnx0
      have HI := Lib.hid hit1
      have HB := Lib.hid hbl1
      have HZ := Lib.hid hz
      have N := CN.out 2 (by decide)
      have N2 : ∀ W, Calls Tryd.prog 89 #[.int .i64 (s : Int), .int .i64 2] W fun e w' => e = .returned (.bool (Pt.bit s 2)) ∧ w' = W := N
      have hch : Pt.chr (Pt.axis (s / 8) 2) = 121 := by rw [HK.out]; rfl
      clear hz hit hbl hnx0 hW1 hit1 hbl1 hi N
      cases hb : Pt.bit s 2 with
      | false =>
        rw [hb] at N2
        have N3 := Lib.hid N2
        have hsg : Pt.sgn s 2 = 43 := by unfold Pt.sgn; rw [hb]; rfl
        have HT2 : Hid (bstr ((Pt.name s).take 4) ++ bstr [43, 121] = bstr ((Pt.name s).take 6)) := Lib.hid (by rw [bcat, ← hsg, ← hch]; rfl)
        clear N2 hb hsg hch
        go_wp2_with fail
        refine (N3.out _).mono ?_
        rintro e w2 ⟨rfl, rfl⟩
        go_wp2_with fail
        go_roundw
        case rel => exact ⟨3, _, by omega, rfl, by rw [HZ.out]; exact HT2.out, HI.out, HB.out⟩
        case measure => rw [HP.out]; have hp2 := iterPos_of HI.out; rw [hp2]; omega
      | true =>
        rw [hb] at N2
        have N3 := Lib.hid N2
        have hsg : Pt.sgn s 2 = 45 := by unfold Pt.sgn; rw [hb]; rfl
        have HT2 : Hid (bstr ((Pt.name s).take 4) ++ bstr [45, 121] = bstr ((Pt.name s).take 6)) := Lib.hid (by rw [bcat, ← hsg, ← hch]; rfl)
        clear N2 hb hsg hch
        go_wp2_with fail
        refine (N3.out _).mono ?_
        rintro e w2 ⟨rfl, rfl⟩
        go_wp2_with fail
        go_roundw
        case rel => exact ⟨3, _, by omega, rfl, by rw [HZ.out]; exact HT2.out, HI.out, HB.out⟩
        case measure => rw [HP.out]; have hp2 := iterPos_of HI.out; rw [hp2]; omega
    · have hnx : ∀ ty, (Instr.next (.pointer (some ⟨w1.heap.size, 0, none⟩)) true ty).run Tryd.prog wr = .ok (.tuple #[.bool false]) wr := fun ty => Lib.run_next_end_at wr w1.heap.size ⟨#[122, 120, 121]⟩ 3 ty hit (by decide)
      have HZ := Lib.hid hz
      have HB := Lib.hid hbl
      clear hz hit hbl hi
      go_wp2_with fail
      go_ret
      exact ⟨by rw [HZ.out]; rfl, HB.out⟩
set_option maxRecDepth 1000000 in
set_option maxHeartbeats 4000000 in
theorem name_o5 (s : Nat) (w : World) (hT : Tab w) (hs : s < 48) (hk : (s : Int) / 8 = 5) :
    Calls Tryd.prog 59 #[.int .i64 (s : Int)] w fun e w' => e = .returned (.string (bstr (Pt.name s))) ∧ Below w.heap.size w w' := by
  have CS : Hid (∀ W, Calls Tryd.prog 80 #[.int .i64 (s : Int)] W fun e w' => e = .returned (.bool true) ∧ w' = W) := Lib.hid (fun W => by
    have := symmetry_same (s : Int) W
    rwa [decide_eq_true (show 0 ≤ (s : Int) ∧ (s : Int) < 48 by omega)] at this)
  have CN : Hid (∀ i : Nat, i < 3 → ∀ W, Calls Tryd.prog 89 #[.int .i64 (s : Int), .int .i64 (i : Int)] W fun e w' => e = .returned (.bool (Pt.bit s i)) ∧ w' = W) := Lib.hid (fun i hi W => negates_same s i W hs hi)
  have HK := Lib.hid (show s / 8 = 5 by omega)
  have hg := hT 5 _ rfl
  have hgl : 0 < w.heap.size := World.block_lt_of_cell? w _ hg
  rw [Nat.zero_add] at hg
  go_enter Tryd.func59, Tryd.ntmps59
  go_wp2_with fail
  refine (CS.out _).mono ?_
  rintro e w1 ⟨rfl, rfl⟩
  go_wp2_with fail
  go_loopw [3] (fun n wr => ∃ (i : Nat) (z : ByteArray), i ≤ 3 ∧ n = .string z ∧ z = bstr ((Pt.name s).take (2 * i)) ∧ wr.heap[w1.heap.size]? = some (.stringIter ⟨#[122, 121, 120]⟩ i) ∧ Below w1.heap.size w1 wr) (fun _ wr => 3 - wr.iterPos w1.heap.size)
  case atStart => exact ⟨0, _, by omega, rfl, rfl, World.iter_heap w1 ⟨#[122, 121, 120]⟩ 0, (Below.refl _ _).alloc (Nat.le_refl _) _⟩
  case round =>
    obtain ⟨i, z, hi, rfl, hz, hit, hbl⟩ := hrel
    have hc : i = 0 ∨ i = 1 ∨ i = 2 ∨ i = 3 := by omega
    rcases hc with rfl | rfl | rfl | rfl
    · have hzs : z.size = 0 := by rw [hz, bstr_size, List.length_take, name_len]; omega
      have hnx0 : ∀ ty, (Instr.next (.pointer (some ⟨w1.heap.size, 0, none⟩)) true ty).run Tryd.prog wr = .ok (.tuple #[.bool true, .int .i64 0, .int .i32 122]) (wr.iterAt w1.heap.size ⟨#[122, 121, 120]⟩ 1) := fun ty => Lib.run_next_ascii_at wr w1.heap.size ⟨#[122, 121, 120]⟩ 0 ty hit (by decide) (by decide)
      have HP : Hid (wr.iterPos w1.heap.size = 0) := Lib.hid (by unfold World.iterPos; rw [hit])
      have hit1 := Lib.iterAt_heap wr w1.heap.size ⟨#[122, 121, 120]⟩ 0 1 hit
      have hbl1 := Lib.below_iterAt hbl (Nat.le_refl _) ⟨#[122, 121, 120]⟩ 1
      obtain ⟨W1, hW1⟩ : ∃ z, z = wr.iterAt w1.heap.size ⟨#[122, 121, 120]⟩ 1 := ⟨_, rfl⟩
      rw [← hW1] at hit1 hbl1
      have hnx : ∀ ty, (Instr.next (.pointer (some ⟨w1.heap.size, 0, none⟩)) true ty).run Tryd.prog wr = .ok (.tuple #[.bool true, .int .i64 0, .int .i32 122]) W1 := by rw [hW1]; exact hnx0
      have HI := Lib.hid hit1
      have HB := Lib.hid hbl1
      have HZ := Lib.hid hz
      have N := CN.out 0 (by decide)
      have N2 : ∀ W, Calls Tryd.prog 89 #[.int .i64 (s : Int), .int .i64 0] W fun e w' => e = .returned (.bool (Pt.bit s 0)) ∧ w' = W := N
      have hch : Pt.chr (Pt.axis (s / 8) 0) = 122 := by rw [HK.out]; rfl
      clear hz hit hbl hnx0 hW1 hit1 hbl1 hi N
      cases hb : Pt.bit s 0 with
      | false =>
        rw [hb] at N2
        have N3 := Lib.hid N2
        have hsg : Pt.sgn s 0 = 43 := by unfold Pt.sgn; rw [hb]; rfl
        have HT2 : Hid (bstr ((Pt.name s).take 0) ++ bstr [43, 122] = bstr ((Pt.name s).take 2)) := Lib.hid (by rw [bcat, ← hsg, ← hch]; rfl)
        clear N2 hb hsg hch
        go_wp2_with fail
        refine (N3.out _).mono ?_
        rintro e w2 ⟨rfl, rfl⟩
        go_wp2_with fail
        go_roundw
        case rel => exact ⟨1, _, by omega, rfl, by rw [HZ.out]; exact HT2.out, HI.out, HB.out⟩
        case measure => rw [HP.out]; have hp2 := iterPos_of HI.out; rw [hp2]; omega
      | true =>
        rw [hb] at N2
        have N3 := Lib.hid N2
        have hsg : Pt.sgn s 0 = 45 := by unfold Pt.sgn; rw [hb]; rfl
        have HT2 : Hid (bstr ((Pt.name s).take 0) ++ bstr [45, 122] = bstr ((Pt.name s).take 2)) := Lib.hid (by rw [bcat, ← hsg, ← hch]; rfl)
        clear N2 hb hsg hch
        go_wp2_with fail
        refine (N3.out _).mono ?_
        rintro e w2 ⟨rfl, rfl⟩
        go_wp2_with fail
        go_roundw
        case rel => exact ⟨1, _, by omega, rfl, by rw [HZ.out]; exact HT2.out, HI.out, HB.out⟩
        case measure => rw [HP.out]; have hp2 := iterPos_of HI.out; rw [hp2]; omega
    · have hzs : z.size = 2 := by rw [hz, bstr_size, List.length_take, name_len]; omega
      have hnx0 : ∀ ty, (Instr.next (.pointer (some ⟨w1.heap.size, 0, none⟩)) true ty).run Tryd.prog wr = .ok (.tuple #[.bool true, .int .i64 1, .int .i32 121]) (wr.iterAt w1.heap.size ⟨#[122, 121, 120]⟩ 2) := fun ty => Lib.run_next_ascii_at wr w1.heap.size ⟨#[122, 121, 120]⟩ 1 ty hit (by decide) (by decide)
      have HP : Hid (wr.iterPos w1.heap.size = 1) := Lib.hid (by unfold World.iterPos; rw [hit])
      have hit1 := Lib.iterAt_heap wr w1.heap.size ⟨#[122, 121, 120]⟩ 1 2 hit
      have hbl1 := Lib.below_iterAt hbl (Nat.le_refl _) ⟨#[122, 121, 120]⟩ 2
      obtain ⟨W1, hW1⟩ : ∃ z, z = wr.iterAt w1.heap.size ⟨#[122, 121, 120]⟩ 2 := ⟨_, rfl⟩
      rw [← hW1] at hit1 hbl1
      have hnx : ∀ ty, (Instr.next (.pointer (some ⟨w1.heap.size, 0, none⟩)) true ty).run Tryd.prog wr = .ok (.tuple #[.bool true, .int .i64 1, .int .i32 121]) W1 := by rw [hW1]; exact hnx0
      have HI := Lib.hid hit1
      have HB := Lib.hid hbl1
      have HZ := Lib.hid hz
      have N := CN.out 1 (by decide)
      have N2 : ∀ W, Calls Tryd.prog 89 #[.int .i64 (s : Int), .int .i64 1] W fun e w' => e = .returned (.bool (Pt.bit s 1)) ∧ w' = W := N
      have hch : Pt.chr (Pt.axis (s / 8) 1) = 121 := by rw [HK.out]; rfl
      clear hz hit hbl hnx0 hW1 hit1 hbl1 hi N
      cases hb : Pt.bit s 1 with
      | false =>
        rw [hb] at N2
        have N3 := Lib.hid N2
        have hsg : Pt.sgn s 1 = 43 := by unfold Pt.sgn; rw [hb]; rfl
        have HT2 : Hid (bstr ((Pt.name s).take 2) ++ bstr [43, 121] = bstr ((Pt.name s).take 4)) := Lib.hid (by rw [bcat, ← hsg, ← hch]; rfl)
        clear N2 hb hsg hch
        go_wp2_with fail
        refine (N3.out _).mono ?_
        rintro e w2 ⟨rfl, rfl⟩
        go_wp2_with fail
        go_roundw
        case rel => exact ⟨2, _, by omega, rfl, by rw [HZ.out]; exact HT2.out, HI.out, HB.out⟩
        case measure => rw [HP.out]; have hp2 := iterPos_of HI.out; rw [hp2]; omega
      | true =>
        rw [hb] at N2
        have N3 := Lib.hid N2
        have hsg : Pt.sgn s 1 = 45 := by unfold Pt.sgn; rw [hb]; rfl
        have HT2 : Hid (bstr ((Pt.name s).take 2) ++ bstr [45, 121] = bstr ((Pt.name s).take 4)) := Lib.hid (by rw [bcat, ← hsg, ← hch]; rfl)
        clear N2 hb hsg hch
        go_wp2_with fail
        refine (N3.out _).mono ?_
        rintro e w2 ⟨rfl, rfl⟩
        go_wp2_with fail
        go_roundw
        case rel => exact ⟨2, _, by omega, rfl, by rw [HZ.out]; exact HT2.out, HI.out, HB.out⟩
        case measure => rw [HP.out]; have hp2 := iterPos_of HI.out; rw [hp2]; omega
    · have hzs : z.size = 4 := by rw [hz, bstr_size, List.length_take, name_len]; omega
      have hnx0 : ∀ ty, (Instr.next (.pointer (some ⟨w1.heap.size, 0, none⟩)) true ty).run Tryd.prog wr = .ok (.tuple #[.bool true, .int .i64 2, .int .i32 120]) (wr.iterAt w1.heap.size ⟨#[122, 121, 120]⟩ 3) := fun ty => Lib.run_next_ascii_at wr w1.heap.size ⟨#[122, 121, 120]⟩ 2 ty hit (by decide) (by decide)
      have HP : Hid (wr.iterPos w1.heap.size = 2) := Lib.hid (by unfold World.iterPos; rw [hit])
      have hit1 := Lib.iterAt_heap wr w1.heap.size ⟨#[122, 121, 120]⟩ 2 3 hit
      have hbl1 := Lib.below_iterAt hbl (Nat.le_refl _) ⟨#[122, 121, 120]⟩ 3
      obtain ⟨W1, hW1⟩ : ∃ z, z = wr.iterAt w1.heap.size ⟨#[122, 121, 120]⟩ 3 := ⟨_, rfl⟩
      rw [← hW1] at hit1 hbl1
      have hnx : ∀ ty, (Instr.next (.pointer (some ⟨w1.heap.size, 0, none⟩)) true ty).run Tryd.prog wr = .ok (.tuple #[.bool true, .int .i64 2, .int .i32 120]) W1 := by rw [hW1]; exact hnx0
      have HI := Lib.hid hit1
      have HB := Lib.hid hbl1
      have HZ := Lib.hid hz
      have N := CN.out 2 (by decide)
      have N2 : ∀ W, Calls Tryd.prog 89 #[.int .i64 (s : Int), .int .i64 2] W fun e w' => e = .returned (.bool (Pt.bit s 2)) ∧ w' = W := N
      have hch : Pt.chr (Pt.axis (s / 8) 2) = 120 := by rw [HK.out]; rfl
      clear hz hit hbl hnx0 hW1 hit1 hbl1 hi N
      cases hb : Pt.bit s 2 with
      | false =>
        rw [hb] at N2
        have N3 := Lib.hid N2
        have hsg : Pt.sgn s 2 = 43 := by unfold Pt.sgn; rw [hb]; rfl
        have HT2 : Hid (bstr ((Pt.name s).take 4) ++ bstr [43, 120] = bstr ((Pt.name s).take 6)) := Lib.hid (by rw [bcat, ← hsg, ← hch]; rfl)
        clear N2 hb hsg hch
        go_wp2_with fail
        refine (N3.out _).mono ?_
        rintro e w2 ⟨rfl, rfl⟩
        go_wp2_with fail
        go_roundw
        case rel => exact ⟨3, _, by omega, rfl, by rw [HZ.out]; exact HT2.out, HI.out, HB.out⟩
        case measure => rw [HP.out]; have hp2 := iterPos_of HI.out; rw [hp2]; omega
      | true =>
        rw [hb] at N2
        have N3 := Lib.hid N2
        have hsg : Pt.sgn s 2 = 45 := by unfold Pt.sgn; rw [hb]; rfl
        have HT2 : Hid (bstr ((Pt.name s).take 4) ++ bstr [45, 120] = bstr ((Pt.name s).take 6)) := Lib.hid (by rw [bcat, ← hsg, ← hch]; rfl)
        clear N2 hb hsg hch
        go_wp2_with fail
        refine (N3.out _).mono ?_
        rintro e w2 ⟨rfl, rfl⟩
        go_wp2_with fail
        go_roundw
        case rel => exact ⟨3, _, by omega, rfl, by rw [HZ.out]; exact HT2.out, HI.out, HB.out⟩
        case measure => rw [HP.out]; have hp2 := iterPos_of HI.out; rw [hp2]; omega
    · have hnx : ∀ ty, (Instr.next (.pointer (some ⟨w1.heap.size, 0, none⟩)) true ty).run Tryd.prog wr = .ok (.tuple #[.bool false]) wr := fun ty => Lib.run_next_end_at wr w1.heap.size ⟨#[122, 121, 120]⟩ 3 ty hit (by decide)
      have HZ := Lib.hid hz
      have HB := Lib.hid hbl
      clear hz hit hbl hi
      go_wp2_with fail
      go_ret
      exact ⟨by rw [HZ.out]; rfl, HB.out⟩
theorem name_any (s : Nat) (w : World) (hT : Tab w) (hs : s < 48) :
    Calls Tryd.prog 59 #[.int .i64 (s : Int)] w fun e w' => e = .returned (.string (bstr (Pt.name s))) ∧ Below w.heap.size w w' := by
  have hk : (s : Int) / 8 = 0 ∨ (s : Int) / 8 = 1 ∨ (s : Int) / 8 = 2 ∨ (s : Int) / 8 = 3 ∨ (s : Int) / 8 = 4 ∨ (s : Int) / 8 = 5 := by omega
  rcases hk with hk | hk | hk | hk | hk | hk
  · exact name_o0 s w hT hs hk
  · exact name_o1 s w hT hs hk
  · exact name_o2 s w hT hs hk
  · exact name_o3 s w hT hs hk
  · exact name_o4 s w hT hs hk
  · exact name_o5 s w hT hs hk
set_option maxRecDepth 1000000 in
theorem name_out (a : Int) (w : World) (ha : decide (0 ≤ a ∧ a < 48) = false) :
    Calls Tryd.prog 59 #[.int .i64 a] w fun e w' => e = .returned (.string (bstr [])) ∧ Below w.heap.size w w' := by
  have HA := Lib.hid ha
  clear ha
  have G0 := Lib.hid (Below.refl w.heap.size w)
  go_enter Tryd.func59, Tryd.ntmps59
  go_upto_region 1 with fail
  refine wpG_region ?_
  refine wpG_tk (some 7) (v := .int .i64 a) rfl (.val (by rfl) (fun _ _ => rfl)) ?_
  simp only [Act.put, List.setIfInBounds_toArray, List.set_cons_zero, List.set_cons_succ]
  refine wpG_tk (some 8) (v := .bool false) rfl (.call (f := 80) (args := #[.int .i64 a]) (by rfl) (fun W => by go_simp) (fun W hg => sym_is a false W HA.out)) ?_
  simp only [Act.put, List.setIfInBounds_toArray, List.set_cons_zero, List.set_cons_succ]
  refine wpG_tk (some 9) (v := .bool true) rfl (.val (by rfl) (fun W hg => by go_simp)) ?_
  simp only [Act.put, List.setIfInBounds_toArray, List.set_cons_zero, List.set_cons_succ]
  refine wpG_done (fun V1 hv2 => ?_)
  have GC3 := Lib.hid hv2
  clear hv2
  go_upto_region 2 with fail
  refine wpG_region ?_
  refine wpG_tk (some 2) (v := .string (⟨#[]⟩)) rfl (.val (by rfl) (fun _ _ => rfl)) ?_
  simp only [Act.put, List.setIfInBounds_toArray, List.set_cons_zero, List.set_cons_succ]
  refine wpG_done (fun V4 hv5 => ?_)
  have GC6 := Lib.hid (GC3.out.trans hv5)
  clear hv5
  go_wp2_with fail
  go_ret
  exact ⟨rfl, Gr.to G0.out GC6.out⟩
end Go.Proofs.YthadlgjobjnhcaaDoor
