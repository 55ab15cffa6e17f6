/-
  Mirror.
-/
import Derived.Test.YthadlgjobjnhcaaDoorPtw
import Derived.Handy
namespace Go.Proofs.YthadlgjobjnhcaaDoor
open Go.RowKit
set_option linter.unusedVariables false
def invs0 : Nat → Int
  | 0 => 0
  | 1 => 0
  | 2 => 0
  | _ => 0
theorem mirror_tab0 : ∀ s : Fin 48, s.val / 8 = 0 → Pt.mirror s = (((pop (s.val % 8) : Int) + 0) % 2 == 1) := by decide +kernel
set_option maxRecDepth 1000000 in
set_option maxHeartbeats 4000000 in
theorem mirror_o0 (s : Nat) (w : World) (hT : Tab w) (hs : s < 48) (hk : (s : Int) / 8 = 0) :
    Calls Tryd.prog 57 #[.int .i64 (s : Int)] w fun e w' => e = .returned (.bool (Pt.mirror s)) ∧ Below w.heap.size w w' := by
  have CS : Hid (∀ W, Calls Tryd.prog 80 #[.int .i64 (s : Int)] W fun e w' => e = .returned (.bool true) ∧ w' = W) := Lib.hid (fun W => by
    have := symmetry_same (s : Int) W
    rwa [decide_eq_true (show 0 ≤ (s : Int) ∧ (s : Int) < 48 by omega)] at this)
  have C := Lib.hid (fun W => ones_any (s % 8) W (by omega))
  rw [show ((s % 8 : Nat) : Int) = (s : Int) % 8 by omega] at C
  have HM := Lib.hid (mirror_tab0 ⟨s, hs⟩ (by simp only; omega))
  obtain ⟨n0, hn0⟩ : ∃ z : Int, z = (pop (s % 8) : Int) := ⟨_, rfl⟩
  have hb : 0 ≤ n0 ∧ n0 ≤ 3 := by rw [hn0]; unfold pop; omega
  have h8 : 0 ≤ (s : Int) % 8 ∧ (s : Int) % 8 < 8 := by omega
  rw [← hn0] at C
  have HN0 := Lib.hid hn0
  clear hn0
  have hg := hT 0 _ rfl
  have hgl : 0 < w.heap.size := World.block_lt_of_cell? w _ hg
  rw [Nat.zero_add] at hg
  go_enter Tryd.func57, Tryd.ntmps57
  go_wp2_with fail
  refine (CS.out _).mono ?_
  rintro e w1 ⟨rfl, rfl⟩
  go_wp2_with fail
  refine (C.out _).mono ?_
  rintro e w1 ⟨rfl, rfl⟩
  go_wp2_with fail
  go_loopw [3] (fun n wr => ∃ (i : Nat) (x : Int), i ≤ 3 ∧ n = .int .i64 x ∧ x = n0 + invs0 i ∧ wr.heap[w1.heap.size]? = some (.stringIter ⟨#[120, 121, 122]⟩ i) ∧ Below w1.heap.size w1 wr) (fun _ wr => 3 - wr.iterPos w1.heap.size)
  case atStart => exact ⟨0, n0, by omega, rfl, by simp [invs0], World.iter_heap w1 ⟨#[120, 121, 122]⟩ 0, (Below.refl _ _).alloc (Nat.le_refl _) _⟩
  case round =>
    obtain ⟨i, x, hi, rfl, hx, hit, hbl⟩ := hrel
    have hc : i = 0 ∨ i = 1 ∨ i = 2 ∨ i = 3 := by omega
    rcases hc with rfl | rfl | rfl | rfl
    · have hx2 : x = n0 + 0 := hx
      have hnx0 : ∀ ty, (Instr.next (.pointer (some ⟨w1.heap.size, 0, none⟩)) true ty).run Tryd.prog wr = .ok (.tuple #[.bool true, .int .i64 0, .int .i32 120]) (wr.iterAt w1.heap.size ⟨#[120, 121, 122]⟩ 1) := fun ty => Lib.run_next_ascii_at wr w1.heap.size ⟨#[120, 121, 122]⟩ 0 ty hit (by decide) (by decide)
      have HP : Hid (wr.iterPos w1.heap.size = 0) := Lib.hid (by unfold World.iterPos; rw [hit])
      have hit1 := Lib.iterAt_heap wr w1.heap.size ⟨#[120, 121, 122]⟩ 0 1 hit
      have hbl1 := Lib.below_iterAt hbl (Nat.le_refl _) ⟨#[120, 121, 122]⟩ 1
      obtain ⟨W1, hW1⟩ : ∃ z, z = wr.iterAt w1.heap.size ⟨#[120, 121, 122]⟩ 1 := ⟨_, rfl⟩
      rw [← hW1] at hit1 hbl1
      have hnx : ∀ ty, (Instr.next (.pointer (some ⟨w1.heap.size, 0, none⟩)) true ty).run Tryd.prog wr = .ok (.tuple #[.bool true, .int .i64 0, .int .i32 120]) W1 := by rw [hW1]; exact hnx0
      have HI := Lib.hid hit1
      have HB := Lib.hid hbl1
      have hxb : 0 ≤ x ∧ x ≤ 10 := by omega
      have HX := Lib.hid hx2
      clear hx hx2 hit hbl hnx0 hW1 hit1 hbl1 hi
      go_wp2_with fail
      refine wp_loop_rounds 1 ?_
      rw [rounds_succ]
      go_wp2_with fail
      go_roundw
      case rel => first | exact ⟨1, _, by omega, rfl, by have := HX.out; simp only [invs0]; omega, HI.out, HB.out⟩ | exact ⟨1, _, by omega, rfl, by have := HX.out; simp only [invs0]; omega, HI.out, below_drewN HB.out _⟩ | exact ⟨1, _, by omega, rfl, by have := HX.out; simp only [invs0]; omega, HI.out, below_drewN (below_drewN HB.out _) _⟩
      case measure => rw [HP.out]; have hp2 := iterPos_of HI.out; first | (rw [hp2]; omega) | (show 3 - World.iterPos W1 _ < _; rw [hp2]; omega)
    · have hx2 : x = n0 + 0 := hx
      have hnx0 : ∀ ty, (Instr.next (.pointer (some ⟨w1.heap.size, 0, none⟩)) true ty).run Tryd.prog wr = .ok (.tuple #[.bool true, .int .i64 1, .int .i32 121]) (wr.iterAt w1.heap.size ⟨#[120, 121, 122]⟩ 2) := fun ty => Lib.run_next_ascii_at wr w1.heap.size ⟨#[120, 121, 122]⟩ 1 ty hit (by decide) (by decide)
      have HP : Hid (wr.iterPos w1.heap.size = 1) := Lib.hid (by unfold World.iterPos; rw [hit])
      have hit1 := Lib.iterAt_heap wr w1.heap.size ⟨#[120, 121, 122]⟩ 1 2 hit
      have hbl1 := Lib.below_iterAt hbl (Nat.le_refl _) ⟨#[120, 121, 122]⟩ 2
      obtain ⟨W1, hW1⟩ : ∃ z, z = wr.iterAt w1.heap.size ⟨#[120, 121, 122]⟩ 2 := ⟨_, rfl⟩
      rw [← hW1] at hit1 hbl1
      have hnx : ∀ ty, (Instr.next (.pointer (some ⟨w1.heap.size, 0, none⟩)) true ty).run Tryd.prog wr = .ok (.tuple #[.bool true, .int .i64 1, .int .i32 121]) W1 := by rw [hW1]; exact hnx0
      have HI := Lib.hid hit1
      have HB := Lib.hid hbl1
      have hxb : 0 ≤ x ∧ x ≤ 10 := by omega
      have HX := Lib.hid hx2
      clear hx hx2 hit hbl hnx0 hW1 hit1 hbl1 hi
      go_wp2_with fail
      refine wp_loop_rounds 2 ?_
      rw [rounds_succ]
      go_wp2_with fail
      go_quiet (fail)
      go_wp2_with fail
      rw [rounds_succ]
      go_wp2_with fail
      go_roundw
      case rel => first | exact ⟨2, _, by omega, rfl, by have := HX.out; simp only [invs0]; omega, HI.out, HB.out⟩ | exact ⟨2, _, by omega, rfl, by have := HX.out; simp only [invs0]; omega, HI.out, below_drewN HB.out _⟩ | exact ⟨2, _, by omega, rfl, by have := HX.out; simp only [invs0]; omega, HI.out, below_drewN (below_drewN HB.out _) _⟩
      case measure => rw [HP.out]; have hp2 := iterPos_of HI.out; first | (rw [hp2]; omega) | (show 3 - World.iterPos W1 _ < _; rw [hp2]; omega)
    · have hx2 : x = n0 + 0 := hx
      have hnx0 : ∀ ty, (Instr.next (.pointer (some ⟨w1.heap.size, 0, none⟩)) true ty).run Tryd.prog wr = .ok (.tuple #[.bool true, .int .i64 2, .int .i32 122]) (wr.iterAt w1.heap.size ⟨#[120, 121, 122]⟩ 3) := fun ty => Lib.run_next_ascii_at wr w1.heap.size ⟨#[120, 121, 122]⟩ 2 ty hit (by decide) (by decide)
      have HP : Hid (wr.iterPos w1.heap.size = 2) := Lib.hid (by unfold World.iterPos; rw [hit])
      have hit1 := Lib.iterAt_heap wr w1.heap.size ⟨#[120, 121, 122]⟩ 2 3 hit
      have hbl1 := Lib.below_iterAt hbl (Nat.le_refl _) ⟨#[120, 121, 122]⟩ 3
      obtain ⟨W1, hW1⟩ : ∃ z, z = wr.iterAt w1.heap.size ⟨#[120, 121, 122]⟩ 3 := ⟨_, rfl⟩
      rw [← hW1] at hit1 hbl1
      have hnx : ∀ ty, (Instr.next (.pointer (some ⟨w1.heap.size, 0, none⟩)) true ty).run Tryd.prog wr = .ok (.tuple #[.bool true, .int .i64 2, .int .i32 122]) W1 := by rw [hW1]; exact hnx0
      have HI := Lib.hid hit1
      have HB := Lib.hid hbl1
      have hxb : 0 ≤ x ∧ x ≤ 10 := by omega
      have HX := Lib.hid hx2
      clear hx hx2 hit hbl hnx0 hW1 hit1 hbl1 hi
      go_wp2_with fail
      refine wp_loop_rounds 3 ?_
      rw [rounds_succ]
      go_wp2_with fail
      go_quiet (fail)
      go_wp2_with fail
      rw [rounds_succ]
      go_wp2_with fail
      go_quiet (fail)
      go_wp2_with fail
      rw [rounds_succ]
      go_wp2_with fail
      go_roundw
      case rel => first | exact ⟨3, _, by omega, rfl, by have := HX.out; simp only [invs0]; omega, HI.out, HB.out⟩ | exact ⟨3, _, by omega, rfl, by have := HX.out; simp only [invs0]; omega, HI.out, below_drewN HB.out _⟩ | exact ⟨3, _, by omega, rfl, by have := HX.out; simp only [invs0]; omega, HI.out, below_drewN (below_drewN HB.out _) _⟩
      case measure => rw [HP.out]; have hp2 := iterPos_of HI.out; first | (rw [hp2]; omega) | (show 3 - World.iterPos W1 _ < _; rw [hp2]; omega)
    · have hx2 : x = n0 + 0 := hx
      have hnx : ∀ ty, (Instr.next (.pointer (some ⟨w1.heap.size, 0, none⟩)) true ty).run Tryd.prog wr = .ok (.tuple #[.bool false]) wr := fun ty => Lib.run_next_end_at wr w1.heap.size ⟨#[120, 121, 122]⟩ 3 ty hit (by decide)
      have hxb : 0 ≤ x ∧ x ≤ 10 := by omega
      have HX := Lib.hid hx2
      have HB := Lib.hid hbl
      clear hx hx2 hit hbl hi
      go_wp2_with fail
      go_ret
      exact ⟨ret_bool (by rw [HM.out, ← HN0.out, ← HX.out]), HB.out⟩
def invs1 : Nat → Int
  | 0 => 0
  | 1 => 0
  | 2 => 0
  | _ => 1
theorem mirror_tab1 : ∀ s : Fin 48, s.val / 8 = 1 → Pt.mirror s = (((pop (s.val % 8) : Int) + 1) % 2 == 1) := by decide +kernel
set_option maxRecDepth 1000000 in
set_option maxHeartbeats 4000000 in
theorem mirror_o1 (s : Nat) (w : World) (hT : Tab w) (hs : s < 48) (hk : (s : Int) / 8 = 1) :
    Calls Tryd.prog 57 #[.int .i64 (s : Int)] w fun e w' => e = .returned (.bool (Pt.mirror s)) ∧ Below w.heap.size w w' := by
  have CS : Hid (∀ W, Calls Tryd.prog 80 #[.int .i64 (s : Int)] W fun e w' => e = .returned (.bool true) ∧ w' = W) := Lib.hid (fun W => by
    have := symmetry_same (s : Int) W
    rwa [decide_eq_true (show 0 ≤ (s : Int) ∧ (s : Int) < 48 by omega)] at this)
  have C := Lib.hid (fun W => ones_any (s % 8) W (by omega))
  rw [show ((s % 8 : Nat) : Int) = (s : Int) % 8 by omega] at C
  have HM := Lib.hid (mirror_tab1 ⟨s, hs⟩ (by simp only; omega))
  obtain ⟨n0, hn0⟩ : ∃ z : Int, z = (pop (s % 8) : Int) := ⟨_, rfl⟩
  have hb : 0 ≤ n0 ∧ n0 ≤ 3 := by rw [hn0]; unfold pop; omega
  have h8 : 0 ≤ (s : Int) % 8 ∧ (s : Int) % 8 < 8 := by omega
  rw [← hn0] at C
  have HN0 := Lib.hid hn0
  clear hn0
  have hg := hT 1 _ rfl
  have hgl : 0 < w.heap.size := World.block_lt_of_cell? w _ hg
  rw [Nat.zero_add] at hg
  go_enter Tryd.func57, Tryd.ntmps57
  go_wp2_with fail
  refine (CS.out _).mono ?_
  rintro e w1 ⟨rfl, rfl⟩
  go_wp2_with fail
  refine (C.out _).mono ?_
  rintro e w1 ⟨rfl, rfl⟩
  go_wp2_with fail
  go_loopw [3] (fun n wr => ∃ (i : Nat) (x : Int), i ≤ 3 ∧ n = .int .i64 x ∧ x = n0 + invs1 i ∧ wr.heap[w1.heap.size]? = some (.stringIter ⟨#[120, 122, 121]⟩ i) ∧ Below w1.heap.size w1 wr) (fun _ wr => 3 - wr.iterPos w1.heap.size)
  case atStart => exact ⟨0, n0, by omega, rfl, by simp [invs1], World.iter_heap w1 ⟨#[120, 122, 121]⟩ 0, (Below.refl _ _).alloc (Nat.le_refl _) _⟩
  case round =>
    obtain ⟨i, x, hi, rfl, hx, hit, hbl⟩ := hrel
    have hc : i = 0 ∨ i = 1 ∨ i = 2 ∨ i = 3 := by omega
    rcases hc with rfl | rfl | rfl | rfl
    · have hx2 : x = n0 + 0 := hx
      have hnx0 : ∀ ty, (Instr.next (.pointer (some ⟨w1.heap.size, 0, none⟩)) true ty).run Tryd.prog wr = .ok (.tuple #[.bool true, .int .i64 0, .int .i32 120]) (wr.iterAt w1.heap.size ⟨#[120, 122, 121]⟩ 1) := fun ty => Lib.run_next_ascii_at wr w1.heap.size ⟨#[120, 122, 121]⟩ 0 ty hit (by decide) (by decide)
      have HP : Hid (wr.iterPos w1.heap.size = 0) := Lib.hid (by unfold World.iterPos; rw [hit])
      have hit1 := Lib.iterAt_heap wr w1.heap.size ⟨#[120, 122, 121]⟩ 0 1 hit
      have hbl1 := Lib.below_iterAt hbl (Nat.le_refl _) ⟨#[120, 122, 121]⟩ 1
      obtain ⟨W1, hW1⟩ : ∃ z, z = wr.iterAt w1.heap.size ⟨#[120, 122, 121]⟩ 1 := ⟨_, rfl⟩
      rw [← hW1] at hit1 hbl1
      have hnx : ∀ ty, (Instr.next (.pointer (some ⟨w1.heap.size, 0, none⟩)) true ty).run Tryd.prog wr = .ok (.tuple #[.bool true, .int .i64 0, .int .i32 120]) W1 := by rw [hW1]; exact hnx0
      have HI := Lib.hid hit1
      have HB := Lib.hid hbl1
      have hxb : 0 ≤ x ∧ x ≤ 10 := by omega
      have HX := Lib.hid hx2
      clear hx hx2 hit hbl hnx0 hW1 hit1 hbl1 hi
      go_wp2_with fail
      refine wp_loop_rounds 1 ?_
      rw [rounds_succ]
      go_wp2_with fail
      go_roundw
      case rel => first | exact ⟨1, _, by omega, rfl, by have := HX.out; simp only [invs1]; omega, HI.out, HB.out⟩ | exact ⟨1, _, by omega, rfl, by have := HX.out; simp only [invs1]; omega, HI.out, below_drewN HB.out _⟩ | exact ⟨1, _, by omega, rfl, by have := HX.out; simp only [invs1]; omega, HI.out, below_drewN (below_drewN HB.out _) _⟩
      case measure => rw [HP.out]; have hp2 := iterPos_of HI.out; first | (rw [hp2]; omega) | (show 3 - World.iterPos W1 _ < _; rw [hp2]; omega)
    · have hx2 : x = n0 + 0 := hx
      have hnx0 : ∀ ty, (Instr.next (.pointer (some ⟨w1.heap.size, 0, none⟩)) true ty).run Tryd.prog wr = .ok (.tuple #[.bool true, .int .i64 1, .int .i32 122]) (wr.iterAt w1.heap.size ⟨#[120, 122, 121]⟩ 2) := fun ty => Lib.run_next_ascii_at wr w1.heap.size ⟨#[120, 122, 121]⟩ 1 ty hit (by decide) (by decide)
      have HP : Hid (wr.iterPos w1.heap.size = 1) := Lib.hid (by unfold World.iterPos; rw [hit])
      have hit1 := Lib.iterAt_heap wr w1.heap.size ⟨#[120, 122, 121]⟩ 1 2 hit
      have hbl1 := Lib.below_iterAt hbl (Nat.le_refl _) ⟨#[120, 122, 121]⟩ 2
      obtain ⟨W1, hW1⟩ : ∃ z, z = wr.iterAt w1.heap.size ⟨#[120, 122, 121]⟩ 2 := ⟨_, rfl⟩
      rw [← hW1] at hit1 hbl1
      have hnx : ∀ ty, (Instr.next (.pointer (some ⟨w1.heap.size, 0, none⟩)) true ty).run Tryd.prog wr = .ok (.tuple #[.bool true, .int .i64 1, .int .i32 122]) W1 := by rw [hW1]; exact hnx0
      have HI := Lib.hid hit1
      have HB := Lib.hid hbl1
      have hxb : 0 ≤ x ∧ x ≤ 10 := by omega
      have HX := Lib.hid hx2
      clear hx hx2 hit hbl hnx0 hW1 hit1 hbl1 hi
      go_wp2_with fail
      refine wp_loop_rounds 2 ?_
      rw [rounds_succ]
      go_wp2_with fail
      go_quiet (fail)
      go_wp2_with fail
      rw [rounds_succ]
      go_wp2_with fail
      go_roundw
      case rel => first | exact ⟨2, _, by omega, rfl, by have := HX.out; simp only [invs1]; omega, HI.out, HB.out⟩ | exact ⟨2, _, by omega, rfl, by have := HX.out; simp only [invs1]; omega, HI.out, below_drewN HB.out _⟩ | exact ⟨2, _, by omega, rfl, by have := HX.out; simp only [invs1]; omega, HI.out, below_drewN (below_drewN HB.out _) _⟩
      case measure => rw [HP.out]; have hp2 := iterPos_of HI.out; first | (rw [hp2]; omega) | (show 3 - World.iterPos W1 _ < _; rw [hp2]; omega)
    · have hx2 : x = n0 + 0 := hx
      have hnx0 : ∀ ty, (Instr.next (.pointer (some ⟨w1.heap.size, 0, none⟩)) true ty).run Tryd.prog wr = .ok (.tuple #[.bool true, .int .i64 2, .int .i32 121]) (wr.iterAt w1.heap.size ⟨#[120, 122, 121]⟩ 3) := fun ty => Lib.run_next_ascii_at wr w1.heap.size ⟨#[120, 122, 121]⟩ 2 ty hit (by decide) (by decide)
      have HP : Hid (wr.iterPos w1.heap.size = 2) := Lib.hid (by unfold World.iterPos; rw [hit])
      have hit1 := Lib.iterAt_heap wr w1.heap.size ⟨#[120, 122, 121]⟩ 2 3 hit
      have hbl1 := Lib.below_iterAt hbl (Nat.le_refl _) ⟨#[120, 122, 121]⟩ 3
      obtain ⟨W1, hW1⟩ : ∃ z, z = wr.iterAt w1.heap.size ⟨#[120, 122, 121]⟩ 3 := ⟨_, rfl⟩
      rw [← hW1] at hit1 hbl1
      have hnx : ∀ ty, (Instr.next (.pointer (some ⟨w1.heap.size, 0, none⟩)) true ty).run Tryd.prog wr = .ok (.tuple #[.bool true, .int .i64 2, .int .i32 121]) W1 := by rw [hW1]; exact hnx0
      have HI := Lib.hid hit1
      have HB := Lib.hid hbl1
      have hxb : 0 ≤ x ∧ x ≤ 10 := by omega
      have HX := Lib.hid hx2
      clear hx hx2 hit hbl hnx0 hW1 hit1 hbl1 hi
      go_wp2_with fail
      refine wp_loop_rounds 3 ?_
      rw [rounds_succ]
      go_wp2_with fail
      go_quiet (fail)
      go_wp2_with fail
      rw [rounds_succ]
      go_wp2_with fail
      go_quiet (fail)
      go_wp2_with fail
      rw [rounds_succ]
      go_wp2_with fail
      go_roundw
      case rel => first | exact ⟨3, _, by omega, rfl, by have := HX.out; simp only [invs1]; omega, HI.out, HB.out⟩ | exact ⟨3, _, by omega, rfl, by have := HX.out; simp only [invs1]; omega, HI.out, below_drewN HB.out _⟩ | exact ⟨3, _, by omega, rfl, by have := HX.out; simp only [invs1]; omega, HI.out, below_drewN (below_drewN HB.out _) _⟩
      case measure => rw [HP.out]; have hp2 := iterPos_of HI.out; first | (rw [hp2]; omega) | (show 3 - World.iterPos W1 _ < _; rw [hp2]; omega)
    · have hx2 : x = n0 + 1 := hx
      have hnx : ∀ ty, (Instr.next (.pointer (some ⟨w1.heap.size, 0, none⟩)) true ty).run Tryd.prog wr = .ok (.tuple #[.bool false]) wr := fun ty => Lib.run_next_end_at wr w1.heap.size ⟨#[120, 122, 121]⟩ 3 ty hit (by decide)
      have hxb : 0 ≤ x ∧ x ≤ 10 := by omega
      have HX := Lib.hid hx2
      have HB := Lib.hid hbl
      clear hx hx2 hit hbl hi
      go_wp2_with fail
      go_ret
      exact ⟨ret_bool (by rw [HM.out, ← HN0.out, ← HX.out]), HB.out⟩
def invs2 : Nat → Int
  | 0 => 0
  | 1 => 0
  | 2 => 1
  | _ => 1
theorem mirror_tab2 : ∀ s : Fin 48, s.val / 8 = 2 → Pt.mirror s = (((pop (s.val % 8) : Int) + 1) % 2 == 1) := by decide +kernel
set_option maxRecDepth 1000000 in
set_option maxHeartbeats 4000000 in
theorem mirror_o2 (s : Nat) (w : World) (hT : Tab w) (hs : s < 48) (hk : (s : Int) / 8 = 2) :
    Calls Tryd.prog 57 #[.int .i64 (s : Int)] w fun e w' => e = .returned (.bool (Pt.mirror s)) ∧ Below w.heap.size w w' := by
  have CS : Hid (∀ W, Calls Tryd.prog 80 #[.int .i64 (s : Int)] W fun e w' => e = .returned (.bool true) ∧ w' = W) := Lib.hid (fun W => by
    have := symmetry_same (s : Int) W
    rwa [decide_eq_true (show 0 ≤ (s : Int) ∧ (s : Int) < 48 by omega)] at this)
  have C := Lib.hid (fun W => ones_any (s % 8) W (by omega))
  rw [show ((s % 8 : Nat) : Int) = (s : Int) % 8 by omega] at C
  have HM := Lib.hid (mirror_tab2 ⟨s, hs⟩ (by simp only; omega))
  obtain ⟨n0, hn0⟩ : ∃ z : Int, z = (pop (s % 8) : Int) := ⟨_, rfl⟩
  have hb : 0 ≤ n0 ∧ n0 ≤ 3 := by rw [hn0]; unfold pop; omega
  have h8 : 0 ≤ (s : Int) % 8 ∧ (s : Int) % 8 < 8 := by omega
  rw [← hn0] at C
  have HN0 := Lib.hid hn0
  clear hn0
  have hg := hT 2 _ rfl
  have hgl : 0 < w.heap.size := World.block_lt_of_cell? w _ hg
  rw [Nat.zero_add] at hg
  go_enter Tryd.func57, Tryd.ntmps57
  go_wp2_with fail
  refine (CS.out _).mono ?_
  rintro e w1 ⟨rfl, rfl⟩
  go_wp2_with fail
  refine (C.out _).mono ?_
  rintro e w1 ⟨rfl, rfl⟩
  go_wp2_with fail
  go_loopw [3] (fun n wr => ∃ (i : Nat) (x : Int), i ≤ 3 ∧ n = .int .i64 x ∧ x = n0 + invs2 i ∧ wr.heap[w1.heap.size]? = some (.stringIter ⟨#[121, 120, 122]⟩ i) ∧ Below w1.heap.size w1 wr) (fun _ wr => 3 - wr.iterPos w1.heap.size)
  case atStart => exact ⟨0, n0, by omega, rfl, by simp [invs2], World.iter_heap w1 ⟨#[121, 120, 122]⟩ 0, (Below.refl _ _).alloc (Nat.le_refl _) _⟩
  case round =>
    obtain ⟨i, x, hi, rfl, hx, hit, hbl⟩ := hrel
    have hc : i = 0 ∨ i = 1 ∨ i = 2 ∨ i = 3 := by omega
    rcases hc with rfl | rfl | rfl | rfl
    · have hx2 : x = n0 + 0 := hx
      have hnx0 : ∀ ty, (Instr.next (.pointer (some ⟨w1.heap.size, 0, none⟩)) true ty).run Tryd.prog wr = .ok (.tuple #[.bool true, .int .i64 0, .int .i32 121]) (wr.iterAt w1.heap.size ⟨#[121, 120, 122]⟩ 1) := fun ty => Lib.run_next_ascii_at wr w1.heap.size ⟨#[121, 120, 122]⟩ 0 ty hit (by decide) (by decide)
      have HP : Hid (wr.iterPos w1.heap.size = 0) := Lib.hid (by unfold World.iterPos; rw [hit])
      have hit1 := Lib.iterAt_heap wr w1.heap.size ⟨#[121, 120, 122]⟩ 0 1 hit
      have hbl1 := Lib.below_iterAt hbl (Nat.le_refl _) ⟨#[121, 120, 122]⟩ 1
      obtain ⟨W1, hW1⟩ : ∃ z, z = wr.iterAt w1.heap.size ⟨#[121, 120, 122]⟩ 1 := ⟨_, rfl⟩
      rw [← hW1] at hit1 hbl1
      have hnx : ∀ ty, (Instr.next (.pointer (some ⟨w1.heap.size, 0, none⟩)) true ty).run Tryd.prog wr = .ok (.tuple #[.bool true, .int .i64 0, .int .i32 121]) W1 := by rw [hW1]; exact hnx0
      have HI := Lib.hid hit1
      have HB := Lib.hid hbl1
      have hxb : 0 ≤ x ∧ x ≤ 10 := by omega
      have HX := Lib.hid hx2
      clear hx hx2 hit hbl hnx0 hW1 hit1 hbl1 hi
      go_wp2_with fail
      refine wp_loop_rounds 1 ?_
      rw [rounds_succ]
      go_wp2_with fail
      go_roundw
      case rel => first | exact ⟨1, _, by omega, rfl, by have := HX.out; simp only [invs2]; omega, HI.out, HB.out⟩ | exact ⟨1, _, by omega, rfl, by have := HX.out; simp only [invs2]; omega, HI.out, below_drewN HB.out _⟩ | exact ⟨1, _, by omega, rfl, by have := HX.out; simp only [invs2]; omega, HI.out, below_drewN (below_drewN HB.out _) _⟩
      case measure => rw [HP.out]; have hp2 := iterPos_of HI.out; first | (rw [hp2]; omega) | (show 3 - World.iterPos W1 _ < _; rw [hp2]; omega)
    · have hx2 : x = n0 + 0 := hx
      have hnx0 : ∀ ty, (Instr.next (.pointer (some ⟨w1.heap.size, 0, none⟩)) true ty).run Tryd.prog wr = .ok (.tuple #[.bool true, .int .i64 1, .int .i32 120]) (wr.iterAt w1.heap.size ⟨#[121, 120, 122]⟩ 2) := fun ty => Lib.run_next_ascii_at wr w1.heap.size ⟨#[121, 120, 122]⟩ 1 ty hit (by decide) (by decide)
      have HP : Hid (wr.iterPos w1.heap.size = 1) := Lib.hid (by unfold World.iterPos; rw [hit])
      have hit1 := Lib.iterAt_heap wr w1.heap.size ⟨#[121, 120, 122]⟩ 1 2 hit
      have hbl1 := Lib.below_iterAt hbl (Nat.le_refl _) ⟨#[121, 120, 122]⟩ 2
      obtain ⟨W1, hW1⟩ : ∃ z, z = wr.iterAt w1.heap.size ⟨#[121, 120, 122]⟩ 2 := ⟨_, rfl⟩
      rw [← hW1] at hit1 hbl1
      have hnx : ∀ ty, (Instr.next (.pointer (some ⟨w1.heap.size, 0, none⟩)) true ty).run Tryd.prog wr = .ok (.tuple #[.bool true, .int .i64 1, .int .i32 120]) W1 := by rw [hW1]; exact hnx0
      have HI := Lib.hid hit1
      have HB := Lib.hid hbl1
      have hxb : 0 ≤ x ∧ x ≤ 10 := by omega
      have HX := Lib.hid hx2
      clear hx hx2 hit hbl hnx0 hW1 hit1 hbl1 hi
      go_wp2_with fail
      refine wp_loop_rounds 2 ?_
      rw [rounds_succ]
      go_wp2_with fail
      go_quiet (fail)
      go_wp2_with fail
      rw [rounds_succ]
      go_wp2_with fail
      go_roundw
      case rel => first | exact ⟨2, _, by omega, rfl, by have := HX.out; simp only [invs2]; omega, HI.out, HB.out⟩ | exact ⟨2, _, by omega, rfl, by have := HX.out; simp only [invs2]; omega, HI.out, below_drewN HB.out _⟩ | exact ⟨2, _, by omega, rfl, by have := HX.out; simp only [invs2]; omega, HI.out, below_drewN (below_drewN HB.out _) _⟩
      case measure => rw [HP.out]; have hp2 := iterPos_of HI.out; first | (rw [hp2]; omega) | (show 3 - World.iterPos W1 _ < _; rw [hp2]; omega)
    · have hx2 : x = n0 + 1 := hx
      have hnx0 : ∀ ty, (Instr.next (.pointer (some ⟨w1.heap.size, 0, none⟩)) true ty).run Tryd.prog wr = .ok (.tuple #[.bool true, .int .i64 2, .int .i32 122]) (wr.iterAt w1.heap.size ⟨#[121, 120, 122]⟩ 3) := fun ty => Lib.run_next_ascii_at wr w1.heap.size ⟨#[121, 120, 122]⟩ 2 ty hit (by decide) (by decide)
      have HP : Hid (wr.iterPos w1.heap.size = 2) := Lib.hid (by unfold World.iterPos; rw [hit])
      have hit1 := Lib.iterAt_heap wr w1.heap.size ⟨#[121, 120, 122]⟩ 2 3 hit
      have hbl1 := Lib.below_iterAt hbl (Nat.le_refl _) ⟨#[121, 120, 122]⟩ 3
      obtain ⟨W1, hW1⟩ : ∃ z, z = wr.iterAt w1.heap.size ⟨#[121, 120, 122]⟩ 3 := ⟨_, rfl⟩
      rw [← hW1] at hit1 hbl1
      have hnx : ∀ ty, (Instr.next (.pointer (some ⟨w1.heap.size, 0, none⟩)) true ty).run Tryd.prog wr = .ok (.tuple #[.bool true, .int .i64 2, .int .i32 122]) W1 := by rw [hW1]; exact hnx0
      have HI := Lib.hid hit1
      have HB := Lib.hid hbl1
      have hxb : 0 ≤ x ∧ x ≤ 10 := by omega
      have HX := Lib.hid hx2
      clear hx hx2 hit hbl hnx0 hW1 hit1 hbl1 hi
      go_wp2_with fail
      refine wp_loop_rounds 3 ?_
      rw [rounds_succ]
      go_wp2_with fail
      go_quiet (fail)
      go_wp2_with fail
      rw [rounds_succ]
      go_wp2_with fail
      go_quiet (fail)
      go_wp2_with fail
      rw [rounds_succ]
      go_wp2_with fail
      go_roundw
      case rel => first | exact ⟨3, _, by omega, rfl, by have := HX.out; simp only [invs2]; omega, HI.out, HB.out⟩ | exact ⟨3, _, by omega, rfl, by have := HX.out; simp only [invs2]; omega, HI.out, below_drewN HB.out _⟩ | exact ⟨3, _, by omega, rfl, by have := HX.out; simp only [invs2]; omega, HI.out, below_drewN (below_drewN HB.out _) _⟩
      case measure => rw [HP.out]; have hp2 := iterPos_of HI.out; first | (rw [hp2]; omega) | (show 3 - World.iterPos W1 _ < _; rw [hp2]; omega)
    · have hx2 : x = n0 + 1 := hx
      have hnx : ∀ ty, (Instr.next (.pointer (some ⟨w1.heap.size, 0, none⟩)) true ty).run Tryd.prog wr = .ok (.tuple #[.bool false]) wr := fun ty => Lib.run_next_end_at wr w1.heap.size ⟨#[121, 120, 122]⟩ 3 ty hit (by decide)
      have hxb : 0 ≤ x ∧ x ≤ 10 := by omega
      have HX := Lib.hid hx2
      have HB := Lib.hid hbl
      clear hx hx2 hit hbl hi
      go_wp2_with fail
      go_ret
      exact ⟨ret_bool (by rw [HM.out, ← HN0.out, ← HX.out]), HB.out⟩
def invs3 : Nat → Int
  | 0 => 0
  | 1 => 0
  | 2 => 0
  | _ => 2
theorem mirror_tab3 : ∀ s : Fin 48, s.val / 8 = 3 → Pt.mirror s = (((pop (s.val % 8) : Int) + 2) % 2 == 1) := by decide +kernel
set_option maxRecDepth 1000000 in
set_option maxHeartbeats 4000000 in
theorem mirror_o3 (s : Nat) (w : World) (hT : Tab w) (hs : s < 48) (hk : (s : Int) / 8 = 3) :
    Calls Tryd.prog 57 #[.int .i64 (s : Int)] w fun e w' => e = .returned (.bool (Pt.mirror s)) ∧ Below w.heap.size w w' := by
  have CS : Hid (∀ W, Calls Tryd.prog 80 #[.int .i64 (s : Int)] W fun e w' => e = .returned (.bool true) ∧ w' = W) := Lib.hid (fun W => by
    have := symmetry_same (s : Int) W
    rwa [decide_eq_true (show 0 ≤ (s : Int) ∧ (s : Int) < 48 by omega)] at this)
  have C := Lib.hid (fun W => ones_any (s % 8) W (by omega))
  rw [show ((s % 8 : Nat) : Int) = (s : Int) % 8 by omega] at C
  have HM := Lib.hid (mirror_tab3 ⟨s, hs⟩ (by simp only; omega))
  obtain ⟨n0, hn0⟩ : ∃ z : Int, z = (pop (s % 8) : Int) := ⟨_, rfl⟩
  have hb : 0 ≤ n0 ∧ n0 ≤ 3 := by rw [hn0]; unfold pop; omega
  have h8 : 0 ≤ (s : Int) % 8 ∧ (s : Int) % 8 < 8 := by omega
  rw [← hn0] at C
  have HN0 := Lib.hid hn0
  clear hn0
  have hg := hT 3 _ rfl
  have hgl : 0 < w.heap.size := World.block_lt_of_cell? w _ hg
  rw [Nat.zero_add] at hg
  go_enter Tryd.func57, Tryd.ntmps57
  go_wp2_with fail
  refine (CS.out _).mono ?_
  rintro e w1 ⟨rfl, rfl⟩
  go_wp2_with fail
  refine (C.out _).mono ?_
  rintro e w1 ⟨rfl, rfl⟩
  go_wp2_with fail
  go_loopw [3] (fun n wr => ∃ (i : Nat) (x : Int), i ≤ 3 ∧ n = .int .i64 x ∧ x = n0 + invs3 i ∧ wr.heap[w1.heap.size]? = some (.stringIter ⟨#[121, 122, 120]⟩ i) ∧ Below w1.heap.size w1 wr) (fun _ wr => 3 - wr.iterPos w1.heap.size)
  case atStart => exact ⟨0, n0, by omega, rfl, by simp [invs3], World.iter_heap w1 ⟨#[121, 122, 120]⟩ 0, (Below.refl _ _).alloc (Nat.le_refl _) _⟩
  case round =>
    obtain ⟨i, x, hi, rfl, hx, hit, hbl⟩ := hrel
    have hc : i = 0 ∨ i = 1 ∨ i = 2 ∨ i = 3 := by omega
    rcases hc with rfl | rfl | rfl | rfl
    · have hx2 : x = n0 + 0 := hx
      have hnx0 : ∀ ty, (Instr.next (.pointer (some ⟨w1.heap.size, 0, none⟩)) true ty).run Tryd.prog wr = .ok (.tuple #[.bool true, .int .i64 0, .int .i32 121]) (wr.iterAt w1.heap.size ⟨#[121, 122, 120]⟩ 1) := fun ty => Lib.run_next_ascii_at wr w1.heap.size ⟨#[121, 122, 120]⟩ 0 ty hit (by decide) (by decide)
      have HP : Hid (wr.iterPos w1.heap.size = 0) := Lib.hid (by unfold World.iterPos; rw [hit])
      have hit1 := Lib.iterAt_heap wr w1.heap.size ⟨#[121, 122, 120]⟩ 0 1 hit
      have hbl1 := Lib.below_iterAt hbl (Nat.le_refl _) ⟨#[121, 122, 120]⟩ 1
      obtain ⟨W1, hW1⟩ : ∃ z, z = wr.iterAt w1.heap.size ⟨#[121, 122, 120]⟩ 1 := ⟨_, rfl⟩
      rw [← hW1] at hit1 hbl1
      have hnx : ∀ ty, (Instr.next (.pointer (some ⟨w1.heap.size, 0, none⟩)) true ty).run Tryd.prog wr = .ok (.tuple #[.bool true, .int .i64 0, .int .i32 121]) W1 := by rw [hW1]; exact hnx0
      have HI := Lib.hid hit1
      have HB := Lib.hid hbl1
      have hxb : 0 ≤ x ∧ x ≤ 10 := by omega
      have HX := Lib.hid hx2
      clear hx hx2 hit hbl hnx0 hW1 hit1 hbl1 hi
      go_wp2_with fail
      refine wp_loop_rounds 1 ?_
      rw [rounds_succ]
      go_wp2_with fail
      go_roundw
      case rel => first | exact ⟨1, _, by omega, rfl, by have := HX.out; simp only [invs3]; omega, HI.out, HB.out⟩ | exact ⟨1, _, by omega, rfl, by have := HX.out; simp only [invs3]; omega, HI.out, below_drewN HB.out _⟩ | exact ⟨1, _, by omega, rfl, by have := HX.out; simp only [invs3]; omega, HI.out, below_drewN (below_drewN HB.out _) _⟩
      case measure => rw [HP.out]; have hp2 := iterPos_of HI.out; first | (rw [hp2]; omega) | (show 3 - World.iterPos W1 _ < _; rw [hp2]; omega)
    · have hx2 : x = n0 + 0 := hx
      have hnx0 : ∀ ty, (Instr.next (.pointer (some ⟨w1.heap.size, 0, none⟩)) true ty).run Tryd.prog wr = .ok (.tuple #[.bool true, .int .i64 1, .int .i32 122]) (wr.iterAt w1.heap.size ⟨#[121, 122, 120]⟩ 2) := fun ty => Lib.run_next_ascii_at wr w1.heap.size ⟨#[121, 122, 120]⟩ 1 ty hit (by decide) (by decide)
      have HP : Hid (wr.iterPos w1.heap.size = 1) := Lib.hid (by unfold World.iterPos; rw [hit])
      have hit1 := Lib.iterAt_heap wr w1.heap.size ⟨#[121, 122, 120]⟩ 1 2 hit
      have hbl1 := Lib.below_iterAt hbl (Nat.le_refl _) ⟨#[121, 122, 120]⟩ 2
      obtain ⟨W1, hW1⟩ : ∃ z, z = wr.iterAt w1.heap.size ⟨#[121, 122, 120]⟩ 2 := ⟨_, rfl⟩
      rw [← hW1] at hit1 hbl1
      have hnx : ∀ ty, (Instr.next (.pointer (some ⟨w1.heap.size, 0, none⟩)) true ty).run Tryd.prog wr = .ok (.tuple #[.bool true, .int .i64 1, .int .i32 122]) W1 := by rw [hW1]; exact hnx0
      have HI := Lib.hid hit1
      have HB := Lib.hid hbl1
      have hxb : 0 ≤ x ∧ x ≤ 10 := by omega
      have HX := Lib.hid hx2
      clear hx hx2 hit hbl hnx0 hW1 hit1 hbl1 hi
      go_wp2_with fail
      refine wp_loop_rounds 2 ?_
      rw [rounds_succ]
      go_wp2_with fail
      go_quiet (fail)
      go_wp2_with fail
      rw [rounds_succ]
      go_wp2_with fail
      go_roundw
      case rel => first | exact ⟨2, _, by omega, rfl, by have := HX.out; simp only [invs3]; omega, HI.out, HB.out⟩ | exact ⟨2, _, by omega, rfl, by have := HX.out; simp only [invs3]; omega, HI.out, below_drewN HB.out _⟩ | exact ⟨2, _, by omega, rfl, by have := HX.out; simp only [invs3]; omega, HI.out, below_drewN (below_drewN HB.out _) _⟩
      case measure => rw [HP.out]; have hp2 := iterPos_of HI.out; first | (rw [hp2]; omega) | (show 3 - World.iterPos W1 _ < _; rw [hp2]; omega)
    · have hx2 : x = n0 + 0 := hx
      have hnx0 : ∀ ty, (Instr.next (.pointer (some ⟨w1.heap.size, 0, none⟩)) true ty).run Tryd.prog wr = .ok (.tuple #[.bool true, .int .i64 2, .int .i32 120]) (wr.iterAt w1.heap.size ⟨#[121, 122, 120]⟩ 3) := fun ty => Lib.run_next_ascii_at wr w1.heap.size ⟨#[121, 122, 120]⟩ 2 ty hit (by decide) (by decide)
      have HP : Hid (wr.iterPos w1.heap.size = 2) := Lib.hid (by unfold World.iterPos; rw [hit])
      have hit1 := Lib.iterAt_heap wr w1.heap.size ⟨#[121, 122, 120]⟩ 2 3 hit
      have hbl1 := Lib.below_iterAt hbl (Nat.le_refl _) ⟨#[121, 122, 120]⟩ 3
      obtain ⟨W1, hW1⟩ : ∃ z, z = wr.iterAt w1.heap.size ⟨#[121, 122, 120]⟩ 3 := ⟨_, rfl⟩
      rw [← hW1] at hit1 hbl1
      have hnx : ∀ ty, (Instr.next (.pointer (some ⟨w1.heap.size, 0, none⟩)) true ty).run Tryd.prog wr = .ok (.tuple #[.bool true, .int .i64 2, .int .i32 120]) W1 := by rw [hW1]; exact hnx0
      have HI := Lib.hid hit1
      have HB := Lib.hid hbl1
      have hxb : 0 ≤ x ∧ x ≤ 10 := by omega
      have HX := Lib.hid hx2
      clear hx hx2 hit hbl hnx0 hW1 hit1 hbl1 hi
      go_wp2_with fail
      refine wp_loop_rounds 3 ?_
      rw [rounds_succ]
      go_wp2_with fail
      go_quiet (fail)
      go_wp2_with fail
      rw [rounds_succ]
      go_wp2_with fail
      go_quiet (fail)
      go_wp2_with fail
      rw [rounds_succ]
      go_wp2_with fail
      go_roundw
      case rel => first | exact ⟨3, _, by omega, rfl, by have := HX.out; simp only [invs3]; omega, HI.out, HB.out⟩ | exact ⟨3, _, by omega, rfl, by have := HX.out; simp only [invs3]; omega, HI.out, below_drewN HB.out _⟩ | exact ⟨3, _, by omega, rfl, by have := HX.out; simp only [invs3]; omega, HI.out, below_drewN (below_drewN HB.out _) _⟩
      case measure => rw [HP.out]; have hp2 := iterPos_of HI.out; first | (rw [hp2]; omega) | (show 3 - World.iterPos W1 _ < _; rw [hp2]; omega)
    · have hx2 : x = n0 + 2 := hx
      have hnx : ∀ ty, (Instr.next (.pointer (some ⟨w1.heap.size, 0, none⟩)) true ty).run Tryd.prog wr = .ok (.tuple #[.bool false]) wr := fun ty => Lib.run_next_end_at wr w1.heap.size ⟨#[121, 122, 120]⟩ 3 ty hit (by decide)
      have hxb : 0 ≤ x ∧ x ≤ 10 := by omega
      have HX := Lib.hid hx2
      have HB := Lib.hid hbl
      clear hx hx2 hit hbl hi
      go_wp2_with fail
      go_ret
      exact ⟨ret_bool (by rw [HM.out, ← HN0.out, ← HX.out]), HB.out⟩
def invs4 : Nat → Int
  | 0 => 0
  | 1 => 0
  | 2 => 1
  | _ => 2
theorem mirror_tab4 : ∀ s : Fin 48, s.val / 8 = 4 → Pt.mirror s = (((pop (s.val % 8) : Int) + 2) % 2 == 1) := by decide +kernel
set_option maxRecDepth 1000000 in
set_option maxHeartbeats 4000000 in
theorem mirror_o4 (s : Nat) (w : World) (hT : Tab w) (hs : s < 48) (hk : (s : Int) / 8 = 4) :
    Calls Tryd.prog 57 #[.int .i64 (s : Int)] w fun e w' => e = .returned (.bool (Pt.mirror s)) ∧ Below w.heap.size w w' := by
  have CS : Hid (∀ W, Calls Tryd.prog 80 #[.int .i64 (s : Int)] W fun e w' => e = .returned (.bool true) ∧ w' = W) := Lib.hid (fun W => by
    have := symmetry_same (s : Int) W
    rwa [decide_eq_true (show 0 ≤ (s : Int) ∧ (s : Int) < 48 by omega)] at this)
  have C := Lib.hid (fun W => ones_any (s % 8) W (by omega))
  rw [show ((s % 8 : Nat) : Int) = (s : Int) % 8 by omega] at C
  have HM := Lib.hid (mirror_tab4 ⟨s, hs⟩ (by simp only; omega))
  obtain ⟨n0, hn0⟩ : ∃ z : Int, z = (pop (s % 8) : Int) := ⟨_, rfl⟩
  have hb : 0 ≤ n0 ∧ n0 ≤ 3 := by rw [hn0]; unfold pop; omega
  have h8 : 0 ≤ (s : Int) % 8 ∧ (s : Int) % 8 < 8 := by omega
  rw [← hn0] at C
  have HN0 := Lib.hid hn0
  clear hn0
  have hg := hT 4 _ rfl
  have hgl : 0 < w.heap.size := World.block_lt_of_cell? w _ hg
  rw [Nat.zero_add] at hg
  go_enter Tryd.func57, Tryd.ntmps57
  go_wp2_with fail
  refine (CS.out _).mono ?_
  rintro e w1 ⟨rfl, rfl⟩
  go_wp2_with fail
  refine (C.out _).mono ?_
  rintro e w1 ⟨rfl, rfl⟩
  go_wp2_with fail
  go_loopw [3] (fun n wr => ∃ (i : Nat) (x : Int), i ≤ 3 ∧ n = .int .i64 x ∧ x = n0 + invs4 i ∧ wr.heap[w1.heap.size]? = some (.stringIter ⟨#[122, 120, 121]⟩ i) ∧ Below w1.heap.size w1 wr) (fun _ wr => 3 - wr.iterPos w1.heap.size)
  case atStart => exact ⟨0, n0, by omega, rfl, by simp [invs4], World.iter_heap w1 ⟨#[122, 120, 121]⟩ 0, (Below.refl _ _).alloc (Nat.le_refl _) _⟩
  case round =>
    obtain ⟨i, x, hi, rfl, hx, hit, hbl⟩ := hrel
    have hc : i = 0 ∨ i = 1 ∨ i = 2 ∨ i = 3 := by omega
    rcases hc with rfl | rfl | rfl | rfl
    · have hx2 : x = n0 + 0 := hx
      have hnx0 : ∀ ty, (Instr.next (.pointer (some ⟨w1.heap.size, 0, none⟩)) true ty).run Tryd.prog wr = .ok (.tuple #[.bool true, .int .i64 0, .int .i32 122]) (wr.iterAt w1.heap.size ⟨#[122, 120, 121]⟩ 1) := fun ty => Lib.run_next_ascii_at wr w1.heap.size ⟨#[122, 120, 121]⟩ 0 ty hit (by decide) (by decide)
      have HP : Hid (wr.iterPos w1.heap.size = 0) := Lib.hid (by unfold World.iterPos; rw [hit])
      have hit1 := Lib.iterAt_heap wr w1.heap.size ⟨#[122, 120, 121]⟩ 0 1 hit
      have hbl1 := Lib.below_iterAt hbl (Nat.le_refl _) ⟨#[122, 120, 121]⟩ 1
      obtain ⟨W1, hW1⟩ : ∃ z, z = wr.iterAt w1.heap.size ⟨#[122, 120, 121]⟩ 1 := ⟨_, rfl⟩
      rw [← hW1] at hit1 hbl1
      have hnx : ∀ ty, (Instr.next (.pointer (some ⟨w1.heap.size, 0, none⟩)) true ty).run Tryd.prog wr = .ok (.tuple #[.bool true, .int .i64 0, .int .i32 122]) W1 := by rw [hW1]; exact hnx0
      have HI := Lib.hid hit1
      have HB := Lib.hid hbl1
      have hxb : 0 ≤ x ∧ x ≤ 10 := by omega
      have HX := Lib.hid hx2
      clear hx hx2 hit hbl hnx0 hW1 hit1 hbl1 hi
      go_wp2_with fail
      refine wp_loop_rounds 1 ?_
      rw [rounds_succ]
      go_wp2_with fail
      go_roundw
      case rel => first | exact ⟨1, _, by omega, rfl, by have := HX.out; simp only [invs4]; omega, HI.out, HB.out⟩ | exact ⟨1, _, by omega, rfl, by have := HX.out; simp only [invs4]; omega, HI.out, below_drewN HB.out _⟩ | exact ⟨1, _, by omega, rfl, by have := HX.out; simp only [invs4]; omega, HI.out, below_drewN (below_drewN HB.out _) _⟩
      case measure => rw [HP.out]; have hp2 := iterPos_of HI.out; first | (rw [hp2]; omega) | (show 3 - World.iterPos W1 _ < _; rw [hp2]; omega)
    · have hx2 : x = n0 + 0 := hx
      have hnx0 : ∀ ty, (Instr.next (.pointer (some ⟨w1.heap.size, 0, none⟩)) true ty).run Tryd.prog wr = .ok (.tuple #[.bool true, .int .i64 1, .int .i32 120]) (wr.iterAt w1.heap.size ⟨#[122, 120, 121]⟩ 2) := fun ty => Lib.run_next_ascii_at wr w1.heap.size ⟨#[122, 120, 121]⟩ 1 ty hit (by decide) (by decide)
      have HP : Hid (wr.iterPos w1.heap.size = 1) := Lib.hid (by unfold World.iterPos; rw [hit])
      have hit1 := Lib.iterAt_heap wr w1.heap.size ⟨#[122, 120, 121]⟩ 1 2 hit
      have hbl1 := Lib.below_iterAt hbl (Nat.le_refl _) ⟨#[122, 120, 121]⟩ 2
      obtain ⟨W1, hW1⟩ : ∃ z, z = wr.iterAt w1.heap.size ⟨#[122, 120, 121]⟩ 2 := ⟨_, rfl⟩
      rw [← hW1] at hit1 hbl1
      have hnx : ∀ ty, (Instr.next (.pointer (some ⟨w1.heap.size, 0, none⟩)) true ty).run Tryd.prog wr = .ok (.tuple #[.bool true, .int .i64 1, .int .i32 120]) W1 := by rw [hW1]; exact hnx0
      have HI := Lib.hid hit1
      have HB := Lib.hid hbl1
      have hxb : 0 ≤ x ∧ x ≤ 10 := by omega
      have HX := Lib.hid hx2
      clear hx hx2 hit hbl hnx0 hW1 hit1 hbl1 hi
      go_wp2_with fail
      refine wp_loop_rounds 2 ?_
      rw [rounds_succ]
      go_wp2_with fail
      go_quiet (fail)
      go_wp2_with fail
      rw [rounds_succ]
      go_wp2_with fail
      go_roundw
      case rel => first | exact ⟨2, _, by omega, rfl, by have := HX.out; simp only [invs4]; omega, HI.out, HB.out⟩ | exact ⟨2, _, by omega, rfl, by have := HX.out; simp only [invs4]; omega, HI.out, below_drewN HB.out _⟩ | exact ⟨2, _, by omega, rfl, by have := HX.out; simp only [invs4]; omega, HI.out, below_drewN (below_drewN HB.out _) _⟩
      case measure => rw [HP.out]; have hp2 := iterPos_of HI.out; first | (rw [hp2]; omega) | (show 3 - World.iterPos W1 _ < _; rw [hp2]; omega)
    · have hx2 : x = n0 + 1 := hx
      have hnx0 : ∀ ty, (Instr.next (.pointer (some ⟨w1.heap.size, 0, none⟩)) true ty).run Tryd.prog wr = .ok (.tuple #[.bool true, .int .i64 2, .int .i32 121]) (wr.iterAt w1.heap.size ⟨#[122, 120, 121]⟩ 3) := fun ty => Lib.run_next_ascii_at wr w1.heap.size ⟨#[122, 120, 121]⟩ 2 ty hit (by decide) (by decide)
      have HP : Hid (wr.iterPos w1.heap.size = 2) := Lib.hid (by unfold World.iterPos; rw [hit])
      have hit1 := Lib.iterAt_heap wr w1.heap.size ⟨#[122, 120, 121]⟩ 2 3 hit
      have hbl1 := Lib.below_iterAt hbl (Nat.le_refl _) ⟨#[122, 120, 121]⟩ 3
      obtain ⟨W1, hW1⟩ : ∃ z, z = wr.iterAt w1.heap.size ⟨#[122, 120, 121]⟩ 3 := ⟨_, rfl⟩
      rw [← hW1] at hit1 hbl1
      have hnx : ∀ ty, (Instr.next (.pointer (some ⟨w1.heap.size, 0, none⟩)) true ty).run Tryd.prog wr = .ok (.tuple #[.bool true, .int .i64 2, .int .i32 121]) W1 := by rw [hW1]; exact hnx0
      have HI := Lib.hid hit1
      have HB := Lib.hid hbl1
      have hxb : 0 ≤ x ∧ x ≤ 10 := by omega
      have HX := Lib.hid hx2
      clear hx hx2 hit hbl hnx0 hW1 hit1 hbl1 hi
      go_wp2_with fail
      refine wp_loop_rounds 3 ?_
      rw [rounds_succ]
      go_wp2_with fail
      go_quiet (fail)
      go_wp2_with fail
      rw [rounds_succ]
      go_wp2_with fail
      go_quiet (fail)
      go_wp2_with fail
      rw [rounds_succ]
      go_wp2_with fail
      go_roundw
      case rel => first | exact ⟨3, _, by omega, rfl, by have := HX.out; simp only [invs4]; omega, HI.out, HB.out⟩ | exact ⟨3, _, by omega, rfl, by have := HX.out; simp only [invs4]; omega, HI.out, below_drewN HB.out _⟩ | exact ⟨3, _, by omega, rfl, by have := HX.out; simp only [invs4]; omega, HI.out, below_drewN (below_drewN HB.out _) _⟩
      case measure => rw [HP.out]; have hp2 := iterPos_of HI.out; first | (rw [hp2]; omega) | (show 3 - World.iterPos W1 _ < _; rw [hp2]; omega)
    · have hx2 : x = n0 + 2 := hx
      have hnx : ∀ ty, (Instr.next (.pointer (some ⟨w1.heap.size, 0, none⟩)) true ty).run Tryd.prog wr = .ok (.tuple #[.bool false]) wr := fun ty => Lib.run_next_end_at wr w1.heap.size ⟨#[122, 120, 121]⟩ 3 ty hit (by decide)
      have hxb : 0 ≤ x ∧ x ≤ 10 := by omega
      have HX := Lib.hid hx2
      have HB := Lib.hid hbl
      clear hx hx2 hit hbl hi
      go_wp2_with fail
      go_ret
      exact ⟨ret_bool (by rw [HM.out, ← HN0.out, ← HX.out]), HB.out⟩
def invs5 : Nat → Int
  | 0 => 0
  | 1 => 0
  | 2 => 1
  | _ => 3
theorem mirror_tab5 : ∀ s : Fin 48, s.val / 8 = 5 → Pt.mirror s = (((pop (s.val % 8) : Int) + 3) % 2 == 1) := by decide +kernel
set_option maxRecDepth 1000000 in
set_option maxHeartbeats 4000000 in
theorem mirror_o5 (s : Nat) (w : World) (hT : Tab w) (hs : s < 48) (hk : (s : Int) / 8 = 5) :
    Calls Tryd.prog 57 #[.int .i64 (s : Int)] w fun e w' => e = .returned (.bool (Pt.mirror s)) ∧ Below w.heap.size w w' := by
  have CS : Hid (∀ W, Calls Tryd.prog 80 #[.int .i64 (s : Int)] W fun e w' => e = .returned (.bool true) ∧ w' = W) := Lib.hid (fun W => by
    have := symmetry_same (s : Int) W
    rwa [decide_eq_true (show 0 ≤ (s : Int) ∧ (s : Int) < 48 by omega)] at this)
  have C := Lib.hid (fun W => ones_any (s % 8) W (by omega))
  rw [show ((s % 8 : Nat) : Int) = (s : Int) % 8 by omega] at C
  have HM := Lib.hid (mirror_tab5 ⟨s, hs⟩ (by simp only; omega))
  obtain ⟨n0, hn0⟩ : ∃ z : Int, z = (pop (s % 8) : Int) := ⟨_, rfl⟩
  have hb : 0 ≤ n0 ∧ n0 ≤ 3 := by rw [hn0]; unfold pop; omega
  have h8 : 0 ≤ (s : Int) % 8 ∧ (s : Int) % 8 < 8 := by omega
  rw [← hn0] at C
  have HN0 := Lib.hid hn0
  clear hn0
  have hg := hT 5 _ rfl
  have hgl : 0 < w.heap.size := World.block_lt_of_cell? w _ hg
  rw [Nat.zero_add] at hg
  go_enter Tryd.func57, Tryd.ntmps57
  go_wp2_with fail
  refine (CS.out _).mono ?_
  rintro e w1 ⟨rfl, rfl⟩
  go_wp2_with fail
  refine (C.out _).mono ?_
  rintro e w1 ⟨rfl, rfl⟩
  go_wp2_with fail
  go_loopw [3] (fun n wr => ∃ (i : Nat) (x : Int), i ≤ 3 ∧ n = .int .i64 x ∧ x = n0 + invs5 i ∧ wr.heap[w1.heap.size]? = some (.stringIter ⟨#[122, 121, 120]⟩ i) ∧ Below w1.heap.size w1 wr) (fun _ wr => 3 - wr.iterPos w1.heap.size)
  case atStart => exact ⟨0, n0, by omega, rfl, by simp [invs5], World.iter_heap w1 ⟨#[122, 121, 120]⟩ 0, (Below.refl _ _).alloc (Nat.le_refl _) _⟩
  case round =>
    obtain ⟨i, x, hi, rfl, hx, hit, hbl⟩ := hrel
    have hc : i = 0 ∨ i = 1 ∨ i = 2 ∨ i = 3 := by omega
    rcases hc with rfl | rfl | rfl | rfl
    · have hx2 : x = n0 + 0 := hx
      have hnx0 : ∀ ty, (Instr.next (.pointer (some ⟨w1.heap.size, 0, none⟩)) true ty).run Tryd.prog wr = .ok (.tuple #[.bool true, .int .i64 0, .int .i32 122]) (wr.iterAt w1.heap.size ⟨#[122, 121, 120]⟩ 1) := fun ty => Lib.run_next_ascii_at wr w1.heap.size ⟨#[122, 121, 120]⟩ 0 ty hit (by decide) (by decide)
      have HP : Hid (wr.iterPos w1.heap.size = 0) := Lib.hid (by unfold World.iterPos; rw [hit])
      have hit1 := Lib.iterAt_heap wr w1.heap.size ⟨#[122, 121, 120]⟩ 0 1 hit
      have hbl1 := Lib.below_iterAt hbl (Nat.le_refl _) ⟨#[122, 121, 120]⟩ 1
      obtain ⟨W1, hW1⟩ : ∃ z, z = wr.iterAt w1.heap.size ⟨#[122, 121, 120]⟩ 1 := ⟨_, rfl⟩
      rw [← hW1] at hit1 hbl1
      have hnx : ∀ ty, (Instr.next (.pointer (some ⟨w1.heap.size, 0, none⟩)) true ty).run Tryd.prog wr = .ok (.tuple #[.bool true, .int .i64 0, .int .i32 122]) W1 := by rw [hW1]; exact hnx0
      have HI := Lib.hid hit1
      have HB := Lib.hid hbl1
      have hxb : 0 ≤ x ∧ x ≤ 10 := by omega
      have HX := Lib.hid hx2
      clear hx hx2 hit hbl hnx0 hW1 hit1 hbl1 hi
      go_wp2_with fail
      refine wp_loop_rounds 1 ?_
      rw [rounds_succ]
      go_wp2_with fail
      go_roundw
      case rel => first | exact ⟨1, _, by omega, rfl, by have := HX.out; simp only [invs5]; omega, HI.out, HB.out⟩ | exact ⟨1, _, by omega, rfl, by have := HX.out; simp only [invs5]; omega, HI.out, below_drewN HB.out _⟩ | exact ⟨1, _, by omega, rfl, by have := HX.out; simp only [invs5]; omega, HI.out, below_drewN (below_drewN HB.out _) _⟩
      case measure => rw [HP.out]; have hp2 := iterPos_of HI.out; first | (rw [hp2]; omega) | (show 3 - World.iterPos W1 _ < _; rw [hp2]; omega)
    · have hx2 : x = n0 + 0 := hx
      have hnx0 : ∀ ty, (Instr.next (.pointer (some ⟨w1.heap.size, 0, none⟩)) true ty).run Tryd.prog wr = .ok (.tuple #[.bool true, .int .i64 1, .int .i32 121]) (wr.iterAt w1.heap.size ⟨#[122, 121, 120]⟩ 2) := fun ty => Lib.run_next_ascii_at wr w1.heap.size ⟨#[122, 121, 120]⟩ 1 ty hit (by decide) (by decide)
      have HP : Hid (wr.iterPos w1.heap.size = 1) := Lib.hid (by unfold World.iterPos; rw [hit])
      have hit1 := Lib.iterAt_heap wr w1.heap.size ⟨#[122, 121, 120]⟩ 1 2 hit
      have hbl1 := Lib.below_iterAt hbl (Nat.le_refl _) ⟨#[122, 121, 120]⟩ 2
      obtain ⟨W1, hW1⟩ : ∃ z, z = wr.iterAt w1.heap.size ⟨#[122, 121, 120]⟩ 2 := ⟨_, rfl⟩
      rw [← hW1] at hit1 hbl1
      have hnx : ∀ ty, (Instr.next (.pointer (some ⟨w1.heap.size, 0, none⟩)) true ty).run Tryd.prog wr = .ok (.tuple #[.bool true, .int .i64 1, .int .i32 121]) W1 := by rw [hW1]; exact hnx0
      have HI := Lib.hid hit1
      have HB := Lib.hid hbl1
      have hxb : 0 ≤ x ∧ x ≤ 10 := by omega
      have HX := Lib.hid hx2
      clear hx hx2 hit hbl hnx0 hW1 hit1 hbl1 hi
      go_wp2_with fail
      refine wp_loop_rounds 2 ?_
      rw [rounds_succ]
      go_wp2_with fail
      go_quiet (fail)
      go_wp2_with fail
      rw [rounds_succ]
      go_wp2_with fail
      go_roundw
      case rel => first | exact ⟨2, _, by omega, rfl, by have := HX.out; simp only [invs5]; omega, HI.out, HB.out⟩ | exact ⟨2, _, by omega, rfl, by have := HX.out; simp only [invs5]; omega, HI.out, below_drewN HB.out _⟩ | exact ⟨2, _, by omega, rfl, by have := HX.out; simp only [invs5]; omega, HI.out, below_drewN (below_drewN HB.out _) _⟩
      case measure => rw [HP.out]; have hp2 := iterPos_of HI.out; first | (rw [hp2]; omega) | (show 3 - World.iterPos W1 _ < _; rw [hp2]; omega)
    · have hx2 : x = n0 + 1 := hx
      have hnx0 : ∀ ty, (Instr.next (.pointer (some ⟨w1.heap.size, 0, none⟩)) true ty).run Tryd.prog wr = .ok (.tuple #[.bool true, .int .i64 2, .int .i32 120]) (wr.iterAt w1.heap.size ⟨#[122, 121, 120]⟩ 3) := fun ty => Lib.run_next_ascii_at wr w1.heap.size ⟨#[122, 121, 120]⟩ 2 ty hit (by decide) (by decide)
      have HP : Hid (wr.iterPos w1.heap.size = 2) := Lib.hid (by unfold World.iterPos; rw [hit])
      have hit1 := Lib.iterAt_heap wr w1.heap.size ⟨#[122, 121, 120]⟩ 2 3 hit
      have hbl1 := Lib.below_iterAt hbl (Nat.le_refl _) ⟨#[122, 121, 120]⟩ 3
      obtain ⟨W1, hW1⟩ : ∃ z, z = wr.iterAt w1.heap.size ⟨#[122, 121, 120]⟩ 3 := ⟨_, rfl⟩
      rw [← hW1] at hit1 hbl1
      have hnx : ∀ ty, (Instr.next (.pointer (some ⟨w1.heap.size, 0, none⟩)) true ty).run Tryd.prog wr = .ok (.tuple #[.bool true, .int .i64 2, .int .i32 120]) W1 := by rw [hW1]; exact hnx0
      have HI := Lib.hid hit1
      have HB := Lib.hid hbl1
      have hxb : 0 ≤ x ∧ x ≤ 10 := by omega
      have HX := Lib.hid hx2
      clear hx hx2 hit hbl hnx0 hW1 hit1 hbl1 hi
      go_wp2_with fail
      refine wp_loop_rounds 3 ?_
      rw [rounds_succ]
      go_wp2_with fail
      go_quiet (fail)
      go_wp2_with fail
      rw [rounds_succ]
      go_wp2_with fail
      go_quiet (fail)
      go_wp2_with fail
      rw [rounds_succ]
      go_wp2_with fail
      go_roundw
      case rel => first | exact ⟨3, _, by omega, rfl, by have := HX.out; simp only [invs5]; omega, HI.out, HB.out⟩ | exact ⟨3, _, by omega, rfl, by have := HX.out; simp only [invs5]; omega, HI.out, below_drewN HB.out _⟩ | exact ⟨3, _, by omega, rfl, by have := HX.out; simp only [invs5]; omega, HI.out, below_drewN (below_drewN HB.out _) _⟩
      case measure => rw [HP.out]; have hp2 := iterPos_of HI.out; first | (rw [hp2]; omega) | (show 3 - World.iterPos W1 _ < _; rw [hp2]; omega)
    · have hx2 : x = n0 + 3 := hx
      have hnx : ∀ ty, (Instr.next (.pointer (some ⟨w1.heap.size, 0, none⟩)) true ty).run Tryd.prog wr = .ok (.tuple #[.bool false]) wr := fun ty => Lib.run_next_end_at wr w1.heap.size ⟨#[122, 121, 120]⟩ 3 ty hit (by decide)
      have hxb : 0 ≤ x ∧ x ≤ 10 := by omega
      have HX := Lib.hid hx2
      have HB := Lib.hid hbl
      clear hx hx2 hit hbl hi
      go_wp2_with fail
      go_ret
      exact ⟨ret_bool (by rw [HM.out, ← HN0.out, ← HX.out]), HB.out⟩
theorem mirror_any (s : Nat) (w : World) (hT : Tab w) (hs : s < 48) :
    Calls Tryd.prog 57 #[.int .i64 (s : Int)] w fun e w' => e = .returned (.bool (Pt.mirror s)) ∧ Below w.heap.size w w' := by
  have hk : (s : Int) / 8 = 0 ∨ (s : Int) / 8 = 1 ∨ (s : Int) / 8 = 2 ∨ (s : Int) / 8 = 3 ∨ (s : Int) / 8 = 4 ∨ (s : Int) / 8 = 5 := by omega
  rcases hk with hk | hk | hk | hk | hk | hk
  · exact mirror_o0 s w hT hs hk
  · exact mirror_o1 s w hT hs hk
  · exact mirror_o2 s w hT hs hk
  · exact mirror_o3 s w hT hs hk
  · exact mirror_o4 s w hT hs hk
  · exact mirror_o5 s w hT hs hk
set_option maxRecDepth 1000000 in
theorem mirror_out (a : Int) (w : World) (ha : decide (0 ≤ a ∧ a < 48) = false) :
    Calls Tryd.prog 57 #[.int .i64 a] w fun e w' => e = .returned (.bool false) ∧ Below w.heap.size w w' := by
  have HA := Lib.hid ha
  clear ha
  have G0 := Lib.hid (Below.refl w.heap.size w)
  go_enter Tryd.func57, Tryd.ntmps57
  go_upto_region 1 with fail
  refine wpG_region ?_
  refine wpG_tk (some 7) (v := .int .i64 a) rfl (.val (by rfl) (fun _ _ => rfl)) ?_
  simp only [Act.put, List.setIfInBounds_toArray, List.set_cons_zero, List.set_cons_succ]
  refine wpG_tk (some 8) (v := .bool false) rfl (.call (f := 80) (args := #[.int .i64 a]) (by rfl) (fun W => by go_simp) (fun W hg => sym_is a false W HA.out)) ?_
  simp only [Act.put, List.setIfInBounds_toArray, List.set_cons_zero, List.set_cons_succ]
  refine wpG_tk (some 9) (v := .bool true) rfl (.val (by rfl) (fun W hg => by go_simp)) ?_
  simp only [Act.put, List.setIfInBounds_toArray, List.set_cons_zero, List.set_cons_succ]
  refine wpG_done (fun V1 hv2 => ?_)
  have GC3 := Lib.hid hv2
  clear hv2
  go_upto_region 2 with fail
  refine wpG_region ?_
  refine wpG_tk (some 2) (v := .bool false) rfl (.val (by rfl) (fun _ _ => rfl)) ?_
  simp only [Act.put, List.setIfInBounds_toArray, List.set_cons_zero, List.set_cons_succ]
  refine wpG_done (fun V4 hv5 => ?_)
  have GC6 := Lib.hid (GC3.out.trans hv5)
  clear hv5
  go_wp2_with fail
  go_ret
  exact ⟨rfl, Gr.to G0.out GC6.out⟩
end Go.Proofs.YthadlgjobjnhcaaDoor
