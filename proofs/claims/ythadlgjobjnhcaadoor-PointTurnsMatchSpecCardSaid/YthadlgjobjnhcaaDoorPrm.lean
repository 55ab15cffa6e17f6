/-
  Contracts of the specification: reflections.
-/
import Derived.Test.YthadlgjobjnhcaaDoorPtw
import Derived.Test.YthadlgjobjnhcaaDoorPra
import Derived.Test.YthadlgjobjnhcaaDoorRoz
import Derived.Handy
namespace Go.Proofs.YthadlgjobjnhcaaDoor
open Go.RowKit
set_option linter.unusedVariables false
def rcnt0 (s : Nat) : Nat → Int
  | 0 => 0
  | 1 => 0 + (Pt.bitN s 0 : Int)
  | 2 => 0 + (Pt.bitN s 0 : Int) + (Pt.bitN s 1 : Int)
  | _ => 0 + (Pt.bitN s 0 : Int) + (Pt.bitN s 1 : Int) + (Pt.bitN s 2 : Int)
theorem rmirror_tab0 : ∀ s : Fin 48, s.val / 8 = 0 → Pt.mirror s = ((rcnt0 s 3) % 2 == 1) := by decide +kernel
set_option maxRecDepth 1000000 in
set_option maxHeartbeats 4000000 in
theorem rmirror_o0 (s : Nat) (w : World) (hs : s < 48) (hk : (s : Int) / 8 = 0) :
    Calls Tryd.prog 58 #[.int .i64 (s : Int)] w fun e w' => e = .returned (.bool (Pt.mirror s)) ∧ Below w.heap.size w w' := by
  have CS : Hid (∀ W, Calls Tryd.prog 81 #[.int .i64 (s : Int)] W fun e w' => e = .returned (.bool true) ∧ Below W.heap.size W w') := Lib.hid (fun W => by
    have := is_any (s : Int) W
    rwa [decide_eq_true (show 0 ≤ (s : Int) ∧ (s : Int) < 48 by omega)] at this)
  have CN : Hid (∀ i : Nat, i < 3 → ∀ W, Calls Tryd.prog 88 #[.int .i64 (s : Int), .int .i64 (i : Int)] W fun e w' => e = .returned (.bool (Pt.bit s i)) ∧ w' = W) := Lib.hid (fun i hi W => rnegates_same s i W hs hi)
  have HK := Lib.hid (show s / 8 = 0 by omega)
  have HKI := Lib.hid hk
  have G0 := Lib.hid (Below.refl w.heap.size w)
  go_enter Tryd.func58, Tryd.ntmps58
  go_upto_region 1 with fail
  refine wpG_region ?_
  refine wpG_tk (some 9) (v := .int .i64 (s : Int)) rfl (.val (by rfl) (fun _ _ => rfl)) ?_
  simp only [Act.put, List.setIfInBounds_toArray, List.set_cons_zero, List.set_cons_succ]
  refine wpG_tk (some 10) (v := .bool true) rfl (.call (f := 81) (args := #[.int .i64 (s : Int)]) (by rfl) (fun W => by go_simp) (fun W hg => CS.out W)) ?_
  simp only [Act.put, List.setIfInBounds_toArray, List.set_cons_zero, List.set_cons_succ]
  refine wpG_tk (some 3) (v := .bool true) rfl (.val (by rfl) (fun _ _ => rfl)) ?_
  simp only [Act.put, List.setIfInBounds_toArray, List.set_cons_zero, List.set_cons_succ]
  refine wpG_done (fun V1 hv2 => ?_)
  have GC3 := Lib.hid hv2
  clear hv2
  go_upto_region 2 with fail
  refine wpG_region ?_
  refine wpG_tk (some 11) (v := .bool true) rfl (.val (by rfl) (fun _ _ => rfl)) ?_
  simp only [Act.put, List.setIfInBounds_toArray, List.set_cons_zero, List.set_cons_succ]
  refine wpG_tk (some 12) (v := .bool false) rfl (.val (by rfl) (fun W hg => by go_simp)) ?_
  simp only [Act.put, List.setIfInBounds_toArray, List.set_cons_zero, List.set_cons_succ]
  refine wpG_done (fun V4 hv5 => ?_)
  have GC6 := Lib.hid (GC3.out.trans hv5)
  clear hv5
  go_upto_region 4 with fail
  refine wpG_region ?_
  refine wpG_tk (some 13) (v := .int .i64 (s : Int)) rfl (.val (by rfl) (fun _ _ => rfl)) ?_
  simp only [Act.put, List.setIfInBounds_toArray, List.set_cons_zero, List.set_cons_succ]
  refine wpG_tk (some 14) (v := .int .i64 0) rfl (.val (by rfl) (fun W hg => by have q := HKI.out; go_simp <;> rfl)) ?_
  simp only [Act.put, List.setIfInBounds_toArray, List.set_cons_zero, List.set_cons_succ]
  refine wpG_tk (some 15) (v := .agg #[.int .i64 0, .int .i64 1, .int .i64 2]) rfl (.call (f := 87) (args := #[.int .i64 0]) (by rfl) (fun W => by go_simp) (fun W hg => (by have c := order_any 0 W (by decide); exact c))) ?_
  simp only [Act.put, List.setIfInBounds_toArray, List.set_cons_zero, List.set_cons_succ]
  refine wpG_val (some 4) rfl (by rfl) (fun W7 hg8 => ⟨.pointer (some ⟨W7.heap.size, 0, none⟩), W7.alloc (.cells #[.int .i64 0, .int .i64 0, .int .i64 0] 64), by (go_simp <;> rfl), ?_⟩)
  simp only [Act.put, List.setIfInBounds_toArray, List.set_cons_zero, List.set_cons_succ]
  refine wpG_store (none) rfl (by rfl) (fun W9 hg10 => ⟨_, run_store_mid 64 (.tmp 4) (.tmp 15) rfl (W7.heap.size) 0 #[.int .i64 0, .int .i64 1, .int .i64 2] rfl rfl (Row.room hg10 3 rfl) (by kernel_rfl) (by kernel_rfl), ?_⟩)
  simp only [Act.put]
  refine wpG_done (fun V11 hv12 => ?_)
  have l14 : w.heap.size ≤ W7.heap.size := (Gr.to G0.out (GC6.out.trans hg8)).size
  have R15 := Lib.hid (Row.made (zs := [.int .i64 0, .int .i64 0, .int .i64 0]) (ds := [.int .i64 0, .int .i64 1, .int .i64 2]) rfl hg10 hv12)
  have G13 := Lib.hid (Gr.to (Gr.to G0.out (GC6.out.trans hg8)) (Gr.past hg10 hv12))
  clear hg10 hv12 
  go_upto_region 5 with fail
  refine wpG_region ?_
  refine wpG_tk (some 5) (v := .int .i64 0) rfl (.val (by rfl) (fun _ _ => rfl)) ?_
  simp only [Act.put, List.setIfInBounds_toArray, List.set_cons_zero, List.set_cons_succ]
  refine wpG_done (fun V16 hv17 => ?_)
  have GC18 := Lib.hid hv17
  clear hv17
  go_upto_region 6 with fail
  refine wpG_region ?_
  refine wpG_tk (some 6) (v := .int .i64 0) rfl (.val (by rfl) (fun _ _ => rfl)) ?_
  simp only [Act.put, List.setIfInBounds_toArray, List.set_cons_zero, List.set_cons_succ]
  refine wpG_done (fun V19 hv20 => ?_)
  have GC21 := Lib.hid (GC18.out.trans hv20)
  clear hv20
  have TB := Lib.hid (R15.out.below GC21.out)
  have TG := Lib.hid (Gr.to G13.out GC21.out)
  have HM := Lib.hid (rmirror_tab0 ⟨s, hs⟩ HK.out)
  go_wp2_with fail
  go_loopw [5, 6] (fun n c wr => ∃ (i : Nat) (x : Int), i ≤ 3 ∧ n = .int .i64 x ∧ c = .int .i64 (i : Int) ∧ x = rcnt0 s i ∧ Row (W7.heap.size) [.int .i64 0, .int .i64 1, .int .i64 2] wr ∧ Below w.heap.size w wr) (fun _ c _ => 3 - (intOf c).toNat)
  case atStart => exact ⟨0, 0, by omega, rfl, rfl, rfl, TB.out, TG.out⟩
  case round =>
    obtain ⟨i, x, hi, rfl, rfl, hx, hR, hB⟩ := hrel
    have hc : i = 0 ∨ i = 1 ∨ i = 2 ∨ i = 3 := by omega
    rcases hc with rfl | rfl | rfl | rfl
    · have hx2 : x = 0 := hx
      have hbn : ∀ j, Pt.bitN s j = if Pt.bit s j then 1 else 0 := fun j => rfl
      have hni := hbn 0
      have hxb : 0 ≤ x ∧ x ≤ 10 := by omega
      have a0 := hR.cellx 0 _ rfl
      have a1 := hR.cellx 1 _ rfl
      have a2 := hR.cellx 2 _ rfl
      have HX := Lib.hid hx2
      have HR := Lib.hid hR
      have HB := Lib.hid hB
      have N := CN.out 0 (by decide)
      have N2 : ∀ W, Calls Tryd.prog 88 #[.int .i64 (s : Int), .int .i64 0] W fun e w' => e = .returned (.bool (Pt.bit s 0)) ∧ w' = W := N
      clear hx hx2 hR hB hi N hbn
      cases hb : Pt.bit s 0 with
      | false =>
        rw [hb] at N2 hni
        have N3 := Lib.hid N2
        have HNI := Lib.hid hni
        clear N2 hb hni
        go_wp2_with fail
        refine (N3.out _).mono ?_
        rintro e w2 ⟨rfl, rfl⟩
        go_wp2_with fail
        refine wp_loop_rounds 1 ?_
        rw [rounds_succ]
        go_wp2_with fail
        go_roundw
        case rel => first | exact ⟨1, _, by omega, rfl, rfl, (by have h1 := HX.out; have h2 : Pt.bitN s 0 = 0 := HNI.out; show _ = 0 + (Pt.bitN s 0 : Int); rw [h2]; omega), HR.out, HB.out⟩ | exact ⟨1, _, by omega, rfl, rfl, (by have h1 := HX.out; have h2 : Pt.bitN s 0 = 0 := HNI.out; show _ = 0 + (Pt.bitN s 0 : Int); rw [h2]; omega), HR.out, below_drewN HB.out _⟩ | exact ⟨1, _, by omega, rfl, rfl, (by have h1 := HX.out; have h2 : Pt.bitN s 0 = 0 := HNI.out; show _ = 0 + (Pt.bitN s 0 : Int); rw [h2]; omega), HR.out, below_drewN (below_drewN HB.out _) _⟩
        case measure => simp [intOf]
      | true =>
        rw [hb] at N2 hni
        have N3 := Lib.hid N2
        have HNI := Lib.hid hni
        clear N2 hb hni
        go_wp2_with fail
        refine (N3.out _).mono ?_
        rintro e w2 ⟨rfl, rfl⟩
        go_wp2_with fail
        refine wp_loop_rounds 1 ?_
        rw [rounds_succ]
        go_wp2_with fail
        go_roundw
        case rel => first | exact ⟨1, _, by omega, rfl, rfl, (by have h1 := HX.out; have h2 : Pt.bitN s 0 = 1 := HNI.out; show _ = 0 + (Pt.bitN s 0 : Int); rw [h2]; omega), HR.out, HB.out⟩ | exact ⟨1, _, by omega, rfl, rfl, (by have h1 := HX.out; have h2 : Pt.bitN s 0 = 1 := HNI.out; show _ = 0 + (Pt.bitN s 0 : Int); rw [h2]; omega), HR.out, below_drewN HB.out _⟩ | exact ⟨1, _, by omega, rfl, rfl, (by have h1 := HX.out; have h2 : Pt.bitN s 0 = 1 := HNI.out; show _ = 0 + (Pt.bitN s 0 : Int); rw [h2]; omega), HR.out, below_drewN (below_drewN HB.out _) _⟩
        case measure => simp [intOf]
    · have hx2 : x = 0 + (Pt.bitN s 0 : Int) := hx
      have hbn : ∀ j, Pt.bitN s j = if Pt.bit s j then 1 else 0 := fun j => rfl
      have hn0 := hbn 0
      have hl0 : Pt.bitN s 0 ≤ 1 := by rw [hn0]; split <;> omega
      have hni := hbn 1
      have hxb : 0 ≤ x ∧ x ≤ 10 := by omega
      have a0 := hR.cellx 0 _ rfl
      have a1 := hR.cellx 1 _ rfl
      have a2 := hR.cellx 2 _ rfl
      have HX := Lib.hid hx2
      have HR := Lib.hid hR
      have HB := Lib.hid hB
      have N := CN.out 1 (by decide)
      have N2 : ∀ W, Calls Tryd.prog 88 #[.int .i64 (s : Int), .int .i64 1] W fun e w' => e = .returned (.bool (Pt.bit s 1)) ∧ w' = W := N
      clear hx hx2 hR hB hi N hbn hn0 hl0
      cases hb : Pt.bit s 1 with
      | false =>
        rw [hb] at N2 hni
        have N3 := Lib.hid N2
        have HNI := Lib.hid hni
        clear N2 hb hni
        go_wp2_with fail
        refine (N3.out _).mono ?_
        rintro e w2 ⟨rfl, rfl⟩
        go_wp2_with fail
        refine wp_loop_rounds 2 ?_
        rw [rounds_succ]
        go_wp2_with fail
        go_quiet (fail)
        go_wp2_with fail
        rw [rounds_succ]
        go_wp2_with fail
        go_roundw
        case rel => first | exact ⟨2, _, by omega, rfl, rfl, (by have h1 := HX.out; have h2 : Pt.bitN s 1 = 0 := HNI.out; show _ = 0 + (Pt.bitN s 0 : Int) + (Pt.bitN s 1 : Int); rw [h2]; omega), HR.out, HB.out⟩ | exact ⟨2, _, by omega, rfl, rfl, (by have h1 := HX.out; have h2 : Pt.bitN s 1 = 0 := HNI.out; show _ = 0 + (Pt.bitN s 0 : Int) + (Pt.bitN s 1 : Int); rw [h2]; omega), HR.out, below_drewN HB.out _⟩ | exact ⟨2, _, by omega, rfl, rfl, (by have h1 := HX.out; have h2 : Pt.bitN s 1 = 0 := HNI.out; show _ = 0 + (Pt.bitN s 0 : Int) + (Pt.bitN s 1 : Int); rw [h2]; omega), HR.out, below_drewN (below_drewN HB.out _) _⟩
        case measure => simp [intOf]
      | true =>
        rw [hb] at N2 hni
        have N3 := Lib.hid N2
        have HNI := Lib.hid hni
        clear N2 hb hni
        go_wp2_with fail
        refine (N3.out _).mono ?_
        rintro e w2 ⟨rfl, rfl⟩
        go_wp2_with fail
        refine wp_loop_rounds 2 ?_
        rw [rounds_succ]
        go_wp2_with fail
        go_quiet (fail)
        go_wp2_with fail
        rw [rounds_succ]
        go_wp2_with fail
        go_roundw
        case rel => first | exact ⟨2, _, by omega, rfl, rfl, (by have h1 := HX.out; have h2 : Pt.bitN s 1 = 1 := HNI.out; show _ = 0 + (Pt.bitN s 0 : Int) + (Pt.bitN s 1 : Int); rw [h2]; omega), HR.out, HB.out⟩ | exact ⟨2, _, by omega, rfl, rfl, (by have h1 := HX.out; have h2 : Pt.bitN s 1 = 1 := HNI.out; show _ = 0 + (Pt.bitN s 0 : Int) + (Pt.bitN s 1 : Int); rw [h2]; omega), HR.out, below_drewN HB.out _⟩ | exact ⟨2, _, by omega, rfl, rfl, (by have h1 := HX.out; have h2 : Pt.bitN s 1 = 1 := HNI.out; show _ = 0 + (Pt.bitN s 0 : Int) + (Pt.bitN s 1 : Int); rw [h2]; omega), HR.out, below_drewN (below_drewN HB.out _) _⟩
        case measure => simp [intOf]
    · have hx2 : x = 0 + (Pt.bitN s 0 : Int) + (Pt.bitN s 1 : Int) := hx
      have hbn : ∀ j, Pt.bitN s j = if Pt.bit s j then 1 else 0 := fun j => rfl
      have hn0 := hbn 0
      have hl0 : Pt.bitN s 0 ≤ 1 := by rw [hn0]; split <;> omega
      have hn1 := hbn 1
      have hl1 : Pt.bitN s 1 ≤ 1 := by rw [hn1]; split <;> omega
      have hni := hbn 2
      have hxb : 0 ≤ x ∧ x ≤ 10 := by omega
      have a0 := hR.cellx 0 _ rfl
      have a1 := hR.cellx 1 _ rfl
      have a2 := hR.cellx 2 _ rfl
      have HX := Lib.hid hx2
      have HR := Lib.hid hR
      have HB := Lib.hid hB
      have N := CN.out 2 (by decide)
      have N2 : ∀ W, Calls Tryd.prog 88 #[.int .i64 (s : Int), .int .i64 2] W fun e w' => e = .returned (.bool (Pt.bit s 2)) ∧ w' = W := N
      clear hx hx2 hR hB hi N hbn hn0 hl0 hn1 hl1
      cases hb : Pt.bit s 2 with
      | false =>
        rw [hb] at N2 hni
        have N3 := Lib.hid N2
        have HNI := Lib.hid hni
        clear N2 hb hni
        go_wp2_with fail
        refine (N3.out _).mono ?_
        rintro e w2 ⟨rfl, rfl⟩
        go_wp2_with fail
        refine wp_loop_rounds 3 ?_
        rw [rounds_succ]
        go_wp2_with fail
        go_quiet (fail)
        go_wp2_with fail
        rw [rounds_succ]
        go_wp2_with fail
        go_quiet (fail)
        go_wp2_with fail
        rw [rounds_succ]
        go_wp2_with fail
        go_roundw
        case rel => first | exact ⟨3, _, by omega, rfl, rfl, (by have h1 := HX.out; have h2 : Pt.bitN s 2 = 0 := HNI.out; show _ = 0 + (Pt.bitN s 0 : Int) + (Pt.bitN s 1 : Int) + (Pt.bitN s 2 : Int); rw [h2]; omega), HR.out, HB.out⟩ | exact ⟨3, _, by omega, rfl, rfl, (by have h1 := HX.out; have h2 : Pt.bitN s 2 = 0 := HNI.out; show _ = 0 + (Pt.bitN s 0 : Int) + (Pt.bitN s 1 : Int) + (Pt.bitN s 2 : Int); rw [h2]; omega), HR.out, below_drewN HB.out _⟩ | exact ⟨3, _, by omega, rfl, rfl, (by have h1 := HX.out; have h2 : Pt.bitN s 2 = 0 := HNI.out; show _ = 0 + (Pt.bitN s 0 : Int) + (Pt.bitN s 1 : Int) + (Pt.bitN s 2 : Int); rw [h2]; omega), HR.out, below_drewN (below_drewN HB.out _) _⟩
        case measure => simp [intOf]
      | true =>
        rw [hb] at N2 hni
        have N3 := Lib.hid N2
        have HNI := Lib.hid hni
        clear N2 hb hni
        go_wp2_with fail
        refine (N3.out _).mono ?_
        rintro e w2 ⟨rfl, rfl⟩
        go_wp2_with fail
        refine wp_loop_rounds 3 ?_
        rw [rounds_succ]
        go_wp2_with fail
        go_quiet (fail)
        go_wp2_with fail
        rw [rounds_succ]
        go_wp2_with fail
        go_quiet (fail)
        go_wp2_with fail
        rw [rounds_succ]
        go_wp2_with fail
        go_roundw
        case rel => first | exact ⟨3, _, by omega, rfl, rfl, (by have h1 := HX.out; have h2 : Pt.bitN s 2 = 1 := HNI.out; show _ = 0 + (Pt.bitN s 0 : Int) + (Pt.bitN s 1 : Int) + (Pt.bitN s 2 : Int); rw [h2]; omega), HR.out, HB.out⟩ | exact ⟨3, _, by omega, rfl, rfl, (by have h1 := HX.out; have h2 : Pt.bitN s 2 = 1 := HNI.out; show _ = 0 + (Pt.bitN s 0 : Int) + (Pt.bitN s 1 : Int) + (Pt.bitN s 2 : Int); rw [h2]; omega), HR.out, below_drewN HB.out _⟩ | exact ⟨3, _, by omega, rfl, rfl, (by have h1 := HX.out; have h2 : Pt.bitN s 2 = 1 := HNI.out; show _ = 0 + (Pt.bitN s 0 : Int) + (Pt.bitN s 1 : Int) + (Pt.bitN s 2 : Int); rw [h2]; omega), HR.out, below_drewN (below_drewN HB.out _) _⟩
        case measure => simp [intOf]
    · have hx2 : x = rcnt0 s 3 := hx
      have hxb : 0 ≤ x ∧ x ≤ 10 := by
        have hbn : ∀ j, Pt.bitN s j ≤ 1 := fun j => by unfold Pt.bitN; split <;> omega
        have := hbn 0; have := hbn 1; have := hbn 2; have h4 : x = 0 + (Pt.bitN s 0 : Int) + (Pt.bitN s 1 : Int) + (Pt.bitN s 2 : Int) := hx
        omega
      have HX := Lib.hid hx2
      have HB := Lib.hid hB
      clear hx hx2 hR hB hi
      go_wp2_with fail
      go_ret
      exact ⟨ret_bool (by rw [HM.out, ← HX.out]), HB.out⟩
def rcnt1 (s : Nat) : Nat → Int
  | 0 => 0
  | 1 => 0 + (Pt.bitN s 0 : Int)
  | 2 => 0 + (Pt.bitN s 0 : Int) + (Pt.bitN s 1 : Int)
  | _ => 1 + (Pt.bitN s 0 : Int) + (Pt.bitN s 1 : Int) + (Pt.bitN s 2 : Int)
theorem rmirror_tab1 : ∀ s : Fin 48, s.val / 8 = 1 → Pt.mirror s = ((rcnt1 s 3) % 2 == 1) := by decide +kernel
set_option maxRecDepth 1000000 in
set_option maxHeartbeats 4000000 in
theorem rmirror_o1 (s : Nat) (w : World) (hs : s < 48) (hk : (s : Int) / 8 = 1) :
    Calls Tryd.prog 58 #[.int .i64 (s : Int)] w fun e w' => e = .returned (.bool (Pt.mirror s)) ∧ Below w.heap.size w w' := by
  have CS : Hid (∀ W, Calls Tryd.prog 81 #[.int .i64 (s : Int)] W fun e w' => e = .returned (.bool true) ∧ Below W.heap.size W w') := Lib.hid (fun W => by
    have := is_any (s : Int) W
    rwa [decide_eq_true (show 0 ≤ (s : Int) ∧ (s : Int) < 48 by omega)] at this)
  have CN : Hid (∀ i : Nat, i < 3 → ∀ W, Calls Tryd.prog 88 #[.int .i64 (s : Int), .int .i64 (i : Int)] W fun e w' => e = .returned (.bool (Pt.bit s i)) ∧ w' = W) := Lib.hid (fun i hi W => rnegates_same s i W hs hi)
  have HK := Lib.hid (show s / 8 = 1 by omega)
  have HKI := Lib.hid hk
  have G0 := Lib.hid (Below.refl w.heap.size w)
  go_enter Tryd.func58, Tryd.ntmps58
  go_upto_region 1 with fail
  refine wpG_region ?_
  refine wpG_tk (some 9) (v := .int .i64 (s : Int)) rfl (.val (by rfl) (fun _ _ => rfl)) ?_
  simp only [Act.put, List.setIfInBounds_toArray, List.set_cons_zero, List.set_cons_succ]
  refine wpG_tk (some 10) (v := .bool true) rfl (.call (f := 81) (args := #[.int .i64 (s : Int)]) (by rfl) (fun W => by go_simp) (fun W hg => CS.out W)) ?_
  simp only [Act.put, List.setIfInBounds_toArray, List.set_cons_zero, List.set_cons_succ]
  refine wpG_tk (some 3) (v := .bool true) rfl (.val (by rfl) (fun _ _ => rfl)) ?_
  simp only [Act.put, List.setIfInBounds_toArray, List.set_cons_zero, List.set_cons_succ]
  refine wpG_done (fun V1 hv2 => ?_)
  have GC3 := Lib.hid hv2
  clear hv2
  go_upto_region 2 with fail
  refine wpG_region ?_
  refine wpG_tk (some 11) (v := .bool true) rfl (.val (by rfl) (fun _ _ => rfl)) ?_
  simp only [Act.put, List.setIfInBounds_toArray, List.set_cons_zero, List.set_cons_succ]
  refine wpG_tk (some 12) (v := .bool false) rfl (.val (by rfl) (fun W hg => by go_simp)) ?_
  simp only [Act.put, List.setIfInBounds_toArray, List.set_cons_zero, List.set_cons_succ]
  refine wpG_done (fun V4 hv5 => ?_)
  have GC6 := Lib.hid (GC3.out.trans hv5)
  clear hv5
  go_upto_region 4 with fail
  refine wpG_region ?_
  refine wpG_tk (some 13) (v := .int .i64 (s : Int)) rfl (.val (by rfl) (fun _ _ => rfl)) ?_
  simp only [Act.put, List.setIfInBounds_toArray, List.set_cons_zero, List.set_cons_succ]
  refine wpG_tk (some 14) (v := .int .i64 1) rfl (.val (by rfl) (fun W hg => by have q := HKI.out; go_simp <;> rfl)) ?_
  simp only [Act.put, List.setIfInBounds_toArray, List.set_cons_zero, List.set_cons_succ]
  refine wpG_tk (some 15) (v := .agg #[.int .i64 0, .int .i64 2, .int .i64 1]) rfl (.call (f := 87) (args := #[.int .i64 1]) (by rfl) (fun W => by go_simp) (fun W hg => (by have c := order_any 1 W (by decide); exact c))) ?_
  simp only [Act.put, List.setIfInBounds_toArray, List.set_cons_zero, List.set_cons_succ]
  refine wpG_val (some 4) rfl (by rfl) (fun W7 hg8 => ⟨.pointer (some ⟨W7.heap.size, 0, none⟩), W7.alloc (.cells #[.int .i64 0, .int .i64 0, .int .i64 0] 64), by (go_simp <;> rfl), ?_⟩)
  simp only [Act.put, List.setIfInBounds_toArray, List.set_cons_zero, List.set_cons_succ]
  refine wpG_store (none) rfl (by rfl) (fun W9 hg10 => ⟨_, run_store_mid 64 (.tmp 4) (.tmp 15) rfl (W7.heap.size) 0 #[.int .i64 0, .int .i64 2, .int .i64 1] rfl rfl (Row.room hg10 3 rfl) (by kernel_rfl) (by kernel_rfl), ?_⟩)
  simp only [Act.put]
  refine wpG_done (fun V11 hv12 => ?_)
  have l14 : w.heap.size ≤ W7.heap.size := (Gr.to G0.out (GC6.out.trans hg8)).size
  have R15 := Lib.hid (Row.made (zs := [.int .i64 0, .int .i64 0, .int .i64 0]) (ds := [.int .i64 0, .int .i64 2, .int .i64 1]) rfl hg10 hv12)
  have G13 := Lib.hid (Gr.to (Gr.to G0.out (GC6.out.trans hg8)) (Gr.past hg10 hv12))
  clear hg10 hv12 
  go_upto_region 5 with fail
  refine wpG_region ?_
  refine wpG_tk (some 5) (v := .int .i64 0) rfl (.val (by rfl) (fun _ _ => rfl)) ?_
  simp only [Act.put, List.setIfInBounds_toArray, List.set_cons_zero, List.set_cons_succ]
  refine wpG_done (fun V16 hv17 => ?_)
  have GC18 := Lib.hid hv17
  clear hv17
  go_upto_region 6 with fail
  refine wpG_region ?_
  refine wpG_tk (some 6) (v := .int .i64 0) rfl (.val (by rfl) (fun _ _ => rfl)) ?_
  simp only [Act.put, List.setIfInBounds_toArray, List.set_cons_zero, List.set_cons_succ]
  refine wpG_done (fun V19 hv20 => ?_)
  have GC21 := Lib.hid (GC18.out.trans hv20)
  clear hv20
  have TB := Lib.hid (R15.out.below GC21.out)
  have TG := Lib.hid (Gr.to G13.out GC21.out)
  have HM := Lib.hid (rmirror_tab1 ⟨s, hs⟩ HK.out)
  go_wp2_with fail
  go_loopw [5, 6] (fun n c wr => ∃ (i : Nat) (x : Int), i ≤ 3 ∧ n = .int .i64 x ∧ c = .int .i64 (i : Int) ∧ x = rcnt1 s i ∧ Row (W7.heap.size) [.int .i64 0, .int .i64 2, .int .i64 1] wr ∧ Below w.heap.size w wr) (fun _ c _ => 3 - (intOf c).toNat)
  case atStart => exact ⟨0, 0, by omega, rfl, rfl, rfl, TB.out, TG.out⟩
  case round =>
    obtain ⟨i, x, hi, rfl, rfl, hx, hR, hB⟩ := hrel
    have hc : i = 0 ∨ i = 1 ∨ i = 2 ∨ i = 3 := by omega
    rcases hc with rfl | rfl | rfl | rfl
    · have hx2 : x = 0 := hx
      have hbn : ∀ j, Pt.bitN s j = if Pt.bit s j then 1 else 0 := fun j => rfl
      have hni := hbn 0
      have hxb : 0 ≤ x ∧ x ≤ 10 := by omega
      have a0 := hR.cellx 0 _ rfl
      have a1 := hR.cellx 1 _ rfl
      have a2 := hR.cellx 2 _ rfl
      have HX := Lib.hid hx2
      have HR := Lib.hid hR
      have HB := Lib.hid hB
      have N := CN.out 0 (by decide)
      have N2 : ∀ W, Calls Tryd.prog 88 #[.int .i64 (s : Int), .int .i64 0] W fun e w' => e = .returned (.bool (Pt.bit s 0)) ∧ w' = W := N
      clear hx hx2 hR hB hi N hbn
      cases hb : Pt.bit s 0 with
      | false =>
        rw [hb] at N2 hni
        have N3 := Lib.hid N2
        have HNI := Lib.hid hni
        clear N2 hb hni
        go_wp2_with fail
        refine (N3.out _).mono ?_
        rintro e w2 ⟨rfl, rfl⟩
        go_wp2_with fail
        refine wp_loop_rounds 1 ?_
        rw [rounds_succ]
        go_wp2_with fail
        go_roundw
        case rel => first | exact ⟨1, _, by omega, rfl, rfl, (by have h1 := HX.out; have h2 : Pt.bitN s 0 = 0 := HNI.out; show _ = 0 + (Pt.bitN s 0 : Int); rw [h2]; omega), HR.out, HB.out⟩ | exact ⟨1, _, by omega, rfl, rfl, (by have h1 := HX.out; have h2 : Pt.bitN s 0 = 0 := HNI.out; show _ = 0 + (Pt.bitN s 0 : Int); rw [h2]; omega), HR.out, below_drewN HB.out _⟩ | exact ⟨1, _, by omega, rfl, rfl, (by have h1 := HX.out; have h2 : Pt.bitN s 0 = 0 := HNI.out; show _ = 0 + (Pt.bitN s 0 : Int); rw [h2]; omega), HR.out, below_drewN (below_drewN HB.out _) _⟩
        case measure => simp [intOf]
      | true =>
        rw [hb] at N2 hni
        have N3 := Lib.hid N2
        have HNI := Lib.hid hni
        clear N2 hb hni
        go_wp2_with fail
        refine (N3.out _).mono ?_
        rintro e w2 ⟨rfl, rfl⟩
        go_wp2_with fail
        refine wp_loop_rounds 1 ?_
        rw [rounds_succ]
        go_wp2_with fail
        go_roundw
        case rel => first | exact ⟨1, _, by omega, rfl, rfl, (by have h1 := HX.out; have h2 : Pt.bitN s 0 = 1 := HNI.out; show _ = 0 + (Pt.bitN s 0 : Int); rw [h2]; omega), HR.out, HB.out⟩ | exact ⟨1, _, by omega, rfl, rfl, (by have h1 := HX.out; have h2 : Pt.bitN s 0 = 1 := HNI.out; show _ = 0 + (Pt.bitN s 0 : Int); rw [h2]; omega), HR.out, below_drewN HB.out _⟩ | exact ⟨1, _, by omega, rfl, rfl, (by have h1 := HX.out; have h2 : Pt.bitN s 0 = 1 := HNI.out; show _ = 0 + (Pt.bitN s 0 : Int); rw [h2]; omega), HR.out, below_drewN (below_drewN HB.out _) _⟩
        case measure => simp [intOf]
    · have hx2 : x = 0 + (Pt.bitN s 0 : Int) := hx
      have hbn : ∀ j, Pt.bitN s j = if Pt.bit s j then 1 else 0 := fun j => rfl
      have hn0 := hbn 0
      have hl0 : Pt.bitN s 0 ≤ 1 := by rw [hn0]; split <;> omega
      have hni := hbn 1
      have hxb : 0 ≤ x ∧ x ≤ 10 := by omega
      have a0 := hR.cellx 0 _ rfl
      have a1 := hR.cellx 1 _ rfl
      have a2 := hR.cellx 2 _ rfl
      have HX := Lib.hid hx2
      have HR := Lib.hid hR
      have HB := Lib.hid hB
      have N := CN.out 1 (by decide)
      have N2 : ∀ W, Calls Tryd.prog 88 #[.int .i64 (s : Int), .int .i64 1] W fun e w' => e = .returned (.bool (Pt.bit s 1)) ∧ w' = W := N
      clear hx hx2 hR hB hi N hbn hn0 hl0
      cases hb : Pt.bit s 1 with
      | false =>
        rw [hb] at N2 hni
        have N3 := Lib.hid N2
        have HNI := Lib.hid hni
        clear N2 hb hni
        go_wp2_with fail
        refine (N3.out _).mono ?_
        rintro e w2 ⟨rfl, rfl⟩
        go_wp2_with fail
        refine wp_loop_rounds 2 ?_
        rw [rounds_succ]
        go_wp2_with fail
        go_quiet (fail)
        go_wp2_with fail
        rw [rounds_succ]
        go_wp2_with fail
        go_roundw
        case rel => first | exact ⟨2, _, by omega, rfl, rfl, (by have h1 := HX.out; have h2 : Pt.bitN s 1 = 0 := HNI.out; show _ = 0 + (Pt.bitN s 0 : Int) + (Pt.bitN s 1 : Int); rw [h2]; omega), HR.out, HB.out⟩ | exact ⟨2, _, by omega, rfl, rfl, (by have h1 := HX.out; have h2 : Pt.bitN s 1 = 0 := HNI.out; show _ = 0 + (Pt.bitN s 0 : Int) + (Pt.bitN s 1 : Int); rw [h2]; omega), HR.out, below_drewN HB.out _⟩ | exact ⟨2, _, by omega, rfl, rfl, (by have h1 := HX.out; have h2 : Pt.bitN s 1 = 0 := HNI.out; show _ = 0 + (Pt.bitN s 0 : Int) + (Pt.bitN s 1 : Int); rw [h2]; omega), HR.out, below_drewN (below_drewN HB.out _) _⟩
        case measure => simp [intOf]
      | true =>
        rw [hb] at N2 hni
        have N3 := Lib.hid N2
        have HNI := Lib.hid hni
        clear N2 hb hni
        go_wp2_with fail
        refine (N3.out _).mono ?_
        rintro e w2 ⟨rfl, rfl⟩
        go_wp2_with fail
        refine wp_loop_rounds 2 ?_
        rw [rounds_succ]
        go_wp2_with fail
        go_quiet (fail)
        go_wp2_with fail
        rw [rounds_succ]
        go_wp2_with fail
        go_roundw
        case rel => first | exact ⟨2, _, by omega, rfl, rfl, (by have h1 := HX.out; have h2 : Pt.bitN s 1 = 1 := HNI.out; show _ = 0 + (Pt.bitN s 0 : Int) + (Pt.bitN s 1 : Int); rw [h2]; omega), HR.out, HB.out⟩ | exact ⟨2, _, by omega, rfl, rfl, (by have h1 := HX.out; have h2 : Pt.bitN s 1 = 1 := HNI.out; show _ = 0 + (Pt.bitN s 0 : Int) + (Pt.bitN s 1 : Int); rw [h2]; omega), HR.out, below_drewN HB.out _⟩ | exact ⟨2, _, by omega, rfl, rfl, (by have h1 := HX.out; have h2 : Pt.bitN s 1 = 1 := HNI.out; show _ = 0 + (Pt.bitN s 0 : Int) + (Pt.bitN s 1 : Int); rw [h2]; omega), HR.out, below_drewN (below_drewN HB.out _) _⟩
        case measure => simp [intOf]
    · have hx2 : x = 0 + (Pt.bitN s 0 : Int) + (Pt.bitN s 1 : Int) := hx
      have hbn : ∀ j, Pt.bitN s j = if Pt.bit s j then 1 else 0 := fun j => rfl
      have hn0 := hbn 0
      have hl0 : Pt.bitN s 0 ≤ 1 := by rw [hn0]; split <;> omega
      have hn1 := hbn 1
      have hl1 : Pt.bitN s 1 ≤ 1 := by rw [hn1]; split <;> omega
      have hni := hbn 2
      have hxb : 0 ≤ x ∧ x ≤ 10 := by omega
      have a0 := hR.cellx 0 _ rfl
      have a1 := hR.cellx 1 _ rfl
      have a2 := hR.cellx 2 _ rfl
      have HX := Lib.hid hx2
      have HR := Lib.hid hR
      have HB := Lib.hid hB
      have N := CN.out 2 (by decide)
      have N2 : ∀ W, Calls Tryd.prog 88 #[.int .i64 (s : Int), .int .i64 2] W fun e w' => e = .returned (.bool (Pt.bit s 2)) ∧ w' = W := N
      clear hx hx2 hR hB hi N hbn hn0 hl0 hn1 hl1
      cases hb : Pt.bit s 2 with
      | false =>
        rw [hb] at N2 hni
        have N3 := Lib.hid N2
        have HNI := Lib.hid hni
        clear N2 hb hni
        go_wp2_with fail
        refine (N3.out _).mono ?_
        rintro e w2 ⟨rfl, rfl⟩
        go_wp2_with fail
        refine wp_loop_rounds 3 ?_
        rw [rounds_succ]
        go_wp2_with fail
        go_quiet (fail)
        go_wp2_with fail
        rw [rounds_succ]
        go_wp2_with fail
        go_quiet (fail)
        go_wp2_with fail
        rw [rounds_succ]
        go_wp2_with fail
        go_roundw
        case rel => first | exact ⟨3, _, by omega, rfl, rfl, (by have h1 := HX.out; have h2 : Pt.bitN s 2 = 0 := HNI.out; show _ = 1 + (Pt.bitN s 0 : Int) + (Pt.bitN s 1 : Int) + (Pt.bitN s 2 : Int); rw [h2]; omega), HR.out, HB.out⟩ | exact ⟨3, _, by omega, rfl, rfl, (by have h1 := HX.out; have h2 : Pt.bitN s 2 = 0 := HNI.out; show _ = 1 + (Pt.bitN s 0 : Int) + (Pt.bitN s 1 : Int) + (Pt.bitN s 2 : Int); rw [h2]; omega), HR.out, below_drewN HB.out _⟩ | exact ⟨3, _, by omega, rfl, rfl, (by have h1 := HX.out; have h2 : Pt.bitN s 2 = 0 := HNI.out; show _ = 1 + (Pt.bitN s 0 : Int) + (Pt.bitN s 1 : Int) + (Pt.bitN s 2 : Int); rw [h2]; omega), HR.out, below_drewN (below_drewN HB.out _) _⟩
        case measure => simp [intOf]
      | true =>
        rw [hb] at N2 hni
        have N3 := Lib.hid N2
        have HNI := Lib.hid hni
        clear N2 hb hni
        go_wp2_with fail
        refine (N3.out _).mono ?_
        rintro e w2 ⟨rfl, rfl⟩
        go_wp2_with fail
        refine wp_loop_rounds 3 ?_
        rw [rounds_succ]
        go_wp2_with fail
        go_quiet (fail)
        go_wp2_with fail
        rw [rounds_succ]
        go_wp2_with fail
        go_quiet (fail)
        go_wp2_with fail
        rw [rounds_succ]
        go_wp2_with fail
        go_roundw
        case rel => first | exact ⟨3, _, by omega, rfl, rfl, (by have h1 := HX.out; have h2 : Pt.bitN s 2 = 1 := HNI.out; show _ = 1 + (Pt.bitN s 0 : Int) + (Pt.bitN s 1 : Int) + (Pt.bitN s 2 : Int); rw [h2]; omega), HR.out, HB.out⟩ | exact ⟨3, _, by omega, rfl, rfl, (by have h1 := HX.out; have h2 : Pt.bitN s 2 = 1 := HNI.out; show _ = 1 + (Pt.bitN s 0 : Int) + (Pt.bitN s 1 : Int) + (Pt.bitN s 2 : Int); rw [h2]; omega), HR.out, below_drewN HB.out _⟩ | exact ⟨3, _, by omega, rfl, rfl, (by have h1 := HX.out; have h2 : Pt.bitN s 2 = 1 := HNI.out; show _ = 1 + (Pt.bitN s 0 : Int) + (Pt.bitN s 1 : Int) + (Pt.bitN s 2 : Int); rw [h2]; omega), HR.out, below_drewN (below_drewN HB.out _) _⟩
        case measure => simp [intOf]
    · have hx2 : x = rcnt1 s 3 := hx
      have hxb : 0 ≤ x ∧ x ≤ 10 := by
        have hbn : ∀ j, Pt.bitN s j ≤ 1 := fun j => by unfold Pt.bitN; split <;> omega
        have := hbn 0; have := hbn 1; have := hbn 2; have h4 : x = 1 + (Pt.bitN s 0 : Int) + (Pt.bitN s 1 : Int) + (Pt.bitN s 2 : Int) := hx
        omega
      have HX := Lib.hid hx2
      have HB := Lib.hid hB
      clear hx hx2 hR hB hi
      go_wp2_with fail
      go_ret
      exact ⟨ret_bool (by rw [HM.out, ← HX.out]), HB.out⟩
def rcnt2 (s : Nat) : Nat → Int
  | 0 => 0
  | 1 => 0 + (Pt.bitN s 0 : Int)
  | 2 => 1 + (Pt.bitN s 0 : Int) + (Pt.bitN s 1 : Int)
  | _ => 1 + (Pt.bitN s 0 : Int) + (Pt.bitN s 1 : Int) + (Pt.bitN s 2 : Int)
theorem rmirror_tab2 : ∀ s : Fin 48, s.val / 8 = 2 → Pt.mirror s = ((rcnt2 s 3) % 2 == 1) := by decide +kernel
set_option maxRecDepth 1000000 in
set_option maxHeartbeats 4000000 in
theorem rmirror_o2 (s : Nat) (w : World) (hs : s < 48) (hk : (s : Int) / 8 = 2) :
    Calls Tryd.prog 58 #[.int .i64 (s : Int)] w fun e w' => e = .returned (.bool (Pt.mirror s)) ∧ Below w.heap.size w w' := by
  have CS : Hid (∀ W, Calls Tryd.prog 81 #[.int .i64 (s : Int)] W fun e w' => e = .returned (.bool true) ∧ Below W.heap.size W w') := Lib.hid (fun W => by
    have := is_any (s : Int) W
    rwa [decide_eq_true (show 0 ≤ (s : Int) ∧ (s : Int) < 48 by omega)] at this)
  have CN : Hid (∀ i : Nat, i < 3 → ∀ W, Calls Tryd.prog 88 #[.int .i64 (s : Int), .int .i64 (i : Int)] W fun e w' => e = .returned (.bool (Pt.bit s i)) ∧ w' = W) := Lib.hid (fun i hi W => rnegates_same s i W hs hi)
  have HK := Lib.hid (show s / 8 = 2 by omega)
  have HKI := Lib.hid hk
  have G0 := Lib.hid (Below.refl w.heap.size w)
  go_enter Tryd.func58, Tryd.ntmps58
  go_upto_region 1 with fail
  refine wpG_region ?_
  refine wpG_tk (some 9) (v := .int .i64 (s : Int)) rfl (.val (by rfl) (fun _ _ => rfl)) ?_
  simp only [Act.put, List.setIfInBounds_toArray, List.set_cons_zero, List.set_cons_succ]
  refine wpG_tk (some 10) (v := .bool true) rfl (.call (f := 81) (args := #[.int .i64 (s : Int)]) (by rfl) (fun W => by go_simp) (fun W hg => CS.out W)) ?_
  simp only [Act.put, List.setIfInBounds_toArray, List.set_cons_zero, List.set_cons_succ]
  refine wpG_tk (some 3) (v := .bool true) rfl (.val (by rfl) (fun _ _ => rfl)) ?_
  simp only [Act.put, List.setIfInBounds_toArray, List.set_cons_zero, List.set_cons_succ]
  refine wpG_done (fun V1 hv2 => ?_)
  have GC3 := Lib.hid hv2
  clear hv2
  go_upto_region 2 with fail
  refine wpG_region ?_
  refine wpG_tk (some 11) (v := .bool true) rfl (.val (by rfl) (fun _ _ => rfl)) ?_
  simp only [Act.put, List.setIfInBounds_toArray, List.set_cons_zero, List.set_cons_succ]
  refine wpG_tk (some 12) (v := .bool false) rfl (.val (by rfl) (fun W hg => by go_simp)) ?_
  simp only [Act.put, List.setIfInBounds_toArray, List.set_cons_zero, List.set_cons_succ]
  refine wpG_done (fun V4 hv5 => ?_)
  have GC6 := Lib.hid (GC3.out.trans hv5)
  clear hv5
  go_upto_region 4 with fail
  refine wpG_region ?_
  refine wpG_tk (some 13) (v := .int .i64 (s : Int)) rfl (.val (by rfl) (fun _ _ => rfl)) ?_
  simp only [Act.put, List.setIfInBounds_toArray, List.set_cons_zero, List.set_cons_succ]
  refine wpG_tk (some 14) (v := .int .i64 2) rfl (.val (by rfl) (fun W hg => by have q := HKI.out; go_simp <;> rfl)) ?_
  simp only [Act.put, List.setIfInBounds_toArray, List.set_cons_zero, List.set_cons_succ]
  refine wpG_tk (some 15) (v := .agg #[.int .i64 1, .int .i64 0, .int .i64 2]) rfl (.call (f := 87) (args := #[.int .i64 2]) (by rfl) (fun W => by go_simp) (fun W hg => (by have c := order_any 2 W (by decide); exact c))) ?_
  simp only [Act.put, List.setIfInBounds_toArray, List.set_cons_zero, List.set_cons_succ]
  refine wpG_val (some 4) rfl (by rfl) (fun W7 hg8 => ⟨.pointer (some ⟨W7.heap.size, 0, none⟩), W7.alloc (.cells #[.int .i64 0, .int .i64 0, .int .i64 0] 64), by (go_simp <;> rfl), ?_⟩)
  simp only [Act.put, List.setIfInBounds_toArray, List.set_cons_zero, List.set_cons_succ]
  refine wpG_store (none) rfl (by rfl) (fun W9 hg10 => ⟨_, run_store_mid 64 (.tmp 4) (.tmp 15) rfl (W7.heap.size) 0 #[.int .i64 1, .int .i64 0, .int .i64 2] rfl rfl (Row.room hg10 3 rfl) (by kernel_rfl) (by kernel_rfl), ?_⟩)
  simp only [Act.put]
  refine wpG_done (fun V11 hv12 => ?_)
  have l14 : w.heap.size ≤ W7.heap.size := (Gr.to G0.out (GC6.out.trans hg8)).size
  have R15 := Lib.hid (Row.made (zs := [.int .i64 0, .int .i64 0, .int .i64 0]) (ds := [.int .i64 1, .int .i64 0, .int .i64 2]) rfl hg10 hv12)
  have G13 := Lib.hid (Gr.to (Gr.to G0.out (GC6.out.trans hg8)) (Gr.past hg10 hv12))
  clear hg10 hv12 
  go_upto_region 5 with fail
  refine wpG_region ?_
  refine wpG_tk (some 5) (v := .int .i64 0) rfl (.val (by rfl) (fun _ _ => rfl)) ?_
  simp only [Act.put, List.setIfInBounds_toArray, List.set_cons_zero, List.set_cons_succ]
  refine wpG_done (fun V16 hv17 => ?_)
  have GC18 := Lib.hid hv17
  clear hv17
  go_upto_region 6 with fail
  refine wpG_region ?_
  refine wpG_tk (some 6) (v := .int .i64 0) rfl (.val (by rfl) (fun _ _ => rfl)) ?_
  simp only [Act.put, List.setIfInBounds_toArray, List.set_cons_zero, List.set_cons_succ]
  refine wpG_done (fun V19 hv20 => ?_)
  have GC21 := Lib.hid (GC18.out.trans hv20)
  clear hv20
  have TB := Lib.hid (R15.out.below GC21.out)
  have TG := Lib.hid (Gr.to G13.out GC21.out)
  have HM := Lib.hid (rmirror_tab2 ⟨s, hs⟩ HK.out)
  go_wp2_with fail
  go_loopw [5, 6] (fun n c wr => ∃ (i : Nat) (x : Int), i ≤ 3 ∧ n = .int .i64 x ∧ c = .int .i64 (i : Int) ∧ x = rcnt2 s i ∧ Row (W7.heap.size) [.int .i64 1, .int .i64 0, .int .i64 2] wr ∧ Below w.heap.size w wr) (fun _ c _ => 3 - (intOf c).toNat)
  case atStart => exact ⟨0, 0, by omega, rfl, rfl, rfl, TB.out, TG.out⟩
  case round =>
    obtain ⟨i, x, hi, rfl, rfl, hx, hR, hB⟩ := hrel
    have hc : i = 0 ∨ i = 1 ∨ i = 2 ∨ i = 3 := by omega
    rcases hc with rfl | rfl | rfl | rfl
    · have hx2 : x = 0 := hx
      have hbn : ∀ j, Pt.bitN s j = if Pt.bit s j then 1 else 0 := fun j => rfl
      have hni := hbn 0
      have hxb : 0 ≤ x ∧ x ≤ 10 := by omega
      have a0 := hR.cellx 0 _ rfl
      have a1 := hR.cellx 1 _ rfl
      have a2 := hR.cellx 2 _ rfl
      have HX := Lib.hid hx2
      have HR := Lib.hid hR
      have HB := Lib.hid hB
      have N := CN.out 0 (by decide)
      have N2 : ∀ W, Calls Tryd.prog 88 #[.int .i64 (s : Int), .int .i64 0] W fun e w' => e = .returned (.bool (Pt.bit s 0)) ∧ w' = W := N
      clear hx hx2 hR hB hi N hbn
      cases hb : Pt.bit s 0 with
      | false =>
        rw [hb] at N2 hni
        have N3 := Lib.hid N2
        have HNI := Lib.hid hni
        clear N2 hb hni
        go_wp2_with fail
        refine (N3.out _).mono ?_
        rintro e w2 ⟨rfl, rfl⟩
        go_wp2_with fail
        refine wp_loop_rounds 1 ?_
        rw [rounds_succ]
        go_wp2_with fail
        go_roundw
        case rel => first | exact ⟨1, _, by omega, rfl, rfl, (by have h1 := HX.out; have h2 : Pt.bitN s 0 = 0 := HNI.out; show _ = 0 + (Pt.bitN s 0 : Int); rw [h2]; omega), HR.out, HB.out⟩ | exact ⟨1, _, by omega, rfl, rfl, (by have h1 := HX.out; have h2 : Pt.bitN s 0 = 0 := HNI.out; show _ = 0 + (Pt.bitN s 0 : Int); rw [h2]; omega), HR.out, below_drewN HB.out _⟩ | exact ⟨1, _, by omega, rfl, rfl, (by have h1 := HX.out; have h2 : Pt.bitN s 0 = 0 := HNI.out; show _ = 0 + (Pt.bitN s 0 : Int); rw [h2]; omega), HR.out, below_drewN (below_drewN HB.out _) _⟩
        case measure => simp [intOf]
      | true =>
        rw [hb] at N2 hni
        have N3 := Lib.hid N2
        have HNI := Lib.hid hni
        clear N2 hb hni
        go_wp2_with fail
        refine (N3.out _).mono ?_
        rintro e w2 ⟨rfl, rfl⟩
        go_wp2_with fail
        refine wp_loop_rounds 1 ?_
        rw [rounds_succ]
        go_wp2_with fail
        go_roundw
        case rel => first | exact ⟨1, _, by omega, rfl, rfl, (by have h1 := HX.out; have h2 : Pt.bitN s 0 = 1 := HNI.out; show _ = 0 + (Pt.bitN s 0 : Int); rw [h2]; omega), HR.out, HB.out⟩ | exact ⟨1, _, by omega, rfl, rfl, (by have h1 := HX.out; have h2 : Pt.bitN s 0 = 1 := HNI.out; show _ = 0 + (Pt.bitN s 0 : Int); rw [h2]; omega), HR.out, below_drewN HB.out _⟩ | exact ⟨1, _, by omega, rfl, rfl, (by have h1 := HX.out; have h2 : Pt.bitN s 0 = 1 := HNI.out; show _ = 0 + (Pt.bitN s 0 : Int); rw [h2]; omega), HR.out, below_drewN (below_drewN HB.out _) _⟩
        case measure => simp [intOf]
    · have hx2 : x = 0 + (Pt.bitN s 0 : Int) := hx
      have hbn : ∀ j, Pt.bitN s j = if Pt.bit s j then 1 else 0 := fun j => rfl
      have hn0 := hbn 0
      have hl0 : Pt.bitN s 0 ≤ 1 := by rw [hn0]; split <;> omega
      have hni := hbn 1
      have hxb : 0 ≤ x ∧ x ≤ 10 := by omega
      have a0 := hR.cellx 0 _ rfl
      have a1 := hR.cellx 1 _ rfl
      have a2 := hR.cellx 2 _ rfl
      have HX := Lib.hid hx2
      have HR := Lib.hid hR
      have HB := Lib.hid hB
      have N := CN.out 1 (by decide)
      have N2 : ∀ W, Calls Tryd.prog 88 #[.int .i64 (s : Int), .int .i64 1] W fun e w' => e = .returned (.bool (Pt.bit s 1)) ∧ w' = W := N
      clear hx hx2 hR hB hi N hbn hn0 hl0
      cases hb : Pt.bit s 1 with
      | false =>
        rw [hb] at N2 hni
        have N3 := Lib.hid N2
        have HNI := Lib.hid hni
        clear N2 hb hni
        go_wp2_with fail
        refine (N3.out _).mono ?_
        rintro e w2 ⟨rfl, rfl⟩
        go_wp2_with fail
        refine wp_loop_rounds 2 ?_
        rw [rounds_succ]
        go_wp2_with fail
        go_quiet (fail)
        go_wp2_with fail
        rw [rounds_succ]
        go_wp2_with fail
        go_roundw
        case rel => first | exact ⟨2, _, by omega, rfl, rfl, (by have h1 := HX.out; have h2 : Pt.bitN s 1 = 0 := HNI.out; show _ = 1 + (Pt.bitN s 0 : Int) + (Pt.bitN s 1 : Int); rw [h2]; omega), HR.out, HB.out⟩ | exact ⟨2, _, by omega, rfl, rfl, (by have h1 := HX.out; have h2 : Pt.bitN s 1 = 0 := HNI.out; show _ = 1 + (Pt.bitN s 0 : Int) + (Pt.bitN s 1 : Int); rw [h2]; omega), HR.out, below_drewN HB.out _⟩ | exact ⟨2, _, by omega, rfl, rfl, (by have h1 := HX.out; have h2 : Pt.bitN s 1 = 0 := HNI.out; show _ = 1 + (Pt.bitN s 0 : Int) + (Pt.bitN s 1 : Int); rw [h2]; omega), HR.out, below_drewN (below_drewN HB.out _) _⟩
        case measure => simp [intOf]
      | true =>
        rw [hb] at N2 hni
        have N3 := Lib.hid N2
        have HNI := Lib.hid hni
        clear N2 hb hni
        go_wp2_with fail
        refine (N3.out _).mono ?_
        rintro e w2 ⟨rfl, rfl⟩
        go_wp2_with fail
        refine wp_loop_rounds 2 ?_
        rw [rounds_succ]
        go_wp2_with fail
        go_quiet (fail)
        go_wp2_with fail
        rw [rounds_succ]
        go_wp2_with fail
        go_roundw
        case rel => first | exact ⟨2, _, by omega, rfl, rfl, (by have h1 := HX.out; have h2 : Pt.bitN s 1 = 1 := HNI.out; show _ = 1 + (Pt.bitN s 0 : Int) + (Pt.bitN s 1 : Int); rw [h2]; omega), HR.out, HB.out⟩ | exact ⟨2, _, by omega, rfl, rfl, (by have h1 := HX.out; have h2 : Pt.bitN s 1 = 1 := HNI.out; show _ = 1 + (Pt.bitN s 0 : Int) + (Pt.bitN s 1 : Int); rw [h2]; omega), HR.out, below_drewN HB.out _⟩ | exact ⟨2, _, by omega, rfl, rfl, (by have h1 := HX.out; have h2 : Pt.bitN s 1 = 1 := HNI.out; show _ = 1 + (Pt.bitN s 0 : Int) + (Pt.bitN s 1 : Int); rw [h2]; omega), HR.out, below_drewN (below_drewN HB.out _) _⟩
        case measure => simp [intOf]
    · have hx2 : x = 1 + (Pt.bitN s 0 : Int) + (Pt.bitN s 1 : Int) := hx
      have hbn : ∀ j, Pt.bitN s j = if Pt.bit s j then 1 else 0 := fun j => rfl
      have hn0 := hbn 0
      have hl0 : Pt.bitN s 0 ≤ 1 := by rw [hn0]; split <;> omega
      have hn1 := hbn 1
      have hl1 : Pt.bitN s 1 ≤ 1 := by rw [hn1]; split <;> omega
      have hni := hbn 2
      have hxb : 0 ≤ x ∧ x ≤ 10 := by omega
      have a0 := hR.cellx 0 _ rfl
      have a1 := hR.cellx 1 _ rfl
      have a2 := hR.cellx 2 _ rfl
      have HX := Lib.hid hx2
      have HR := Lib.hid hR
      have HB := Lib.hid hB
      have N := CN.out 2 (by decide)
      have N2 : ∀ W, Calls Tryd.prog 88 #[.int .i64 (s : Int), .int .i64 2] W fun e w' => e = .returned (.bool (Pt.bit s 2)) ∧ w' = W := N
      clear hx hx2 hR hB hi N hbn hn0 hl0 hn1 hl1
      cases hb : Pt.bit s 2 with
      | false =>
        rw [hb] at N2 hni
        have N3 := Lib.hid N2
        have HNI := Lib.hid hni
        clear N2 hb hni
        go_wp2_with fail
        refine (N3.out _).mono ?_
        rintro e w2 ⟨rfl, rfl⟩
        go_wp2_with fail
        refine wp_loop_rounds 3 ?_
        rw [rounds_succ]
        go_wp2_with fail
        go_quiet (fail)
        go_wp2_with fail
        rw [rounds_succ]
        go_wp2_with fail
        go_quiet (fail)
        go_wp2_with fail
        rw [rounds_succ]
        go_wp2_with fail
        go_roundw
        case rel => first | exact ⟨3, _, by omega, rfl, rfl, (by have h1 := HX.out; have h2 : Pt.bitN s 2 = 0 := HNI.out; show _ = 1 + (Pt.bitN s 0 : Int) + (Pt.bitN s 1 : Int) + (Pt.bitN s 2 : Int); rw [h2]; omega), HR.out, HB.out⟩ | exact ⟨3, _, by omega, rfl, rfl, (by have h1 := HX.out; have h2 : Pt.bitN s 2 = 0 := HNI.out; show _ = 1 + (Pt.bitN s 0 : Int) + (Pt.bitN s 1 : Int) + (Pt.bitN s 2 : Int); rw [h2]; omega), HR.out, below_drewN HB.out _⟩ | exact ⟨3, _, by omega, rfl, rfl, (by have h1 := HX.out; have h2 : Pt.bitN s 2 = 0 := HNI.out; show _ = 1 + (Pt.bitN s 0 : Int) + (Pt.bitN s 1 : Int) + (Pt.bitN s 2 : Int); rw [h2]; omega), HR.out, below_drewN (below_drewN HB.out _) _⟩
        case measure => simp [intOf]
      | true =>
        rw [hb] at N2 hni
        have N3 := Lib.hid N2
        have HNI := Lib.hid hni
        clear N2 hb hni
        go_wp2_with fail
        refine (N3.out _).mono ?_
        rintro e w2 ⟨rfl, rfl⟩
        go_wp2_with fail
        refine wp_loop_rounds 3 ?_
        rw [rounds_succ]
        go_wp2_with fail
        go_quiet (fail)
        go_wp2_with fail
        rw [rounds_succ]
        go_wp2_with fail
        go_quiet (fail)
        go_wp2_with fail
        rw [rounds_succ]
        go_wp2_with fail
        go_roundw
        case rel => first | exact ⟨3, _, by omega, rfl, rfl, (by have h1 := HX.out; have h2 : Pt.bitN s 2 = 1 := HNI.out; show _ = 1 + (Pt.bitN s 0 : Int) + (Pt.bitN s 1 : Int) + (Pt.bitN s 2 : Int); rw [h2]; omega), HR.out, HB.out⟩ | exact ⟨3, _, by omega, rfl, rfl, (by have h1 := HX.out; have h2 : Pt.bitN s 2 = 1 := HNI.out; show _ = 1 + (Pt.bitN s 0 : Int) + (Pt.bitN s 1 : Int) + (Pt.bitN s 2 : Int); rw [h2]; omega), HR.out, below_drewN HB.out _⟩ | exact ⟨3, _, by omega, rfl, rfl, (by have h1 := HX.out; have h2 : Pt.bitN s 2 = 1 := HNI.out; show _ = 1 + (Pt.bitN s 0 : Int) + (Pt.bitN s 1 : Int) + (Pt.bitN s 2 : Int); rw [h2]; omega), HR.out, below_drewN (below_drewN HB.out _) _⟩
        case measure => simp [intOf]
    · have hx2 : x = rcnt2 s 3 := hx
      have hxb : 0 ≤ x ∧ x ≤ 10 := by
        have hbn : ∀ j, Pt.bitN s j ≤ 1 := fun j => by unfold Pt.bitN; split <;> omega
        have := hbn 0; have := hbn 1; have := hbn 2; have h4 : x = 1 + (Pt.bitN s 0 : Int) + (Pt.bitN s 1 : Int) + (Pt.bitN s 2 : Int) := hx
        omega
      have HX := Lib.hid hx2
      have HB := Lib.hid hB
      clear hx hx2 hR hB hi
      go_wp2_with fail
      go_ret
      exact ⟨ret_bool (by rw [HM.out, ← HX.out]), HB.out⟩
def rcnt3 (s : Nat) : Nat → Int
  | 0 => 0
  | 1 => 0 + (Pt.bitN s 0 : Int)
  | 2 => 0 + (Pt.bitN s 0 : Int) + (Pt.bitN s 1 : Int)
  | _ => 2 + (Pt.bitN s 0 : Int) + (Pt.bitN s 1 : Int) + (Pt.bitN s 2 : Int)
theorem rmirror_tab3 : ∀ s : Fin 48, s.val / 8 = 3 → Pt.mirror s = ((rcnt3 s 3) % 2 == 1) := by decide +kernel
set_option maxRecDepth 1000000 in
set_option maxHeartbeats 4000000 in
theorem rmirror_o3 (s : Nat) (w : World) (hs : s < 48) (hk : (s : Int) / 8 = 3) :
    Calls Tryd.prog 58 #[.int .i64 (s : Int)] w fun e w' => e = .returned (.bool (Pt.mirror s)) ∧ Below w.heap.size w w' := by
  have CS : Hid (∀ W, Calls Tryd.prog 81 #[.int .i64 (s : Int)] W fun e w' => e = .returned (.bool true) ∧ Below W.heap.size W w') := Lib.hid (fun W => by
    have := is_any (s : Int) W
    rwa [decide_eq_true (show 0 ≤ (s : Int) ∧ (s : Int) < 48 by omega)] at this)
  have CN : Hid (∀ i : Nat, i < 3 → ∀ W, Calls Tryd.prog 88 #[.int .i64 (s : Int), .int .i64 (i : Int)] W fun e w' => e = .returned (.bool (Pt.bit s i)) ∧ w' = W) := Lib.hid (fun i hi W => rnegates_same s i W hs hi)
  have HK := Lib.hid (show s / 8 = 3 by omega)
  have HKI := Lib.hid hk
  have G0 := Lib.hid (Below.refl w.heap.size w)
  go_enter Tryd.func58, Tryd.ntmps58
  go_upto_region 1 with fail
  refine wpG_region ?_
  refine wpG_tk (some 9) (v := .int .i64 (s : Int)) rfl (.val (by rfl) (fun _ _ => rfl)) ?_
  simp only [Act.put, List.setIfInBounds_toArray, List.set_cons_zero, List.set_cons_succ]
  refine wpG_tk (some 10) (v := .bool true) rfl (.call (f := 81) (args := #[.int .i64 (s : Int)]) (by rfl) (fun W => by go_simp) (fun W hg => CS.out W)) ?_
  simp only [Act.put, List.setIfInBounds_toArray, List.set_cons_zero, List.set_cons_succ]
  refine wpG_tk (some 3) (v := .bool true) rfl (.val (by rfl) (fun _ _ => rfl)) ?_
  simp only [Act.put, List.setIfInBounds_toArray, List.set_cons_zero, List.set_cons_succ]
  refine wpG_done (fun V1 hv2 => ?_)
  have GC3 := Lib.hid hv2
  clear hv2
  go_upto_region 2 with fail
  refine wpG_region ?_
  refine wpG_tk (some 11) (v := .bool true) rfl (.val (by rfl) (fun _ _ => rfl)) ?_
  simp only [Act.put, List.setIfInBounds_toArray, List.set_cons_zero, List.set_cons_succ]
  refine wpG_tk (some 12) (v := .bool false) rfl (.val (by rfl) (fun W hg => by go_simp)) ?_
  simp only [Act.put, List.setIfInBounds_toArray, List.set_cons_zero, List.set_cons_succ]
  refine wpG_done (fun V4 hv5 => ?_)
  have GC6 := Lib.hid (GC3.out.trans hv5)
  clear hv5
  go_upto_region 4 with fail
  refine wpG_region ?_
  refine wpG_tk (some 13) (v := .int .i64 (s : Int)) rfl (.val (by rfl) (fun _ _ => rfl)) ?_
  simp only [Act.put, List.setIfInBounds_toArray, List.set_cons_zero, List.set_cons_succ]
  refine wpG_tk (some 14) (v := .int .i64 3) rfl (.val (by rfl) (fun W hg => by have q := HKI.out; go_simp <;> rfl)) ?_
  simp only [Act.put, List.setIfInBounds_toArray, List.set_cons_zero, List.set_cons_succ]
  refine wpG_tk (some 15) (v := .agg #[.int .i64 1, .int .i64 2, .int .i64 0]) rfl (.call (f := 87) (args := #[.int .i64 3]) (by rfl) (fun W => by go_simp) (fun W hg => (by have c := order_any 3 W (by decide); exact c))) ?_
  simp only [Act.put, List.setIfInBounds_toArray, List.set_cons_zero, List.set_cons_succ]
  refine wpG_val (some 4) rfl (by rfl) (fun W7 hg8 => ⟨.pointer (some ⟨W7.heap.size, 0, none⟩), W7.alloc (.cells #[.int .i64 0, .int .i64 0, .int .i64 0] 64), by (go_simp <;> rfl), ?_⟩)
  simp only [Act.put, List.setIfInBounds_toArray, List.set_cons_zero, List.set_cons_succ]
  refine wpG_store (none) rfl (by rfl) (fun W9 hg10 => ⟨_, run_store_mid 64 (.tmp 4) (.tmp 15) rfl (W7.heap.size) 0 #[.int .i64 1, .int .i64 2, .int .i64 0] rfl rfl (Row.room hg10 3 rfl) (by kernel_rfl) (by kernel_rfl), ?_⟩)
  simp only [Act.put]
  refine wpG_done (fun V11 hv12 => ?_)
  have l14 : w.heap.size ≤ W7.heap.size := (Gr.to G0.out (GC6.out.trans hg8)).size
  have R15 := Lib.hid (Row.made (zs := [.int .i64 0, .int .i64 0, .int .i64 0]) (ds := [.int .i64 1, .int .i64 2, .int .i64 0]) rfl hg10 hv12)
  have G13 := Lib.hid (Gr.to (Gr.to G0.out (GC6.out.trans hg8)) (Gr.past hg10 hv12))
  clear hg10 hv12 
  go_upto_region 5 with fail
  refine wpG_region ?_
  refine wpG_tk (some 5) (v := .int .i64 0) rfl (.val (by rfl) (fun _ _ => rfl)) ?_
  simp only [Act.put, List.setIfInBounds_toArray, List.set_cons_zero, List.set_cons_succ]
  refine wpG_done (fun V16 hv17 => ?_)
  have GC18 := Lib.hid hv17
  clear hv17
  go_upto_region 6 with fail
  refine wpG_region ?_
  refine wpG_tk (some 6) (v := .int .i64 0) rfl (.val (by rfl) (fun _ _ => rfl)) ?_
  simp only [Act.put, List.setIfInBounds_toArray, List.set_cons_zero, List.set_cons_succ]
  refine wpG_done (fun V19 hv20 => ?_)
  have GC21 := Lib.hid (GC18.out.trans hv20)
  clear hv20
  have TB := Lib.hid (R15.out.below GC21.out)
  have TG := Lib.hid (Gr.to G13.out GC21.out)
  have HM := Lib.hid (rmirror_tab3 ⟨s, hs⟩ HK.out)
  go_wp2_with fail
  go_loopw [5, 6] (fun n c wr => ∃ (i : Nat) (x : Int), i ≤ 3 ∧ n = .int .i64 x ∧ c = .int .i64 (i : Int) ∧ x = rcnt3 s i ∧ Row (W7.heap.size) [.int .i64 1, .int .i64 2, .int .i64 0] wr ∧ Below w.heap.size w wr) (fun _ c _ => 3 - (intOf c).toNat)
  case atStart => exact ⟨0, 0, by omega, rfl, rfl, rfl, TB.out, TG.out⟩
  case round =>
    obtain ⟨i, x, hi, rfl, rfl, hx, hR, hB⟩ := hrel
    have hc : i = 0 ∨ i = 1 ∨ i = 2 ∨ i = 3 := by omega
    rcases hc with rfl | rfl | rfl | rfl
    · have hx2 : x = 0 := hx
      have hbn : ∀ j, Pt.bitN s j = if Pt.bit s j then 1 else 0 := fun j => rfl
      have hni := hbn 0
      have hxb : 0 ≤ x ∧ x ≤ 10 := by omega
      have a0 := hR.cellx 0 _ rfl
      have a1 := hR.cellx 1 _ rfl
      have a2 := hR.cellx 2 _ rfl
      have HX := Lib.hid hx2
      have HR := Lib.hid hR
      have HB := Lib.hid hB
      have N := CN.out 0 (by decide)
      have N2 : ∀ W, Calls Tryd.prog 88 #[.int .i64 (s : Int), .int .i64 0] W fun e w' => e = .returned (.bool (Pt.bit s 0)) ∧ w' = W := N
      clear hx hx2 hR hB hi N hbn
      cases hb : Pt.bit s 0 with
      | false =>
        rw [hb] at N2 hni
        have N3 := Lib.hid N2
        have HNI := Lib.hid hni
        clear N2 hb hni
        go_wp2_with fail
        refine (N3.out _).mono ?_
        rintro e w2 ⟨rfl, rfl⟩
        go_wp2_with fail
        refine wp_loop_rounds 1 ?_
        rw [rounds_succ]
        go_wp2_with fail
        go_roundw
        case rel => first | exact ⟨1, _, by omega, rfl, rfl, (by have h1 := HX.out; have h2 : Pt.bitN s 0 = 0 := HNI.out; show _ = 0 + (Pt.bitN s 0 : Int); rw [h2]; omega), HR.out, HB.out⟩ | exact ⟨1, _, by omega, rfl, rfl, (by have h1 := HX.out; have h2 : Pt.bitN s 0 = 0 := HNI.out; show _ = 0 + (Pt.bitN s 0 : Int); rw [h2]; omega), HR.out, below_drewN HB.out _⟩ | exact ⟨1, _, by omega, rfl, rfl, (by have h1 := HX.out; have h2 : Pt.bitN s 0 = 0 := HNI.out; show _ = 0 + (Pt.bitN s 0 : Int); rw [h2]; omega), HR.out, below_drewN (below_drewN HB.out _) _⟩
        case measure => simp [intOf]
      | true =>
        rw [hb] at N2 hni
        have N3 := Lib.hid N2
        have HNI := Lib.hid hni
        clear N2 hb hni
        go_wp2_with fail
        refine (N3.out _).mono ?_
        rintro e w2 ⟨rfl, rfl⟩
        go_wp2_with fail
        refine wp_loop_rounds 1 ?_
        rw [rounds_succ]
        go_wp2_with fail
        go_roundw
        case rel => first | exact ⟨1, _, by omega, rfl, rfl, (by have h1 := HX.out; have h2 : Pt.bitN s 0 = 1 := HNI.out; show _ = 0 + (Pt.bitN s 0 : Int); rw [h2]; omega), HR.out, HB.out⟩ | exact ⟨1, _, by omega, rfl, rfl, (by have h1 := HX.out; have h2 : Pt.bitN s 0 = 1 := HNI.out; show _ = 0 + (Pt.bitN s 0 : Int); rw [h2]; omega), HR.out, below_drewN HB.out _⟩ | exact ⟨1, _, by omega, rfl, rfl, (by have h1 := HX.out; have h2 : Pt.bitN s 0 = 1 := HNI.out; show _ = 0 + (Pt.bitN s 0 : Int); rw [h2]; omega), HR.out, below_drewN (below_drewN HB.out _) _⟩
        case measure => simp [intOf]
    · have hx2 : x = 0 + (Pt.bitN s 0 : Int) := hx
      have hbn : ∀ j, Pt.bitN s j = if Pt.bit s j then 1 else 0 := fun j => rfl
      have hn0 := hbn 0
      have hl0 : Pt.bitN s 0 ≤ 1 := by rw [hn0]; split <;> omega
      have hni := hbn 1
      have hxb : 0 ≤ x ∧ x ≤ 10 := by omega
      have a0 := hR.cellx 0 _ rfl
      have a1 := hR.cellx 1 _ rfl
      have a2 := hR.cellx 2 _ rfl
      have HX := Lib.hid hx2
      have HR := Lib.hid hR
      have HB := Lib.hid hB
      have N := CN.out 1 (by decide)
      have N2 : ∀ W, Calls Tryd.prog 88 #[.int .i64 (s : Int), .int .i64 1] W fun e w' => e = .returned (.bool (Pt.bit s 1)) ∧ w' = W := N
      clear hx hx2 hR hB hi N hbn hn0 hl0
      cases hb : Pt.bit s 1 with
      | false =>
        rw [hb] at N2 hni
        have N3 := Lib.hid N2
        have HNI := Lib.hid hni
        clear N2 hb hni
        go_wp2_with fail
        refine (N3.out _).mono ?_
        rintro e w2 ⟨rfl, rfl⟩
        go_wp2_with fail
        refine wp_loop_rounds 2 ?_
        rw [rounds_succ]
        go_wp2_with fail
        go_quiet (fail)
        go_wp2_with fail
        rw [rounds_succ]
        go_wp2_with fail
        go_roundw
        case rel => first | exact ⟨2, _, by omega, rfl, rfl, (by have h1 := HX.out; have h2 : Pt.bitN s 1 = 0 := HNI.out; show _ = 0 + (Pt.bitN s 0 : Int) + (Pt.bitN s 1 : Int); rw [h2]; omega), HR.out, HB.out⟩ | exact ⟨2, _, by omega, rfl, rfl, (by have h1 := HX.out; have h2 : Pt.bitN s 1 = 0 := HNI.out; show _ = 0 + (Pt.bitN s 0 : Int) + (Pt.bitN s 1 : Int); rw [h2]; omega), HR.out, below_drewN HB.out _⟩ | exact ⟨2, _, by omega, rfl, rfl, (by have h1 := HX.out; have h2 : Pt.bitN s 1 = 0 := HNI.out; show _ = 0 + (Pt.bitN s 0 : Int) + (Pt.bitN s 1 : Int); rw [h2]; omega), HR.out, below_drewN (below_drewN HB.out _) _⟩
        case measure => simp [intOf]
      | true =>
        rw [hb] at N2 hni
        have N3 := Lib.hid N2
        have HNI := Lib.hid hni
        clear N2 hb hni
        go_wp2_with fail
        refine (N3.out _).mono ?_
        rintro e w2 ⟨rfl, rfl⟩
        go_wp2_with fail
        refine wp_loop_rounds 2 ?_
        rw [rounds_succ]
        go_wp2_with fail
        go_quiet (fail)
        go_wp2_with fail
        rw [rounds_succ]
        go_wp2_with fail
        go_roundw
        case rel => first | exact ⟨2, _, by omega, rfl, rfl, (by have h1 := HX.out; have h2 : Pt.bitN s 1 = 1 := HNI.out; show _ = 0 + (Pt.bitN s 0 : Int) + (Pt.bitN s 1 : Int); rw [h2]; omega), HR.out, HB.out⟩ | exact ⟨2, _, by omega, rfl, rfl, (by have h1 := HX.out; have h2 : Pt.bitN s 1 = 1 := HNI.out; show _ = 0 + (Pt.bitN s 0 : Int) + (Pt.bitN s 1 : Int); rw [h2]; omega), HR.out, below_drewN HB.out _⟩ | exact ⟨2, _, by omega, rfl, rfl, (by have h1 := HX.out; have h2 : Pt.bitN s 1 = 1 := HNI.out; show _ = 0 + (Pt.bitN s 0 : Int) + (Pt.bitN s 1 : Int); rw [h2]; omega), HR.out, below_drewN (below_drewN HB.out _) _⟩
        case measure => simp [intOf]
    · have hx2 : x = 0 + (Pt.bitN s 0 : Int) + (Pt.bitN s 1 : Int) := hx
      have hbn : ∀ j, Pt.bitN s j = if Pt.bit s j then 1 else 0 := fun j => rfl
      have hn0 := hbn 0
      have hl0 : Pt.bitN s 0 ≤ 1 := by rw [hn0]; split <;> omega
      have hn1 := hbn 1
      have hl1 : Pt.bitN s 1 ≤ 1 := by rw [hn1]; split <;> omega
      have hni := hbn 2
      have hxb : 0 ≤ x ∧ x ≤ 10 := by omega
      have a0 := hR.cellx 0 _ rfl
      have a1 := hR.cellx 1 _ rfl
      have a2 := hR.cellx 2 _ rfl
      have HX := Lib.hid hx2
      have HR := Lib.hid hR
      have HB := Lib.hid hB
      have N := CN.out 2 (by decide)
      have N2 : ∀ W, Calls Tryd.prog 88 #[.int .i64 (s : Int), .int .i64 2] W fun e w' => e = .returned (.bool (Pt.bit s 2)) ∧ w' = W := N
      clear hx hx2 hR hB hi N hbn hn0 hl0 hn1 hl1
      cases hb : Pt.bit s 2 with
      | false =>
        rw [hb] at N2 hni
        have N3 := Lib.hid N2
        have HNI := Lib.hid hni
        clear N2 hb hni
        go_wp2_with fail
        refine (N3.out _).mono ?_
        rintro e w2 ⟨rfl, rfl⟩
        go_wp2_with fail
        refine wp_loop_rounds 3 ?_
        rw [rounds_succ]
        go_wp2_with fail
        go_quiet (fail)
        go_wp2_with fail
        rw [rounds_succ]
        go_wp2_with fail
        go_quiet (fail)
        go_wp2_with fail
        rw [rounds_succ]
        go_wp2_with fail
        go_roundw
        case rel => first | exact ⟨3, _, by omega, rfl, rfl, (by have h1 := HX.out; have h2 : Pt.bitN s 2 = 0 := HNI.out; show _ = 2 + (Pt.bitN s 0 : Int) + (Pt.bitN s 1 : Int) + (Pt.bitN s 2 : Int); rw [h2]; omega), HR.out, HB.out⟩ | exact ⟨3, _, by omega, rfl, rfl, (by have h1 := HX.out; have h2 : Pt.bitN s 2 = 0 := HNI.out; show _ = 2 + (Pt.bitN s 0 : Int) + (Pt.bitN s 1 : Int) + (Pt.bitN s 2 : Int); rw [h2]; omega), HR.out, below_drewN HB.out _⟩ | exact ⟨3, _, by omega, rfl, rfl, (by have h1 := HX.out; have h2 : Pt.bitN s 2 = 0 := HNI.out; show _ = 2 + (Pt.bitN s 0 : Int) + (Pt.bitN s 1 : Int) + (Pt.bitN s 2 : Int); rw [h2]; omega), HR.out, below_drewN (below_drewN HB.out _) _⟩
        case measure => simp [intOf]
      | true =>
        rw [hb] at N2 hni
        have N3 := Lib.hid N2
        have HNI := Lib.hid hni
        clear N2 hb hni
        go_wp2_with fail
        refine (N3.out _).mono ?_
        rintro e w2 ⟨rfl, rfl⟩
        go_wp2_with fail
        refine wp_loop_rounds 3 ?_
        rw [rounds_succ]
        go_wp2_with fail
        go_quiet (fail)
        go_wp2_with fail
        rw [rounds_succ]
        go_wp2_with fail
        go_quiet (fail)
        go_wp2_with fail
        rw [rounds_succ]
        go_wp2_with fail
        go_roundw
        case rel => first | exact ⟨3, _, by omega, rfl, rfl, (by have h1 := HX.out; have h2 : Pt.bitN s 2 = 1 := HNI.out; show _ = 2 + (Pt.bitN s 0 : Int) + (Pt.bitN s 1 : Int) + (Pt.bitN s 2 : Int); rw [h2]; omega), HR.out, HB.out⟩ | exact ⟨3, _, by omega, rfl, rfl, (by have h1 := HX.out; have h2 : Pt.bitN s 2 = 1 := HNI.out; show _ = 2 + (Pt.bitN s 0 : Int) + (Pt.bitN s 1 : Int) + (Pt.bitN s 2 : Int); rw [h2]; omega), HR.out, below_drewN HB.out _⟩ | exact ⟨3, _, by omega, rfl, rfl, (by have h1 := HX.out; have h2 : Pt.bitN s 2 = 1 := HNI.out; show _ = 2 + (Pt.bitN s 0 : Int) + (Pt.bitN s 1 : Int) + (Pt.bitN s 2 : Int); rw [h2]; omega), HR.out, below_drewN (below_drewN HB.out _) _⟩
        case measure => simp [intOf]
    · have hx2 : x = rcnt3 s 3 := hx
      have hxb : 0 ≤ x ∧ x ≤ 10 := by
        have hbn : ∀ j, Pt.bitN s j ≤ 1 := fun j => by unfold Pt.bitN; split <;> omega
        have := hbn 0; have := hbn 1; have := hbn 2; have h4 : x = 2 + (Pt.bitN s 0 : Int) + (Pt.bitN s 1 : Int) + (Pt.bitN s 2 : Int) := hx
        omega
      have HX := Lib.hid hx2
      have HB := Lib.hid hB
      clear hx hx2 hR hB hi
      go_wp2_with fail
      go_ret
      exact ⟨ret_bool (by rw [HM.out, ← HX.out]), HB.out⟩
def rcnt4 (s : Nat) : Nat → Int
  | 0 => 0
  | 1 => 0 + (Pt.bitN s 0 : Int)
  | 2 => 1 + (Pt.bitN s 0 : Int) + (Pt.bitN s 1 : Int)
  | _ => 2 + (Pt.bitN s 0 : Int) + (Pt.bitN s 1 : Int) + (Pt.bitN s 2 : Int)
theorem rmirror_tab4 : ∀ s : Fin 48, s.val / 8 = 4 → Pt.mirror s = ((rcnt4 s 3) % 2 == 1) := by decide +kernel
set_option maxRecDepth 1000000 in
set_option maxHeartbeats 4000000 in
theorem rmirror_o4 (s : Nat) (w : World) (hs : s < 48) (hk : (s : Int) / 8 = 4) :
    Calls Tryd.prog 58 #[.int .i64 (s : Int)] w fun e w' => e = .returned (.bool (Pt.mirror s)) ∧ Below w.heap.size w w' := by
  have CS : Hid (∀ W, Calls Tryd.prog 81 #[.int .i64 (s : Int)] W fun e w' => e = .returned (.bool true) ∧ Below W.heap.size W w') := Lib.hid (fun W => by
    have := is_any (s : Int) W
    rwa [decide_eq_true (show 0 ≤ (s : Int) ∧ (s : Int) < 48 by omega)] at this)
  have CN : Hid (∀ i : Nat, i < 3 → ∀ W, Calls Tryd.prog 88 #[.int .i64 (s : Int), .int .i64 (i : Int)] W fun e w' => e = .returned (.bool (Pt.bit s i)) ∧ w' = W) := Lib.hid (fun i hi W => rnegates_same s i W hs hi)
  have HK := Lib.hid (show s / 8 = 4 by omega)
  have HKI := Lib.hid hk
  have G0 := Lib.hid (Below.refl w.heap.size w)
  go_enter Tryd.func58, Tryd.ntmps58
  go_upto_region 1 with fail
  refine wpG_region ?_
  refine wpG_tk (some 9) (v := .int .i64 (s : Int)) rfl (.val (by rfl) (fun _ _ => rfl)) ?_
  simp only [Act.put, List.setIfInBounds_toArray, List.set_cons_zero, List.set_cons_succ]
  refine wpG_tk (some 10) (v := .bool true) rfl (.call (f := 81) (args := #[.int .i64 (s : Int)]) (by rfl) (fun W => by go_simp) (fun W hg => CS.out W)) ?_
  simp only [Act.put, List.setIfInBounds_toArray, List.set_cons_zero, List.set_cons_succ]
  refine wpG_tk (some 3) (v := .bool true) rfl (.val (by rfl) (fun _ _ => rfl)) ?_
  simp only [Act.put, List.setIfInBounds_toArray, List.set_cons_zero, List.set_cons_succ]
  refine wpG_done (fun V1 hv2 => ?_)
  have GC3 := Lib.hid hv2
  clear hv2
  go_upto_region 2 with fail
  refine wpG_region ?_
  refine wpG_tk (some 11) (v := .bool true) rfl (.val (by rfl) (fun _ _ => rfl)) ?_
  simp only [Act.put, List.setIfInBounds_toArray, List.set_cons_zero, List.set_cons_succ]
  refine wpG_tk (some 12) (v := .bool false) rfl (.val (by rfl) (fun W hg => by go_simp)) ?_
  simp only [Act.put, List.setIfInBounds_toArray, List.set_cons_zero, List.set_cons_succ]
  refine wpG_done (fun V4 hv5 => ?_)
  have GC6 := Lib.hid (GC3.out.trans hv5)
  clear hv5
  go_upto_region 4 with fail
  refine wpG_region ?_
  refine wpG_tk (some 13) (v := .int .i64 (s : Int)) rfl (.val (by rfl) (fun _ _ => rfl)) ?_
  simp only [Act.put, List.setIfInBounds_toArray, List.set_cons_zero, List.set_cons_succ]
  refine wpG_tk (some 14) (v := .int .i64 4) rfl (.val (by rfl) (fun W hg => by have q := HKI.out; go_simp <;> rfl)) ?_
  simp only [Act.put, List.setIfInBounds_toArray, List.set_cons_zero, List.set_cons_succ]
  refine wpG_tk (some 15) (v := .agg #[.int .i64 2, .int .i64 0, .int .i64 1]) rfl (.call (f := 87) (args := #[.int .i64 4]) (by rfl) (fun W => by go_simp) (fun W hg => (by have c := order_any 4 W (by decide); exact c))) ?_
  simp only [Act.put, List.setIfInBounds_toArray, List.set_cons_zero, List.set_cons_succ]
  refine wpG_val (some 4) rfl (by rfl) (fun W7 hg8 => ⟨.pointer (some ⟨W7.heap.size, 0, none⟩), W7.alloc (.cells #[.int .i64 0, .int .i64 0, .int .i64 0] 64), by (go_simp <;> rfl), ?_⟩)
  simp only [Act.put, List.setIfInBounds_toArray, List.set_cons_zero, List.set_cons_succ]
  refine wpG_store (none) rfl (by rfl) (fun W9 hg10 => ⟨_, run_store_mid 64 (.tmp 4) (.tmp 15) rfl (W7.heap.size) 0 #[.int .i64 2, .int .i64 0, .int .i64 1] rfl rfl (Row.room hg10 3 rfl) (by kernel_rfl) (by kernel_rfl), ?_⟩)
  simp only [Act.put]
  refine wpG_done (fun V11 hv12 => ?_)
  have l14 : w.heap.size ≤ W7.heap.size := (Gr.to G0.out (GC6.out.trans hg8)).size
  have R15 := Lib.hid (Row.made (zs := [.int .i64 0, .int .i64 0, .int .i64 0]) (ds := [.int .i64 2, .int .i64 0, .int .i64 1]) rfl hg10 hv12)
  have G13 := Lib.hid (Gr.to (Gr.to G0.out (GC6.out.trans hg8)) (Gr.past hg10 hv12))
  clear hg10 hv12 
  go_upto_region 5 with fail
  refine wpG_region ?_
  refine wpG_tk (some 5) (v := .int .i64 0) rfl (.val (by rfl) (fun _ _ => rfl)) ?_
  simp only [Act.put, List.setIfInBounds_toArray, List.set_cons_zero, List.set_cons_succ]
  refine wpG_done (fun V16 hv17 => ?_)
  have GC18 := Lib.hid hv17
  clear hv17
  go_upto_region 6 with fail
  refine wpG_region ?_
  refine wpG_tk (some 6) (v := .int .i64 0) rfl (.val (by rfl) (fun _ _ => rfl)) ?_
  simp only [Act.put, List.setIfInBounds_toArray, List.set_cons_zero, List.set_cons_succ]
  refine wpG_done (fun V19 hv20 => ?_)
  have GC21 := Lib.hid (GC18.out.trans hv20)
  clear hv20
  have TB := Lib.hid (R15.out.below GC21.out)
  have TG := Lib.hid (Gr.to G13.out GC21.out)
  have HM := Lib.hid (rmirror_tab4 ⟨s, hs⟩ HK.out)
  go_wp2_with fail
  go_loopw [5, 6] (fun n c wr => ∃ (i : Nat) (x : Int), i ≤ 3 ∧ n = .int .i64 x ∧ c = .int .i64 (i : Int) ∧ x = rcnt4 s i ∧ Row (W7.heap.size) [.int .i64 2, .int .i64 0, .int .i64 1] wr ∧ Below w.heap.size w wr) (fun _ c _ => 3 - (intOf c).toNat)
  case atStart => exact ⟨0, 0, by omega, rfl, rfl, rfl, TB.out, TG.out⟩
  case round =>
    obtain ⟨i, x, hi, rfl, rfl, hx, hR, hB⟩ := hrel
    have hc : i = 0 ∨ i = 1 ∨ i = 2 ∨ i = 3 := by omega
    rcases hc with rfl | rfl | rfl | rfl
    · have hx2 : x = 0 := hx
      have hbn : ∀ j, Pt.bitN s j = if Pt.bit s j then 1 else 0 := fun j => rfl
      have hni := hbn 0
      have hxb : 0 ≤ x ∧ x ≤ 10 := by omega
      have a0 := hR.cellx 0 _ rfl
      have a1 := hR.cellx 1 _ rfl
      have a2 := hR.cellx 2 _ rfl
      have HX := Lib.hid hx2
      have HR := Lib.hid hR
      have HB := Lib.hid hB
      have N := CN.out 0 (by decide)
      have N2 : ∀ W, Calls Tryd.prog 88 #[.int .i64 (s : Int), .int .i64 0] W fun e w' => e = .returned (.bool (Pt.bit s 0)) ∧ w' = W := N
      clear hx hx2 hR hB hi N hbn
      cases hb : Pt.bit s 0 with
      | false =>
        rw [hb] at N2 hni
        have N3 := Lib.hid N2
        have HNI := Lib.hid hni
        clear N2 hb hni
        go_wp2_with fail
        refine (N3.out _).mono ?_
        rintro e w2 ⟨rfl, rfl⟩
        go_wp2_with fail
        refine wp_loop_rounds 1 ?_
        rw [rounds_succ]
        go_wp2_with fail
        go_roundw
        case rel => first | exact ⟨1, _, by omega, rfl, rfl, (by have h1 := HX.out; have h2 : Pt.bitN s 0 = 0 := HNI.out; show _ = 0 + (Pt.bitN s 0 : Int); rw [h2]; omega), HR.out, HB.out⟩ | exact ⟨1, _, by omega, rfl, rfl, (by have h1 := HX.out; have h2 : Pt.bitN s 0 = 0 := HNI.out; show _ = 0 + (Pt.bitN s 0 : Int); rw [h2]; omega), HR.out, below_drewN HB.out _⟩ | exact ⟨1, _, by omega, rfl, rfl, (by have h1 := HX.out; have h2 : Pt.bitN s 0 = 0 := HNI.out; show _ = 0 + (Pt.bitN s 0 : Int); rw [h2]; omega), HR.out, below_drewN (below_drewN HB.out _) _⟩
        case measure => simp [intOf]
      | true =>
        rw [hb] at N2 hni
        have N3 := Lib.hid N2
        have HNI := Lib.hid hni
        clear N2 hb hni
        go_wp2_with fail
        refine (N3.out _).mono ?_
        rintro e w2 ⟨rfl, rfl⟩
        go_wp2_with fail
        refine wp_loop_rounds 1 ?_
        rw [rounds_succ]
        go_wp2_with fail
        go_roundw
        case rel => first | exact ⟨1, _, by omega, rfl, rfl, (by have h1 := HX.out; have h2 : Pt.bitN s 0 = 1 := HNI.out; show _ = 0 + (Pt.bitN s 0 : Int); rw [h2]; omega), HR.out, HB.out⟩ | exact ⟨1, _, by omega, rfl, rfl, (by have h1 := HX.out; have h2 : Pt.bitN s 0 = 1 := HNI.out; show _ = 0 + (Pt.bitN s 0 : Int); rw [h2]; omega), HR.out, below_drewN HB.out _⟩ | exact ⟨1, _, by omega, rfl, rfl, (by have h1 := HX.out; have h2 : Pt.bitN s 0 = 1 := HNI.out; show _ = 0 + (Pt.bitN s 0 : Int); rw [h2]; omega), HR.out, below_drewN (below_drewN HB.out _) _⟩
        case measure => simp [intOf]
    · have hx2 : x = 0 + (Pt.bitN s 0 : Int) := hx
      have hbn : ∀ j, Pt.bitN s j = if Pt.bit s j then 1 else 0 := fun j => rfl
      have hn0 := hbn 0
      have hl0 : Pt.bitN s 0 ≤ 1 := by rw [hn0]; split <;> omega
      have hni := hbn 1
      have hxb : 0 ≤ x ∧ x ≤ 10 := by omega
      have a0 := hR.cellx 0 _ rfl
      have a1 := hR.cellx 1 _ rfl
      have a2 := hR.cellx 2 _ rfl
      have HX := Lib.hid hx2
      have HR := Lib.hid hR
      have HB := Lib.hid hB
      have N := CN.out 1 (by decide)
      have N2 : ∀ W, Calls Tryd.prog 88 #[.int .i64 (s : Int), .int .i64 1] W fun e w' => e = .returned (.bool (Pt.bit s 1)) ∧ w' = W := N
      clear hx hx2 hR hB hi N hbn hn0 hl0
      cases hb : Pt.bit s 1 with
      | false =>
        rw [hb] at N2 hni
        have N3 := Lib.hid N2
        have HNI := Lib.hid hni
        clear N2 hb hni
        go_wp2_with fail
        refine (N3.out _).mono ?_
        rintro e w2 ⟨rfl, rfl⟩
        go_wp2_with fail
        refine wp_loop_rounds 2 ?_
        rw [rounds_succ]
        go_wp2_with fail
        go_quiet (fail)
        go_wp2_with fail
        rw [rounds_succ]
        go_wp2_with fail
        go_roundw
        case rel => first | exact ⟨2, _, by omega, rfl, rfl, (by have h1 := HX.out; have h2 : Pt.bitN s 1 = 0 := HNI.out; show _ = 1 + (Pt.bitN s 0 : Int) + (Pt.bitN s 1 : Int); rw [h2]; omega), HR.out, HB.out⟩ | exact ⟨2, _, by omega, rfl, rfl, (by have h1 := HX.out; have h2 : Pt.bitN s 1 = 0 := HNI.out; show _ = 1 + (Pt.bitN s 0 : Int) + (Pt.bitN s 1 : Int); rw [h2]; omega), HR.out, below_drewN HB.out _⟩ | exact ⟨2, _, by omega, rfl, rfl, (by have h1 := HX.out; have h2 : Pt.bitN s 1 = 0 := HNI.out; show _ = 1 + (Pt.bitN s 0 : Int) + (Pt.bitN s 1 : Int); rw [h2]; omega), HR.out, below_drewN (below_drewN HB.out _) _⟩
        case measure => simp [intOf]
      | true =>
        rw [hb] at N2 hni
        have N3 := Lib.hid N2
        have HNI := Lib.hid hni
        clear N2 hb hni
        go_wp2_with fail
        refine (N3.out _).mono ?_
        rintro e w2 ⟨rfl, rfl⟩
        go_wp2_with fail
        refine wp_loop_rounds 2 ?_
        rw [rounds_succ]
        go_wp2_with fail
        go_quiet (fail)
        go_wp2_with fail
        rw [rounds_succ]
        go_wp2_with fail
        go_roundw
        case rel => first | exact ⟨2, _, by omega, rfl, rfl, (by have h1 := HX.out; have h2 : Pt.bitN s 1 = 1 := HNI.out; show _ = 1 + (Pt.bitN s 0 : Int) + (Pt.bitN s 1 : Int); rw [h2]; omega), HR.out, HB.out⟩ | exact ⟨2, _, by omega, rfl, rfl, (by have h1 := HX.out; have h2 : Pt.bitN s 1 = 1 := HNI.out; show _ = 1 + (Pt.bitN s 0 : Int) + (Pt.bitN s 1 : Int); rw [h2]; omega), HR.out, below_drewN HB.out _⟩ | exact ⟨2, _, by omega, rfl, rfl, (by have h1 := HX.out; have h2 : Pt.bitN s 1 = 1 := HNI.out; show _ = 1 + (Pt.bitN s 0 : Int) + (Pt.bitN s 1 : Int); rw [h2]; omega), HR.out, below_drewN (below_drewN HB.out _) _⟩
        case measure => simp [intOf]
    · have hx2 : x = 1 + (Pt.bitN s 0 : Int) + (Pt.bitN s 1 : Int) := hx
      have hbn : ∀ j, Pt.bitN s j = if Pt.bit s j then 1 else 0 := fun j => rfl
      have hn0 := hbn 0
      have hl0 : Pt.bitN s 0 ≤ 1 := by rw [hn0]; split <;> omega
      have hn1 := hbn 1
      have hl1 : Pt.bitN s 1 ≤ 1 := by rw [hn1]; split <;> omega
      have hni := hbn 2
      have hxb : 0 ≤ x ∧ x ≤ 10 := by omega
      have a0 := hR.cellx 0 _ rfl
      have a1 := hR.cellx 1 _ rfl
      have a2 := hR.cellx 2 _ rfl
      have HX := Lib.hid hx2
      have HR := Lib.hid hR
      have HB := Lib.hid hB
      have N := CN.out 2 (by decide)
      have N2 : ∀ W, Calls Tryd.prog 88 #[.int .i64 (s : Int), .int .i64 2] W fun e w' => e = .returned (.bool (Pt.bit s 2)) ∧ w' = W := N
      clear hx hx2 hR hB hi N hbn hn0 hl0 hn1 hl1
      cases hb : Pt.bit s 2 with
      | false =>
        rw [hb] at N2 hni
        have N3 := Lib.hid N2
        have HNI := Lib.hid hni
        clear N2 hb hni
        go_wp2_with fail
        refine (N3.out _).mono ?_
        rintro e w2 ⟨rfl, rfl⟩
        go_wp2_with fail
        refine wp_loop_rounds 3 ?_
        rw [rounds_succ]
        go_wp2_with fail
        go_quiet (fail)
        go_wp2_with fail
        rw [rounds_succ]
        go_wp2_with fail
        go_quiet (fail)
        go_wp2_with fail
        rw [rounds_succ]
        go_wp2_with fail
        go_roundw
        case rel => first | exact ⟨3, _, by omega, rfl, rfl, (by have h1 := HX.out; have h2 : Pt.bitN s 2 = 0 := HNI.out; show _ = 2 + (Pt.bitN s 0 : Int) + (Pt.bitN s 1 : Int) + (Pt.bitN s 2 : Int); rw [h2]; omega), HR.out, HB.out⟩ | exact ⟨3, _, by omega, rfl, rfl, (by have h1 := HX.out; have h2 : Pt.bitN s 2 = 0 := HNI.out; show _ = 2 + (Pt.bitN s 0 : Int) + (Pt.bitN s 1 : Int) + (Pt.bitN s 2 : Int); rw [h2]; omega), HR.out, below_drewN HB.out _⟩ | exact ⟨3, _, by omega, rfl, rfl, (by have h1 := HX.out; have h2 : Pt.bitN s 2 = 0 := HNI.out; show _ = 2 + (Pt.bitN s 0 : Int) + (Pt.bitN s 1 : Int) + (Pt.bitN s 2 : Int); rw [h2]; omega), HR.out, below_drewN (below_drewN HB.out _) _⟩
        case measure => simp [intOf]
      | true =>
        rw [hb] at N2 hni
        have N3 := Lib.hid N2
        have HNI := Lib.hid hni
        clear N2 hb hni
        go_wp2_with fail
        refine (N3.out _).mono ?_
        rintro e w2 ⟨rfl, rfl⟩
        go_wp2_with fail
        refine wp_loop_rounds 3 ?_
        rw [rounds_succ]
        go_wp2_with fail
        go_quiet (fail)
        go_wp2_with fail
        rw [rounds_succ]
        go_wp2_with fail
        go_quiet (fail)
        go_wp2_with fail
        rw [rounds_succ]
        go_wp2_with fail
        go_roundw
        case rel => first | exact ⟨3, _, by omega, rfl, rfl, (by have h1 := HX.out; have h2 : Pt.bitN s 2 = 1 := HNI.out; show _ = 2 + (Pt.bitN s 0 : Int) + (Pt.bitN s 1 : Int) + (Pt.bitN s 2 : Int); rw [h2]; omega), HR.out, HB.out⟩ | exact ⟨3, _, by omega, rfl, rfl, (by have h1 := HX.out; have h2 : Pt.bitN s 2 = 1 := HNI.out; show _ = 2 + (Pt.bitN s 0 : Int) + (Pt.bitN s 1 : Int) + (Pt.bitN s 2 : Int); rw [h2]; omega), HR.out, below_drewN HB.out _⟩ | exact ⟨3, _, by omega, rfl, rfl, (by have h1 := HX.out; have h2 : Pt.bitN s 2 = 1 := HNI.out; show _ = 2 + (Pt.bitN s 0 : Int) + (Pt.bitN s 1 : Int) + (Pt.bitN s 2 : Int); rw [h2]; omega), HR.out, below_drewN (below_drewN HB.out _) _⟩
        case measure => simp [intOf]
    · have hx2 : x = rcnt4 s 3 := hx
      have hxb : 0 ≤ x ∧ x ≤ 10 := by
        have hbn : ∀ j, Pt.bitN s j ≤ 1 := fun j => by unfold Pt.bitN; split <;> omega
        have := hbn 0; have := hbn 1; have := hbn 2; have h4 : x = 2 + (Pt.bitN s 0 : Int) + (Pt.bitN s 1 : Int) + (Pt.bitN s 2 : Int) := hx
        omega
      have HX := Lib.hid hx2
      have HB := Lib.hid hB
      clear hx hx2 hR hB hi
      go_wp2_with fail
      go_ret
      exact ⟨ret_bool (by rw [HM.out, ← HX.out]), HB.out⟩
def rcnt5 (s : Nat) : Nat → Int
  | 0 => 0
  | 1 => 0 + (Pt.bitN s 0 : Int)
  | 2 => 1 + (Pt.bitN s 0 : Int) + (Pt.bitN s 1 : Int)
  | _ => 3 + (Pt.bitN s 0 : Int) + (Pt.bitN s 1 : Int) + (Pt.bitN s 2 : Int)
theorem rmirror_tab5 : ∀ s : Fin 48, s.val / 8 = 5 → Pt.mirror s = ((rcnt5 s 3) % 2 == 1) := by decide +kernel
set_option maxRecDepth 1000000 in
set_option maxHeartbeats 4000000 in
theorem rmirror_o5 (s : Nat) (w : World) (hs : s < 48) (hk : (s : Int) / 8 = 5) :
    Calls Tryd.prog 58 #[.int .i64 (s : Int)] w fun e w' => e = .returned (.bool (Pt.mirror s)) ∧ Below w.heap.size w w' := by
  have CS : Hid (∀ W, Calls Tryd.prog 81 #[.int .i64 (s : Int)] W fun e w' => e = .returned (.bool true) ∧ Below W.heap.size W w') := Lib.hid (fun W => by
    have := is_any (s : Int) W
    rwa [decide_eq_true (show 0 ≤ (s : Int) ∧ (s : Int) < 48 by omega)] at this)
  have CN : Hid (∀ i : Nat, i < 3 → ∀ W, Calls Tryd.prog 88 #[.int .i64 (s : Int), .int .i64 (i : Int)] W fun e w' => e = .returned (.bool (Pt.bit s i)) ∧ w' = W) := Lib.hid (fun i hi W => rnegates_same s i W hs hi)
  have HK := Lib.hid (show s / 8 = 5 by omega)
  have HKI := Lib.hid hk
  have G0 := Lib.hid (Below.refl w.heap.size w)
  go_enter Tryd.func58, Tryd.ntmps58
  go_upto_region 1 with fail
  refine wpG_region ?_
  refine wpG_tk (some 9) (v := .int .i64 (s : Int)) rfl (.val (by rfl) (fun _ _ => rfl)) ?_
  simp only [Act.put, List.setIfInBounds_toArray, List.set_cons_zero, List.set_cons_succ]
  refine wpG_tk (some 10) (v := .bool true) rfl (.call (f := 81) (args := #[.int .i64 (s : Int)]) (by rfl) (fun W => by go_simp) (fun W hg => CS.out W)) ?_
  simp only [Act.put, List.setIfInBounds_toArray, List.set_cons_zero, List.set_cons_succ]
  refine wpG_tk (some 3) (v := .bool true) rfl (.val (by rfl) (fun _ _ => rfl)) ?_
  simp only [Act.put, List.setIfInBounds_toArray, List.set_cons_zero, List.set_cons_succ]
  refine wpG_done (fun V1 hv2 => ?_)
  have GC3 := Lib.hid hv2
  clear hv2
  go_upto_region 2 with fail
  refine wpG_region ?_
  refine wpG_tk (some 11) (v := .bool true) rfl (.val (by rfl) (fun _ _ => rfl)) ?_
  simp only [Act.put, List.setIfInBounds_toArray, List.set_cons_zero, List.set_cons_succ]
  refine wpG_tk (some 12) (v := .bool false) rfl (.val (by rfl) (fun W hg => by go_simp)) ?_
  simp only [Act.put, List.setIfInBounds_toArray, List.set_cons_zero, List.set_cons_succ]
  refine wpG_done (fun V4 hv5 => ?_)
  have GC6 := Lib.hid (GC3.out.trans hv5)
  clear hv5
  go_upto_region 4 with fail
  refine wpG_region ?_
  refine wpG_tk (some 13) (v := .int .i64 (s : Int)) rfl (.val (by rfl) (fun _ _ => rfl)) ?_
  simp only [Act.put, List.setIfInBounds_toArray, List.set_cons_zero, List.set_cons_succ]
  refine wpG_tk (some 14) (v := .int .i64 5) rfl (.val (by rfl) (fun W hg => by have q := HKI.out; go_simp <;> rfl)) ?_
  simp only [Act.put, List.setIfInBounds_toArray, List.set_cons_zero, List.set_cons_succ]
  refine wpG_tk (some 15) (v := .agg #[.int .i64 2, .int .i64 1, .int .i64 0]) rfl (.call (f := 87) (args := #[.int .i64 5]) (by rfl) (fun W => by go_simp) (fun W hg => (by have c := order_any 5 W (by decide); exact c))) ?_
  simp only [Act.put, List.setIfInBounds_toArray, List.set_cons_zero, List.set_cons_succ]
  refine wpG_val (some 4) rfl (by rfl) (fun W7 hg8 => ⟨.pointer (some ⟨W7.heap.size, 0, none⟩), W7.alloc (.cells #[.int .i64 0, .int .i64 0, .int .i64 0] 64), by (go_simp <;> rfl), ?_⟩)
  simp only [Act.put, List.setIfInBounds_toArray, List.set_cons_zero, List.set_cons_succ]
  refine wpG_store (none) rfl (by rfl) (fun W9 hg10 => ⟨_, run_store_mid 64 (.tmp 4) (.tmp 15) rfl (W7.heap.size) 0 #[.int .i64 2, .int .i64 1, .int .i64 0] rfl rfl (Row.room hg10 3 rfl) (by kernel_rfl) (by kernel_rfl), ?_⟩)
  simp only [Act.put]
  refine wpG_done (fun V11 hv12 => ?_)
  have l14 : w.heap.size ≤ W7.heap.size := (Gr.to G0.out (GC6.out.trans hg8)).size
  have R15 := Lib.hid (Row.made (zs := [.int .i64 0, .int .i64 0, .int .i64 0]) (ds := [.int .i64 2, .int .i64 1, .int .i64 0]) rfl hg10 hv12)
  have G13 := Lib.hid (Gr.to (Gr.to G0.out (GC6.out.trans hg8)) (Gr.past hg10 hv12))
  clear hg10 hv12 
  go_upto_region 5 with fail
  refine wpG_region ?_
  refine wpG_tk (some 5) (v := .int .i64 0) rfl (.val (by rfl) (fun _ _ => rfl)) ?_
  simp only [Act.put, List.setIfInBounds_toArray, List.set_cons_zero, List.set_cons_succ]
  refine wpG_done (fun V16 hv17 => ?_)
  have GC18 := Lib.hid hv17
  clear hv17
  go_upto_region 6 with fail
  refine wpG_region ?_
  refine wpG_tk (some 6) (v := .int .i64 0) rfl (.val (by rfl) (fun _ _ => rfl)) ?_
  simp only [Act.put, List.setIfInBounds_toArray, List.set_cons_zero, List.set_cons_succ]
  refine wpG_done (fun V19 hv20 => ?_)
  have GC21 := Lib.hid (GC18.out.trans hv20)
  clear hv20
  have TB := Lib.hid (R15.out.below GC21.out)
  have TG := Lib.hid (Gr.to G13.out GC21.out)
  have HM := Lib.hid (rmirror_tab5 ⟨s, hs⟩ HK.out)
  go_wp2_with fail
  go_loopw [5, 6] (fun n c wr => ∃ (i : Nat) (x : Int), i ≤ 3 ∧ n = .int .i64 x ∧ c = .int .i64 (i : Int) ∧ x = rcnt5 s i ∧ Row (W7.heap.size) [.int .i64 2, .int .i64 1, .int .i64 0] wr ∧ Below w.heap.size w wr) (fun _ c _ => 3 - (intOf c).toNat)
  case atStart => exact ⟨0, 0, by omega, rfl, rfl, rfl, TB.out, TG.out⟩
  case round =>
    obtain ⟨i, x, hi, rfl, rfl, hx, hR, hB⟩ := hrel
    have hc : i = 0 ∨ i = 1 ∨ i = 2 ∨ i = 3 := by omega
    rcases hc with rfl | rfl | rfl | rfl
    · have hx2 : x = 0 := hx
      have hbn : ∀ j, Pt.bitN s j = if Pt.bit s j then 1 else 0 := fun j => rfl
      have hni := hbn 0
      have hxb : 0 ≤ x ∧ x ≤ 10 := by omega
      have a0 := hR.cellx 0 _ rfl
      have a1 := hR.cellx 1 _ rfl
      have a2 := hR.cellx 2 _ rfl
      have HX := Lib.hid hx2
      have HR := Lib.hid hR
      have HB := Lib.hid hB
      have N := CN.out 0 (by decide)
      have N2 : ∀ W, Calls Tryd.prog 88 #[.int .i64 (s : Int), .int .i64 0] W fun e w' => e = .returned (.bool (Pt.bit s 0)) ∧ w' = W := N
      clear hx hx2 hR hB hi N hbn
      cases hb : Pt.bit s 0 with
      | false =>
        rw [hb] at N2 hni
        have N3 := Lib.hid N2
        have HNI := Lib.hid hni
        clear N2 hb hni
        go_wp2_with fail
        refine (N3.out _).mono ?_
        rintro e w2 ⟨rfl, rfl⟩
        go_wp2_with fail
        refine wp_loop_rounds 1 ?_
        rw [rounds_succ]
        go_wp2_with fail
        go_roundw
        case rel => first | exact ⟨1, _, by omega, rfl, rfl, (by have h1 := HX.out; have h2 : Pt.bitN s 0 = 0 := HNI.out; show _ = 0 + (Pt.bitN s 0 : Int); rw [h2]; omega), HR.out, HB.out⟩ | exact ⟨1, _, by omega, rfl, rfl, (by have h1 := HX.out; have h2 : Pt.bitN s 0 = 0 := HNI.out; show _ = 0 + (Pt.bitN s 0 : Int); rw [h2]; omega), HR.out, below_drewN HB.out _⟩ | exact ⟨1, _, by omega, rfl, rfl, (by have h1 := HX.out; have h2 : Pt.bitN s 0 = 0 := HNI.out; show _ = 0 + (Pt.bitN s 0 : Int); rw [h2]; omega), HR.out, below_drewN (below_drewN HB.out _) _⟩
        case measure => simp [intOf]
      | true =>
        rw [hb] at N2 hni
        have N3 := Lib.hid N2
        have HNI := Lib.hid hni
        clear N2 hb hni
        go_wp2_with fail
        refine (N3.out _).mono ?_
        rintro e w2 ⟨rfl, rfl⟩
        go_wp2_with fail
        refine wp_loop_rounds 1 ?_
        rw [rounds_succ]
        go_wp2_with fail
        go_roundw
        case rel => first | exact ⟨1, _, by omega, rfl, rfl, (by have h1 := HX.out; have h2 : Pt.bitN s 0 = 1 := HNI.out; show _ = 0 + (Pt.bitN s 0 : Int); rw [h2]; omega), HR.out, HB.out⟩ | exact ⟨1, _, by omega, rfl, rfl, (by have h1 := HX.out; have h2 : Pt.bitN s 0 = 1 := HNI.out; show _ = 0 + (Pt.bitN s 0 : Int); rw [h2]; omega), HR.out, below_drewN HB.out _⟩ | exact ⟨1, _, by omega, rfl, rfl, (by have h1 := HX.out; have h2 : Pt.bitN s 0 = 1 := HNI.out; show _ = 0 + (Pt.bitN s 0 : Int); rw [h2]; omega), HR.out, below_drewN (below_drewN HB.out _) _⟩
        case measure => simp [intOf]
    · have hx2 : x = 0 + (Pt.bitN s 0 : Int) := hx
      have hbn : ∀ j, Pt.bitN s j = if Pt.bit s j then 1 else 0 := fun j => rfl
      have hn0 := hbn 0
      have hl0 : Pt.bitN s 0 ≤ 1 := by rw [hn0]; split <;> omega
      have hni := hbn 1
      have hxb : 0 ≤ x ∧ x ≤ 10 := by omega
      have a0 := hR.cellx 0 _ rfl
      have a1 := hR.cellx 1 _ rfl
      have a2 := hR.cellx 2 _ rfl
      have HX := Lib.hid hx2
      have HR := Lib.hid hR
      have HB := Lib.hid hB
      have N := CN.out 1 (by decide)
      have N2 : ∀ W, Calls Tryd.prog 88 #[.int .i64 (s : Int), .int .i64 1] W fun e w' => e = .returned (.bool (Pt.bit s 1)) ∧ w' = W := N
      clear hx hx2 hR hB hi N hbn hn0 hl0
      cases hb : Pt.bit s 1 with
      | false =>
        rw [hb] at N2 hni
        have N3 := Lib.hid N2
        have HNI := Lib.hid hni
        clear N2 hb hni
        go_wp2_with fail
        refine (N3.out _).mono ?_
        rintro e w2 ⟨rfl, rfl⟩
        go_wp2_with fail
        refine wp_loop_rounds 2 ?_
        rw [rounds_succ]
        go_wp2_with fail
        go_quiet (fail)
        go_wp2_with fail
        rw [rounds_succ]
        go_wp2_with fail
        go_roundw
        case rel => first | exact ⟨2, _, by omega, rfl, rfl, (by have h1 := HX.out; have h2 : Pt.bitN s 1 = 0 := HNI.out; show _ = 1 + (Pt.bitN s 0 : Int) + (Pt.bitN s 1 : Int); rw [h2]; omega), HR.out, HB.out⟩ | exact ⟨2, _, by omega, rfl, rfl, (by have h1 := HX.out; have h2 : Pt.bitN s 1 = 0 := HNI.out; show _ = 1 + (Pt.bitN s 0 : Int) + (Pt.bitN s 1 : Int); rw [h2]; omega), HR.out, below_drewN HB.out _⟩ | exact ⟨2, _, by omega, rfl, rfl, (by have h1 := HX.out; have h2 : Pt.bitN s 1 = 0 := HNI.out; show _ = 1 + (Pt.bitN s 0 : Int) + (Pt.bitN s 1 : Int); rw [h2]; omega), HR.out, below_drewN (below_drewN HB.out _) _⟩
        case measure => simp [intOf]
      | true =>
        rw [hb] at N2 hni
        have N3 := Lib.hid N2
        have HNI := Lib.hid hni
        clear N2 hb hni
        go_wp2_with fail
        refine (N3.out _).mono ?_
        rintro e w2 ⟨rfl, rfl⟩
        go_wp2_with fail
        refine wp_loop_rounds 2 ?_
        rw [rounds_succ]
        go_wp2_with fail
        go_quiet (fail)
        go_wp2_with fail
        rw [rounds_succ]
        go_wp2_with fail
        go_roundw
        case rel => first | exact ⟨2, _, by omega, rfl, rfl, (by have h1 := HX.out; have h2 : Pt.bitN s 1 = 1 := HNI.out; show _ = 1 + (Pt.bitN s 0 : Int) + (Pt.bitN s 1 : Int); rw [h2]; omega), HR.out, HB.out⟩ | exact ⟨2, _, by omega, rfl, rfl, (by have h1 := HX.out; have h2 : Pt.bitN s 1 = 1 := HNI.out; show _ = 1 + (Pt.bitN s 0 : Int) + (Pt.bitN s 1 : Int); rw [h2]; omega), HR.out, below_drewN HB.out _⟩ | exact ⟨2, _, by omega, rfl, rfl, (by have h1 := HX.out; have h2 : Pt.bitN s 1 = 1 := HNI.out; show _ = 1 + (Pt.bitN s 0 : Int) + (Pt.bitN s 1 : Int); rw [h2]; omega), HR.out, below_drewN (below_drewN HB.out _) _⟩
        case measure => simp [intOf]
    · have hx2 : x = 1 + (Pt.bitN s 0 : Int) + (Pt.bitN s 1 : Int) := hx
      have hbn : ∀ j, Pt.bitN s j = if Pt.bit s j then 1 else 0 := fun j => rfl
      have hn0 := hbn 0
      have hl0 : Pt.bitN s 0 ≤ 1 := by rw [hn0]; split <;> omega
      have hn1 := hbn 1
      have hl1 : Pt.bitN s 1 ≤ 1 := by rw [hn1]; split <;> omega
      have hni := hbn 2
      have hxb : 0 ≤ x ∧ x ≤ 10 := by omega
      have a0 := hR.cellx 0 _ rfl
      have a1 := hR.cellx 1 _ rfl
      have a2 := hR.cellx 2 _ rfl
      have HX := Lib.hid hx2
      have HR := Lib.hid hR
      have HB := Lib.hid hB
      have N := CN.out 2 (by decide)
      have N2 : ∀ W, Calls Tryd.prog 88 #[.int .i64 (s : Int), .int .i64 2] W fun e w' => e = .returned (.bool (Pt.bit s 2)) ∧ w' = W := N
      clear hx hx2 hR hB hi N hbn hn0 hl0 hn1 hl1
      cases hb : Pt.bit s 2 with
      | false =>
        rw [hb] at N2 hni
        have N3 := Lib.hid N2
        have HNI := Lib.hid hni
        clear N2 hb hni
        go_wp2_with fail
        refine (N3.out _).mono ?_
        rintro e w2 ⟨rfl, rfl⟩
        go_wp2_with fail
        refine wp_loop_rounds 3 ?_
        rw [rounds_succ]
        go_wp2_with fail
        go_quiet (fail)
        go_wp2_with fail
        rw [rounds_succ]
        go_wp2_with fail
        go_quiet (fail)
        go_wp2_with fail
        rw [rounds_succ]
        go_wp2_with fail
        go_roundw
        case rel => first | exact ⟨3, _, by omega, rfl, rfl, (by have h1 := HX.out; have h2 : Pt.bitN s 2 = 0 := HNI.out; show _ = 3 + (Pt.bitN s 0 : Int) + (Pt.bitN s 1 : Int) + (Pt.bitN s 2 : Int); rw [h2]; omega), HR.out, HB.out⟩ | exact ⟨3, _, by omega, rfl, rfl, (by have h1 := HX.out; have h2 : Pt.bitN s 2 = 0 := HNI.out; show _ = 3 + (Pt.bitN s 0 : Int) + (Pt.bitN s 1 : Int) + (Pt.bitN s 2 : Int); rw [h2]; omega), HR.out, below_drewN HB.out _⟩ | exact ⟨3, _, by omega, rfl, rfl, (by have h1 := HX.out; have h2 : Pt.bitN s 2 = 0 := HNI.out; show _ = 3 + (Pt.bitN s 0 : Int) + (Pt.bitN s 1 : Int) + (Pt.bitN s 2 : Int); rw [h2]; omega), HR.out, below_drewN (below_drewN HB.out _) _⟩
        case measure => simp [intOf]
      | true =>
        rw [hb] at N2 hni
        have N3 := Lib.hid N2
        have HNI := Lib.hid hni
        clear N2 hb hni
        go_wp2_with fail
        refine (N3.out _).mono ?_
        rintro e w2 ⟨rfl, rfl⟩
        go_wp2_with fail
        refine wp_loop_rounds 3 ?_
        rw [rounds_succ]
        go_wp2_with fail
        go_quiet (fail)
        go_wp2_with fail
        rw [rounds_succ]
        go_wp2_with fail
        go_quiet (fail)
        go_wp2_with fail
        rw [rounds_succ]
        go_wp2_with fail
        go_roundw
        case rel => first | exact ⟨3, _, by omega, rfl, rfl, (by have h1 := HX.out; have h2 : Pt.bitN s 2 = 1 := HNI.out; show _ = 3 + (Pt.bitN s 0 : Int) + (Pt.bitN s 1 : Int) + (Pt.bitN s 2 : Int); rw [h2]; omega), HR.out, HB.out⟩ | exact ⟨3, _, by omega, rfl, rfl, (by have h1 := HX.out; have h2 : Pt.bitN s 2 = 1 := HNI.out; show _ = 3 + (Pt.bitN s 0 : Int) + (Pt.bitN s 1 : Int) + (Pt.bitN s 2 : Int); rw [h2]; omega), HR.out, below_drewN HB.out _⟩ | exact ⟨3, _, by omega, rfl, rfl, (by have h1 := HX.out; have h2 : Pt.bitN s 2 = 1 := HNI.out; show _ = 3 + (Pt.bitN s 0 : Int) + (Pt.bitN s 1 : Int) + (Pt.bitN s 2 : Int); rw [h2]; omega), HR.out, below_drewN (below_drewN HB.out _) _⟩
        case measure => simp [intOf]
    · have hx2 : x = rcnt5 s 3 := hx
      have hxb : 0 ≤ x ∧ x ≤ 10 := by
        have hbn : ∀ j, Pt.bitN s j ≤ 1 := fun j => by unfold Pt.bitN; split <;> omega
        have := hbn 0; have := hbn 1; have := hbn 2; have h4 : x = 3 + (Pt.bitN s 0 : Int) + (Pt.bitN s 1 : Int) + (Pt.bitN s 2 : Int) := hx
        omega
      have HX := Lib.hid hx2
      have HB := Lib.hid hB
      clear hx hx2 hR hB hi
      go_wp2_with fail
      go_ret
      exact ⟨ret_bool (by rw [HM.out, ← HX.out]), HB.out⟩
theorem rmirror_any (s : Nat) (w : World) (hs : s < 48) :
    Calls Tryd.prog 58 #[.int .i64 (s : Int)] w fun e w' => e = .returned (.bool (Pt.mirror s)) ∧ Below w.heap.size w w' := by
  have hk : (s : Int) / 8 = 0 ∨ (s : Int) / 8 = 1 ∨ (s : Int) / 8 = 2 ∨ (s : Int) / 8 = 3 ∨ (s : Int) / 8 = 4 ∨ (s : Int) / 8 = 5 := by omega
  rcases hk with hk | hk | hk | hk | hk | hk
  · exact rmirror_o0 s w hs hk
  · exact rmirror_o1 s w hs hk
  · exact rmirror_o2 s w hs hk
  · exact rmirror_o3 s w hs hk
  · exact rmirror_o4 s w hs hk
  · exact rmirror_o5 s w hs hk

end Go.Proofs.YthadlgjobjnhcaaDoor
