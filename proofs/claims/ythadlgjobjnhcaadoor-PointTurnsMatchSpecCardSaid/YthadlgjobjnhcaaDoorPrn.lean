/-
  Contracts of the specification: names.
-/
import Derived.Test.YthadlgjobjnhcaaDoorPtz
import Derived.Test.YthadlgjobjnhcaaDoorPra
import Derived.Test.YthadlgjobjnhcaaDoorRoz
import Derived.Handy
namespace Go.Proofs.YthadlgjobjnhcaaDoor
open Go.RowKit
set_option linter.unusedVariables false
set_option maxRecDepth 1000000 in
set_option maxHeartbeats 4000000 in
theorem rname_o0 (s : Nat) (w : World) (hs : s < 48) (hk : (s : Int) / 8 = 0) :
    Calls Tryd.prog 60 #[.int .i64 (s : Int)] w fun e w' => e = .returned (.string (bstr (Pt.name s))) ∧ Below w.heap.size w w' := by
  have CS : Hid (∀ W, Calls Tryd.prog 81 #[.int .i64 (s : Int)] W fun e w' => e = .returned (.bool true) ∧ Below W.heap.size W w') := Lib.hid (fun W => by
    have := is_any (s : Int) W
    rwa [decide_eq_true (show 0 ≤ (s : Int) ∧ (s : Int) < 48 by omega)] at this)
  have CN : Hid (∀ i : Nat, i < 3 → ∀ W, Calls Tryd.prog 88 #[.int .i64 (s : Int), .int .i64 (i : Int)] W fun e w' => e = .returned (.bool (Pt.bit s i)) ∧ w' = W) := Lib.hid (fun i hi W => rnegates_same s i W hs hi)
  have HK := Lib.hid (show s / 8 = 0 by omega)
  have HKI := Lib.hid hk
  have G0 := Lib.hid (Below.refl w.heap.size w)
  go_enter Tryd.func60, Tryd.ntmps60
  go_upto_region 1 with fail
  refine wpG_region ?_
  refine wpG_tk (some 9) (v := .int .i64 (s : Int)) rfl (.val (by rfl) (fun _ _ => rfl)) ?_
  simp only [Act.put, List.setIfInBounds_toArray, List.set_cons_zero, List.set_cons_succ]
  refine wpG_tk (some 10) (v := .bool true) rfl (.call (f := 81) (args := #[.int .i64 (s : Int)]) (by rfl) (fun W => by go_simp) (fun W hg => CS.out W)) ?_
  simp only [Act.put, List.setIfInBounds_toArray, List.set_cons_zero, List.set_cons_succ]
  refine wpG_tk (some 3) (v := .bool true) rfl (.val (by rfl) (fun _ _ => rfl)) ?_
  simp only [Act.put, List.setIfInBounds_toArray, List.set_cons_zero, List.set_cons_succ]
  refine wpG_done (fun V1 hv2 => ?_)
  have GC3 := Lib.hid hv2
  clear hv2
  go_upto_region 2 with fail
  refine wpG_region ?_
  refine wpG_tk (some 11) (v := .bool true) rfl (.val (by rfl) (fun _ _ => rfl)) ?_
  simp only [Act.put, List.setIfInBounds_toArray, List.set_cons_zero, List.set_cons_succ]
  refine wpG_tk (some 12) (v := .bool false) rfl (.val (by rfl) (fun W hg => by go_simp)) ?_
  simp only [Act.put, List.setIfInBounds_toArray, List.set_cons_zero, List.set_cons_succ]
  refine wpG_done (fun V4 hv5 => ?_)
  have GC6 := Lib.hid (GC3.out.trans hv5)
  clear hv5
  go_upto_region 4 with fail
  refine wpG_region ?_
  refine wpG_tk (some 13) (v := .int .i64 (s : Int)) rfl (.val (by rfl) (fun _ _ => rfl)) ?_
  simp only [Act.put, List.setIfInBounds_toArray, List.set_cons_zero, List.set_cons_succ]
  refine wpG_tk (some 14) (v := .int .i64 0) rfl (.val (by rfl) (fun W hg => by have q := HKI.out; go_simp <;> rfl)) ?_
  simp only [Act.put, List.setIfInBounds_toArray, List.set_cons_zero, List.set_cons_succ]
  refine wpG_tk (some 15) (v := .agg #[.int .i64 0, .int .i64 1, .int .i64 2]) rfl (.call (f := 87) (args := #[.int .i64 0]) (by rfl) (fun W => by go_simp) (fun W hg => (by have c := order_any 0 W (by decide); exact c))) ?_
  simp only [Act.put, List.setIfInBounds_toArray, List.set_cons_zero, List.set_cons_succ]
  refine wpG_val (some 4) rfl (by rfl) (fun W7 hg8 => ⟨.pointer (some ⟨W7.heap.size, 0, none⟩), W7.alloc (.cells #[.int .i64 0, .int .i64 0, .int .i64 0] 64), by (go_simp <;> rfl), ?_⟩)
  simp only [Act.put, List.setIfInBounds_toArray, List.set_cons_zero, List.set_cons_succ]
  refine wpG_store (none) rfl (by rfl) (fun W9 hg10 => ⟨_, run_store_mid 64 (.tmp 4) (.tmp 15) rfl (W7.heap.size) 0 #[.int .i64 0, .int .i64 1, .int .i64 2] rfl rfl (Row.room hg10 3 rfl) (by kernel_rfl) (by kernel_rfl), ?_⟩)
  simp only [Act.put]
  refine wpG_done (fun V11 hv12 => ?_)
  have l14 : w.heap.size ≤ W7.heap.size := (Gr.to G0.out (GC6.out.trans hg8)).size
  have R15 := Lib.hid (Row.made (zs := [.int .i64 0, .int .i64 0, .int .i64 0]) (ds := [.int .i64 0, .int .i64 1, .int .i64 2]) rfl hg10 hv12)
  have G13 := Lib.hid (Gr.to (Gr.to G0.out (GC6.out.trans hg8)) (Gr.past hg10 hv12))
  clear hg10 hv12 
  go_upto_region 5 with fail
  refine wpG_region ?_
  refine wpG_tk (some 5) (v := .string (⟨#[]⟩)) rfl (.val (by rfl) (fun _ _ => rfl)) ?_
  simp only [Act.put, List.setIfInBounds_toArray, List.set_cons_zero, List.set_cons_succ]
  refine wpG_done (fun V16 hv17 => ?_)
  have GC18 := Lib.hid hv17
  clear hv17
  go_upto_region 6 with fail
  refine wpG_region ?_
  refine wpG_tk (some 6) (v := .int .i64 0) rfl (.val (by rfl) (fun _ _ => rfl)) ?_
  simp only [Act.put, List.setIfInBounds_toArray, List.set_cons_zero, List.set_cons_succ]
  refine wpG_done (fun V19 hv20 => ?_)
  have GC21 := Lib.hid (GC18.out.trans hv20)
  clear hv20
  have TB := Lib.hid (R15.out.below GC21.out)
  have TG := Lib.hid (Gr.to G13.out GC21.out)
  go_wp2_with fail
  go_loopw [5, 6] (fun n c wr => ∃ (i : Nat) (z : ByteArray), i ≤ 3 ∧ n = .string z ∧ c = .int .i64 (i : Int) ∧ z = bstr ((Pt.name s).take (2 * i)) ∧ Row (W7.heap.size) [.int .i64 0, .int .i64 1, .int .i64 2] wr ∧ Below w.heap.size w wr) (fun _ c _ => 3 - (intOf c).toNat)
  case atStart => exact ⟨0, _, by omega, rfl, rfl, rfl, TB.out, TG.out⟩
  case round =>
    obtain ⟨i, z, hi, rfl, rfl, hz, hR, hB⟩ := hrel
    have hc : i = 0 ∨ i = 1 ∨ i = 2 ∨ i = 3 := by omega
    rcases hc with rfl | rfl | rfl | rfl
    · have hzs : z.size = 0 := by rw [hz, bstr_size, List.length_take, name_len]; omega
      have a0 := hR.cellx 0 _ rfl
      have HZ := Lib.hid hz
      have HR := Lib.hid hR
      have HB := Lib.hid hB
      have hch : Pt.chr (Pt.axis (s / 8) 0) = 120 := by rw [HK.out]; rfl
      have N := CN.out 0 (by decide)
      have N2 : ∀ W, Calls Tryd.prog 88 #[.int .i64 (s : Int), .int .i64 0] W fun e w' => e = .returned (.bool (Pt.bit s 0)) ∧ w' = W := N
      clear hz hR hB hi N
      cases hb : Pt.bit s 0 with
      | false =>
        rw [hb] at N2
        have N3 := Lib.hid N2
        have hsg : Pt.sgn s 0 = 43 := by unfold Pt.sgn; rw [hb]; rfl
        have HT2 : Hid ((bstr ((Pt.name s).take 0) ++ bstr [43]) ++ bstr [120] = bstr ((Pt.name s).take 2)) := Lib.hid (by rw [bcat, bcat, ← hsg, ← hch]; rfl)
        clear N2 hb hsg hch
        go_wp2_with fail
        refine (N3.out _).mono ?_
        rintro e w2 ⟨rfl, rfl⟩
        go_wp2_with fail
        go_quiet (fail)
        go_wp2_with fail
        go_roundw
        case rel => exact ⟨1, _, by omega, rfl, rfl, by rw [HZ.out]; exact HT2.out, HR.out, below_drewN HB.out _⟩
        case measure => simp [intOf]
      | true =>
        rw [hb] at N2
        have N3 := Lib.hid N2
        have hsg : Pt.sgn s 0 = 45 := by unfold Pt.sgn; rw [hb]; rfl
        have HT2 : Hid ((bstr ((Pt.name s).take 0) ++ bstr [45]) ++ bstr [120] = bstr ((Pt.name s).take 2)) := Lib.hid (by rw [bcat, bcat, ← hsg, ← hch]; rfl)
        clear N2 hb hsg hch
        go_wp2_with fail
        refine (N3.out _).mono ?_
        rintro e w2 ⟨rfl, rfl⟩
        go_wp2_with fail
        go_quiet (fail)
        go_wp2_with fail
        go_roundw
        case rel => exact ⟨1, _, by omega, rfl, rfl, by rw [HZ.out]; exact HT2.out, HR.out, below_drewN HB.out _⟩
        case measure => simp [intOf]
    · have hzs : z.size = 2 := by rw [hz, bstr_size, List.length_take, name_len]; omega
      have a1 := hR.cellx 1 _ rfl
      have HZ := Lib.hid hz
      have HR := Lib.hid hR
      have HB := Lib.hid hB
      have hch : Pt.chr (Pt.axis (s / 8) 1) = 121 := by rw [HK.out]; rfl
      have N := CN.out 1 (by decide)
      have N2 : ∀ W, Calls Tryd.prog 88 #[.int .i64 (s : Int), .int .i64 1] W fun e w' => e = .returned (.bool (Pt.bit s 1)) ∧ w' = W := N
      clear hz hR hB hi N
      cases hb : Pt.bit s 1 with
      | false =>
        rw [hb] at N2
        have N3 := Lib.hid N2
        have hsg : Pt.sgn s 1 = 43 := by unfold Pt.sgn; rw [hb]; rfl
        have HT2 : Hid ((bstr ((Pt.name s).take 2) ++ bstr [43]) ++ bstr [121] = bstr ((Pt.name s).take 4)) := Lib.hid (by rw [bcat, bcat, ← hsg, ← hch]; rfl)
        clear N2 hb hsg hch
        go_wp2_with fail
        refine (N3.out _).mono ?_
        rintro e w2 ⟨rfl, rfl⟩
        go_wp2_with fail
        go_quiet (fail)
        go_wp2_with fail
        go_roundw
        case rel => exact ⟨2, _, by omega, rfl, rfl, by rw [HZ.out]; exact HT2.out, HR.out, below_drewN HB.out _⟩
        case measure => simp [intOf]
      | true =>
        rw [hb] at N2
        have N3 := Lib.hid N2
        have hsg : Pt.sgn s 1 = 45 := by unfold Pt.sgn; rw [hb]; rfl
        have HT2 : Hid ((bstr ((Pt.name s).take 2) ++ bstr [45]) ++ bstr [121] = bstr ((Pt.name s).take 4)) := Lib.hid (by rw [bcat, bcat, ← hsg, ← hch]; rfl)
        clear N2 hb hsg hch
        go_wp2_with fail
        refine (N3.out _).mono ?_
        rintro e w2 ⟨rfl, rfl⟩
        go_wp2_with fail
        go_quiet (fail)
        go_wp2_with fail
        go_roundw
        case rel => exact ⟨2, _, by omega, rfl, rfl, by rw [HZ.out]; exact HT2.out, HR.out, below_drewN HB.out _⟩
        case measure => simp [intOf]
    · have hzs : z.size = 4 := by rw [hz, bstr_size, List.length_take, name_len]; omega
      have a2 := hR.cellx 2 _ rfl
      have HZ := Lib.hid hz
      have HR := Lib.hid hR
      have HB := Lib.hid hB
      have hch : Pt.chr (Pt.axis (s / 8) 2) = 122 := by rw [HK.out]; rfl
      have N := CN.out 2 (by decide)
      have N2 : ∀ W, Calls Tryd.prog 88 #[.int .i64 (s : Int), .int .i64 2] W fun e w' => e = .returned (.bool (Pt.bit s 2)) ∧ w' = W := N
      clear hz hR hB hi N
      cases hb : Pt.bit s 2 with
      | false =>
        rw [hb] at N2
        have N3 := Lib.hid N2
        have hsg : Pt.sgn s 2 = 43 := by unfold Pt.sgn; rw [hb]; rfl
        have HT2 : Hid ((bstr ((Pt.name s).take 4) ++ bstr [43]) ++ bstr [122] = bstr ((Pt.name s).take 6)) := Lib.hid (by rw [bcat, bcat, ← hsg, ← hch]; rfl)
        clear N2 hb hsg hch
        go_wp2_with fail
        refine (N3.out _).mono ?_
        rintro e w2 ⟨rfl, rfl⟩
        go_wp2_with fail
        go_quiet (fail)
        go_wp2_with fail
        go_roundw
        case rel => exact ⟨3, _, by omega, rfl, rfl, by rw [HZ.out]; exact HT2.out, HR.out, below_drewN HB.out _⟩
        case measure => simp [intOf]
      | true =>
        rw [hb] at N2
        have N3 := Lib.hid N2
        have hsg : Pt.sgn s 2 = 45 := by unfold Pt.sgn; rw [hb]; rfl
        have HT2 : Hid ((bstr ((Pt.name s).take 4) ++ bstr [45]) ++ bstr [122] = bstr ((Pt.name s).take 6)) := Lib.hid (by rw [bcat, bcat, ← hsg, ← hch]; rfl)
        clear N2 hb hsg hch
        go_wp2_with fail
        refine (N3.out _).mono ?_
        rintro e w2 ⟨rfl, rfl⟩
        go_wp2_with fail
        go_quiet (fail)
        go_wp2_with fail
        go_roundw
        case rel => exact ⟨3, _, by omega, rfl, rfl, by rw [HZ.out]; exact HT2.out, HR.out, below_drewN HB.out _⟩
        case measure => simp [intOf]
    · have HZ := Lib.hid hz
      have HB := Lib.hid hB
      clear hz hR hB hi
      go_wp2_with fail
      go_ret
      exact ⟨by rw [HZ.out]; rfl, HB.out⟩
set_option maxRecDepth 1000000 in
set_option maxHeartbeats 4000000 in
theorem rname_o1 (s : Nat) (w : World) (hs : s < 48) (hk : (s : Int) / 8 = 1) :
    Calls Tryd.prog 60 #[.int .i64 (s : Int)] w fun e w' => e = .returned (.string (bstr (Pt.name s))) ∧ Below w.heap.size w w' := by
  have CS : Hid (∀ W, Calls Tryd.prog 81 #[.int .i64 (s : Int)] W fun e w' => e = .returned (.bool true) ∧ Below W.heap.size W w') := Lib.hid (fun W => by
    have := is_any (s : Int) W
    rwa [decide_eq_true (show 0 ≤ (s : Int) ∧ (s : Int) < 48 by omega)] at this)
  have CN : Hid (∀ i : Nat, i < 3 → ∀ W, Calls Tryd.prog 88 #[.int .i64 (s : Int), .int .i64 (i : Int)] W fun e w' => e = .returned (.bool (Pt.bit s i)) ∧ w' = W) := Lib.hid (fun i hi W => rnegates_same s i W hs hi)
  have HK := Lib.hid (show s / 8 = 1 by omega)
  have HKI := Lib.hid hk
  have G0 := Lib.hid (Below.refl w.heap.size w)
  go_enter Tryd.func60, Tryd.ntmps60
  go_upto_region 1 with fail
  refine wpG_region ?_
  refine wpG_tk (some 9) (v := .int .i64 (s : Int)) rfl (.val (by rfl) (fun _ _ => rfl)) ?_
  simp only [Act.put, List.setIfInBounds_toArray, List.set_cons_zero, List.set_cons_succ]
  refine wpG_tk (some 10) (v := .bool true) rfl (.call (f := 81) (args := #[.int .i64 (s : Int)]) (by rfl) (fun W => by go_simp) (fun W hg => CS.out W)) ?_
  simp only [Act.put, List.setIfInBounds_toArray, List.set_cons_zero, List.set_cons_succ]
  refine wpG_tk (some 3) (v := .bool true) rfl (.val (by rfl) (fun _ _ => rfl)) ?_
  simp only [Act.put, List.setIfInBounds_toArray, List.set_cons_zero, List.set_cons_succ]
  refine wpG_done (fun V1 hv2 => ?_)
  have GC3 := Lib.hid hv2
  clear hv2
  go_upto_region 2 with fail
  refine wpG_region ?_
  refine wpG_tk (some 11) (v := .bool true) rfl (.val (by rfl) (fun _ _ => rfl)) ?_
  simp only [Act.put, List.setIfInBounds_toArray, List.set_cons_zero, List.set_cons_succ]
  refine wpG_tk (some 12) (v := .bool false) rfl (.val (by rfl) (fun W hg => by go_simp)) ?_
  simp only [Act.put, List.setIfInBounds_toArray, List.set_cons_zero, List.set_cons_succ]
  refine wpG_done (fun V4 hv5 => ?_)
  have GC6 := Lib.hid (GC3.out.trans hv5)
  clear hv5
  go_upto_region 4 with fail
  refine wpG_region ?_
  refine wpG_tk (some 13) (v := .int .i64 (s : Int)) rfl (.val (by rfl) (fun _ _ => rfl)) ?_
  simp only [Act.put, List.setIfInBounds_toArray, List.set_cons_zero, List.set_cons_succ]
  refine wpG_tk (some 14) (v := .int .i64 1) rfl (.val (by rfl) (fun W hg => by have q := HKI.out; go_simp <;> rfl)) ?_
  simp only [Act.put, List.setIfInBounds_toArray, List.set_cons_zero, List.set_cons_succ]
  refine wpG_tk (some 15) (v := .agg #[.int .i64 0, .int .i64 2, .int .i64 1]) rfl (.call (f := 87) (args := #[.int .i64 1]) (by rfl) (fun W => by go_simp) (fun W hg => (by have c := order_any 1 W (by decide); exact c))) ?_
  simp only [Act.put, List.setIfInBounds_toArray, List.set_cons_zero, List.set_cons_succ]
  refine wpG_val (some 4) rfl (by rfl) (fun W7 hg8 => ⟨.pointer (some ⟨W7.heap.size, 0, none⟩), W7.alloc (.cells #[.int .i64 0, .int .i64 0, .int .i64 0] 64), by (go_simp <;> rfl), ?_⟩)
  simp only [Act.put, List.setIfInBounds_toArray, List.set_cons_zero, List.set_cons_succ]
  refine wpG_store (none) rfl (by rfl) (fun W9 hg10 => ⟨_, run_store_mid 64 (.tmp 4) (.tmp 15) rfl (W7.heap.size) 0 #[.int .i64 0, .int .i64 2, .int .i64 1] rfl rfl (Row.room hg10 3 rfl) (by kernel_rfl) (by kernel_rfl), ?_⟩)
  simp only [Act.put]
  refine wpG_done (fun V11 hv12 => ?_)
  have l14 : w.heap.size ≤ W7.heap.size := (Gr.to G0.out (GC6.out.trans hg8)).size
  have R15 := Lib.hid (Row.made (zs := [.int .i64 0, .int .i64 0, .int .i64 0]) (ds := [.int .i64 0, .int .i64 2, .int .i64 1]) rfl hg10 hv12)
  have G13 := Lib.hid (Gr.to (Gr.to G0.out (GC6.out.trans hg8)) (Gr.past hg10 hv12))
  clear hg10 hv12 
  go_upto_region 5 with fail
  refine wpG_region ?_
  refine wpG_tk (some 5) (v := .string (⟨#[]⟩)) rfl (.val (by rfl) (fun _ _ => rfl)) ?_
  simp only [Act.put, List.setIfInBounds_toArray, List.set_cons_zero, List.set_cons_succ]
  refine wpG_done (fun V16 hv17 => ?_)
  have GC18 := Lib.hid hv17
  clear hv17
  go_upto_region 6 with fail
  refine wpG_region ?_
  refine wpG_tk (some 6) (v := .int .i64 0) rfl (.val (by rfl) (fun _ _ => rfl)) ?_
  simp only [Act.put, List.setIfInBounds_toArray, List.set_cons_zero, List.set_cons_succ]
  refine wpG_done (fun V19 hv20 => ?_)
  have GC21 := Lib.hid (GC18.out.trans hv20)
  clear hv20
  have TB := Lib.hid (R15.out.below GC21.out)
  have TG := Lib.hid (Gr.to G13.out GC21.out)
  go_wp2_with fail
  go_loopw [5, 6] (fun n c wr => ∃ (i : Nat) (z : ByteArray), i ≤ 3 ∧ n = .string z ∧ c = .int .i64 (i : Int) ∧ z = bstr ((Pt.name s).take (2 * i)) ∧ Row (W7.heap.size) [.int .i64 0, .int .i64 2, .int .i64 1] wr ∧ Below w.heap.size w wr) (fun _ c _ => 3 - (intOf c).toNat)
  case atStart => exact ⟨0, _, by omega, rfl, rfl, rfl, TB.out, TG.out⟩
  case round =>
    obtain ⟨i, z, hi, rfl, rfl, hz, hR, hB⟩ := hrel
    have hc : i = 0 ∨ i = 1 ∨ i = 2 ∨ i = 3 := by omega
    rcases hc with rfl | rfl | rfl | rfl
    · have hzs : z.size = 0 := by rw [hz, bstr_size, List.length_take, name_len]; omega
      have a0 := hR.cellx 0 _ rfl
      have HZ := Lib.hid hz
      have HR := Lib.hid hR
      have HB := Lib.hid hB
      have hch : Pt.chr (Pt.axis (s / 8) 0) = 120 := by rw [HK.out]; rfl
      have N := CN.out 0 (by decide)
      have N2 : ∀ W, Calls Tryd.prog 88 #[.int .i64 (s : Int), .int .i64 0] W fun e w' => e = .returned (.bool (Pt.bit s 0)) ∧ w' = W := N
      clear hz hR hB hi N
      cases hb : Pt.bit s 0 with
      | false =>
        rw [hb] at N2
        have N3 := Lib.hid N2
        have hsg : Pt.sgn s 0 = 43 := by unfold Pt.sgn; rw [hb]; rfl
        have HT2 : Hid ((bstr ((Pt.name s).take 0) ++ bstr [43]) ++ bstr [120] = bstr ((Pt.name s).take 2)) := Lib.hid (by rw [bcat, bcat, ← hsg, ← hch]; rfl)
        clear N2 hb hsg hch
        go_wp2_with fail
        refine (N3.out _).mono ?_
        rintro e w2 ⟨rfl, rfl⟩
        go_wp2_with fail
        go_quiet (fail)
        go_wp2_with fail
        go_roundw
        case rel => exact ⟨1, _, by omega, rfl, rfl, by rw [HZ.out]; exact HT2.out, HR.out, below_drewN HB.out _⟩
        case measure => simp [intOf]
      | true =>
        rw [hb] at N2
        have N3 := Lib.hid N2
        have hsg : Pt.sgn s 0 = 45 := by unfold Pt.sgn; rw [hb]; rfl
        have HT2 : Hid ((bstr ((Pt.name s).take 0) ++ bstr [45]) ++ bstr [120] = bstr ((Pt.name s).take 2)) := Lib.hid (by rw [bcat, bcat, ← hsg, ← hch]; rfl)
        clear N2 hb hsg hch
        go_wp2_with fail
        refine (N3.out _).mono ?_
        rintro e w2 ⟨rfl, rfl⟩
        go_wp2_with fail
        go_quiet (fail)
        go_wp2_with fail
        go_roundw
        case rel => exact ⟨1, _, by omega, rfl, rfl, by rw [HZ.out]; exact HT2.out, HR.out, below_drewN HB.out _⟩
        case measure => simp [intOf]
    · have hzs : z.size = 2 := by rw [hz, bstr_size, List.length_take, name_len]; omega
      have a1 := hR.cellx 1 _ rfl
      have HZ := Lib.hid hz
      have HR := Lib.hid hR
      have HB := Lib.hid hB
      have hch : Pt.chr (Pt.axis (s / 8) 1) = 122 := by rw [HK.out]; rfl
      have N := CN.out 1 (by decide)
      have N2 : ∀ W, Calls Tryd.prog 88 #[.int .i64 (s : Int), .int .i64 1] W fun e w' => e = .returned (.bool (Pt.bit s 1)) ∧ w' = W := N
      clear hz hR hB hi N
      cases hb : Pt.bit s 1 with
      | false =>
        rw [hb] at N2
        have N3 := Lib.hid N2
        have hsg : Pt.sgn s 1 = 43 := by unfold Pt.sgn; rw [hb]; rfl
        have HT2 : Hid ((bstr ((Pt.name s).take 2) ++ bstr [43]) ++ bstr [122] = bstr ((Pt.name s).take 4)) := Lib.hid (by rw [bcat, bcat, ← hsg, ← hch]; rfl)
        clear N2 hb hsg hch
        go_wp2_with fail
        refine (N3.out _).mono ?_
        rintro e w2 ⟨rfl, rfl⟩
        go_wp2_with fail
        go_quiet (fail)
        go_wp2_with fail
        go_roundw
        case rel => exact ⟨2, _, by omega, rfl, rfl, by rw [HZ.out]; exact HT2.out, HR.out, below_drewN HB.out _⟩
        case measure => simp [intOf]
      | true =>
        rw [hb] at N2
        have N3 := Lib.hid N2
        have hsg : Pt.sgn s 1 = 45 := by unfold Pt.sgn; rw [hb]; rfl
        have HT2 : Hid ((bstr ((Pt.name s).take 2) ++ bstr [45]) ++ bstr [122] = bstr ((Pt.name s).take 4)) := Lib.hid (by rw [bcat, bcat, ← hsg, ← hch]; rfl)
        clear N2 hb hsg hch
        go_wp2_with fail
        refine (N3.out _).mono ?_
        rintro e w2 ⟨rfl, rfl⟩
        go_wp2_with fail
        go_quiet (fail)
        go_wp2_with fail
        go_roundw
        case rel => exact ⟨2, _, by omega, rfl, rfl, by rw [HZ.out]; exact HT2.out, HR.out, below_drewN HB.out _⟩
        case measure => simp [intOf]
    · have hzs : z.size = 4 := by rw [hz, bstr_size, List.length_take, name_len]; omega
      have a2 := hR.cellx 2 _ rfl
      have HZ := Lib.hid hz
      have HR := Lib.hid hR
      have HB := Lib.hid hB
      have hch : Pt.chr (Pt.axis (s / 8) 2) = 121 := by rw [HK.out]; rfl
      have N := CN.out 2 (by decide)
      have N2 : ∀ W, Calls Tryd.prog 88 #[.int .i64 (s : Int), .int .i64 2] W fun e w' => e = .returned (.bool (Pt.bit s 2)) ∧ w' = W := N
      clear hz hR hB hi N
      cases hb : Pt.bit s 2 with
      | false =>
        rw [hb] at N2
        have N3 := Lib.hid N2
        have hsg : Pt.sgn s 2 = 43 := by unfold Pt.sgn; rw [hb]; rfl
        have HT2 : Hid ((bstr ((Pt.name s).take 4) ++ bstr [43]) ++ bstr [121] = bstr ((Pt.name s).take 6)) := Lib.hid (by rw [bcat, bcat, ← hsg, ← hch]; rfl)
        clear N2 hb hsg hch
        go_wp2_with fail
        refine (N3.out _).mono ?_
        rintro e w2 ⟨rfl, rfl⟩
        go_wp2_with fail
        go_quiet (fail)
        go_wp2_with fail
        go_roundw
        case rel => exact ⟨3, _, by omega, rfl, rfl, by rw [HZ.out]; exact HT2.out, HR.out, below_drewN HB.out _⟩
        case measure => simp [intOf]
      | true =>
        rw [hb] at N2
        have N3 := Lib.hid N2
        have hsg : Pt.sgn s 2 = 45 := by unfold Pt.sgn; rw [hb]; rfl
        have HT2 : Hid ((bstr ((Pt.name s).take 4) ++ bstr [45]) ++ bstr [121] = bstr ((Pt.name s).take 6)) := Lib.hid (by rw [bcat, bcat, ← hsg, ← hch]; rfl)
        clear N2 hb hsg hch
        go_wp2_with fail
        refine (N3.out _).mono ?_
        rintro e w2 ⟨rfl, rfl⟩
        go_wp2_with fail
        go_quiet (fail)
        go_wp2_with fail
        go_roundw
        case rel => exact ⟨3, _, by omega, rfl, rfl, by rw [HZ.out]; exact HT2.out, HR.out, below_drewN HB.out _⟩
        case measure => simp [intOf]
    · have HZ := Lib.hid hz
      have HB := Lib.hid hB
      clear hz hR hB hi
      go_wp2_with fail
      go_ret
      exact ⟨by rw [HZ.out]; rfl, HB.out⟩
set_option maxRecDepth 1000000 in
set_option maxHeartbeats 4000000 in
theorem rname_o2 (s : Nat) (w : World) (hs : s < 48) (hk : (s : Int) / 8 = 2) :
    Calls Tryd.prog 60 #[.int .i64 (s : Int)] w fun e w' => e = .returned (.string (bstr (Pt.name s))) ∧ Below w.heap.size w w' := by
  have CS : Hid (∀ W, Calls Tryd.prog 81 #[.int .i64 (s : Int)] W fun e w' => e = .returned (.bool true) ∧ Below W.heap.size W w') := Lib.hid (fun W => by
    have := is_any (s : Int) W
    rwa [decide_eq_true (show 0 ≤ (s : Int) ∧ (s : Int) < 48 by omega)] at this)
  have CN : Hid (∀ i : Nat, i < 3 → ∀ W, Calls Tryd.prog 88 #[.int .i64 (s : Int), .int .i64 (i : Int)] W fun e w' => e = .returned (.bool (Pt.bit s i)) ∧ w' = W) := Lib.hid (fun i hi W => rnegates_same s i W hs hi)
  have HK := Lib.hid (show s / 8 = 2 by omega)
  have HKI := Lib.hid hk
  have G0 := Lib.hid (Below.refl w.heap.size w)
  go_enter Tryd.func60, Tryd.ntmps60
  go_upto_region 1 with fail
  refine wpG_region ?_
  refine wpG_tk (some 9) (v := .int .i64 (s : Int)) rfl (.val (by rfl) (fun _ _ => rfl)) ?_
  simp only [Act.put, List.setIfInBounds_toArray, List.set_cons_zero, List.set_cons_succ]
  refine wpG_tk (some 10) (v := .bool true) rfl (.call (f := 81) (args := #[.int .i64 (s : Int)]) (by rfl) (fun W => by go_simp) (fun W hg => CS.out W)) ?_
  simp only [Act.put, List.setIfInBounds_toArray, List.set_cons_zero, List.set_cons_succ]
  refine wpG_tk (some 3) (v := .bool true) rfl (.val (by rfl) (fun _ _ => rfl)) ?_
  simp only [Act.put, List.setIfInBounds_toArray, List.set_cons_zero, List.set_cons_succ]
  refine wpG_done (fun V1 hv2 => ?_)
  have GC3 := Lib.hid hv2
  clear hv2
  go_upto_region 2 with fail
  refine wpG_region ?_
  refine wpG_tk (some 11) (v := .bool true) rfl (.val (by rfl) (fun _ _ => rfl)) ?_
  simp only [Act.put, List.setIfInBounds_toArray, List.set_cons_zero, List.set_cons_succ]
  refine wpG_tk (some 12) (v := .bool false) rfl (.val (by rfl) (fun W hg => by go_simp)) ?_
  simp only [Act.put, List.setIfInBounds_toArray, List.set_cons_zero, List.set_cons_succ]
  refine wpG_done (fun V4 hv5 => ?_)
  have GC6 := Lib.hid (GC3.out.trans hv5)
  clear hv5
  go_upto_region 4 with fail
  refine wpG_region ?_
  refine wpG_tk (some 13) (v := .int .i64 (s : Int)) rfl (.val (by rfl) (fun _ _ => rfl)) ?_
  simp only [Act.put, List.setIfInBounds_toArray, List.set_cons_zero, List.set_cons_succ]
  refine wpG_tk (some 14) (v := .int .i64 2) rfl (.val (by rfl) (fun W hg => by have q := HKI.out; go_simp <;> rfl)) ?_
  simp only [Act.put, List.setIfInBounds_toArray, List.set_cons_zero, List.set_cons_succ]
  refine wpG_tk (some 15) (v := .agg #[.int .i64 1, .int .i64 0, .int .i64 2]) rfl (.call (f := 87) (args := #[.int .i64 2]) (by rfl) (fun W => by go_simp) (fun W hg => (by have c := order_any 2 W (by decide); exact c))) ?_
  simp only [Act.put, List.setIfInBounds_toArray, List.set_cons_zero, List.set_cons_succ]
  refine wpG_val (some 4) rfl (by rfl) (fun W7 hg8 => ⟨.pointer (some ⟨W7.heap.size, 0, none⟩), W7.alloc (.cells #[.int .i64 0, .int .i64 0, .int .i64 0] 64), by (go_simp <;> rfl), ?_⟩)
  simp only [Act.put, List.setIfInBounds_toArray, List.set_cons_zero, List.set_cons_succ]
  refine wpG_store (none) rfl (by rfl) (fun W9 hg10 => ⟨_, run_store_mid 64 (.tmp 4) (.tmp 15) rfl (W7.heap.size) 0 #[.int .i64 1, .int .i64 0, .int .i64 2] rfl rfl (Row.room hg10 3 rfl) (by kernel_rfl) (by kernel_rfl), ?_⟩)
  simp only [Act.put]
  refine wpG_done (fun V11 hv12 => ?_)
  have l14 : w.heap.size ≤ W7.heap.size := (Gr.to G0.out (GC6.out.trans hg8)).size
  have R15 := Lib.hid (Row.made (zs := [.int .i64 0, .int .i64 0, .int .i64 0]) (ds := [.int .i64 1, .int .i64 0, .int .i64 2]) rfl hg10 hv12)
  have G13 := Lib.hid (Gr.to (Gr.to G0.out (GC6.out.trans hg8)) (Gr.past hg10 hv12))
  clear hg10 hv12 
  go_upto_region 5 with fail
  refine wpG_region ?_
  refine wpG_tk (some 5) (v := .string (⟨#[]⟩)) rfl (.val (by rfl) (fun _ _ => rfl)) ?_
  simp only [Act.put, List.setIfInBounds_toArray, List.set_cons_zero, List.set_cons_succ]
  refine wpG_done (fun V16 hv17 => ?_)
  have GC18 := Lib.hid hv17
  clear hv17
  go_upto_region 6 with fail
  refine wpG_region ?_
  refine wpG_tk (some 6) (v := .int .i64 0) rfl (.val (by rfl) (fun _ _ => rfl)) ?_
  simp only [Act.put, List.setIfInBounds_toArray, List.set_cons_zero, List.set_cons_succ]
  refine wpG_done (fun V19 hv20 => ?_)
  have GC21 := Lib.hid (GC18.out.trans hv20)
  clear hv20
  have TB := Lib.hid (R15.out.below GC21.out)
  have TG := Lib.hid (Gr.to G13.out GC21.out)
  go_wp2_with fail
  go_loopw [5, 6] (fun n c wr => ∃ (i : Nat) (z : ByteArray), i ≤ 3 ∧ n = .string z ∧ c = .int .i64 (i : Int) ∧ z = bstr ((Pt.name s).take (2 * i)) ∧ Row (W7.heap.size) [.int .i64 1, .int .i64 0, .int .i64 2] wr ∧ Below w.heap.size w wr) (fun _ c _ => 3 - (intOf c).toNat)
  case atStart => exact ⟨0, _, by omega, rfl, rfl, rfl, TB.out, TG.out⟩
  case round =>
    obtain ⟨i, z, hi, rfl, rfl, hz, hR, hB⟩ := hrel
    have hc : i = 0 ∨ i = 1 ∨ i = 2 ∨ i = 3 := by omega
    rcases hc with rfl | rfl | rfl | rfl
    · have hzs : z.size = 0 := by rw [hz, bstr_size, List.length_take, name_len]; omega
      have a0 := hR.cellx 0 _ rfl
      have HZ := Lib.hid hz
      have HR := Lib.hid hR
      have HB := Lib.hid hB
      have hch : Pt.chr (Pt.axis (s / 8) 0) = 121 := by rw [HK.out]; rfl
      have N := CN.out 0 (by decide)
      have N2 : ∀ W, Calls Tryd.prog 88 #[.int .i64 (s : Int), .int .i64 0] W fun e w' => e = .returned (.bool (Pt.bit s 0)) ∧ w' = W := N
      clear hz hR hB hi N
      cases hb : Pt.bit s 0 with
      | false =>
        rw [hb] at N2
        have N3 := Lib.hid N2
        have hsg : Pt.sgn s 0 = 43 := by unfold Pt.sgn; rw [hb]; rfl
        have HT2 : Hid ((bstr ((Pt.name s).take 0) ++ bstr [43]) ++ bstr [121] = bstr ((Pt.name s).take 2)) := Lib.hid (by rw [bcat, bcat, ← hsg, ← hch]; rfl)
        clear N2 hb hsg hch
        go_wp2_with fail
        refine (N3.out _).mono ?_
        rintro e w2 ⟨rfl, rfl⟩
        go_wp2_with fail
        go_quiet (fail)
        go_wp2_with fail
        go_roundw
        case rel => exact ⟨1, _, by omega, rfl, rfl, by rw [HZ.out]; exact HT2.out, HR.out, below_drewN HB.out _⟩
        case measure => simp [intOf]
      | true =>
        rw [hb] at N2
        have N3 := Lib.hid N2
        have hsg : Pt.sgn s 0 = 45 := by unfold Pt.sgn; rw [hb]; rfl
        have HT2 : Hid ((bstr ((Pt.name s).take 0) ++ bstr [45]) ++ bstr [121] = bstr ((Pt.name s).take 2)) := Lib.hid (by rw [bcat, bcat, ← hsg, ← hch]; rfl)
        clear N2 hb hsg hch
        go_wp2_with fail
        refine (N3.out _).mono ?_
        rintro e w2 ⟨rfl, rfl⟩
        go_wp2_with fail
        go_quiet (fail)
        go_wp2_with fail
        go_roundw
        case rel => exact ⟨1, _, by omega, rfl, rfl, by rw [HZ.out]; exact HT2.out, HR.out, below_drewN HB.out _⟩
        case measure => simp [intOf]
    · have hzs : z.size = 2 := by rw [hz, bstr_size, List.length_take, name_len]; omega
      have a1 := hR.cellx 1 _ rfl
      have HZ := Lib.hid hz
      have HR := Lib.hid hR
      have HB := Lib.hid hB
      have hch : Pt.chr (Pt.axis (s / 8) 1) = 120 := by rw [HK.out]; rfl
      have N := CN.out 1 (by decide)
      have N2 : ∀ W, Calls Tryd.prog 88 #[.int .i64 (s : Int), .int .i64 1] W fun e w' => e = .returned (.bool (Pt.bit s 1)) ∧ w' = W := N
      clear hz hR hB hi N
      cases hb : Pt.bit s 1 with
      | false =>
        rw [hb] at N2
        have N3 := Lib.hid N2
        have hsg : Pt.sgn s 1 = 43 := by unfold Pt.sgn; rw [hb]; rfl
        have HT2 : Hid ((bstr ((Pt.name s).take 2) ++ bstr [43]) ++ bstr [120] = bstr ((Pt.name s).take 4)) := Lib.hid (by rw [bcat, bcat, ← hsg, ← hch]; rfl)
        clear N2 hb hsg hch
        go_wp2_with fail
        refine (N3.out _).mono ?_
        rintro e w2 ⟨rfl, rfl⟩
        go_wp2_with fail
        go_quiet (fail)
        go_wp2_with fail
        go_roundw
        case rel => exact ⟨2, _, by omega, rfl, rfl, by rw [HZ.out]; exact HT2.out, HR.out, below_drewN HB.out _⟩
        case measure => simp [intOf]
      | true =>
        rw [hb] at N2
        have N3 := Lib.hid N2
        have hsg : Pt.sgn s 1 = 45 := by unfold Pt.sgn; rw [hb]; rfl
        have HT2 : Hid ((bstr ((Pt.name s).take 2) ++ bstr [45]) ++ bstr [120] = bstr ((Pt.name s).take 4)) := Lib.hid (by rw [bcat, bcat, ← hsg, ← hch]; rfl)
        clear N2 hb hsg hch
        go_wp2_with fail
        refine (N3.out _).mono ?_
        rintro e w2 ⟨rfl, rfl⟩
        go_wp2_with fail
        go_quiet (fail)
        go_wp2_with fail
        go_roundw
        case rel => exact ⟨2, _, by omega, rfl, rfl, by rw [HZ.out]; exact HT2.out, HR.out, below_drewN HB.out _⟩
        case measure => simp [intOf]
    · have hzs : z.size = 4 := by rw [hz, bstr_size, List.length_take, name_len]; omega
      have a2 := hR.cellx 2 _ rfl
      have HZ := Lib.hid hz
      have HR := Lib.hid hR
      have HB := Lib.hid hB
      have hch : Pt.chr (Pt.axis (s / 8) 2) = 122 := by rw [HK.out]; rfl
      have N := CN.out 2 (by decide)
      have N2 : ∀ W, Calls Tryd.prog 88 #[.int .i64 (s : Int), .int .i64 2] W fun e w' => e = .returned (.bool (Pt.bit s 2)) ∧ w' = W := N
      clear hz hR hB hi N
      cases hb : Pt.bit s 2 with
      | false =>
        rw [hb] at N2
        have N3 := Lib.hid N2
        have hsg : Pt.sgn s 2 = 43 := by unfold Pt.sgn; rw [hb]; rfl
        have HT2 : Hid ((bstr ((Pt.name s).take 4) ++ bstr [43]) ++ bstr [122] = bstr ((Pt.name s).take 6)) := Lib.hid (by rw [bcat, bcat, ← hsg, ← hch]; rfl)
        clear N2 hb hsg hch
        go_wp2_with fail
        refine (N3.out _).mono ?_
        rintro e w2 ⟨rfl, rfl⟩
        go_wp2_with fail
        go_quiet (fail)
        go_wp2_with fail
        go_roundw
        case rel => exact ⟨3, _, by omega, rfl, rfl, by rw [HZ.out]; exact HT2.out, HR.out, below_drewN HB.out _⟩
        case measure => simp [intOf]
      | true =>
        rw [hb] at N2
        have N3 := Lib.hid N2
        have hsg : Pt.sgn s 2 = 45 := by unfold Pt.sgn; rw [hb]; rfl
        have HT2 : Hid ((bstr ((Pt.name s).take 4) ++ bstr [45]) ++ bstr [122] = bstr ((Pt.name s).take 6)) := Lib.hid (by rw [bcat, bcat, ← hsg, ← hch]; rfl)
        clear N2 hb hsg hch
        go_wp2_with fail
        refine (N3.out _).mono ?_
        rintro e w2 ⟨rfl, rfl⟩
        go_wp2_with fail
        go_quiet (fail)
        go_wp2_with fail
        go_roundw
        case rel => exact ⟨3, _, by omega, rfl, rfl, by rw [HZ.out]; exact HT2.out, HR.out, below_drewN HB.out _⟩
        case measure => simp [intOf]
    · have HZ := Lib.hid hz
      have HB := Lib.hid hB
      clear hz hR hB hi
      go_wp2_with fail
      go_ret
      exact ⟨by rw [HZ.out]; rfl, HB.out⟩
set_option maxRecDepth 1000000 in
set_option maxHeartbeats 4000000 in
theorem rname_o3 (s : Nat) (w : World) (hs : s < 48) (hk : (s : Int) / 8 = 3) :
    Calls Tryd.prog 60 #[.int .i64 (s : Int)] w fun e w' => e = .returned (.string (bstr (Pt.name s))) ∧ Below w.heap.size w w' := by
  have CS : Hid (∀ W, Calls Tryd.prog 81 #[.int .i64 (s : Int)] W fun e w' => e = .returned (.bool true) ∧ Below W.heap.size W w') := Lib.hid (fun W => by
    have := is_any (s : Int) W
    rwa [decide_eq_true (show 0 ≤ (s : Int) ∧ (s : Int) < 48 by omega)] at this)
  have CN : Hid (∀ i : Nat, i < 3 → ∀ W, Calls Tryd.prog 88 #[.int .i64 (s : Int), .int .i64 (i : Int)] W fun e w' => e = .returned (.bool (Pt.bit s i)) ∧ w' = W) := Lib.hid (fun i hi W => rnegates_same s i W hs hi)
  have HK := Lib.hid (show s / 8 = 3 by omega)
  have HKI := Lib.hid hk
  have G0 := Lib.hid (Below.refl w.heap.size w)
  go_enter Tryd.func60, Tryd.ntmps60
  go_upto_region 1 with fail
  refine wpG_region ?_
  refine wpG_tk (some 9) (v := .int .i64 (s : Int)) rfl (.val (by rfl) (fun _ _ => rfl)) ?_
  simp only [Act.put, List.setIfInBounds_toArray, List.set_cons_zero, List.set_cons_succ]
  refine wpG_tk (some 10) (v := .bool true) rfl (.call (f := 81) (args := #[.int .i64 (s : Int)]) (by rfl) (fun W => by go_simp) (fun W hg => CS.out W)) ?_
  simp only [Act.put, List.setIfInBounds_toArray, List.set_cons_zero, List.set_cons_succ]
  refine wpG_tk (some 3) (v := .bool true) rfl (.val (by rfl) (fun _ _ => rfl)) ?_
  simp only [Act.put, List.setIfInBounds_toArray, List.set_cons_zero, List.set_cons_succ]
  refine wpG_done (fun V1 hv2 => ?_)
  have GC3 := Lib.hid hv2
  clear hv2
  go_upto_region 2 with fail
  refine wpG_region ?_
  refine wpG_tk (some 11) (v := .bool true) rfl (.val (by rfl) (fun _ _ => rfl)) ?_
  simp only [Act.put, List.setIfInBounds_toArray, List.set_cons_zero, List.set_cons_succ]
  refine wpG_tk (some 12) (v := .bool false) rfl (.val (by rfl) (fun W hg => by go_simp)) ?_
  simp only [Act.put, List.setIfInBounds_toArray, List.set_cons_zero, List.set_cons_succ]
  refine wpG_done (fun V4 hv5 => ?_)
  have GC6 := Lib.hid (GC3.out.trans hv5)
  clear hv5
  go_upto_region 4 with fail
  refine wpG_region ?_
  refine wpG_tk (some 13) (v := .int .i64 (s : Int)) rfl (.val (by rfl) (fun _ _ => rfl)) ?_
  simp only [Act.put, List.setIfInBounds_toArray, List.set_cons_zero, List.set_cons_succ]
  refine wpG_tk (some 14) (v := .int .i64 3) rfl (.val (by rfl) (fun W hg => by have q := HKI.out; go_simp <;> rfl)) ?_
  simp only [Act.put, List.setIfInBounds_toArray, List.set_cons_zero, List.set_cons_succ]
  refine wpG_tk (some 15) (v := .agg #[.int .i64 1, .int .i64 2, .int .i64 0]) rfl (.call (f := 87) (args := #[.int .i64 3]) (by rfl) (fun W => by go_simp) (fun W hg => (by have c := order_any 3 W (by decide); exact c))) ?_
  simp only [Act.put, List.setIfInBounds_toArray, List.set_cons_zero, List.set_cons_succ]
  refine wpG_val (some 4) rfl (by rfl) (fun W7 hg8 => ⟨.pointer (some ⟨W7.heap.size, 0, none⟩), W7.alloc (.cells #[.int .i64 0, .int .i64 0, .int .i64 0] 64), by (go_simp <;> rfl), ?_⟩)
  simp only [Act.put, List.setIfInBounds_toArray, List.set_cons_zero, List.set_cons_succ]
  refine wpG_store (none) rfl (by rfl) (fun W9 hg10 => ⟨_, run_store_mid 64 (.tmp 4) (.tmp 15) rfl (W7.heap.size) 0 #[.int .i64 1, .int .i64 2, .int .i64 0] rfl rfl (Row.room hg10 3 rfl) (by kernel_rfl) (by kernel_rfl), ?_⟩)
  simp only [Act.put]
  refine wpG_done (fun V11 hv12 => ?_)
  have l14 : w.heap.size ≤ W7.heap.size := (Gr.to G0.out (GC6.out.trans hg8)).size
  have R15 := Lib.hid (Row.made (zs := [.int .i64 0, .int .i64 0, .int .i64 0]) (ds := [.int .i64 1, .int .i64 2, .int .i64 0]) rfl hg10 hv12)
  have G13 := Lib.hid (Gr.to (Gr.to G0.out (GC6.out.trans hg8)) (Gr.past hg10 hv12))
  clear hg10 hv12 
  go_upto_region 5 with fail
  refine wpG_region ?_
  refine wpG_tk (some 5) (v := .string (⟨#[]⟩)) rfl (.val (by rfl) (fun _ _ => rfl)) ?_
  simp only [Act.put, List.setIfInBounds_toArray, List.set_cons_zero, List.set_cons_succ]
  refine wpG_done (fun V16 hv17 => ?_)
  have GC18 := Lib.hid hv17
  clear hv17
  go_upto_region 6 with fail
  refine wpG_region ?_
  refine wpG_tk (some 6) (v := .int .i64 0) rfl (.val (by rfl) (fun _ _ => rfl)) ?_
  simp only [Act.put, List.setIfInBounds_toArray, List.set_cons_zero, List.set_cons_succ]
  refine wpG_done (fun V19 hv20 => ?_)
  have GC21 := Lib.hid (GC18.out.trans hv20)
  clear hv20
  have TB := Lib.hid (R15.out.below GC21.out)
  have TG := Lib.hid (Gr.to G13.out GC21.out)
  go_wp2_with fail
  go_loopw [5, 6] (fun n c wr => ∃ (i : Nat) (z : ByteArray), i ≤ 3 ∧ n = .string z ∧ c = .int .i64 (i : Int) ∧ z = bstr ((Pt.name s).take (2 * i)) ∧ Row (W7.heap.size) [.int .i64 1, .int .i64 2, .int .i64 0] wr ∧ Below w.heap.size w wr) (fun _ c _ => 3 - (intOf c).toNat)
  case atStart => exact ⟨0, _, by omega, rfl, rfl, rfl, TB.out, TG.out⟩
  case round =>
    obtain ⟨i, z, hi, rfl, rfl, hz, hR, hB⟩ := hrel
    have hc : i = 0 ∨ i = 1 ∨ i = 2 ∨ i = 3 := by omega
    rcases hc with rfl | rfl | rfl | rfl
    · have hzs : z.size = 0 := by rw [hz, bstr_size, List.length_take, name_len]; omega
      have a0 := hR.cellx 0 _ rfl
      have HZ := Lib.hid hz
      have HR := Lib.hid hR
      have HB := Lib.hid hB
      have hch : Pt.chr (Pt.axis (s / 8) 0) = 121 := by rw [HK.out]; rfl
      have N := CN.out 0 (by decide)
      have N2 : ∀ W, Calls Tryd.prog 88 #[.int .i64 (s : Int), .int .i64 0] W fun e w' => e = .returned (.bool (Pt.bit s 0)) ∧ w' = W := N
      clear hz hR hB hi N
      cases hb : Pt.bit s 0 with
      | false =>
        rw [hb] at N2
        have N3 := Lib.hid N2
        have hsg : Pt.sgn s 0 = 43 := by unfold Pt.sgn; rw [hb]; rfl
        have HT2 : Hid ((bstr ((Pt.name s).take 0) ++ bstr [43]) ++ bstr [121] = bstr ((Pt.name s).take 2)) := Lib.hid (by rw [bcat, bcat, ← hsg, ← hch]; rfl)
        clear N2 hb hsg hch
        go_wp2_with fail
        refine (N3.out _).mono ?_
        rintro e w2 ⟨rfl, rfl⟩
        go_wp2_with fail
        go_quiet (fail)
        go_wp2_with fail
        go_roundw
        case rel => exact ⟨1, _, by omega, rfl, rfl, by rw [HZ.out]; exact HT2.out, HR.out, below_drewN HB.out _⟩
        case measure => simp [intOf]
      | true =>
        rw [hb] at N2
        have N3 := Lib.hid N2
        have hsg : Pt.sgn s 0 = 45 := by unfold Pt.sgn; rw [hb]; rfl
        have HT2 : Hid ((bstr ((Pt.name s).take 0) ++ bstr [45]) ++ bstr [121] = bstr ((Pt.name s).take 2)) := Lib.hid (by rw [bcat, bcat, ← hsg, ← hch]; rfl)
        clear N2 hb hsg hch
        go_wp2_with fail
        refine (N3.out _).mono ?_
        rintro e w2 ⟨rfl, rfl⟩
        go_wp2_with fail
        go_quiet (fail)
        go_wp2_with fail
        go_roundw
        case rel => exact ⟨1, _, by omega, rfl, rfl, by rw [HZ.out]; exact HT2.out, HR.out, below_drewN HB.out _⟩
        case measure => simp [intOf]
    · have hzs : z.size = 2 := by rw [hz, bstr_size, List.length_take, name_len]; omega
      have a1 := hR.cellx 1 _ rfl
      have HZ := Lib.hid hz
      have HR := Lib.hid hR
      have HB := Lib.hid hB
      have hch : Pt.chr (Pt.axis (s / 8) 1) = 122 := by rw [HK.out]; rfl
      have N := CN.out 1 (by decide)
      have N2 : ∀ W, Calls Tryd.prog 88 #[.int .i64 (s : Int), .int .i64 1] W fun e w' => e = .returned (.bool (Pt.bit s 1)) ∧ w' = W := N
      clear hz hR hB hi N
      cases hb : Pt.bit s 1 with
      | false =>
        rw [hb] at N2
        have N3 := Lib.hid N2
        have hsg : Pt.sgn s 1 = 43 := by unfold Pt.sgn; rw [hb]; rfl
        have HT2 : Hid ((bstr ((Pt.name s).take 2) ++ bstr [43]) ++ bstr [122] = bstr ((Pt.name s).take 4)) := Lib.hid (by rw [bcat, bcat, ← hsg, ← hch]; rfl)
        clear N2 hb hsg hch
        go_wp2_with fail
        refine (N3.out _).mono ?_
        rintro e w2 ⟨rfl, rfl⟩
        go_wp2_with fail
        go_quiet (fail)
        go_wp2_with fail
        go_roundw
        case rel => exact ⟨2, _, by omega, rfl, rfl, by rw [HZ.out]; exact HT2.out, HR.out, below_drewN HB.out _⟩
        case measure => simp [intOf]
      | true =>
        rw [hb] at N2
        have N3 := Lib.hid N2
        have hsg : Pt.sgn s 1 = 45 := by unfold Pt.sgn; rw [hb]; rfl
        have HT2 : Hid ((bstr ((Pt.name s).take 2) ++ bstr [45]) ++ bstr [122] = bstr ((Pt.name s).take 4)) := Lib.hid (by rw [bcat, bcat, ← hsg, ← hch]; rfl)
        clear N2 hb hsg hch
        go_wp2_with fail
        refine (N3.out _).mono ?_
        rintro e w2 ⟨rfl, rfl⟩
        go_wp2_with fail
        go_quiet (fail)
        go_wp2_with fail
        go_roundw
        case rel => exact ⟨2, _, by omega, rfl, rfl, by rw [HZ.out]; exact HT2.out, HR.out, below_drewN HB.out _⟩
        case measure => simp [intOf]
    · have hzs : z.size = 4 := by rw [hz, bstr_size, List.length_take, name_len]; omega
      have a2 := hR.cellx 2 _ rfl
      have HZ := Lib.hid hz
      have HR := Lib.hid hR
      have HB := Lib.hid hB
      have hch : Pt.chr (Pt.axis (s / 8) 2) = 120 := by rw [HK.out]; rfl
      have N := CN.out 2 (by decide)
      have N2 : ∀ W, Calls Tryd.prog 88 #[.int .i64 (s : Int), .int .i64 2] W fun e w' => e = .returned (.bool (Pt.bit s 2)) ∧ w' = W := N
      clear hz hR hB hi N
      cases hb : Pt.bit s 2 with
      | false =>
        rw [hb] at N2
        have N3 := Lib.hid N2
        have hsg : Pt.sgn s 2 = 43 := by unfold Pt.sgn; rw [hb]; rfl
        have HT2 : Hid ((bstr ((Pt.name s).take 4) ++ bstr [43]) ++ bstr [120] = bstr ((Pt.name s).take 6)) := Lib.hid (by rw [bcat, bcat, ← hsg, ← hch]; rfl)
        clear N2 hb hsg hch
        go_wp2_with fail
        refine (N3.out _).mono ?_
        rintro e w2 ⟨rfl, rfl⟩
        go_wp2_with fail
        go_quiet (fail)
        go_wp2_with fail
        go_roundw
        case rel => exact ⟨3, _, by omega, rfl, rfl, by rw [HZ.out]; exact HT2.out, HR.out, below_drewN HB.out _⟩
        case measure => simp [intOf]
      | true =>
        rw [hb] at N2
        have N3 := Lib.hid N2
        have hsg : Pt.sgn s 2 = 45 := by unfold Pt.sgn; rw [hb]; rfl
        have HT2 : Hid ((bstr ((Pt.name s).take 4) ++ bstr [45]) ++ bstr [120] = bstr ((Pt.name s).take 6)) := Lib.hid (by rw [bcat, bcat, ← hsg, ← hch]; rfl)
        clear N2 hb hsg hch
        go_wp2_with fail
        refine (N3.out _).mono ?_
        rintro e w2 ⟨rfl, rfl⟩
        go_wp2_with fail
        go_quiet (fail)
        go_wp2_with fail
        go_roundw
        case rel => exact ⟨3, _, by omega, rfl, rfl, by rw [HZ.out]; exact HT2.out, HR.out, below_drewN HB.out _⟩
        case measure => simp [intOf]
    · have HZ := Lib.hid hz
      have HB := Lib.hid hB
      clear hz hR hB hi
      go_wp2_with fail
      go_ret
      exact ⟨by rw [HZ.out]; rfl, HB.out⟩
set_option maxRecDepth 1000000 in
set_option maxHeartbeats 4000000 in
theorem rname_o4 (s : Nat) (w : World) (hs : s < 48) (hk : (s : Int) / 8 = 4) :
    Calls Tryd.prog 60 #[.int .i64 (s : Int)] w fun e w' => e = .returned (.string (bstr (Pt.name s))) ∧ Below w.heap.size w w' := by
  have CS : Hid (∀ W, Calls Tryd.prog 81 #[.int .i64 (s : Int)] W fun e w' => e = .returned (.bool true) ∧ Below W.heap.size W w') := Lib.hid (fun W => by
    have := is_any (s : Int) W
    rwa [decide_eq_true (show 0 ≤ (s : Int) ∧ (s : Int) < 48 by omega)] at this)
  have CN : Hid (∀ i : Nat, i < 3 → ∀ W, Calls Tryd.prog 88 #[.int .i64 (s : Int), .int .i64 (i : Int)] W fun e w' => e = .returned (.bool (Pt.bit s i)) ∧ w' = W) := Lib.hid (fun i hi W => rnegates_same s i W hs hi)
  have HK := Lib.hid (show s / 8 = 4 by omega)
  have HKI := Lib.hid hk
  have G0 := Lib.hid (Below.refl w.heap.size w)
  go_enter Tryd.func60, Tryd.ntmps60
  go_upto_region 1 with fail
  refine wpG_region ?_
  refine wpG_tk (some 9) (v := .int .i64 (s : Int)) rfl (.val (by rfl) (fun _ _ => rfl)) ?_
  simp only [Act.put, List.setIfInBounds_toArray, List.set_cons_zero, List.set_cons_succ]
  refine wpG_tk (some 10) (v := .bool true) rfl (.call (f := 81) (args := #[.int .i64 (s : Int)]) (by rfl) (fun W => by go_simp) (fun W hg => CS.out W)) ?_
  simp only [Act.put, List.setIfInBounds_toArray, List.set_cons_zero, List.set_cons_succ]
  refine wpG_tk (some 3) (v := .bool true) rfl (.val (by rfl) (fun _ _ => rfl)) ?_
  simp only [Act.put, List.setIfInBounds_toArray, List.set_cons_zero, List.set_cons_succ]
  refine wpG_done (fun V1 hv2 => ?_)
  have GC3 := Lib.hid hv2
  clear hv2
  go_upto_region 2 with fail
  refine wpG_region ?_
  refine wpG_tk (some 11) (v := .bool true) rfl (.val (by rfl) (fun _ _ => rfl)) ?_
  simp only [Act.put, List.setIfInBounds_toArray, List.set_cons_zero, List.set_cons_succ]
  refine wpG_tk (some 12) (v := .bool false) rfl (.val (by rfl) (fun W hg => by go_simp)) ?_
  simp only [Act.put, List.setIfInBounds_toArray, List.set_cons_zero, List.set_cons_succ]
  refine wpG_done (fun V4 hv5 => ?_)
  have GC6 := Lib.hid (GC3.out.trans hv5)
  clear hv5
  go_upto_region 4 with fail
  refine wpG_region ?_
  refine wpG_tk (some 13) (v := .int .i64 (s : Int)) rfl (.val (by rfl) (fun _ _ => rfl)) ?_
  simp only [Act.put, List.setIfInBounds_toArray, List.set_cons_zero, List.set_cons_succ]
  refine wpG_tk (some 14) (v := .int .i64 4) rfl (.val (by rfl) (fun W hg => by have q := HKI.out; go_simp <;> rfl)) ?_
  simp only [Act.put, List.setIfInBounds_toArray, List.set_cons_zero, List.set_cons_succ]
  refine wpG_tk (some 15) (v := .agg #[.int .i64 2, .int .i64 0, .int .i64 1]) rfl (.call (f := 87) (args := #[.int .i64 4]) (by rfl) (fun W => by go_simp) (fun W hg => (by have c := order_any 4 W (by decide); exact c))) ?_
  simp only [Act.put, List.setIfInBounds_toArray, List.set_cons_zero, List.set_cons_succ]
  refine wpG_val (some 4) rfl (by rfl) (fun W7 hg8 => ⟨.pointer (some ⟨W7.heap.size, 0, none⟩), W7.alloc (.cells #[.int .i64 0, .int .i64 0, .int .i64 0] 64), by (go_simp <;> rfl), ?_⟩)
  simp only [Act.put, List.setIfInBounds_toArray, List.set_cons_zero, List.set_cons_succ]
  refine wpG_store (none) rfl (by rfl) (fun W9 hg10 => ⟨_, run_store_mid 64 (.tmp 4) (.tmp 15) rfl (W7.heap.size) 0 #[.int .i64 2, .int .i64 0, .int .i64 1] rfl rfl (Row.room hg10 3 rfl) (by kernel_rfl) (by kernel_rfl), ?_⟩)
  simp only [Act.put]
  refine wpG_done (fun V11 hv12 => ?_)
  have l14 : w.heap.size ≤ W7.heap.size := (Gr.to G0.out (GC6.out.trans hg8)).size
  have R15 := Lib.hid (Row.made (zs := [.int .i64 0, .int .i64 0, .int .i64 0]) (ds := [.int .i64 2, .int .i64 0, .int .i64 1]) rfl hg10 hv12)
  have G13 := Lib.hid (Gr.to (Gr.to G0.out (GC6.out.trans hg8)) (Gr.past hg10 hv12))
  clear hg10 hv12 
  go_upto_region 5 with fail
  refine wpG_region ?_
  refine wpG_tk (some 5) (v := .string (⟨#[]⟩)) rfl (.val (by rfl) (fun _ _ => rfl)) ?_
  simp only [Act.put, List.setIfInBounds_toArray, List.set_cons_zero, List.set_cons_succ]
  refine wpG_done (fun V16 hv17 => ?_)
  have GC18 := Lib.hid hv17
  clear hv17
  go_upto_region 6 with fail
  refine wpG_region ?_
  refine wpG_tk (some 6) (v := .int .i64 0) rfl (.val (by rfl) (fun _ _ => rfl)) ?_
  simp only [Act.put, List.setIfInBounds_toArray, List.set_cons_zero, List.set_cons_succ]
  refine wpG_done (fun V19 hv20 => ?_)
  have GC21 := Lib.hid (GC18.out.trans hv20)
  clear hv20
  have TB := Lib.hid (R15.out.below GC21.out)
  have TG := Lib.hid (Gr.to G13.out GC21.out)
  go_wp2_with fail
  go_loopw [5, 6] (fun n c wr => ∃ (i : Nat) (z : ByteArray), i ≤ 3 ∧ n = .string z ∧ c = .int .i64 (i : Int) ∧ z = bstr ((Pt.name s).take (2 * i)) ∧ Row (W7.heap.size) [.int .i64 2, .int .i64 0, .int .i64 1] wr ∧ Below w.heap.size w wr) (fun _ c _ => 3 - (intOf c).toNat)
  case atStart => exact ⟨0, _, by omega, rfl, rfl, rfl, TB.out, TG.out⟩
  case round =>
    obtain ⟨i, z, hi, rfl, rfl, hz, hR, hB⟩ := hrel
    have hc : i = 0 ∨ i = 1 ∨ i = 2 ∨ i = 3 := by omega
    rcases hc with rfl | rfl | rfl | rfl
    · have hzs : z.size = 0 := by rw [hz, bstr_size, List.length_take, name_len]; omega
      have a0 := hR.cellx 0 _ rfl
      have HZ := Lib.hid hz
      have HR := Lib.hid hR
      have HB := Lib.hid hB
      have hch : Pt.chr (Pt.axis (s / 8) 0) = 122 := by rw [HK.out]; rfl
      have N := CN.out 0 (by decide)
      have N2 : ∀ W, Calls Tryd.prog 88 #[.int .i64 (s : Int), .int .i64 0] W fun e w' => e = .returned (.bool (Pt.bit s 0)) ∧ w' = W := N
      clear hz hR hB hi N
      cases hb : Pt.bit s 0 with
      | false =>
        rw [hb] at N2
        have N3 := Lib.hid N2
        have hsg : Pt.sgn s 0 = 43 := by unfold Pt.sgn; rw [hb]; rfl
        have HT2 : Hid ((bstr ((Pt.name s).take 0) ++ bstr [43]) ++ bstr [122] = bstr ((Pt.name s).take 2)) := Lib.hid (by rw [bcat, bcat, ← hsg, ← hch]; rfl)
        clear N2 hb hsg hch
        go_wp2_with fail
        refine (N3.out _).mono ?_
        rintro e w2 ⟨rfl, rfl⟩
        go_wp2_with fail
        go_quiet (fail)
        go_wp2_with fail
        go_roundw
        case rel => exact ⟨1, _, by omega, rfl, rfl, by rw [HZ.out]; exact HT2.out, HR.out, below_drewN HB.out _⟩
        case measure => simp [intOf]
      | true =>
        rw [hb] at N2
        have N3 := Lib.hid N2
        have hsg : Pt.sgn s 0 = 45 := by unfold Pt.sgn; rw [hb]; rfl
        have HT2 : Hid ((bstr ((Pt.name s).take 0) ++ bstr [45]) ++ bstr [122] = bstr ((Pt.name s).take 2)) := Lib.hid (by rw [bcat, bcat, ← hsg, ← hch]; rfl)
        clear N2 hb hsg hch
        go_wp2_with fail
        refine (N3.out _).mono ?_
        rintro e w2 ⟨rfl, rfl⟩
        go_wp2_with fail
        go_quiet (fail)
        go_wp2_with fail
        go_roundw
        case rel => exact ⟨1, _, by omega, rfl, rfl, by rw [HZ.out]; exact HT2.out, HR.out, below_drewN HB.out _⟩
        case measure => simp [intOf]
    · have hzs : z.size = 2 := by rw [hz, bstr_size, List.length_take, name_len]; omega
      have a1 := hR.cellx 1 _ rfl
      have HZ := Lib.hid hz
      have HR := Lib.hid hR
      have HB := Lib.hid hB
      have hch : Pt.chr (Pt.axis (s / 8) 1) = 120 := by rw [HK.out]; rfl
      have N := CN.out 1 (by decide)
      have N2 : ∀ W, Calls Tryd.prog 88 #[.int .i64 (s : Int), .int .i64 1] W fun e w' => e = .returned (.bool (Pt.bit s 1)) ∧ w' = W := N
      clear hz hR hB hi N
      cases hb : Pt.bit s 1 with
      | false =>
        rw [hb] at N2
        have N3 := Lib.hid N2
        have hsg : Pt.sgn s 1 = 43 := by unfold Pt.sgn; rw [hb]; rfl
        have HT2 : Hid ((bstr ((Pt.name s).take 2) ++ bstr [43]) ++ bstr [120] = bstr ((Pt.name s).take 4)) := Lib.hid (by rw [bcat, bcat, ← hsg, ← hch]; rfl)
        clear N2 hb hsg hch
        go_wp2_with fail
        refine (N3.out _).mono ?_
        rintro e w2 ⟨rfl, rfl⟩
        go_wp2_with fail
        go_quiet (fail)
        go_wp2_with fail
        go_roundw
        case rel => exact ⟨2, _, by omega, rfl, rfl, by rw [HZ.out]; exact HT2.out, HR.out, below_drewN HB.out _⟩
        case measure => simp [intOf]
      | true =>
        rw [hb] at N2
        have N3 := Lib.hid N2
        have hsg : Pt.sgn s 1 = 45 := by unfold Pt.sgn; rw [hb]; rfl
        have HT2 : Hid ((bstr ((Pt.name s).take 2) ++ bstr [45]) ++ bstr [120] = bstr ((Pt.name s).take 4)) := Lib.hid (by rw [bcat, bcat, ← hsg, ← hch]; rfl)
        clear N2 hb hsg hch
        go_wp2_with fail
        refine (N3.out _).mono ?_
        rintro e w2 ⟨rfl, rfl⟩
        go_wp2_with fail
        go_quiet (fail)
        go_wp2_with fail
        go_roundw
        case rel => exact ⟨2, _, by omega, rfl, rfl, by rw [HZ.out]; exact HT2.out, HR.out, below_drewN HB.out _⟩
        case measure => simp [intOf]
    · have hzs : z.size = 4 := by rw [hz, bstr_size, List.length_take, name_len]; omega
      have a2 := hR.cellx 2 _ rfl
      have HZ := Lib.hid hz
      have HR := Lib.hid hR
      have HB := Lib.hid hB
      have hch : Pt.chr (Pt.axis (s / 8) 2) = 121 := by rw [HK.out]; rfl
      have N := CN.out 2 (by decide)
      have N2 : ∀ W, Calls Tryd.prog 88 #[.int .i64 (s : Int), .int .i64 2] W fun e w' => e = .returned (.bool (Pt.bit s 2)) ∧ w' = W := N
      clear hz hR hB hi N
      cases hb : Pt.bit s 2 with
      | false =>
        rw [hb] at N2
        have N3 := Lib.hid N2
        have hsg : Pt.sgn s 2 = 43 := by unfold Pt.sgn; rw [hb]; rfl
        have HT2 : Hid ((bstr ((Pt.name s).take 4) ++ bstr [43]) ++ bstr [121] = bstr ((Pt.name s).take 6)) := Lib.hid (by rw [bcat, bcat, ← hsg, ← hch]; rfl)
        clear N2 hb hsg hch
        go_wp2_with fail
        refine (N3.out _).mono ?_
        rintro e w2 ⟨rfl, rfl⟩
        go_wp2_with fail
        go_quiet (fail)
        go_wp2_with fail
        go_roundw
        case rel => exact ⟨3, _, by omega, rfl, rfl, by rw [HZ.out]; exact HT2.out, HR.out, below_drewN HB.out _⟩
        case measure => simp [intOf]
      | true =>
        rw [hb] at N2
        have N3 := Lib.hid N2
        have hsg : Pt.sgn s 2 = 45 := by unfold Pt.sgn; rw [hb]; rfl
        have HT2 : Hid ((bstr ((Pt.name s).take 4) ++ bstr [45]) ++ bstr [121] = bstr ((Pt.name s).take 6)) := Lib.hid (by rw [bcat, bcat, ← hsg, ← hch]; rfl)
        clear N2 hb hsg hch
        go_wp2_with fail
        refine (N3.out _).mono ?_
        rintro e w2 ⟨rfl, rfl⟩
        go_wp2_with fail
        go_quiet (fail)
        go_wp2_with fail
        go_roundw
        case rel => exact ⟨3, _, by omega, rfl, rfl, by rw [HZ.out]; exact HT2.out, HR.out, below_drewN HB.out _⟩
        case measure => simp [intOf]
    · have HZ := Lib.hid hz
      have HB := Lib.hid hB
      clear hz hR hB hi
      go_wp2_with fail
      go_ret
      exact ⟨by rw [HZ.out]; rfl, HB.out⟩
set_option maxRecDepth 1000000 in
set_option maxHeartbeats 4000000 in
theorem rname_o5 (s : Nat) (w : World) (hs : s < 48) (hk : (s : Int) / 8 = 5) :
    Calls Tryd.prog 60 #[.int .i64 (s : Int)] w fun e w' => e = .returned (.string (bstr (Pt.name s))) ∧ Below w.heap.size w w' := by
  have CS : Hid (∀ W, Calls Tryd.prog 81 #[.int .i64 (s : Int)] W fun e w' => e = .returned (.bool true) ∧ Below W.heap.size W w') := Lib.hid (fun W => by
    have := is_any (s : Int) W
    rwa [decide_eq_true (show 0 ≤ (s : Int) ∧ (s : Int) < 48 by omega)] at this)
  have CN : Hid (∀ i : Nat, i < 3 → ∀ W, Calls Tryd.prog 88 #[.int .i64 (s : Int), .int .i64 (i : Int)] W fun e w' => e = .returned (.bool (Pt.bit s i)) ∧ w' = W) := Lib.hid (fun i hi W => rnegates_same s i W hs hi)
  have HK := Lib.hid (show s / 8 = 5 by omega)
  have HKI := Lib.hid hk
  have G0 := Lib.hid (Below.refl w.heap.size w)
  go_enter Tryd.func60, Tryd.ntmps60
  go_upto_region 1 with fail
  refine wpG_region ?_
  refine wpG_tk (some 9) (v := .int .i64 (s : Int)) rfl (.val (by rfl) (fun _ _ => rfl)) ?_
  simp only [Act.put, List.setIfInBounds_toArray, List.set_cons_zero, List.set_cons_succ]
  refine wpG_tk (some 10) (v := .bool true) rfl (.call (f := 81) (args := #[.int .i64 (s : Int)]) (by rfl) (fun W => by go_simp) (fun W hg => CS.out W)) ?_
  simp only [Act.put, List.setIfInBounds_toArray, List.set_cons_zero, List.set_cons_succ]
  refine wpG_tk (some 3) (v := .bool true) rfl (.val (by rfl) (fun _ _ => rfl)) ?_
  simp only [Act.put, List.setIfInBounds_toArray, List.set_cons_zero, List.set_cons_succ]
  refine wpG_done (fun V1 hv2 => ?_)
  have GC3 := Lib.hid hv2
  clear hv2
  go_upto_region 2 with fail
  refine wpG_region ?_
  refine wpG_tk (some 11) (v := .bool true) rfl (.val (by rfl) (fun _ _ => rfl)) ?_
  simp only [Act.put, List.setIfInBounds_toArray, List.set_cons_zero, List.set_cons_succ]
  refine wpG_tk (some 12) (v := .bool false) rfl (.val (by rfl) (fun W hg => by go_simp)) ?_
  simp only [Act.put, List.setIfInBounds_toArray, List.set_cons_zero, List.set_cons_succ]
  refine wpG_done (fun V4 hv5 => ?_)
  have GC6 := Lib.hid (GC3.out.trans hv5)
  clear hv5
  go_upto_region 4 with fail
  refine wpG_region ?_
  refine wpG_tk (some 13) (v := .int .i64 (s : Int)) rfl (.val (by rfl) (fun _ _ => rfl)) ?_
  simp only [Act.put, List.setIfInBounds_toArray, List.set_cons_zero, List.set_cons_succ]
  refine wpG_tk (some 14) (v := .int .i64 5) rfl (.val (by rfl) (fun W hg => by have q := HKI.out; go_simp <;> rfl)) ?_
  simp only [Act.put, List.setIfInBounds_toArray, List.set_cons_zero, List.set_cons_succ]
  refine wpG_tk (some 15) (v := .agg #[.int .i64 2, .int .i64 1, .int .i64 0]) rfl (.call (f := 87) (args := #[.int .i64 5]) (by rfl) (fun W => by go_simp) (fun W hg => (by have c := order_any 5 W (by decide); exact c))) ?_
  simp only [Act.put, List.setIfInBounds_toArray, List.set_cons_zero, List.set_cons_succ]
  refine wpG_val (some 4) rfl (by rfl) (fun W7 hg8 => ⟨.pointer (some ⟨W7.heap.size, 0, none⟩), W7.alloc (.cells #[.int .i64 0, .int .i64 0, .int .i64 0] 64), by (go_simp <;> rfl), ?_⟩)
  simp only [Act.put, List.setIfInBounds_toArray, List.set_cons_zero, List.set_cons_succ]
  refine wpG_store (none) rfl (by rfl) (fun W9 hg10 => ⟨_, run_store_mid 64 (.tmp 4) (.tmp 15) rfl (W7.heap.size) 0 #[.int .i64 2, .int .i64 1, .int .i64 0] rfl rfl (Row.room hg10 3 rfl) (by kernel_rfl) (by kernel_rfl), ?_⟩)
  simp only [Act.put]
  refine wpG_done (fun V11 hv12 => ?_)
  have l14 : w.heap.size ≤ W7.heap.size := (Gr.to G0.out (GC6.out.trans hg8)).size
  have R15 := Lib.hid (Row.made (zs := [.int .i64 0, .int .i64 0, .int .i64 0]) (ds := [.int .i64 2, .int .i64 1, .int .i64 0]) rfl hg10 hv12)
  have G13 := Lib.hid (Gr.to (Gr.to G0.out (GC6.out.trans hg8)) (Gr.past hg10 hv12))
  clear hg10 hv12 
  go_upto_region 5 with fail
  refine wpG_region ?_
  refine wpG_tk (some 5) (v := .string (⟨#[]⟩)) rfl (.val (by rfl) (fun _ _ => rfl)) ?_
  simp only [Act.put, List.setIfInBounds_toArray, List.set_cons_zero, List.set_cons_succ]
  refine wpG_done (fun V16 hv17 => ?_)
  have GC18 := Lib.hid hv17
  clear hv17
  go_upto_region 6 with fail
  refine wpG_region ?_
  refine wpG_tk (some 6) (v := .int .i64 0) rfl (.val (by rfl) (fun _ _ => rfl)) ?_
  simp only [Act.put, List.setIfInBounds_toArray, List.set_cons_zero, List.set_cons_succ]
  refine wpG_done (fun V19 hv20 => ?_)
  have GC21 := Lib.hid (GC18.out.trans hv20)
  clear hv20
  have TB := Lib.hid (R15.out.below GC21.out)
  have TG := Lib.hid (Gr.to G13.out GC21.out)
  go_wp2_with fail
  go_loopw [5, 6] (fun n c wr => ∃ (i : Nat) (z : ByteArray), i ≤ 3 ∧ n = .string z ∧ c = .int .i64 (i : Int) ∧ z = bstr ((Pt.name s).take (2 * i)) ∧ Row (W7.heap.size) [.int .i64 2, .int .i64 1, .int .i64 0] wr ∧ Below w.heap.size w wr) (fun _ c _ => 3 - (intOf c).toNat)
  case atStart => exact ⟨0, _, by omega, rfl, rfl, rfl, TB.out, TG.out⟩
  case round =>
    obtain ⟨i, z, hi, rfl, rfl, hz, hR, hB⟩ := hrel
    have hc : i = 0 ∨ i = 1 ∨ i = 2 ∨ i = 3 := by omega
    rcases hc with rfl | rfl | rfl | rfl
    · have hzs : z.size = 0 := by rw [hz, bstr_size, List.length_take, name_len]; omega
      have a0 := hR.cellx 0 _ rfl
      have HZ := Lib.hid hz
      have HR := Lib.hid hR
      have HB := Lib.hid hB
      have hch : Pt.chr (Pt.axis (s / 8) 0) = 122 := by rw [HK.out]; rfl
      have N := CN.out 0 (by decide)
      have N2 : ∀ W, Calls Tryd.prog 88 #[.int .i64 (s : Int), .int .i64 0] W fun e w' => e = .returned (.bool (Pt.bit s 0)) ∧ w' = W := N
      clear hz hR hB hi N
      cases hb : Pt.bit s 0 with
      | false =>
        rw [hb] at N2
        have N3 := Lib.hid N2
        have hsg : Pt.sgn s 0 = 43 := by unfold Pt.sgn; rw [hb]; rfl
        have HT2 : Hid ((bstr ((Pt.name s).take 0) ++ bstr [43]) ++ bstr [122] = bstr ((Pt.name s).take 2)) := Lib.hid (by rw [bcat, bcat, ← hsg, ← hch]; rfl)
        clear N2 hb hsg hch
        go_wp2_with fail
        refine (N3.out _).mono ?_
        rintro e w2 ⟨rfl, rfl⟩
        go_wp2_with fail
        go_quiet (fail)
        go_wp2_with fail
        go_roundw
        case rel => exact ⟨1, _, by omega, rfl, rfl, by rw [HZ.out]; exact HT2.out, HR.out, below_drewN HB.out _⟩
        case measure => simp [intOf]
      | true =>
        rw [hb] at N2
        have N3 := Lib.hid N2
        have hsg : Pt.sgn s 0 = 45 := by unfold Pt.sgn; rw [hb]; rfl
        have HT2 : Hid ((bstr ((Pt.name s).take 0) ++ bstr [45]) ++ bstr [122] = bstr ((Pt.name s).take 2)) := Lib.hid (by rw [bcat, bcat, ← hsg, ← hch]; rfl)
        clear N2 hb hsg hch
        go_wp2_with fail
        refine (N3.out _).mono ?_
        rintro e w2 ⟨rfl, rfl⟩
        go_wp2_with fail
        go_quiet (fail)
        go_wp2_with fail
        go_roundw
        case rel => exact ⟨1, _, by omega, rfl, rfl, by rw [HZ.out]; exact HT2.out, HR.out, below_drewN HB.out _⟩
        case measure => simp [intOf]
    · have hzs : z.size = 2 := by rw [hz, bstr_size, List.length_take, name_len]; omega
      have a1 := hR.cellx 1 _ rfl
      have HZ := Lib.hid hz
      have HR := Lib.hid hR
      have HB := Lib.hid hB
      have hch : Pt.chr (Pt.axis (s / 8) 1) = 121 := by rw [HK.out]; rfl
      have N := CN.out 1 (by decide)
      have N2 : ∀ W, Calls Tryd.prog 88 #[.int .i64 (s : Int), .int .i64 1] W fun e w' => e = .returned (.bool (Pt.bit s 1)) ∧ w' = W := N
      clear hz hR hB hi N
      cases hb : Pt.bit s 1 with
      | false =>
        rw [hb] at N2
        have N3 := Lib.hid N2
        have hsg : Pt.sgn s 1 = 43 := by unfold Pt.sgn; rw [hb]; rfl
        have HT2 : Hid ((bstr ((Pt.name s).take 2) ++ bstr [43]) ++ bstr [121] = bstr ((Pt.name s).take 4)) := Lib.hid (by rw [bcat, bcat, ← hsg, ← hch]; rfl)
        clear N2 hb hsg hch
        go_wp2_with fail
        refine (N3.out _).mono ?_
        rintro e w2 ⟨rfl, rfl⟩
        go_wp2_with fail
        go_quiet (fail)
        go_wp2_with fail
        go_roundw
        case rel => exact ⟨2, _, by omega, rfl, rfl, by rw [HZ.out]; exact HT2.out, HR.out, below_drewN HB.out _⟩
        case measure => simp [intOf]
      | true =>
        rw [hb] at N2
        have N3 := Lib.hid N2
        have hsg : Pt.sgn s 1 = 45 := by unfold Pt.sgn; rw [hb]; rfl
        have HT2 : Hid ((bstr ((Pt.name s).take 2) ++ bstr [45]) ++ bstr [121] = bstr ((Pt.name s).take 4)) := Lib.hid (by rw [bcat, bcat, ← hsg, ← hch]; rfl)
        clear N2 hb hsg hch
        go_wp2_with fail
        refine (N3.out _).mono ?_
        rintro e w2 ⟨rfl, rfl⟩
        go_wp2_with fail
        go_quiet (fail)
        go_wp2_with fail
        go_roundw
        case rel => exact ⟨2, _, by omega, rfl, rfl, by rw [HZ.out]; exact HT2.out, HR.out, below_drewN HB.out _⟩
        case measure => simp [intOf]
    · have hzs : z.size = 4 := by rw [hz, bstr_size, List.length_take, name_len]; omega
      have a2 := hR.cellx 2 _ rfl
      have HZ := Lib.hid hz
      have HR := Lib.hid hR
      have HB := Lib.hid hB
      have hch : Pt.chr (Pt.axis (s / 8) 2) = 120 := by rw [HK.out]; rfl
      have N := CN.out 2 (by decide)
      have N2 : ∀ W, Calls Tryd.prog 88 #[.int .i64 (s : Int), .int .i64 2] W fun e w' => e = .returned (.bool (Pt.bit s 2)) ∧ w' = W := N
      clear hz hR hB hi N
      cases hb : Pt.bit s 2 with
      | false =>
        rw [hb] at N2
        have N3 := Lib.hid N2
        have hsg : Pt.sgn s 2 = 43 := by unfold Pt.sgn; rw [hb]; rfl
        have HT2 : Hid ((bstr ((Pt.name s).take 4) ++ bstr [43]) ++ bstr [120] = bstr ((Pt.name s).take 6)) := Lib.hid (by rw [bcat, bcat, ← hsg, ← hch]; rfl)
        clear N2 hb hsg hch
        go_wp2_with fail
        refine (N3.out _).mono ?_
        rintro e w2 ⟨rfl, rfl⟩
        go_wp2_with fail
        go_quiet (fail)
        go_wp2_with fail
        go_roundw
        case rel => exact ⟨3, _, by omega, rfl, rfl, by rw [HZ.out]; exact HT2.out, HR.out, below_drewN HB.out _⟩
        case measure => simp [intOf]
      | true =>
        rw [hb] at N2
        have N3 := Lib.hid N2
        have hsg : Pt.sgn s 2 = 45 := by unfold Pt.sgn; rw [hb]; rfl
        have HT2 : Hid ((bstr ((Pt.name s).take 4) ++ bstr [45]) ++ bstr [120] = bstr ((Pt.name s).take 6)) := Lib.hid (by rw [bcat, bcat, ← hsg, ← hch]; rfl)
        clear N2 hb hsg hch
        go_wp2_with fail
        refine (N3.out _).mono ?_
        rintro e w2 ⟨rfl, rfl⟩
        go_wp2_with fail
        go_quiet (fail)
        go_wp2_with fail
        go_roundw
        case rel => exact ⟨3, _, by omega, rfl, rfl, by rw [HZ.out]; exact HT2.out, HR.out, below_drewN HB.out _⟩
        case measure => simp [intOf]
    · have HZ := Lib.hid hz
      have HB := Lib.hid hB
      clear hz hR hB hi
      go_wp2_with fail
      go_ret
      exact ⟨by rw [HZ.out]; rfl, HB.out⟩
theorem rname_any (s : Nat) (w : World) (hs : s < 48) :
    Calls Tryd.prog 60 #[.int .i64 (s : Int)] w fun e w' => e = .returned (.string (bstr (Pt.name s))) ∧ Below w.heap.size w w' := by
  have hk : (s : Int) / 8 = 0 ∨ (s : Int) / 8 = 1 ∨ (s : Int) / 8 = 2 ∨ (s : Int) / 8 = 3 ∨ (s : Int) / 8 = 4 ∨ (s : Int) / 8 = 5 := by omega
  rcases hk with hk | hk | hk | hk | hk | hk
  · exact rname_o0 s w hs hk
  · exact rname_o1 s w hs hk
  · exact rname_o2 s w hs hk
  · exact rname_o3 s w hs hk
  · exact rname_o4 s w hs hk
  · exact rname_o5 s w hs hk
theorem rname_bool (s : Nat) (nm : ByteArray) (w : World) (hs : s < 48) :
    Calls Tryd.prog 60 #[.int .i64 (s : Int)] w fun e w' => e = .returned (.string (bstr (Pt.name s))) ∧ Below w.heap.size w w' := rname_any s w hs
set_option maxRecDepth 1000000 in
set_option maxHeartbeats 4000000 in
theorem rfind_any (nm : ByteArray) (w : World) :
    Calls Tryd.prog 46 #[.string nm] w fun e w' => e = .returned (.tuple #[.int .i64 (max (fst (isName nm)) 0), .bool (decide (0 ≤ fst (isName nm)))]) ∧ Below w.heap.size w w' := by
  go_enter Tryd.func46, Tryd.ntmps46
  go_wp2_with fail
  go_loopw [4] (fun i wr => ∃ k : Nat, i = .int .i64 (k : Int) ∧ k ≤ 48 ∧ NoneB (isName nm) k ∧ Gr w wr) (fun i _ => 48 - (intOf i).toNat)
  case atStart => exact ⟨0, rfl, by omega, NoneB.zero _, Gr.refl _⟩
  case round =>
    obtain ⟨k, rfl, hk, hn, hG⟩ := hrel
    have HN := Lib.hid hn
    have HG := Lib.hid hG
    clear hn hG
    by_cases hlt : k < 48
    · have CK := Lib.hid (fun W => rname_any k W hlt)
      cases hgk : isName nm k with
      | true =>
        have HK := Lib.hid (fst_hit hlt hgk HN.out)
        have hq : ((bstr (Pt.name k)).toList == nm.toList) = true := hgk
        have HQ := Lib.hid hq
        clear hgk hq
        go_wp2_with fail
        refine (CK.out _).mono ?_
        rintro e w2 ⟨rfl, b2⟩
        have HB := Lib.hid b2
        clear b2
        have hq := HQ.out
        go_wp2_with fail
        refine bodyPost_ret (v := .tuple #[.int .i64 (k : Int), .bool true]) ?_ rfl ?_
        · simp [results, Tryd.results46, go_sem]
        · have hm : max (k : Int) 0 = k := by omega
          have hd : decide (0 ≤ (k : Int)) = true := decide_eq_true (by omega)
          exact ⟨by rw [HK.out, hm, hd], HG.out.trans HB.out⟩
      | false =>
        have HK := Lib.hid (HN.out.succ hgk)
        have hq : ((bstr (Pt.name k)).toList == nm.toList) = false := hgk
        have HQ := Lib.hid hq
        clear hgk hq
        go_wp2_with fail
        refine (CK.out _).mono ?_
        rintro e w2 ⟨rfl, b2⟩
        have HB := Lib.hid b2
        clear b2
        have hq := HQ.out
        go_wp2_with fail
        first
          | exact ⟨⟨k + 1, by go_num, by omega, HK.out, HG.out.trans HB.out⟩, by simp [intOf]; omega⟩
          | (go_roundw
             case rel => exact ⟨k + 1, by go_num, by omega, HK.out, HG.out.trans HB.out⟩
             case measure => simp [intOf]; omega)
    · have h48 : k = 48 := by omega
      subst h48
      have HK := Lib.hid (fst_none HN.out)
      go_wp2_with fail
      refine bodyPost_ret (v := .tuple #[.int .i64 0, .bool false]) ?_ rfl ?_
      · simp [results, Tryd.results46, go_sem]
      · exact ⟨by rw [HK.out]; rfl, HG.out⟩

end Go.Proofs.YthadlgjobjnhcaaDoor
