/-
  voxellaw03.SignMakesAsSpecified, its walk.
-/
import Derived.Test.YtdbdlhgkhnenfaaDoorGst
import Derived.Test.YtdbdlhgkhnenfaaDoorGsp
namespace Go.Proofs.YtdbdlhgkhnenfaaDoor
open Go.RowKit

set_option maxRecDepth 1000000 in
set_option maxHeartbeats 4000000 in
theorem signMakes_rest (seed : List UInt8) (h i : Int) (m d : List UInt8) (w u : World) (q : Nat)
    (C : Hid (Calls Tryd.prog 9 #[] u fun e w' => e = .returned (.bool true) ∧ Below u.heap.size u w')) (B0 : Hid (Below w.heap.size w u)) (BX : Hid (Row q (d.map bv) u))
    (HU : Hid (u = w.alloc (.cells (d.map bv).toArray 23))) (HQ : Hid (q = w.heap.size)) (HT : Hid (Tab w)) (HR : Hid (TabR w))
    (hi : -9223372036854775808 ≤ i ∧ i ≤ 9223372036854775807) (hd : d.length = 16) (h1 : seed.length ≤ 200) (h2 : m.length ≤ 200) (h3 : ¬ (2 < h ∧ h ≤ 6)) :
    Calls Tryd.prog 4 #[.string (bstr seed), .int .i64 h, .int .i64 i, .string (bstr m), .agg (d.map bv).toArray] w
      fun e w' => e = .returned (.bool true) ∧ Below w.heap.size w w' := by
  have es : (bstr seed).size = seed.length := bstr_size seed
  have em : (bstr m).size = m.length := bstr_size m
  have DD := Lib.hid (D16.of hd)
  have CP := Lib.hid (fun (W : World) (ht : Tab W) => public_any seed h W (by omega) ht)
  have CRP := Lib.hid (fun (W : World) (ht : TabR W) => rpublic_any seed h W (by omega) ht)
  have CS := Lib.hid (fun (W : World) (ht : Tab W) => sign_any seed h i m W (by omega) (by omega) ht)
  have CRS := Lib.hid (fun (W : World) (ht : TabR W) => rsign_any seed h i m W (by omega) (by omega) ht)
  have CM := Lib.hid (fun (W : World) (ht : Tab W) => message_any d i m W hd hi (by omega) ht)
  have CRM := Lib.hid (fun (W : World) (ht : TabR W) => rmessage_any d i m W hd hi (by omega) ht)
  have hml := Sg.message_len d i m
  have hpl := pubD_len seed h
  generalize Sg.message d i m = mm at CM CRM hml
  generalize pubD seed h = P1 at CP CRP hpl
  generalize pubE h = E1 at CP CRP
  generalize sgnS seed h i m = S1 at CS CRS
  generalize sgnE h i = F1 at CS CRS
  have DP := Lib.hid (D16.of hpl)
  have heq : ∀ W, (Op.equalIn 10000 23 (.agg (P1.map bv).toArray) (.agg (P1.map bv).toArray)).run Tryd.prog W = .ok (decide (P1 = P1)) W := fun W => run_eq16 W P1 P1 hpl hpl
  have heq2 : ∀ W, (Op.equalIn 10000 23 (.agg (mm.map bv).toArray) (.agg (mm.map bv).toArray)).run Tryd.prog W = .ok (decide (mm = mm)) W := fun W => run_eq16 W mm mm hml hml
  rw [show (decide (P1 = P1)) = true from decide_eq_true rfl] at heq
  rw [show (decide (mm = mm)) = true from decide_eq_true rfl] at heq2
  have HE1 := Lib.hid heq
  have HE2 := Lib.hid heq2
  clear hd hi hml hpl heq heq2
  have b1 : decide ((200 : Int) < (seed.length : Int)) = false := decide_eq_false (by omega)
  have b2 : decide ((200 : Int) < (m.length : Int)) = false := decide_eq_false (by omega)
  by_cases h3a : h > 2
  · have b3 : decide ((2 : Int) < h) = true := decide_eq_true (by omega)
    have b4 : decide (h ≤ 6) = false := decide_eq_false (by omega)
    go_enter Tryd.func4, Tryd.ntmps4
    go_upto_region 1 with fail
    rw [← HU.out, ← HQ.out]
    clear HU HQ
    go_wp2_with fail
    refine C.out.mono ?_
    rintro e w1 ⟨rfl, b1⟩
    have B1 := Lib.hid (B0.out.trans (b1.mono B0.out.size))
    have X1 := Lib.hid (BX.out.below b1)
    clear b1 C B0 BX
    go_wp2_with fail
    refine (CP.out w1 (HT.out.below B1.out)).mono ?_
    rintro e w2 ⟨rfl, b2⟩
    go_upto_region 5 with (with_reducible refine wpList_store_new w2 rfl 23 (.tmp 12) (.tmp 42) rfl _ (P1.map bv).toArray rfl rfl DP.out.J (Eq.trans (b := 16) (by kernel_rfl) DP.out.Z.symm) DP.out.O ?_)
    have r1 := Row.newl w2 (P1.map bv) 23
    have v1 := Gr.trans (show Gr w1 w2 from b2) (Gr.al w2 (.cells (P1.map bv).toArray 23))
    obtain ⟨g1, hg1⟩ : ∃ x, x = w2.heap.size := ⟨_, rfl⟩
    obtain ⟨V1, hV1⟩ : ∃ x, x = w2.alloc (.cells (P1.map bv).toArray 23) := ⟨_, rfl⟩
    rw [← hV1] at r1 v1 ⊢
    rw [← hg1] at r1 ⊢
    have Y1 := Lib.hid r1
    have X1 := Lib.hid (X1.out.below v1)
    have B2 := Lib.hid (Gr.to B1.out v1)
    clear r1 v1 hg1 hV1 b2 B1
    go_wp2_with fail
    refine (CRP.out V1 (HR.out.below B2.out)).mono ?_
    rintro e w3 ⟨rfl, b3⟩
    go_upto_region 6 with (with_reducible refine wpList_store_new w3 rfl 23 (.tmp 14) (.tmp 48) rfl _ (P1.map bv).toArray rfl rfl DP.out.J (Eq.trans (b := 16) (by kernel_rfl) DP.out.Z.symm) DP.out.O ?_)
    have r2 := Row.newl w3 (P1.map bv) 23
    have v2 := Gr.trans (show Gr V1 w3 from b3) (Gr.al w3 (.cells (P1.map bv).toArray 23))
    obtain ⟨g2, hg2⟩ : ∃ x, x = w3.heap.size := ⟨_, rfl⟩
    obtain ⟨V2, hV2⟩ : ∃ x, x = w3.alloc (.cells (P1.map bv).toArray 23) := ⟨_, rfl⟩
    rw [← hV2] at r2 v2 ⊢
    rw [← hg2] at r2 ⊢
    have Y2 := Lib.hid r2
    have Y1 := Lib.hid (Y1.out.below v2)
    have X1 := Lib.hid (X1.out.below v2)
    have B3 := Lib.hid (Gr.to B2.out v2)
    clear r2 v2 hg2 hV2 b3 B2
    go_wp2_with fail
    refine (CS.out V2 (HT.out.below B3.out)).mono ?_
    rintro e w4 ⟨rfl, b4⟩
    have Y1 := Lib.hid (Y1.out.below b4)
    have Y2 := Lib.hid (Y2.out.below b4)
    have X2 := Lib.hid (X1.out.below b4)
    have B4 := Lib.hid (Gr.to B3.out (show Gr V2 w4 from b4))
    clear b4 B3
    go_wp2_with fail
    refine (CRS.out w4 (HR.out.below B4.out)).mono ?_
    rintro e w5 ⟨rfl, b5⟩
    have Y1 := Lib.hid (Y1.out.below b5)
    have Y2 := Lib.hid (Y2.out.below b5)
    have X3 := Lib.hid (X2.out.below b5)
    have B6 := Lib.hid (Gr.to B4.out (show Gr w4 w5 from b5))
    clear b5 B4
    go_upto_region 8 with fail
    refine wpK_region (by kernel_rfl) ?_
    refine wpK_ta (i := 0) (some 66) rfl rfl (by kernel_rfl) (fun _ _ _ h => h) (Or.inl ⟨rfl, fun _ => rfl⟩) ?_
    simp only [Act.put, List.setIfInBounds_toArray, List.set_cons_zero, List.set_cons_succ]
    refine wpK_ta (i := 1) (some 67) rfl rfl (by kernel_rfl) (fun _ _ _ h => h) (Or.inl ⟨rfl, fun _ => rfl⟩) ?_
    simp only [Act.put, List.setIfInBounds_toArray, List.set_cons_zero, List.set_cons_succ]
    refine wpK_tk (i := 2) (some 68) rfl rfl (by kernel_rfl) (fun _ _ _ h => h) (.load_mid (by rfl) 23 (.tmp 12) rfl (g1) (0) rfl (P1.map bv) _ (fun W hg => (Y1.out.below hg.un).range) Tryd.underlying23 rfl DP.out.I) ?_
    simp only [Act.put, List.setIfInBounds_toArray, List.set_cons_zero, List.set_cons_succ]
    refine wpK_tk (i := 3) (some 69) rfl rfl (by kernel_rfl) (fun _ _ _ h => h) (.load_mid (by rfl) 23 (.tmp 14) rfl (g2) (0) rfl (P1.map bv) _ (fun W hg => (Y2.out.below hg.un).range) Tryd.underlying23 rfl DP.out.I) ?_
    simp only [Act.put, List.setIfInBounds_toArray, List.set_cons_zero, List.set_cons_succ]
    refine wpK_ta (i := 4) (some 70) (v := .bool true) rfl rfl (by kernel_rfl) (fun _ _ _ h => h) (Or.inl ⟨by rfl, fun W => by (have hc := HE1.out W; go_simp)⟩) ?_
    simp only [Act.put, List.setIfInBounds_toArray, List.set_cons_zero, List.set_cons_succ]
    refine wpK_ta (i := 5) (some 71) (v := .bool true) rfl rfl (by kernel_rfl) (fun _ _ _ h => h) (Or.inl ⟨by rfl, fun W => by go_simp⟩) ?_
    simp only [Act.put, List.setIfInBounds_toArray, List.set_cons_zero, List.set_cons_succ]
    refine wpK_ta (i := 6) (some 72) rfl rfl (by kernel_rfl) (fun _ _ _ h => h) (Or.inl ⟨rfl, fun _ => rfl⟩) ?_
    simp only [Act.put, List.setIfInBounds_toArray, List.set_cons_zero, List.set_cons_succ]
    refine wpK_ta (i := 7) (some 73) rfl rfl (by kernel_rfl) (fun _ _ _ h => h) (Or.inl ⟨rfl, fun _ => rfl⟩) ?_
    simp only [Act.put, List.setIfInBounds_toArray, List.set_cons_zero, List.set_cons_succ]
    refine wpK_ta (i := 8) (some 74) rfl rfl (by kernel_rfl) (fun _ _ _ h => h) (Or.inl ⟨rfl, fun _ => rfl⟩) ?_
    simp only [Act.put, List.setIfInBounds_toArray, List.set_cons_zero, List.set_cons_succ]
    refine wpK_ta (i := 9) (some 75) (v := .bool true) rfl rfl (by kernel_rfl) (fun _ _ _ h => h) (Or.inl ⟨by rfl, fun W => by go_simp⟩) ?_
    simp only [Act.put, List.setIfInBounds_toArray, List.set_cons_zero, List.set_cons_succ]
    refine wpK_ta (i := 10) (some 76) (v := .bool true) rfl rfl (by kernel_rfl) (fun _ _ _ h => h) (Or.inl ⟨by rfl, fun W => by go_simp⟩) ?_
    simp only [Act.put, List.setIfInBounds_toArray, List.set_cons_zero, List.set_cons_succ]
    refine wpK_ta (i := 11) (some 77) rfl rfl (by kernel_rfl) (fun _ _ _ h => h) (Or.inl ⟨rfl, fun _ => rfl⟩) ?_
    simp only [Act.put, List.setIfInBounds_toArray, List.set_cons_zero, List.set_cons_succ]
    refine wpK_ta (i := 12) (some 78) rfl rfl (by kernel_rfl) (fun _ _ _ h => h) (Or.inl ⟨rfl, fun _ => rfl⟩) ?_
    simp only [Act.put, List.setIfInBounds_toArray, List.set_cons_zero, List.set_cons_succ]
    refine wpK_ta (i := 13) (some 79) rfl rfl (by kernel_rfl) (fun _ _ _ h => h) (Or.inl ⟨rfl, fun _ => rfl⟩) ?_
    simp only [Act.put, List.setIfInBounds_toArray, List.set_cons_zero, List.set_cons_succ]
    refine wpK_ta (i := 14) (some 80) (v := .bool true) rfl rfl (by kernel_rfl) (fun _ _ _ h => h) (Or.inl ⟨by rfl, fun W => by go_simp⟩) ?_
    simp only [Act.put, List.setIfInBounds_toArray, List.set_cons_zero, List.set_cons_succ]
    refine wpK_ta (i := 15) (some 81) (v := .bool true) rfl rfl (by kernel_rfl) (fun _ _ _ h => h) (Or.inl ⟨by rfl, fun W => by go_simp⟩) ?_
    simp only [Act.put, List.setIfInBounds_toArray, List.set_cons_zero, List.set_cons_succ]
    refine wpK_ta (i := 16) (some 82) rfl rfl (by kernel_rfl) (fun _ _ _ h => h) (Or.inl ⟨rfl, fun _ => rfl⟩) ?_
    simp only [Act.put, List.setIfInBounds_toArray, List.set_cons_zero, List.set_cons_succ]
    refine wpK_ta (i := 17) (some 83) rfl rfl (by kernel_rfl) (fun _ _ _ h => h) (Or.inl ⟨rfl, fun _ => rfl⟩) ?_
    simp only [Act.put, List.setIfInBounds_toArray, List.set_cons_zero, List.set_cons_succ]
    refine wpK_ta (i := 18) (some 84) rfl rfl (by kernel_rfl) (fun _ _ _ h => h) (Or.inl ⟨rfl, fun _ => rfl⟩) ?_
    simp only [Act.put, List.setIfInBounds_toArray, List.set_cons_zero, List.set_cons_succ]
    refine wpK_ta (i := 19) (some 85) (v := .bool true) rfl rfl (by kernel_rfl) (fun _ _ _ h => h) (Or.inl ⟨by rfl, fun W => by go_simp⟩) ?_
    simp only [Act.put, List.setIfInBounds_toArray, List.set_cons_zero, List.set_cons_succ]
    refine wpK_ta (i := 20) (some 86) (v := .bool true) rfl rfl (by kernel_rfl) (fun _ _ _ h => h) (Or.inl ⟨by rfl, fun W => by go_simp⟩) ?_
    simp only [Act.put, List.setIfInBounds_toArray, List.set_cons_zero, List.set_cons_succ]
    refine wpK_ta (i := 21) (some 87) rfl rfl (by kernel_rfl) (fun _ _ _ h => h) (Or.inl ⟨rfl, fun _ => rfl⟩) ?_
    simp only [Act.put, List.setIfInBounds_toArray, List.set_cons_zero, List.set_cons_succ]
    refine wpK_ta (i := 23) (some 89) rfl rfl (by kernel_rfl) (fun _ _ _ h => h) (Or.inl ⟨rfl, fun _ => rfl⟩) ?_
    simp only [Act.put, List.setIfInBounds_toArray, List.set_cons_zero, List.set_cons_succ]
    refine wpK_ta (i := 24) (some 90) rfl rfl (by kernel_rfl) (fun _ _ _ h => h) (Or.inl ⟨rfl, fun _ => rfl⟩) ?_
    simp only [Act.put, List.setIfInBounds_toArray, List.set_cons_zero, List.set_cons_succ]
    refine wpK_ta (i := 27) (some 93) rfl rfl (by kernel_rfl) (fun _ _ _ h => h) (Or.inl ⟨rfl, fun _ => rfl⟩) ?_
    simp only [Act.put, List.setIfInBounds_toArray, List.set_cons_zero, List.set_cons_succ]
    refine wpK_ta (i := 28) (some 94) rfl rfl (by kernel_rfl) (fun _ _ _ h => h) (Or.inl ⟨rfl, fun _ => rfl⟩) ?_
    simp only [Act.put, List.setIfInBounds_toArray, List.set_cons_zero, List.set_cons_succ]
    refine wpK_tk (i := 22) (some 88) rfl rfl (by kernel_rfl) (fun _ _ _ h => h) (.load_mid (by rfl) 23 (.tmp 9) rfl (q) (0) rfl (d.map bv) _ (fun W hg => (X3.out.below hg.un).range) Tryd.underlying23 rfl DD.out.I) ?_
    simp only [Act.put, List.setIfInBounds_toArray, List.set_cons_zero, List.set_cons_succ]
    refine wpK_tk (i := 26) (some 92) rfl rfl (by kernel_rfl) (fun _ _ _ h => h) (.load_mid (by rfl) 23 (.tmp 9) rfl (q) (0) rfl (d.map bv) _ (fun W hg => (X3.out.below hg.un).range) Tryd.underlying23 rfl DD.out.I) ?_
    simp only [Act.put, List.setIfInBounds_toArray, List.set_cons_zero, List.set_cons_succ]
    refine wpK_tk (i := 25) (some 91) (v := .agg (mm.map bv).toArray) rfl rfl (by kernel_rfl) (fun _ _ _ h => h) (.call (f := 20) (args := #[.agg (d.map bv).toArray, .int .i64 i, .string (bstr m)]) (by rfl) (fun W => by go_simp) (fun W hg => CM.out W (HT.out.below (Gr.to B6.out hg.un)))) ?_
    simp only [Act.put, List.setIfInBounds_toArray, List.set_cons_zero, List.set_cons_succ]
    refine wpK_tk (i := 29) (some 95) (v := .agg (mm.map bv).toArray) rfl rfl (by kernel_rfl) (fun _ _ _ h => h) (.call (f := 21) (args := #[.agg (d.map bv).toArray, .int .i64 i, .string (bstr m)]) (by rfl) (fun W => by go_simp) (fun W hg => CRM.out W (HR.out.below (Gr.to B6.out hg.un)))) ?_
    simp only [Act.put, List.setIfInBounds_toArray, List.set_cons_zero, List.set_cons_succ]
    refine wpK_ta (i := 30) (some 96) (v := .bool true) rfl rfl (by kernel_rfl) (fun _ _ _ h => h) (Or.inl ⟨by rfl, fun W => by (have hc := HE2.out W; go_simp)⟩) ?_
    simp only [Act.put, List.setIfInBounds_toArray, List.set_cons_zero, List.set_cons_succ]
    refine wpK_ta (i := 31) (some 97) (v := .bool true) rfl rfl (by kernel_rfl) (fun _ _ _ h => h) (Or.inl ⟨by rfl, fun W => by go_simp⟩) ?_
    simp only [Act.put, List.setIfInBounds_toArray, List.set_cons_zero, List.set_cons_succ]
    refine wpK_ta (i := 32) (some 10) (v := .bool true) rfl rfl (by kernel_rfl) (fun _ _ _ h => h) (Or.inl ⟨by rfl, fun W => by go_simp⟩) ?_
    simp only [Act.put, List.setIfInBounds_toArray, List.set_cons_zero, List.set_cons_succ]
    refine wpK_done (by kernel_rfl) (fun W9 hgW9 => ?_) _
    go_wp2_with fail
    go_ret
    exact ⟨rfl, Gr.to B6.out hgW9.un⟩
  · have b3 : decide ((2 : Int) < h) = false := decide_eq_false (by omega)
    go_enter Tryd.func4, Tryd.ntmps4
    go_upto_region 1 with fail
    rw [← HU.out, ← HQ.out]
    clear HU HQ
    go_wp2_with fail
    refine C.out.mono ?_
    rintro e w1 ⟨rfl, b1⟩
    have B1 := Lib.hid (B0.out.trans (b1.mono B0.out.size))
    have X1 := Lib.hid (BX.out.below b1)
    clear b1 C B0 BX
    go_wp2_with fail
    refine (CP.out w1 (HT.out.below B1.out)).mono ?_
    rintro e w2 ⟨rfl, b2⟩
    go_upto_region 5 with (with_reducible refine wpList_store_new w2 rfl 23 (.tmp 12) (.tmp 42) rfl _ (P1.map bv).toArray rfl rfl DP.out.J (Eq.trans (b := 16) (by kernel_rfl) DP.out.Z.symm) DP.out.O ?_)
    have r1 := Row.newl w2 (P1.map bv) 23
    have v1 := Gr.trans (show Gr w1 w2 from b2) (Gr.al w2 (.cells (P1.map bv).toArray 23))
    obtain ⟨g1, hg1⟩ : ∃ x, x = w2.heap.size := ⟨_, rfl⟩
    obtain ⟨V1, hV1⟩ : ∃ x, x = w2.alloc (.cells (P1.map bv).toArray 23) := ⟨_, rfl⟩
    rw [← hV1] at r1 v1 ⊢
    rw [← hg1] at r1 ⊢
    have Y1 := Lib.hid r1
    have X1 := Lib.hid (X1.out.below v1)
    have B2 := Lib.hid (Gr.to B1.out v1)
    clear r1 v1 hg1 hV1 b2 B1
    go_wp2_with fail
    refine (CRP.out V1 (HR.out.below B2.out)).mono ?_
    rintro e w3 ⟨rfl, b3⟩
    go_upto_region 6 with (with_reducible refine wpList_store_new w3 rfl 23 (.tmp 14) (.tmp 48) rfl _ (P1.map bv).toArray rfl rfl DP.out.J (Eq.trans (b := 16) (by kernel_rfl) DP.out.Z.symm) DP.out.O ?_)
    have r2 := Row.newl w3 (P1.map bv) 23
    have v2 := Gr.trans (show Gr V1 w3 from b3) (Gr.al w3 (.cells (P1.map bv).toArray 23))
    obtain ⟨g2, hg2⟩ : ∃ x, x = w3.heap.size := ⟨_, rfl⟩
    obtain ⟨V2, hV2⟩ : ∃ x, x = w3.alloc (.cells (P1.map bv).toArray 23) := ⟨_, rfl⟩
    rw [← hV2] at r2 v2 ⊢
    rw [← hg2] at r2 ⊢
    have Y2 := Lib.hid r2
    have Y1 := Lib.hid (Y1.out.below v2)
    have X1 := Lib.hid (X1.out.below v2)
    have B3 := Lib.hid (Gr.to B2.out v2)
    clear r2 v2 hg2 hV2 b3 B2
    go_wp2_with fail
    refine (CS.out V2 (HT.out.below B3.out)).mono ?_
    rintro e w4 ⟨rfl, b4⟩
    have Y1 := Lib.hid (Y1.out.below b4)
    have Y2 := Lib.hid (Y2.out.below b4)
    have X2 := Lib.hid (X1.out.below b4)
    have B4 := Lib.hid (Gr.to B3.out (show Gr V2 w4 from b4))
    clear b4 B3
    go_wp2_with fail
    refine (CRS.out w4 (HR.out.below B4.out)).mono ?_
    rintro e w5 ⟨rfl, b5⟩
    have Y1 := Lib.hid (Y1.out.below b5)
    have Y2 := Lib.hid (Y2.out.below b5)
    have X3 := Lib.hid (X2.out.below b5)
    have B6 := Lib.hid (Gr.to B4.out (show Gr w4 w5 from b5))
    clear b5 B4
    go_upto_region 8 with fail
    refine wpK_region (by kernel_rfl) ?_
    refine wpK_ta (i := 0) (some 66) rfl rfl (by kernel_rfl) (fun _ _ _ h => h) (Or.inl ⟨rfl, fun _ => rfl⟩) ?_
    simp only [Act.put, List.setIfInBounds_toArray, List.set_cons_zero, List.set_cons_succ]
    refine wpK_ta (i := 1) (some 67) rfl rfl (by kernel_rfl) (fun _ _ _ h => h) (Or.inl ⟨rfl, fun _ => rfl⟩) ?_
    simp only [Act.put, List.setIfInBounds_toArray, List.set_cons_zero, List.set_cons_succ]
    refine wpK_tk (i := 2) (some 68) rfl rfl (by kernel_rfl) (fun _ _ _ h => h) (.load_mid (by rfl) 23 (.tmp 12) rfl (g1) (0) rfl (P1.map bv) _ (fun W hg => (Y1.out.below hg.un).range) Tryd.underlying23 rfl DP.out.I) ?_
    simp only [Act.put, List.setIfInBounds_toArray, List.set_cons_zero, List.set_cons_succ]
    refine wpK_tk (i := 3) (some 69) rfl rfl (by kernel_rfl) (fun _ _ _ h => h) (.load_mid (by rfl) 23 (.tmp 14) rfl (g2) (0) rfl (P1.map bv) _ (fun W hg => (Y2.out.below hg.un).range) Tryd.underlying23 rfl DP.out.I) ?_
    simp only [Act.put, List.setIfInBounds_toArray, List.set_cons_zero, List.set_cons_succ]
    refine wpK_ta (i := 4) (some 70) (v := .bool true) rfl rfl (by kernel_rfl) (fun _ _ _ h => h) (Or.inl ⟨by rfl, fun W => by (have hc := HE1.out W; go_simp)⟩) ?_
    simp only [Act.put, List.setIfInBounds_toArray, List.set_cons_zero, List.set_cons_succ]
    refine wpK_ta (i := 5) (some 71) (v := .bool true) rfl rfl (by kernel_rfl) (fun _ _ _ h => h) (Or.inl ⟨by rfl, fun W => by go_simp⟩) ?_
    simp only [Act.put, List.setIfInBounds_toArray, List.set_cons_zero, List.set_cons_succ]
    refine wpK_ta (i := 6) (some 72) rfl rfl (by kernel_rfl) (fun _ _ _ h => h) (Or.inl ⟨rfl, fun _ => rfl⟩) ?_
    simp only [Act.put, List.setIfInBounds_toArray, List.set_cons_zero, List.set_cons_succ]
    refine wpK_ta (i := 7) (some 73) rfl rfl (by kernel_rfl) (fun _ _ _ h => h) (Or.inl ⟨rfl, fun _ => rfl⟩) ?_
    simp only [Act.put, List.setIfInBounds_toArray, List.set_cons_zero, List.set_cons_succ]
    refine wpK_ta (i := 8) (some 74) rfl rfl (by kernel_rfl) (fun _ _ _ h => h) (Or.inl ⟨rfl, fun _ => rfl⟩) ?_
    simp only [Act.put, List.setIfInBounds_toArray, List.set_cons_zero, List.set_cons_succ]
    refine wpK_ta (i := 9) (some 75) (v := .bool true) rfl rfl (by kernel_rfl) (fun _ _ _ h => h) (Or.inl ⟨by rfl, fun W => by go_simp⟩) ?_
    simp only [Act.put, List.setIfInBounds_toArray, List.set_cons_zero, List.set_cons_succ]
    refine wpK_ta (i := 10) (some 76) (v := .bool true) rfl rfl (by kernel_rfl) (fun _ _ _ h => h) (Or.inl ⟨by rfl, fun W => by go_simp⟩) ?_
    simp only [Act.put, List.setIfInBounds_toArray, List.set_cons_zero, List.set_cons_succ]
    refine wpK_ta (i := 11) (some 77) rfl rfl (by kernel_rfl) (fun _ _ _ h => h) (Or.inl ⟨rfl, fun _ => rfl⟩) ?_
    simp only [Act.put, List.setIfInBounds_toArray, List.set_cons_zero, List.set_cons_succ]
    refine wpK_ta (i := 12) (some 78) rfl rfl (by kernel_rfl) (fun _ _ _ h => h) (Or.inl ⟨rfl, fun _ => rfl⟩) ?_
    simp only [Act.put, List.setIfInBounds_toArray, List.set_cons_zero, List.set_cons_succ]
    refine wpK_ta (i := 13) (some 79) rfl rfl (by kernel_rfl) (fun _ _ _ h => h) (Or.inl ⟨rfl, fun _ => rfl⟩) ?_
    simp only [Act.put, List.setIfInBounds_toArray, List.set_cons_zero, List.set_cons_succ]
    refine wpK_ta (i := 14) (some 80) (v := .bool true) rfl rfl (by kernel_rfl) (fun _ _ _ h => h) (Or.inl ⟨by rfl, fun W => by go_simp⟩) ?_
    simp only [Act.put, List.setIfInBounds_toArray, List.set_cons_zero, List.set_cons_succ]
    refine wpK_ta (i := 15) (some 81) (v := .bool true) rfl rfl (by kernel_rfl) (fun _ _ _ h => h) (Or.inl ⟨by rfl, fun W => by go_simp⟩) ?_
    simp only [Act.put, List.setIfInBounds_toArray, List.set_cons_zero, List.set_cons_succ]
    refine wpK_ta (i := 16) (some 82) rfl rfl (by kernel_rfl) (fun _ _ _ h => h) (Or.inl ⟨rfl, fun _ => rfl⟩) ?_
    simp only [Act.put, List.setIfInBounds_toArray, List.set_cons_zero, List.set_cons_succ]
    refine wpK_ta (i := 17) (some 83) rfl rfl (by kernel_rfl) (fun _ _ _ h => h) (Or.inl ⟨rfl, fun _ => rfl⟩) ?_
    simp only [Act.put, List.setIfInBounds_toArray, List.set_cons_zero, List.set_cons_succ]
    refine wpK_ta (i := 18) (some 84) rfl rfl (by kernel_rfl) (fun _ _ _ h => h) (Or.inl ⟨rfl, fun _ => rfl⟩) ?_
    simp only [Act.put, List.setIfInBounds_toArray, List.set_cons_zero, List.set_cons_succ]
    refine wpK_ta (i := 19) (some 85) (v := .bool true) rfl rfl (by kernel_rfl) (fun _ _ _ h => h) (Or.inl ⟨by rfl, fun W => by go_simp⟩) ?_
    simp only [Act.put, List.setIfInBounds_toArray, List.set_cons_zero, List.set_cons_succ]
    refine wpK_ta (i := 20) (some 86) (v := .bool true) rfl rfl (by kernel_rfl) (fun _ _ _ h => h) (Or.inl ⟨by rfl, fun W => by go_simp⟩) ?_
    simp only [Act.put, List.setIfInBounds_toArray, List.set_cons_zero, List.set_cons_succ]
    refine wpK_ta (i := 21) (some 87) rfl rfl (by kernel_rfl) (fun _ _ _ h => h) (Or.inl ⟨rfl, fun _ => rfl⟩) ?_
    simp only [Act.put, List.setIfInBounds_toArray, List.set_cons_zero, List.set_cons_succ]
    refine wpK_ta (i := 23) (some 89) rfl rfl (by kernel_rfl) (fun _ _ _ h => h) (Or.inl ⟨rfl, fun _ => rfl⟩) ?_
    simp only [Act.put, List.setIfInBounds_toArray, List.set_cons_zero, List.set_cons_succ]
    refine wpK_ta (i := 24) (some 90) rfl rfl (by kernel_rfl) (fun _ _ _ h => h) (Or.inl ⟨rfl, fun _ => rfl⟩) ?_
    simp only [Act.put, List.setIfInBounds_toArray, List.set_cons_zero, List.set_cons_succ]
    refine wpK_ta (i := 27) (some 93) rfl rfl (by kernel_rfl) (fun _ _ _ h => h) (Or.inl ⟨rfl, fun _ => rfl⟩) ?_
    simp only [Act.put, List.setIfInBounds_toArray, List.set_cons_zero, List.set_cons_succ]
    refine wpK_ta (i := 28) (some 94) rfl rfl (by kernel_rfl) (fun _ _ _ h => h) (Or.inl ⟨rfl, fun _ => rfl⟩) ?_
    simp only [Act.put, List.setIfInBounds_toArray, List.set_cons_zero, List.set_cons_succ]
    refine wpK_tk (i := 22) (some 88) rfl rfl (by kernel_rfl) (fun _ _ _ h => h) (.load_mid (by rfl) 23 (.tmp 9) rfl (q) (0) rfl (d.map bv) _ (fun W hg => (X3.out.below hg.un).range) Tryd.underlying23 rfl DD.out.I) ?_
    simp only [Act.put, List.setIfInBounds_toArray, List.set_cons_zero, List.set_cons_succ]
    refine wpK_tk (i := 26) (some 92) rfl rfl (by kernel_rfl) (fun _ _ _ h => h) (.load_mid (by rfl) 23 (.tmp 9) rfl (q) (0) rfl (d.map bv) _ (fun W hg => (X3.out.below hg.un).range) Tryd.underlying23 rfl DD.out.I) ?_
    simp only [Act.put, List.setIfInBounds_toArray, List.set_cons_zero, List.set_cons_succ]
    refine wpK_tk (i := 25) (some 91) (v := .agg (mm.map bv).toArray) rfl rfl (by kernel_rfl) (fun _ _ _ h => h) (.call (f := 20) (args := #[.agg (d.map bv).toArray, .int .i64 i, .string (bstr m)]) (by rfl) (fun W => by go_simp) (fun W hg => CM.out W (HT.out.below (Gr.to B6.out hg.un)))) ?_
    simp only [Act.put, List.setIfInBounds_toArray, List.set_cons_zero, List.set_cons_succ]
    refine wpK_tk (i := 29) (some 95) (v := .agg (mm.map bv).toArray) rfl rfl (by kernel_rfl) (fun _ _ _ h => h) (.call (f := 21) (args := #[.agg (d.map bv).toArray, .int .i64 i, .string (bstr m)]) (by rfl) (fun W => by go_simp) (fun W hg => CRM.out W (HR.out.below (Gr.to B6.out hg.un)))) ?_
    simp only [Act.put, List.setIfInBounds_toArray, List.set_cons_zero, List.set_cons_succ]
    refine wpK_ta (i := 30) (some 96) (v := .bool true) rfl rfl (by kernel_rfl) (fun _ _ _ h => h) (Or.inl ⟨by rfl, fun W => by (have hc := HE2.out W; go_simp)⟩) ?_
    simp only [Act.put, List.setIfInBounds_toArray, List.set_cons_zero, List.set_cons_succ]
    refine wpK_ta (i := 31) (some 97) (v := .bool true) rfl rfl (by kernel_rfl) (fun _ _ _ h => h) (Or.inl ⟨by rfl, fun W => by go_simp⟩) ?_
    simp only [Act.put, List.setIfInBounds_toArray, List.set_cons_zero, List.set_cons_succ]
    refine wpK_ta (i := 32) (some 10) (v := .bool true) rfl rfl (by kernel_rfl) (fun _ _ _ h => h) (Or.inl ⟨by rfl, fun W => by go_simp⟩) ?_
    simp only [Act.put, List.setIfInBounds_toArray, List.set_cons_zero, List.set_cons_succ]
    refine wpK_done (by kernel_rfl) (fun W9 hgW9 => ?_) _
    go_wp2_with fail
    go_ret
    exact ⟨rfl, Gr.to B6.out hgW9.un⟩

set_option maxRecDepth 1000000 in
set_option maxHeartbeats 4000000 in
theorem signMakes_law (seed : List UInt8) (h i : Int) (m d : List UInt8) (w : World) (hT : Tab w) (hR : TabR w) (hi : -9223372036854775808 ≤ i ∧ i ≤ 9223372036854775807) (hd : d.length = 16) (hs : seed.length ≤ 140737488351232) (hm : m.length ≤ 140737488351232) :
    Calls Tryd.prog 4 #[.string (bstr seed), .int .i64 h, .int .i64 i, .string (bstr m), .agg (d.map bv).toArray] w
      fun e w' => e = .returned (.bool true) ∧ Below w.heap.size w w' := by
  have es : (bstr seed).size = seed.length := bstr_size seed
  have em : (bstr m).size = m.length := bstr_size m
  have BX := Lib.hid (Row.newl w (d.map bv) 23)
  have g0 := Gr.al w (.cells (d.map bv).toArray 23)
  obtain ⟨u, hu⟩ : ∃ x, x = w.alloc (.cells (d.map bv).toArray 23) := ⟨_, rfl⟩
  rw [← hu] at BX g0
  have HU := Lib.hid hu
  have C := Lib.hid (sanity_any u (hT.below g0))
  have B0 : Hid (Below w.heap.size w u) := Lib.hid g0
  have DD := Lib.hid (D16.of hd)
  have HT := Lib.hid hT
  have HR := Lib.hid hR
  obtain ⟨q, hq⟩ : ∃ x, x = w.heap.size := ⟨_, rfl⟩
  rw [← hq] at BX
  have HQ := Lib.hid hq
  clear hu g0 hq hT hR
  by_cases h1 : seed.length ≤ 200
  case neg =>
    have b1 : decide ((200 : Int) < (seed.length : Int)) = true := decide_eq_true (by omega)
    go_enter Tryd.func4, Tryd.ntmps4
    go_upto_region 1 with fail
    rw [← HU.out, ← HQ.out]
    clear HU HQ
    go_wp2_with fail
    refine C.out.mono ?_
    rintro e w1 ⟨rfl, b1⟩
    have B1 := Lib.hid (B0.out.trans (b1.mono B0.out.size))
    clear b1 C B0
    go_wp2_with fail
    go_ret
    exact ⟨rfl, B1.out⟩
  by_cases h2 : m.length ≤ 200
  case neg =>
    have b1 : decide ((200 : Int) < (seed.length : Int)) = false := decide_eq_false (by omega)
    have b2 : decide ((200 : Int) < (m.length : Int)) = true := decide_eq_true (by omega)
    go_enter Tryd.func4, Tryd.ntmps4
    go_upto_region 1 with fail
    rw [← HU.out, ← HQ.out]
    clear HU HQ
    go_wp2_with fail
    refine C.out.mono ?_
    rintro e w1 ⟨rfl, b1⟩
    have B1 := Lib.hid (B0.out.trans (b1.mono B0.out.size))
    clear b1 C B0
    go_wp2_with fail
    go_ret
    exact ⟨rfl, B1.out⟩
  by_cases h3 : h ≤ 2
  case neg =>
    by_cases h4 : h ≤ 6
    · have b1 : decide ((200 : Int) < (seed.length : Int)) = false := decide_eq_false (by omega)
      have b2 : decide ((200 : Int) < (m.length : Int)) = false := decide_eq_false (by omega)
      have b3 : decide ((2 : Int) < h) = true := decide_eq_true (by omega)
      have b4 : decide (h ≤ 6) = true := decide_eq_true (by omega)
      go_enter Tryd.func4, Tryd.ntmps4
      go_upto_region 1 with fail
      rw [← HU.out, ← HQ.out]
      clear HU HQ
      go_wp2_with fail
      refine C.out.mono ?_
      rintro e w1 ⟨rfl, b1⟩
      have B1 := Lib.hid (B0.out.trans (b1.mono B0.out.size))
      clear b1 C B0
      go_wp2_with fail
      go_ret
      exact ⟨rfl, B1.out⟩
    · exact signMakes_rest seed h i m d w u q C B0 BX HU HQ HT HR hi hd h1 h2 (by omega)
  exact signMakes_rest seed h i m d w u q C B0 BX HU HQ HT HR hi hd h1 h2 (by omega)
end Go.Proofs.YtdbdlhgkhnenfaaDoor
