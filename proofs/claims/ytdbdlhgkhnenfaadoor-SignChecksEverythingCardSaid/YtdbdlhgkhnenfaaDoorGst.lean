/-
  The examples of package sign's documentation (what every statement calls first).
-/
import Derived.Test.YtdbdlhgkhnenfaaDoorGsy
import Derived.Test.YtdbdlhgkhnenfaaDoorGsq
namespace Go.Proofs.YtdbdlhgkhnenfaaDoor
open Go.RowKit

theorem getI_sign (seed : List UInt8) (h i : Nat) (m t : List UInt8) (hi : i ≤ 1000) : Wm.getI (Sg.sign seed h i m ++ t) = ((i : Int), (Wm.encI (i : Int)).length, 0) := by
  unfold Sg.sign
  rw [List.append_assoc, List.append_assoc]
  exact Wm.getI_enc (i : Int) _ (by omega) (by omega)
/-- what is signed is accepted -/
theorem verify_sign (seed : List UInt8) (h i : Nat) (m : List UInt8) (hh : h ≤ 6) (hi : i < 2 ^ h) : Sg.verify (Sg.value seed h 0) (h : Int) m (Sg.sign seed h i m) = ((i : Int), 0) := by
  have h64 : 2 ^ h ≤ 64 := Nat.le_trans (Nat.pow_le_pow_right (by omega) hh) (by decide)
  have hg := getI_sign seed h i m [] (by omega)
  rw [List.append_nil] at hg
  have hc : cnt (h : Int) = ((2 ^ h : Nat) : Int) := by rw [cnt_in (by omega)]; norm_cast
  have hx : 0 ≤ (Wm.getI (Sg.sign seed h i m)).1 ∧ (Wm.getI (Sg.sign seed h i m)).1 < cnt (h : Int) := by
    rw [hg, hc]; exact ⟨Int.natCast_nonneg _, Int.ofNat_lt.2 hi⟩
  rw [ver_f (by omega) (by rw [hg]) hx (by rw [siz_in hx, hg, Sg.sign_len]; push_cast; omega)]
  rw [hg]
  simp only [Int.toNat_natCast]
  rw [Sg.root_sign seed h i m hi, if_pos rfl]
/-- a signature that goes on is refused -/
theorem verify_more (seed : List UInt8) (h i : Nat) (m t : List UInt8) (p : List UInt8) (hh : h ≤ 6) (hi : i < 2 ^ h) (ht : 0 < t.length) : Sg.verify p (h : Int) m (Sg.sign seed h i m ++ t) = (0, 6) := by
  have h64 : 2 ^ h ≤ 64 := Nat.le_trans (Nat.pow_le_pow_right (by omega) hh) (by decide)
  have hg := getI_sign seed h i m t (by omega)
  have hc : cnt (h : Int) = ((2 ^ h : Nat) : Int) := by rw [cnt_in (by omega)]; norm_cast
  have hx : 0 ≤ (Wm.getI (Sg.sign seed h i m ++ t)).1 ∧ (Wm.getI (Sg.sign seed h i m ++ t)).1 < cnt (h : Int) := by
    rw [hg, hc]; exact ⟨Int.natCast_nonneg _, Int.ofNat_lt.2 hi⟩
  exact ver_e (by omega) (by rw [hg]) hx (by rw [siz_in hx, hg, List.length_append, Sg.sign_len]; push_cast; omega)
/-- a signature that ends early is refused -/
theorem verify_cut (seed : List UInt8) (h i k : Nat) (m : List UInt8) (p : List UInt8) (hh : h ≤ 6) (hi : i < 2 ^ h) (hk : k < (Sg.sign seed h i m).length) : Sg.verify p (h : Int) m ((Sg.sign seed h i m).take k) = (0, 5) := by
  have h64 : 2 ^ h ≤ 64 := Nat.le_trans (Nat.pow_le_pow_right (by omega) hh) (by decide)
  have hc : cnt (h : Int) = ((2 ^ h : Nat) : Int) := by rw [cnt_in (by omega)]; norm_cast
  have hl := Sg.sign_len seed h i m
  by_cases hke : k < (Wm.encI (i : Int)).length
  · have ht : (Sg.sign seed h i m).take k = (Wm.encI (i : Int)).take k := by
      unfold Sg.sign
      rw [List.append_assoc, List.take_append_of_le_length (by omega)]
    have hg := Wm.getI_cut (i : Int) k (by omega) (by omega) hke
    rw [ht, ver_b (by omega) (by rw [hg]; decide), hg]
  · have ht : ∃ t, (Sg.sign seed h i m).take k = Wm.encI (i : Int) ++ t := by
      refine ⟨((Sg.chains seed (i : Int) (Sg.digits (Sg.message (Sg.value seed h 0) (i : Int) m)) 35).flatten ++ (Sg.sides seed i h).flatten).take (k - (Wm.encI (i : Int)).length), ?_⟩
      unfold Sg.sign
      rw [List.append_assoc, List.take_append, List.take_of_length_le (by omega)]
    obtain ⟨t, ht⟩ := ht
    have hg : Wm.getI ((Sg.sign seed h i m).take k) = ((i : Int), (Wm.encI (i : Int)).length, 0) := by rw [ht]; exact Wm.getI_enc (i : Int) t (by omega) (by omega)
    have hx : 0 ≤ (Wm.getI ((Sg.sign seed h i m).take k)).1 ∧ (Wm.getI ((Sg.sign seed h i m).take k)).1 < cnt (h : Int) := by
      rw [hg, hc]; exact ⟨Int.natCast_nonneg _, Int.ofNat_lt.2 hi⟩
    exact ver_d (by omega) (by rw [hg]) hx (by rw [siz_in hx, hg, List.length_take]; push_cast; omega)

theorem dig_zero : (Sg.digits (List.replicate 16 0)).map nv = [nv 0, nv 0, nv 0, nv 0, nv 0, nv 0, nv 0, nv 0, nv 0, nv 0, nv 0, nv 0, nv 0, nv 0, nv 0, nv 0, nv 0, nv 0, nv 0, nv 0, nv 0, nv 0, nv 0, nv 0, nv 0, nv 0, nv 0, nv 0, nv 0, nv 0, nv 0, nv 0, nv 1, nv 14, nv 0] := by
  have h : Sg.digits (List.replicate 16 0) = [0, 0, 0, 0, 0, 0, 0, 0, 0, 0, 0, 0, 0, 0, 0, 0, 0, 0, 0, 0, 0, 0, 0, 0, 0, 0, 0, 0, 0, 0, 0, 0, 1, 14, 0] := by decide +kernel
  rw [h]; rfl
theorem dig_two : (Sg.digits (255 :: 16 :: List.replicate 14 0)).map nv = [nv 15, nv 15, nv 1, nv 0, nv 0, nv 0, nv 0, nv 0, nv 0, nv 0, nv 0, nv 0, nv 0, nv 0, nv 0, nv 0, nv 0, nv 0, nv 0, nv 0, nv 0, nv 0, nv 0, nv 0, nv 0, nv 0, nv 0, nv 0, nv 0, nv 0, nv 0, nv 0, nv 1, nv 12, nv 1] := by
  have h : Sg.digits (255 :: 16 :: List.replicate 14 0) = [15, 15, 1, 0, 0, 0, 0, 0, 0, 0, 0, 0, 0, 0, 0, 0, 0, 0, 0, 0, 0, 0, 0, 0, 0, 0, 0, 0, 0, 0, 0, 0, 1, 12, 1] := by decide +kernel
  rw [h]; rfl
end Go.Proofs.YtdbdlhgkhnenfaaDoor
/-
  voxellaw03.sanity answers true.
-/
namespace Go.Proofs.YtdbdlhgkhnenfaaDoor
open Go.RowKit

theorem siz_23 : siz 2 3 = 593 := by decide +kernel
theorem siz_00 : siz 0 0 = 561 := by decide +kernel
theorem cnt_3 : cnt 3 = 8 := by decide +kernel
theorem sgnS_00 : sgnS [115] 0 0 [109] = Sg.sign [115] 0 0 [109] := by
  unfold sgnS
  rw [if_pos (by decide +kernel)]
  rfl
theorem pubD_0 : pubD [115] 0 = Sg.value [115] 0 0 := by
  unfold pubD
  rw [if_pos (by decide)]
  rfl

set_option maxRecDepth 1000000 in
set_option maxHeartbeats 4000000 in
theorem sanity_any (w : World) (hT : Tab w) :
    Calls Tryd.prog 9 #[] w fun e w' => e = .returned (.bool true) ∧ Below w.heap.size w w' := by
  have HT := Lib.hid hT
  have hz := digits_any (List.replicate 16 0)
  have hlz := Sg.digits_len (d := List.replicate 16 0) rfl
  obtain ⟨LZ, hLZ⟩ : ∃ x, x = (Sg.digits (List.replicate 16 0)) := ⟨_, rfl⟩
  rw [← hLZ] at hz hlz
  have CZ := Lib.hid (fun W => hz W rfl)
  have ht := digits_any (255 :: 16 :: List.replicate 14 0)
  have hlt := Sg.digits_len (d := 255 :: 16 :: List.replicate 14 0) rfl
  obtain ⟨LT, hLT⟩ : ∃ x, x = (Sg.digits (255 :: 16 :: List.replicate 14 0)) := ⟨_, rfl⟩
  rw [← hLT] at ht hlt
  have CT := Lib.hid (fun W => ht W rfl)
  have DZ := Lib.hid (D35.of hlz)
  have DT := Lib.hid (D35.of hlt)
  have EZ := Lib.hid hLZ
  have ET := Lib.hid hLT
  have hs0 := sgnS_00
  have hlS : (sgnS [115] 0 0 [109]).length = 561 := by rw [hs0, Sg.sign_len]; decide +kernel
  have hv1 : Sg.verify (pubD [115] 0) 0 [109] (sgnS [115] 0 0 [109]) = (0, 0) := by
    rw [hs0, pubD_0]; exact verify_sign [115] 0 0 [109] (by decide) (by decide)
  have hv2 : Sg.verify (pubD [115] 0) 0 [109] (sgnS [115] 0 0 [109] ++ [120]) = (0, 6) := by
    rw [hs0]; exact verify_more [115] 0 0 [109] [120] (pubD [115] 0) (by decide) (by decide) (by decide)
  have p7 := fun W (h : Tab W) => public_any [115] 7 W (by decide) h
  have p0 := fun W (h : Tab W) => public_any [115] 0 W (by decide) h
  rw [show pubE 7 = 1 from rfl] at p7
  rw [show pubE 0 = 0 from rfl] at p0
  have s12 := fun W (h : Tab W) => sign_any [115] 1 2 [109] W (by decide) (by decide) h
  have s00 := fun W (h : Tab W) => sign_any [115] 0 0 [109] W (by decide) (by decide) h
  rw [show sgnE 1 2 = 23 from by decide +kernel] at s12
  rw [show sgnE 0 0 = 0 from by decide +kernel] at s00
  have hl7 := pubD_len [115] 7
  have hl0 := pubD_len [115] 0
  have v1 := fun W (h : Tab W) => verify_any (pubD [115] 0) 0 [109] (sgnS [115] 0 0 [109]) W hl0 (by decide) (by omega) h
  have v2 := fun W (h : Tab W) => verify_any (pubD [115] 0) 0 [109] (sgnS [115] 0 0 [109] ++ [120]) W hl0 (by decide) (by rw [List.length_append, hlS]; decide) h
  rw [hv1] at v1
  rw [hv2] at v2
  unfold verV at v1 v2
  generalize sgnS [115] 1 2 [109] = S1 at *
  generalize sgnS [115] 0 0 [109] = S at *
  generalize pubD [115] 7 = P7 at *
  generalize pubD [115] 0 = P0 at *
  have hbS : (bstr S).size = 561 := by rw [bstr_size, hlS]
  have D7 := Lib.hid (D16.of hl7)
  have D0 := Lib.hid (D16.of hl0)
  have hcat : bstr S ++ ({ data := #[120] } : ByteArray) = bstr (S ++ [120]) := (bstr_cat S [120]).symm
  have HCAT := Lib.hid hcat
  have C7 := Lib.hid p7
  have C0 := Lib.hid p0
  have C12 := Lib.hid s12
  have C00 := Lib.hid s00
  have V1 := Lib.hid v1
  have V2 := Lib.hid v2
  have K3 := Lib.hid (fun W => count_any 3 W)
  have Z23 := Lib.hid (fun W => size_any 2 3 W (by decide))
  have Z00 := Lib.hid (fun W => size_any 0 0 W (by decide))
  rw [cnt_3] at K3
  rw [siz_23] at Z23
  rw [siz_00] at Z00
  clear hT hz hlz hLZ ht hlt hLT hs0 hlS hv1 hv2 p7 p0 s12 s00 hl7 hl0 v1 v2 hcat
  go_enter Tryd.func9, Tryd.ntmps9
  go_wp2_with fail
  refine (CZ.out w).mono ?_
  rintro e w1 ⟨rfl, b1⟩
  go_upto_region 2 with (with_reducible refine wpList_store_new w1 rfl 25 (.tmp 1) (.tmp 17) rfl _ (LZ.map nv).toArray rfl rfl DZ.out.J (Eq.trans (b := 35) (by kernel_rfl) DZ.out.Z.symm) DZ.out.O ?_)
  have r1 := Row.newl w1 (LZ.map nv) 25
  have g1 := Gr.to b1 (Gr.al w1 (.cells (LZ.map nv).toArray 25))
  obtain ⟨q1, hq1⟩ : ∃ x, x = w1.heap.size := ⟨_, rfl⟩
  obtain ⟨W1, hW1⟩ : ∃ x, x = w1.alloc (.cells (LZ.map nv).toArray 25) := ⟨_, rfl⟩
  rw [← hW1] at r1 g1 ⊢
  rw [← hq1] at r1 ⊢
  have R1 := Lib.hid r1
  have B1 := Lib.hid g1
  clear r1 g1 b1 hW1 hq1
  go_wp2_with fail
  refine (CT.out W1).mono ?_
  rintro e w2 ⟨rfl, b2⟩
  go_upto_region 3 with (with_reducible refine wpList_store_new w2 rfl 25 (.tmp 2) (.tmp 19) rfl _ (LT.map nv).toArray rfl rfl DT.out.J (Eq.trans (b := 35) (by kernel_rfl) DT.out.Z.symm) DT.out.O ?_)
  have r2 := Row.newl w2 (LT.map nv) 25
  have g2 := Gr.trans (show Gr W1 w2 from b2) (Gr.al w2 (.cells (LT.map nv).toArray 25))
  obtain ⟨q2, hq2⟩ : ∃ x, x = w2.heap.size := ⟨_, rfl⟩
  obtain ⟨W2, hW2⟩ : ∃ x, x = w2.alloc (.cells (LT.map nv).toArray 25) := ⟨_, rfl⟩
  rw [← hW2] at r2 g2 ⊢
  rw [← hq2] at r2 ⊢
  have R2 := Lib.hid r2
  have R1 := Lib.hid (R1.out.below g2)
  have B2 := Lib.hid (Gr.to B1.out g2)
  clear r2 g2 b2 hW2 hq2 B1
  go_wp2_with fail
  refine (C7.out W2 (HT.out.below B2.out)).mono ?_
  rintro e w3 ⟨rfl, b3⟩
  go_upto_region 4 with (with_reducible refine wpList_store_new w3 rfl 23 (.tmp 3) (.tmp 22) rfl _ (P7.map bv).toArray rfl rfl D7.out.J (Eq.trans (b := 16) (by kernel_rfl) D7.out.Z.symm) D7.out.O ?_)
  have g3 := Gr.trans (show Gr W2 w3 from b3) (Gr.al w3 (.cells (P7.map bv).toArray 23))
  obtain ⟨q3, hq3⟩ : ∃ x, x = w3.heap.size := ⟨_, rfl⟩
  obtain ⟨W3, hW3⟩ : ∃ x, x = w3.alloc (.cells (P7.map bv).toArray 23) := ⟨_, rfl⟩
  rw [← hW3] at g3 ⊢
  rw [← hq3]
  have R1 := Lib.hid (R1.out.below g3)
  have R2 := Lib.hid (R2.out.below g3)
  have B3 := Lib.hid (Gr.to B2.out g3)
  clear g3 b3 hW3 hq3 B2
  go_wp2_with fail
  refine (C12.out W3 (HT.out.below B3.out)).mono ?_
  rintro e w4 ⟨rfl, b4⟩
  have R1 := Lib.hid (R1.out.below b4)
  have R2 := Lib.hid (R2.out.below b4)
  have B4 := Lib.hid (Gr.to B3.out (show Gr W3 w4 from b4))
  clear b4 B3
  go_wp2_with fail
  refine (C0.out w4 (HT.out.below B4.out)).mono ?_
  rintro e w5 ⟨rfl, b5⟩
  go_upto_region 6 with (with_reducible refine wpList_store_new w5 rfl 23 (.tmp 7) (.tmp 30) rfl _ (P0.map bv).toArray rfl rfl D0.out.J (Eq.trans (b := 16) (by kernel_rfl) D0.out.Z.symm) D0.out.O ?_)
  have r7 := Row.newl w5 (P0.map bv) 23
  have g5 := Gr.trans (show Gr w4 w5 from b5) (Gr.al w5 (.cells (P0.map bv).toArray 23))
  obtain ⟨q7, hq7⟩ : ∃ x, x = w5.heap.size := ⟨_, rfl⟩
  obtain ⟨W5, hW5⟩ : ∃ x, x = w5.alloc (.cells (P0.map bv).toArray 23) := ⟨_, rfl⟩
  rw [← hW5] at r7 g5 ⊢
  rw [← hq7] at r7 ⊢
  have R7 := Lib.hid r7
  have R1 := Lib.hid (R1.out.below g5)
  have R2 := Lib.hid (R2.out.below g5)
  have B5 := Lib.hid (Gr.to B4.out g5)
  clear r7 g5 b5 hW5 hq7 B4
  go_wp2_with fail
  refine (C00.out W5 (HT.out.below B5.out)).mono ?_
  rintro e w6 ⟨rfl, b6⟩
  have R1 := Lib.hid (R1.out.below b6)
  have R2 := Lib.hid (R2.out.below b6)
  have R7 := Lib.hid (R7.out.below b6)
  have B6 := Lib.hid (Gr.to B5.out (show Gr W5 w6 from b6))
  clear b6 B5
  go_wp2_with (with_reducible refine wpList_load_mid rfl 23 (.tmp 7) rfl q7 0 rfl (P0.map bv) _ R7.out.range Tryd.underlying23 rfl D0.out.I ?_)
  refine (V1.out w6 (HT.out.below B6.out)).mono ?_
  rintro e w7 ⟨rfl, b7⟩
  have R1 := Lib.hid (R1.out.below b7)
  have R2 := Lib.hid (R2.out.below b7)
  have R7 := Lib.hid (R7.out.below b7)
  have B7 := Lib.hid (Gr.to B6.out (show Gr w6 w7 from b7))
  clear b7 B6
  go_wp2_with (with_reducible refine wpList_load_mid rfl 23 (.tmp 7) rfl q7 0 rfl (P0.map bv) _ R7.out.range Tryd.underlying23 rfl D0.out.I ?_)
  rw [HCAT.out]
  refine (V2.out w7 (HT.out.below B7.out)).mono ?_
  rintro e w8 ⟨rfl, b8⟩
  have r1 := R1.out.below b8
  have r2 := R2.out.below b8
  have B8 := Lib.hid (Gr.to B7.out (show Gr w7 w8 from b8))
  rw [EZ.out, dig_zero] at r1
  rw [ET.out, dig_two] at r2
  have a0 : w8.cell? ⟨q1, 0, none⟩ = some (.int .i64 0) := (r1 0 _ rfl).1
  have a1 : w8.cell? ⟨q1, 31, none⟩ = some (.int .i64 0) := (r1 31 _ rfl).1
  have a2 : w8.cell? ⟨q1, 32, none⟩ = some (.int .i64 1) := (r1 32 _ rfl).1
  have a3 : w8.cell? ⟨q1, 33, none⟩ = some (.int .i64 14) := (r1 33 _ rfl).1
  have a4 : w8.cell? ⟨q1, 34, none⟩ = some (.int .i64 0) := (r1 34 _ rfl).1
  have c0 : w8.cell? ⟨q2, 0, none⟩ = some (.int .i64 15) := (r2 0 _ rfl).1
  have c1 : w8.cell? ⟨q2, 1, none⟩ = some (.int .i64 15) := (r2 1 _ rfl).1
  have c2 : w8.cell? ⟨q2, 2, none⟩ = some (.int .i64 1) := (r2 2 _ rfl).1
  have c3 : w8.cell? ⟨q2, 3, none⟩ = some (.int .i64 0) := (r2 3 _ rfl).1
  have c4 : w8.cell? ⟨q2, 32, none⟩ = some (.int .i64 1) := (r2 32 _ rfl).1
  have c5 : w8.cell? ⟨q2, 33, none⟩ = some (.int .i64 12) := (r2 33 _ rfl).1
  have c6 : w8.cell? ⟨q2, 34, none⟩ = some (.int .i64 1) := (r2 34 _ rfl).1
  clear r1 r2 R1 R2 R7 b8 B7
  go_wp2_with fail
  refine (K3.out w8).mono ?_
  rintro e w9 ⟨rfl, rfl⟩
  clear a0 a1 a2 a3 a4 c0 c1 c2 c3 c4 c5 c6
  go_wp2_with fail
  refine (Z23.out w9).mono ?_
  rintro e w10 ⟨rfl, b10⟩
  have B10 := Lib.hid (Gr.to B8.out (show Gr w9 w10 from b10))
  clear b10 B8
  go_wp2_with fail
  refine (Z00.out w10).mono ?_
  rintro e w11 ⟨rfl, b11⟩
  have B11 := Lib.hid (Gr.to B10.out (show Gr w10 w11 from b11))
  clear b11 B10
  go_wp2_with fail
  go_ret
  exact ⟨rfl, B11.out⟩
end Go.Proofs.YtdbdlhgkhnenfaaDoor
