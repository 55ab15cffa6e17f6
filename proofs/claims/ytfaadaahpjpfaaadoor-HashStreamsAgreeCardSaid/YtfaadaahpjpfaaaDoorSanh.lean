/-
  voxellaw02.sanity answers true.
-/
import Derived.Test.YtfaadaahpjpfaaaDoorEqa
import Derived.Test.YtfaadaahpjpfaaaDoorShaMathe
import Derived.Lib.SlBytesConst
namespace Go.Proofs.YtfaadaahpjpfaaaDoor
open Go.RowKit

theorem Lies.mark (w : World) (l : List Value) (t : TypeId) (fr : Nat × Nat) : Lies (w.alloc (.cells l.toArray t fr)) (some ⟨w.heap.size, 0, none⟩) l :=
  .inr ⟨_, _, rfl, fun j u hu => by rw [Nat.zero_add, World.cell?_alloc_mark]; simpa using hu⟩

set_option maxRecDepth 1000000 in
set_option maxHeartbeats 2000000 in
theorem sanity_any (w : World) (hT : Tab w) :
    Calls Tryd.prog 10 #[] w fun e w' => e = .returned (.bool true) ∧ Below w.heap.size w w' := by
  have HT := Lib.hid hT
  clear hT
  have kc := fun (w : World) (C : Array Value) (n c : Nat) => Lib.run_convert_bytes_const (P := Tryd.prog) w 22 5 C n c Tryd.underlying22 Tryd.underlying5
  go_enter Tryd.func10, Tryd.ntmps10
  go_wp2_with fail
  have l1 : Lies (w.alloc (.cells #[Value.int .u8 97, Value.int .u8 98, Value.int .u8 99] 5 (3, 4))) (some ⟨w.heap.size, 0, none⟩) (([97, 98, 99] : List UInt8).map bv) := Lies.mark w (([97, 98, 99] : List UInt8).map bv) 5 (3, 4)
  have b0 : Below w.heap.size w (w.alloc (.cells #[Value.int .u8 97, Value.int .u8 98, Value.int .u8 99] 5 (3, 4))) := (Below.refl _ _).alloc (Nat.le_refl _) _
  refine (hsSum_any [97, 98, 99] (some ⟨w.heap.size, 0, none⟩) 3 3 _ rfl (fun h => by cases h) l1 (by omega) (HT.out.below b0)).mono ?_
  rintro e w1 ⟨rfl, h1⟩
  have B1 := Lib.hid (b0.trans (h1.mono b0.size))
  clear l1 b0 h1
  have hk := hex_abc
  have hsl := Sha.sum_len Sha.consts [97, 98, 99]
  obtain ⟨S1, hS1⟩ : ∃ x, x = Sha.sum Sha.consts [97, 98, 99] := ⟨_, rfl⟩
  rw [← hS1] at hk hsl ⊢
  have HS1 := Lib.hid hS1
  have HK1 := Lib.hid hk
  have HL1 := Lib.hid hsl
  have J32 := Lib.hid (show (Tryd.prog.info? 24).map (·.size) = some (S1.map bv).toArray.size by rw [List.size_toArray, List.length_map, hsl]; kernel_rfl)
  have S32 := Lib.hid (show (S1.map bv).toArray.size = 32 by rw [List.size_toArray, List.length_map, hsl])
  have O32 := Lib.hid (all_oneCell_toArray (bvs_one S1))
  clear hS1 hk hsl
  go_wp2_with (with_reducible refine wpList_store_new w1 rfl 24 (.tmp 1) (.tmp 9) rfl _ (S1.map bv).toArray rfl rfl J32.out (Eq.trans (b := 32) (by kernel_rfl) S32.out.symm) O32.out ?_)
  refine (hsBegin_p _ (HT.out.below (B1.out.alloc B1.out.size _))).mono ?_
  rintro e w2 ⟨v2, k2, n2, rfl, s2, h2⟩
  obtain ⟨q1, hq1⟩ : ∃ x, x = w1.heap.size := ⟨_, rfl⟩
  have R1 : Hid (Row q1 (S1.map bv) w2) := Lib.hid (by rw [hq1]; exact (Row.newl w1 (S1.map bv) 24).below h2)
  have B2 := Lib.hid ((B1.out.alloc B1.out.size (.cells (S1.map bv).toArray 24)).trans (h2.mono (B1.out.alloc B1.out.size (.cells (S1.map bv).toArray 24)).size))
  rw [← hq1]
  have S2 := Lib.hid s2
  clear s2 h2 hq1 B1
  go_wp2_with fail
  refine (hsAdd_p [] [97] v2 k2 n2 w2 S2.out (by decide) (HT.out.below B2.out)).mono ?_
  rintro e w3 ⟨v3, k3, n3, rfl, s3, h3⟩
  have R1 := Lib.hid (R1.out.below h3)
  have B3 := Lib.hid (B2.out.trans (h3.mono B2.out.size))
  have S3 := Lib.hid s3
  clear s3 h3 B2 S2
  go_wp2_with fail
  refine (hsAdd_p [97] [98, 99] v3 k3 n3 w3 S3.out (by decide) (HT.out.below B3.out)).mono ?_
  rintro e w4 ⟨v4, k4, n4, rfl, s4, h4⟩
  have R1 := Lib.hid (R1.out.below h4)
  have B4 := Lib.hid (B3.out.trans (h4.mono B3.out.size))
  have S4 := Lib.hid s4
  clear s4 h4 B3 S3
  go_wp2_with fail
  refine (hsSSum_p [97, 98, 99] v4 k4 n4 w4 S4.out (by decide) (HT.out.below B4.out)).mono ?_
  rintro e w5 ⟨rfl, h5⟩
  have R1 := Lib.hid (R1.out.below h5)
  have B5 := Lib.hid (B4.out.trans (h5.mono B4.out.size))
  clear h5 B4 S4
  rw [← HS1.out]
  go_wp2_with (with_reducible refine wpList_store_new w5 rfl 24 (.tmp 2) (.tmp 13) rfl _ (S1.map bv).toArray rfl rfl J32.out (Eq.trans (b := 32) (by kernel_rfl) S32.out.symm) O32.out ?_)
  have A5 := Lib.hid (B5.out.alloc B5.out.size (.cells (S1.map bv).toArray 24))
  obtain ⟨q2, hq2⟩ : ∃ x, x = w5.heap.size := ⟨_, rfl⟩
  obtain ⟨V5, hV5⟩ : ∃ x, x = w5.alloc (.cells (S1.map bv).toArray 24) := ⟨_, rfl⟩
  have R1 : Hid (Row q1 (S1.map bv) V5) := Lib.hid (by rw [hV5]; exact R1.out.alloc _)
  have R2 : Hid (Row q2 (S1.map bv) V5) := Lib.hid (by rw [hV5, hq2]; exact Row.newl w5 (S1.map bv) 24)
  have hz5 : w5.heap.size + 1 = V5.heap.size := by rw [hV5]; simp
  rw [← hV5] at A5 ⊢
  rw [hz5, ← hq2]
  clear hV5 hq2 hz5 B5
  have lz : Lies (V5.alloc (.cells #[Value.string { data := #[97] }, Value.string { data := #[] }] 9)) (some ⟨V5.heap.size, 0, none⟩) (([[97], []] : List (List UInt8)).map sv) := Lies.new V5 (([[97], []] : List (List UInt8)).map sv) 9
  refine (hsOf_any 8 [[97], []] _ 2 2 _ rfl lz ⟨by decide, by decide⟩ (HT.out.below (A5.out.alloc A5.out.size _))).mono ?_
  rintro e w6 ⟨rfl, h6⟩
  have R1 := Lib.hid ((R1.out.alloc _).below h6)
  have R2 := Lib.hid ((R2.out.alloc _).below h6)
  have B6 := Lib.hid ((A5.out.alloc A5.out.size _).trans (h6.mono (A5.out.alloc A5.out.size _).size))
  clear h6 A5 lz
  have hk := hex_of
  rw [in_of]
  have hsl := Sha.sum_len Sha.consts [8, 2, 97, 0]
  obtain ⟨S3, hS3⟩ : ∃ x, x = (Sha.sum Sha.consts [8, 2, 97, 0]).take 16 := ⟨_, rfl⟩
  rw [← hS3] at hk ⊢
  have hsl3 : S3.length = 16 := by rw [hS3, List.length_take, hsl]; rfl
  have HK3 := Lib.hid hk
  have HL3 := Lib.hid hsl3
  have J16 := Lib.hid (show (Tryd.prog.info? 44).map (·.size) = some (S3.map bv).toArray.size by rw [List.size_toArray, List.length_map, hsl3]; kernel_rfl)
  have S16 := Lib.hid (show (S3.map bv).toArray.size = 16 by rw [List.size_toArray, List.length_map, hsl3])
  have O16 := Lib.hid (all_oneCell_toArray (bvs_one S3))
  clear hS3 hk hsl hsl3
  go_wp2_with (with_reducible refine wpList_store_new w6 rfl 44 (.tmp 3) (.tmp 15) rfl _ (S3.map bv).toArray rfl rfl J16.out (Eq.trans (b := 16) (by kernel_rfl) S16.out.symm) O16.out ?_)
  have A6 := Lib.hid (B6.out.alloc B6.out.size (.cells (S3.map bv).toArray 44))
  obtain ⟨q3, hq3⟩ : ∃ x, x = w6.heap.size := ⟨_, rfl⟩
  obtain ⟨V6, hV6⟩ : ∃ x, x = w6.alloc (.cells (S3.map bv).toArray 44) := ⟨_, rfl⟩
  have R1 : Hid (Row q1 (S1.map bv) V6) := Lib.hid (by rw [hV6]; exact R1.out.alloc _)
  have R2 : Hid (Row q2 (S1.map bv) V6) := Lib.hid (by rw [hV6]; exact R2.out.alloc _)
  have R3 : Hid (Row q3 (S3.map bv) V6) := Lib.hid (by rw [hV6, hq3]; exact Row.newl w6 (S3.map bv) 44)
  rw [← hV6] at A6 ⊢
  rw [← hq3]
  clear hV6 hq3 B6
  refine (hsMac_any [74, 101, 102, 101] [119, 104, 97, 116, 32, 100, 111, 32, 121, 97, 32, 119, 97, 110, 116, 32, 102, 111, 114, 32, 110, 111, 116, 104, 105, 110, 103, 63] V6 (by decide) (by decide) (HT.out.below A6.out)).mono ?_
  rintro e w7 ⟨rfl, h7⟩
  have R1 := Lib.hid (R1.out.below h7)
  have R2 := Lib.hid (R2.out.below h7)
  have R3 := Lib.hid (R3.out.below h7)
  have B7 := Lib.hid (A6.out.trans (h7.mono A6.out.size))
  clear h7 A6
  have hk := hex_mac
  have hsl := Sha.mac_len Sha.consts [74, 101, 102, 101] [119, 104, 97, 116, 32, 100, 111, 32, 121, 97, 32, 119, 97, 110, 116, 32, 102, 111, 114, 32, 110, 111, 116, 104, 105, 110, 103, 63]
  generalize Sha.mac Sha.consts [74, 101, 102, 101] [119, 104, 97, 116, 32, 100, 111, 32, 121, 97, 32, 119, 97, 110, 116, 32, 102, 111, 114, 32, 110, 111, 116, 104, 105, 110, 103, 63] = M1 at hk hsl ⊢
  have HKM := Lib.hid hk
  have HLM := Lib.hid hsl
  clear hk hsl
  go_wp2_with fail
  refine (hsEqual_any [97, 98] [97, 98] w7 (by decide)).mono ?_
  rintro e w8 ⟨rfl, h8⟩
  have R1 := Lib.hid (R1.out.below h8)
  have R2 := Lib.hid (R2.out.below h8)
  have R3 := Lib.hid (R3.out.below h8)
  have B8 := Lib.hid (B7.out.trans (h8.mono B7.out.size))
  clear h8 B7
  rw [show decide (([97, 98] : List UInt8) = [97, 98]) = true from by decide]
  go_wp2_with fail
  refine (hsEqual_any [97, 98] [97, 99] w8 (by decide)).mono ?_
  rintro e w9 ⟨rfl, h9⟩
  have R1 := Lib.hid (R1.out.below h9)
  have R2 := Lib.hid (R2.out.below h9)
  have R3 := Lib.hid (R3.out.below h9)
  have B9 := Lib.hid (B8.out.trans (h9.mono B8.out.size))
  clear h9 B8
  rw [show decide (([97, 98] : List UInt8) = [97, 99]) = false from by decide]
  go_wp2_with fail
  refine (hsEqual_any [] [97] w9 (by decide)).mono ?_
  rintro e w10 ⟨rfl, h10⟩
  have R1 := Lib.hid (R1.out.below h10)
  have R2 := Lib.hid (R2.out.below h10)
  have R3 := Lib.hid (R3.out.below h10)
  have B10 := Lib.hid (B9.out.trans (h10.mono B9.out.size))
  clear h10 B9
  rw [show decide (([] : List UInt8) = [97]) = false from by decide]
  have I32 := Lib.hid (show (Tryd.prog.info? 24).map (·.size) = some (S1.map bv).length by rw [List.length_map, HL1.out]; kernel_rfl)
  have G1 := Lib.hid R1.out.range
  go_wp2_with (with_reducible refine wpList_load_mid rfl 24 (.tmp 1) rfl q1 0 rfl (S1.map bv) _ G1.out Tryd.underlying24 rfl I32.out ?_)
  refine (hrBytes32_any S1 w10 HL1.out).mono ?_
  rintro e w11 ⟨rfl, h11⟩
  have R1 := Lib.hid (R1.out.below h11)
  have R2 := Lib.hid (R2.out.below h11)
  have R3 := Lib.hid (R3.out.below h11)
  have B11 := Lib.hid (B10.out.trans (h11.mono B10.out.size))
  clear h11 B10
  go_wp2_with fail
  refine (hex_any S1 w11 (by rw [HL1.out]; decide)).mono ?_
  rintro e w12 ⟨rfl, h12⟩
  have R1 := Lib.hid (R1.out.below h12)
  have R2 := Lib.hid (R2.out.below h12)
  have R3 := Lib.hid (R3.out.below h12)
  have B12 := Lib.hid (B11.out.trans (h12.mono B11.out.size))
  clear h12 B11
  have hq1 : (bstr (hexOf S1)).toList = [98, 97, 55, 56, 49, 54, 98, 102, 56, 102, 48, 49, 99, 102, 101, 97, 52, 49, 52, 49, 52, 48, 100, 101, 53, 100, 97, 101, 50, 50, 50, 51, 98, 48, 48, 51, 54, 49, 97, 51, 57, 54, 49, 55, 55, 97, 57, 99, 98, 52, 49, 48, 102, 102, 54, 49, 102, 50, 48, 48, 49, 53, 97, 100] := by
    rw [HK1.out, ByteArray.toList_eq]
    rfl
  have h24 : ∀ W, (Op.equalIn 10000 24 (.agg (S1.map bv).toArray) (.agg (S1.map bv).toArray)).run Tryd.prog W = .ok true W := fun W => by
    rw [run_eq32 W S1 S1 HL1.out HL1.out, decide_eq_true rfl]
  have G1 := Lib.hid R1.out.range
  have G2 := Lib.hid R2.out.range
  have G3 := Lib.hid R3.out.range
  go_wp2_with (first | (with_reducible refine wpList_load_mid_g (by kernel_rfl) 24 (.tmp 1) rfl q1 0 rfl (S1.map bv) _ G1.out Tryd.underlying24 rfl I32.out ?_) | (with_reducible refine wpList_load_mid_g (by kernel_rfl) 24 (.tmp 2) rfl q2 0 rfl (S1.map bv) _ G2.out Tryd.underlying24 rfl I32.out ?_))
  refine (hex_any M1 w12 (by rw [HLM.out]; decide)).mono ?_
  rintro e w13 ⟨rfl, h13⟩
  have R3 := Lib.hid (R3.out.below h13)
  have B13 := Lib.hid (B12.out.trans (h13.mono B12.out.size))
  clear h13 B12 hq1 h24 G1 G2 G3
  have hq2 : (bstr (hexOf M1)).toList = [53, 98, 100, 99, 99, 49, 52, 54, 98, 102, 54, 48, 55, 53, 52, 101, 54, 97, 48, 52, 50, 52, 50, 54, 48, 56, 57, 53, 55, 53, 99, 55, 53, 97, 48, 48, 51, 102, 48, 56, 57, 100, 50, 55, 51, 57, 56, 51, 57, 100, 101, 99, 53, 56, 98, 57, 54, 52, 101, 99, 51, 56, 52, 51] := by
    rw [HKM.out, ByteArray.toList_eq]
    rfl
  have I16 := Lib.hid (show (Tryd.prog.info? 44).map (·.size) = some (S3.map bv).length by rw [List.length_map, HL3.out]; kernel_rfl)
  have G3 := Lib.hid R3.out.range
  go_wp2_with (with_reducible refine wpList_load_mid_g (by kernel_rfl) 44 (.tmp 3) rfl q3 0 rfl (S3.map bv) _ G3.out Tryd.underlying44 rfl I16.out ?_)
  refine (hrText_any S3 w13 HL3.out).mono ?_
  rintro e w14 ⟨rfl, h14⟩
  have B14 := Lib.hid (B13.out.trans (h14.mono B13.out.size))
  clear h14 B13 hq2 G3
  go_wp2_with fail
  refine (hex_any S3 w14 (by rw [HL3.out]; decide)).mono ?_
  rintro e w15 ⟨rfl, h15⟩
  have B15 := Lib.hid (B14.out.trans (h15.mono B14.out.size))
  clear h15 B14
  have hq3 : (bstr (hexOf S3)).toList = [102, 97, 49, 53, 52, 98, 97, 53, 97, 52, 100, 50, 54, 54, 102, 49, 98, 54, 52, 99, 56, 50, 54, 99, 101, 101, 100, 99, 97, 99, 98, 55] := by
    rw [HK3.out, ByteArray.toList_eq]
    rfl
  go_wp2_with fail
  go_ret
  exact ⟨rfl, B15.out⟩

end Go.Proofs.YtfaadaahpjpfaaaDoor
