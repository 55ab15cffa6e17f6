/-
  Contracts of voxelref02: codes.
-/
import Derived.Test.YtdbdlhgkhnenfaaDoorGi
import Derived.Test.YtdbdlhgkhnenfaaDoorGg
import Derived.Test.YtdbdlhgkhnenfaaDoorGe
import Derived.Lib.ConvBytes
namespace Go.Proofs.YtdbdlhgkhnenfaaDoor
open Go.RowKit

/-- the post of a function that returns new bytes -/
def NewB (l : List UInt8) (w : World) (e : Ending) (w' : World) : Prop :=
  ∃ v, e = .returned v ∧ w'.ownsRow w.heap.size 5 1 v l.length (l.map bv) ∧ Below w.heap.size w w'
/-- the key that padKey uses -/
def PadK (key : List UInt8) (w : World) (s : Value) (wx : World) : Prop :=
  ∃ k : List UInt8, s = .string (bstr k) ∧ (k.length ≤ 64 ∧ ∀ p, Sha.key Sha.consts key p = (ext k).map (· ^^^ p)) ∧ Below w.heap.size w wx

set_option maxRecDepth 1000000 in
set_option maxHeartbeats 1000000 in
theorem hrPadKey_any (key : List UInt8) (p : UInt8) (w : World) (hk : key.length ≤ 1000000) (hR : TabR w) :
    Calls Tryd.prog 68 #[.string (bstr key), .int .u8 (p.toNat : Int)] w (NewB (Sha.key Sha.consts key p) w) := by
  obtain ⟨i0, hi, hz0, hz1, hz2⟩ := info_parts Tryd.infoU8
  have hks : (bstr key).size = key.length := bstr_size key
  have HR := Lib.hid hR
  have hkl := Sha.key_len Sha.consts key p
  obtain ⟨R, hRR⟩ : ∃ x, x = Sha.key Sha.consts key p := ⟨_, rfl⟩
  rw [← hRR] at hkl ⊢
  have HRR := Lib.hid hRR
  clear hR hRR
  go_enter Tryd.func68, Tryd.ntmps68
  go_upto_if 12 with fail
  clear hks
  go_cut [5] (fun s5 wx => PadK key w s5 wx)
  case first =>
    by_cases h64 : 64 < key.length
    · have hd : decide ((64 : Int) < (key.length : Int)) = true := by simp; omega
      have kc := conv_bytes
      have CS := Lib.hid (hrSum_any key (some ⟨w.heap.size, 0, none⟩) key.length (grownCap w key.length 0 5) (Lib.bytesWorld w 5 (bstr key)) rfl (bytesWorld_lies w key) (by omega) (HR.out.below (bytesWorld_below w (bstr key))))
      have hsl := Sha.sum_len Sha.consts key
      have hkk := fun p => (Sha.key_long Sha.consts key p h64).trans (key_ext (Sha.sum Sha.consts key) p (by rw [hsl]; omega))
      generalize Sha.sum Sha.consts key = S1 at CS hsl hkk
      have HSL := Lib.hid hsl
      have HKK := Lib.hid hkk
      have hks : (bstr key).size = key.length := bstr_size key
      clear hsl hkk
      go_wp2_with fail
      refine CS.out.mono ?_
      rintro e w1 ⟨rfl, h1⟩
      have B1 := Lib.hid ((bytesWorld_below w (bstr key)).trans (h1.mono (bytesWorld_below w (bstr key)).size))
      clear h1
      go_wp2_with fail
      refine (hrBytes32_any S1 w1 HSL.out).mono ?_
      rintro e w2 ⟨rfl, h2⟩
      have B2 := Lib.hid (B1.out.trans (h2.mono B1.out.size))
      clear h2
      go_wp2_with fail
      go_meet
      exact ⟨S1, rfl, ⟨by rw [HSL.out]; omega, HKK.out⟩, B2.out⟩
    · have hd : decide ((64 : Int) < (key.length : Int)) = false := by simp; omega
      go_wp2_with fail
      go_meet
      exact ⟨key, rfl, ⟨by omega, fun p => key_ext key p h64⟩, Below.refl _ _⟩
  case rest =>
    obtain ⟨k, rfl, ⟨hk64, hkey⟩, hb⟩ := hcut
    have hks : (bstr k).size = k.length := bstr_size k
    have hRe : R = (ext k).map (· ^^^ p) := by rw [HRR.out]; exact hkey p
    have HRE := Lib.hid hRe
    have HB := Lib.hid hb
    have HKL := Lib.hid hkl
    have hsz := hb.size
    clear hkey hb hRe hkl
    go_wp2_with fail
    go_loopw [6, 7] (fun v i wr => ∃ j : Nat, i = .int .i64 (j : Int) ∧ j ≤ 64 ∧ wr.ownsRow w.heap.size 5 1 v j ((R.take j).map bv) ∧ Below w.heap.size w wr) (fun _ i _ => 64 - (intOf i).toNat)
    case atStart => exact ⟨0, rfl, by omega, World.ownsRow_nil _ _ _ _, HB.out⟩
    case round =>
      obtain ⟨j, rfl, hj, hown, hb2⟩ := hrel
      have hsz2 := hb2.size
      by_cases hlt : j < 64
      · have hR1 : R.getD j 0 = (k.getD j 0) ^^^ p := by
          rw [HRE.out, List.getD_eq_getElem?_getD, List.getElem?_map]
          unfold ext
          rw [List.getElem?_map, List.getElem?_range hlt]
          rfl
        have ht : R.take j ++ [R.getD j 0] = R.take (j + 1) := by
          rw [List.take_succ_eq_append_getElem (by rw [HKL.out]; exact hlt), List.getD_eq_getElem?_getD, List.getElem?_eq_getElem (by rw [HKL.out]; exact hlt)]; rfl
        rw [hR1] at ht
        generalize hX : R.take j = X at hown ht
        have HB2 := Lib.hid hb2
        have HT := Lib.hid ht
        have EX := Lib.hid (u8_xor (k.getD j 0) p)
        clear hb2 ht hX hR1 HRR
        by_cases hjk : j < k.length
        · have hks : (bstr k).size = k.length := bstr_size k
          go_wp2_with (at_builtin; go_loud (refine wpList_append_one wr rfl _ _ 43 rfl w.heap.size 5 i0 (.int .u8 0) 1 Tryd.underlying43 hi hz0 hz1 hz2 rfl _ _ _ hown _ rfl rfl rfl ?cA1 ?cA2 ?cA3 ?_))
          case cA1 => unfold maxLen; omega
          case cA2 => omega
          case cA3 => exact hsz2
          intro v' w1 ho hb1
          have e2 : X.map bv ++ [Value.int .u8 (bits .xor .u8 (((bstr k)[j]'(by rw [bstr_size]; exact hjk)).toNat : Int) (p.toNat : Int))] = (R.take (j + 1)).map bv := by
            rw [bstr_get, EX.out, ← HT.out, List.map_append]; rfl
          rw [e2] at ho
          have HO := Lib.hid ho
          have HB3 := Lib.hid (HB2.out.trans hb1)
          clear ho hb1 hown e2
          go_wp2_with fail
          first
            | exact ⟨⟨j + 1, by go_num, by omega, HO.out, HB3.out⟩, by simp [intOf]; omega⟩
            | (go_roundw
               case rel => exact ⟨j + 1, by go_num, by omega, HO.out, HB3.out⟩
               case measure => simp [intOf]; omega)
        · have h0 : k.getD j 0 = 0 := by rw [List.getD_eq_getElem?_getD, List.getElem?_eq_none (by omega)]; rfl
          rw [h0] at HT EX
          have hks : (bstr k).size = k.length := bstr_size k
          clear h0
          go_wp2_with (at_builtin; go_loud (refine wpList_append_one wr rfl _ _ 43 rfl w.heap.size 5 i0 (.int .u8 0) 1 Tryd.underlying43 hi hz0 hz1 hz2 rfl _ _ _ hown _ rfl rfl rfl ?cB1 ?cB2 ?cB3 ?_))
          case cB1 => unfold maxLen; omega
          case cB2 => omega
          case cB3 => exact hsz2
          intro v' w1 ho hb1
          have e2 : X.map bv ++ [Value.int .u8 (bits .xor .u8 0 (p.toNat : Int))] = (R.take (j + 1)).map bv := by
            rw [show (0 : Int) = ((0 : UInt8).toNat : Int) from rfl, EX.out, ← HT.out, List.map_append]; rfl
          rw [e2] at ho
          have HO := Lib.hid ho
          have HB3 := Lib.hid (HB2.out.trans hb1)
          clear ho hb1 hown e2
          go_wp2_with fail
          first
            | exact ⟨⟨j + 1, by go_num, by omega, HO.out, HB3.out⟩, by simp [intOf]; omega⟩
            | (go_roundw
               case rel => exact ⟨j + 1, by go_num, by omega, HO.out, HB3.out⟩
               case measure => simp [intOf]; omega)
      · have hj64 : j = 64 := by omega
        subst hj64
        rw [List.take_of_length_le (by rw [HKL.out]; exact Nat.le_refl _)] at hown
        have HO := Lib.hid hown
        have HB2 := Lib.hid hb2
        clear hown hb2
        go_wp2_with fail
        go_ret
        exact ⟨_, rfl, by rw [HKL.out]; exact HO.out, HB2.out⟩

end Go.Proofs.YtdbdlhgkhnenfaaDoor
/-
  Contracts of voxelref02: codes.
-/
namespace Go.Proofs.YtdbdlhgkhnenfaaDoor
open Go.RowKit

theorem cells_app (l m : List UInt8) : l.map bv ++ byteCells (bstr m) = (l ++ m).map bv := by
  rw [byteCells_eq, bstr_data, List.map_append]

set_option maxRecDepth 1000000 in
set_option maxHeartbeats 1000000 in
theorem hrMac_any (key text : List UInt8) (w : World) (hk : key.length ≤ 1000000) (ht : text.length ≤ 1000000) (hR : TabR w) :
    Calls Tryd.prog 54 #[.string (bstr key), .string (bstr text)] w fun e w' => e = .returned (.string (bstr (Sha.mac Sha.consts key text))) ∧ Below w.heap.size w w' := by
  obtain ⟨i0, hi, hz0, hz1, hz2⟩ := info_parts Tryd.infoU8
  have HR := Lib.hid hR
  have hkl1 := Sha.key_len Sha.consts key 0x36
  have hkl2 := Sha.key_len Sha.consts key 0x5c
  have M1 := Lib.hid (fun (W : World) (hb : Below w.heap.size w W) => hrPadKey_any key 0x36 W hk (HR.out.below hb))
  have M2 := Lib.hid (fun (W : World) (hb : Below w.heap.size w W) => hrPadKey_any key 0x5c W hk (HR.out.below hb))
  obtain ⟨R, hRR⟩ : ∃ x, x = Sha.mac Sha.consts key text := ⟨_, rfl⟩
  rw [← hRR]
  rw [Sha.mac] at hRR
  have hsl := Sha.sum_len Sha.consts (Sha.key Sha.consts key 0x36 ++ text)
  have hsl2 := Sha.sum_len Sha.consts (Sha.key Sha.consts key 0x5c ++ Sha.sum Sha.consts (Sha.key Sha.consts key 0x36 ++ text))
  generalize Sha.key Sha.consts key 0x36 = K1 at *
  generalize Sha.key Sha.consts key 0x5c = K2 at *
  have CS1 := Lib.hid (fun (A : Option Addr) (n c : Nat) (W : World) (hb : Below w.heap.size w W) (hn : (K1 ++ text).length = n) (hl : Lies W A ((K1 ++ text).map bv)) => hrSum_any (K1 ++ text) A n c W hn hl (by rw [← hn, List.length_append, hkl1]; omega) (HR.out.below hb))
  generalize Sha.sum Sha.consts (K1 ++ text) = I1 at *
  have CS2 := Lib.hid (fun (A : Option Addr) (n c : Nat) (W : World) (hb : Below w.heap.size w W) (hn : (K2 ++ I1).length = n) (hl : Lies W A ((K2 ++ I1).map bv)) => hrSum_any (K2 ++ I1) A n c W hn hl (by rw [← hn, List.length_append, hkl2, hsl]; omega) (HR.out.below hb))
  generalize Sha.sum Sha.consts (K2 ++ I1) = S2 at *
  have HRR := Lib.hid hRR
  have L1 := Lib.hid hkl1
  have L2 := Lib.hid hkl2
  have L3 := Lib.hid hsl
  have L4 := Lib.hid hsl2
  have HT := Lib.hid ht
  clear hk ht hR hRR hkl1 hkl2 hsl hsl2
  go_enter Tryd.func54, Tryd.ntmps54
  go_wp2_with fail
  refine (M1.out w (Below.refl _ _)).mono ?_
  rintro e w1 ⟨v1, rfl, o1, b1⟩
  have hsz1 := b1.size
  have B1 := Lib.hid b1
  clear b1
  go_wp2_with (at_builtin; go_loud (refine wpList_append_onto_src w1 rfl _ _ 43 9 rfl w.heap.size 5 i0 (.int .u8 0) 1 1 Tryd.underlying43 hi hz0 hz1 hz2 rfl _ _ _ o1 (.string (bstr text)) (bstr text).size (byteCells (bstr text)) (Src.ofString w1 Tryd.underlying9 (bstr text)) rfl rfl ?c1 ?c2 ?c3 ?_))
  case c1 => rw [bstr_size, L1.out]; have := HT.out; unfold maxLen; omega
  case c2 => rw [bstr_size, L1.out]; have := HT.out; omega
  case c3 => exact hsz1
  intro v2 w2 o2 b2
  rw [cells_app] at o2
  obtain ⟨A2, c2, rfl, _, _, hl2⟩ := own_shape o2
  have n2 : (K1 ++ text).length = K1.length + (bstr text).size := by rw [List.length_append, bstr_size]
  obtain ⟨m2, hm2⟩ : ∃ x, x = K1.length + (bstr text).size := ⟨_, rfl⟩
  rw [← hm2] at n2 ⊢
  have HL2 := Lib.hid hl2
  have HN2 := Lib.hid n2
  have B2 := Lib.hid (B1.out.trans b2)
  have HW := Lib.hid B2.out.size
  clear hl2 n2 hm2 o2 o1 b2 hsz1 B1
  go_wp2_with fail
  refine (M2.out w2 B2.out).mono ?_
  rintro e w3 ⟨v3, rfl, o3, b3⟩
  have hsz3 := b3.size
  have B3 := Lib.hid (B2.out.trans (b3.mono B2.out.size))
  have HL3 := Lib.hid (HL2.out.below b3)
  have HO3 := Lib.hid o3
  have HS3 := Lib.hid hsz3
  clear b3 HL2 o3 hsz3 B2
  go_wp2_with fail
  refine (CS1.out A2 m2 c2 w3 B3.out HN2.out HL3.out).mono ?_
  rintro e w4 ⟨rfl, b4⟩
  have B4 := Lib.hid b4
  clear b4
  go_wp2_with fail
  refine (hrBytes32_any I1 w4 L3.out).mono ?_
  rintro e w5 ⟨rfl, b5⟩
  have B5 := Lib.hid (B4.out.trans (b5.mono B4.out.size))
  have o5 := own_below HO3.out B5.out
  have hsz5 : w2.heap.size ≤ w5.heap.size := Nat.le_trans HS3.out B5.out.size
  have BB5 := Lib.hid (B3.out.trans (B5.out.mono B3.out.size))
  clear b5 B4 B5 HO3 HS3
  go_wp2_with (at_builtin; go_loud (refine wpList_append_onto_src w5 rfl _ _ 43 9 rfl w2.heap.size 5 i0 (.int .u8 0) 1 1 Tryd.underlying43 hi hz0 hz1 hz2 rfl _ _ _ o5 (.string (bstr I1)) (bstr I1).size (byteCells (bstr I1)) (Src.ofString w5 Tryd.underlying9 (bstr I1)) rfl rfl ?d1 ?d2 ?d3 ?_))
  case d1 => rw [bstr_size, L2.out, L3.out]; unfold maxLen; omega
  case d2 => rw [bstr_size, L2.out, L3.out]; omega
  case d3 => exact hsz5
  intro v6 w6 o6 b6
  rw [cells_app] at o6
  obtain ⟨A6, c6, rfl, _, _, hl6⟩ := own_shape o6
  have n6 : (K2 ++ I1).length = K2.length + (bstr I1).size := by rw [List.length_append, bstr_size]
  obtain ⟨m6, hm6⟩ : ∃ x, x = K2.length + (bstr I1).size := ⟨_, rfl⟩
  rw [← hm6] at n6 ⊢
  have HL6 := Lib.hid hl6
  have HN6 := Lib.hid n6
  have B6 := Lib.hid (BB5.out.trans (b6.mono HW.out))
  clear hl6 n6 hm6 o6 o5 b6 hsz5 BB5
  go_wp2_with fail
  refine (CS2.out A6 m6 c6 w6 B6.out HN6.out HL6.out).mono ?_
  rintro e w7 ⟨rfl, b7⟩
  have B7 := Lib.hid (B6.out.trans (b7.mono B6.out.size))
  clear b7
  go_wp2_with fail
  refine (hrBytes32_any S2 w7 L4.out).mono ?_
  rintro e w8 ⟨rfl, b8⟩
  have B8 := Lib.hid (B7.out.trans (b8.mono B7.out.size))
  clear b8
  go_wp2_with fail
  go_ret
  exact ⟨by rw [HRR.out]; rfl, B8.out⟩

end Go.Proofs.YtdbdlhgkhnenfaaDoor
