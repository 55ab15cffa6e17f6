/-
  Contracts of voxelref02: codes.
-/
import Derived.Test.YtfaadaahpjpfaaaDoorHre
import Derived.Test.YtfaadaahpjpfaaaDoorHta
import Derived.Test.YtfaadaahpjpfaaaDoorHsm
import Derived.Lib.ConvBytes
import Derived.Test.YtfaadaahpjpfaaaDoorHlawb
namespace Go.Proofs.YtfaadaahpjpfaaaDoor
open Go.RowKit

/-- the post of a function that returns new bytes -/
def NewB (l : List UInt8) (w : World) (e : Ending) (w' : World) : Prop :=
  ∃ v, e = .returned v ∧ w'.ownsRow w.heap.size 5 1 v l.length (l.map bv) ∧ Below w.heap.size w w'
/-- the key that padKey uses -/
def PadK (key : List UInt8) (w : World) (s : Value) (wx : World) : Prop :=
  ∃ k : List UInt8, s = .string (bstr k) ∧ (k.length ≤ 64 ∧ ∀ p, Sha.key Sha.consts key p = (ext k).map (· ^^^ p)) ∧ Below w.heap.size w wx

set_option maxRecDepth 1000000 in
set_option maxHeartbeats 1000000 in
theorem hrPadKey_any (key : List UInt8) (p : UInt8) (w : World) (hk : key.length ≤ 1000000) (hR : TabR w) :
    Calls Tryd.prog 34 #[.string (bstr key), .int .u8 (p.toNat : Int)] w (NewB (Sha.key Sha.consts key p) w) := by
  obtain ⟨i0, hi, hz0, hz1, hz2⟩ := info_parts Tryd.infoU8
  have hks : (bstr key).size = key.length := bstr_size key
  have HR := Lib.hid hR
  have hkl := Sha.key_len Sha.consts key p
  obtain ⟨R, hRR⟩ : ∃ x, x = Sha.key Sha.consts key p := ⟨_, rfl⟩
  rw [← hRR] at hkl ⊢
  have HRR := Lib.hid hRR
  clear hR hRR
  go_enter Tryd.func34, Tryd.ntmps34
  go_upto_if 12 with fail
  clear hks
  go_cut [5] (fun s5 wx => PadK key w s5 wx)
  case first =>
    by_cases h64 : 64 < key.length
    · have hd : decide ((64 : Int) < (key.length : Int)) = true := by simp; omega
      have kc := conv_bytes
      have CS := Lib.hid (hrSum_any key (some ⟨w.heap.size, 0, none⟩) key.length (grownCap w key.length 0 5) (Lib.bytesWorld w 5 (bstr key)) rfl (bytesWorld_lies w key) (by omega) (HR.out.below (bytesWorld_below w (bstr key))))
      have hsl := Sha.sum_len Sha.consts key
      have hkk := fun p => (Sha.key_long Sha.consts key p h64).trans (key_ext (Sha.sum Sha.consts key) p (by rw [hsl]; omega))
      generalize Sha.sum Sha.consts key = S1 at CS hsl hkk
      have HSL := Lib.hid hsl
      have HKK := Lib.hid hkk
      have hks : (bstr key).size = key.length := bstr_size key
      clear hsl hkk
      go_wp2_with fail
      refine CS.out.mono ?_
      rintro e w1 ⟨rfl, h1⟩
      have B1 := Lib.hid ((bytesWorld_below w (bstr key)).trans (h1.mono (bytesWorld_below w (bstr key)).size))
      clear h1
      go_wp2_with fail
      refine (hrBytes32_any S1 w1 HSL.out).mono ?_
      rintro e w2 ⟨rfl, h2⟩
      have B2 := Lib.hid (B1.out.trans (h2.mono B1.out.size))
      clear h2
      go_wp2_with fail
      go_meet
      exact ⟨S1, rfl, ⟨by rw [HSL.out]; omega, HKK.out⟩, B2.out⟩
    · have hd : decide ((64 : Int) < (key.length : Int)) = false := by simp; omega
      go_wp2_with fail
      go_meet
      exact ⟨key, rfl, ⟨by omega, fun p => key_ext key p h64⟩, Below.refl _ _⟩
  case rest =>
    obtain ⟨k, rfl, ⟨hk64, hkey⟩, hb⟩ := hcut
    have hks : (bstr k).size = k.length := bstr_size k
    have hRe : R = (ext k).map (· ^^^ p) := by rw [HRR.out]; exact hkey p
    have HRE := Lib.hid hRe
    have HB := Lib.hid hb
    have HKL := Lib.hid hkl
    have hsz := hb.size
    clear hkey hb hRe hkl
    go_wp2_with fail
    go_loopw [6, 7] (fun v i wr => ∃ j : Nat, i = .int .i64 (j : Int) ∧ j ≤ 64 ∧ wr.ownsRow w.heap.size 5 1 v j ((R.take j).map bv) ∧ Below w.heap.size w wr) (fun _ i _ => 64 - (intOf i).toNat)
    case atStart => exact ⟨0, rfl, by omega, World.ownsRow_nil _ _ _ _, HB.out⟩
    case round =>
      obtain ⟨j, rfl, hj, hown, hb2⟩ := hrel
      have hsz2 := hb2.size
      by_cases hlt : j < 64
      · have hR1 : R.getD j 0 = (k.getD j 0) ^^^ p := by
          rw [HRE.out, List.getD_eq_getElem?_getD, List.getElem?_map]
          unfold ext
          rw [List.getElem?_map, List.getElem?_range hlt]
          rfl
        have ht : R.take j ++ [R.getD j 0] = R.take (j + 1) := by
          rw [List.take_succ_eq_append_getElem (by rw [HKL.out]; exact hlt), List.getD_eq_getElem?_getD, List.getElem?_eq_getElem (by rw [HKL.out]; exact hlt)]; rfl
        rw [hR1] at ht
        generalize hX : R.take j = X at hown ht
        have HB2 := Lib.hid hb2
        have HT := Lib.hid ht
        have EX := Lib.hid (u8_xor (k.getD j 0) p)
        clear hb2 ht hX hR1 HRR
        by_cases hjk : j < k.length
        · have hks : (bstr k).size = k.length := bstr_size k
          go_wp2_with (at_builtin; go_loud (refine wpList_append_one wr rfl _ _ 22 rfl w.heap.size 5 i0 (.int .u8 0) 1 Tryd.underlying22 hi hz0 hz1 hz2 rfl _ _ _ hown _ rfl rfl rfl ?cA1 ?cA2 ?cA3 ?_))
          case cA1 => unfold maxLen; omega
          case cA2 => omega
          case cA3 => exact hsz2
          intro v' w1 ho hb1
          have e2 : X.map bv ++ [Value.int .u8 (bits .xor .u8 (((bstr k)[j]'(by rw [bstr_size]; exact hjk)).toNat : Int) (p.toNat : Int))] = (R.take (j + 1)).map bv := by
            rw [bstr_get, EX.out, ← HT.out, List.map_append]; rfl
          rw [e2] at ho
          have HO := Lib.hid ho
          have HB3 := Lib.hid (HB2.out.trans hb1)
          clear ho hb1 hown e2
          go_wp2_with fail
          first
            | exact ⟨⟨j + 1, by go_num, by omega, HO.out, HB3.out⟩, by simp [intOf]; omega⟩
            | (go_roundw
               case rel => exact ⟨j + 1, by go_num, by omega, HO.out, HB3.out⟩
               case measure => simp [intOf]; omega)
        · have h0 : k.getD j 0 = 0 := by rw [List.getD_eq_getElem?_getD, List.getElem?_eq_none (by omega)]; rfl
          rw [h0] at HT EX
          have hks : (bstr k).size = k.length := bstr_size k
          clear h0
          go_wp2_with (at_builtin; go_loud (refine wpList_append_one wr rfl _ _ 22 rfl w.heap.size 5 i0 (.int .u8 0) 1 Tryd.underlying22 hi hz0 hz1 hz2 rfl _ _ _ hown _ rfl rfl rfl ?cB1 ?cB2 ?cB3 ?_))
          case cB1 => unfold maxLen; omega
          case cB2 => omega
          case cB3 => exact hsz2
          intro v' w1 ho hb1
          have e2 : X.map bv ++ [Value.int .u8 (bits .xor .u8 0 (p.toNat : Int))] = (R.take (j + 1)).map bv := by
            rw [show (0 : Int) = ((0 : UInt8).toNat : Int) from rfl, EX.out, ← HT.out, List.map_append]; rfl
          rw [e2] at ho
          have HO := Lib.hid ho
          have HB3 := Lib.hid (HB2.out.trans hb1)
          clear ho hb1 hown e2
          go_wp2_with fail
          first
            | exact ⟨⟨j + 1, by go_num, by omega, HO.out, HB3.out⟩, by simp [intOf]; omega⟩
            | (go_roundw
               case rel => exact ⟨j + 1, by go_num, by omega, HO.out, HB3.out⟩
               case measure => simp [intOf]; omega)
      · have hj64 : j = 64 := by omega
        subst hj64
        rw [List.take_of_length_le (by rw [HKL.out]; exact Nat.le_refl _)] at hown
        have HO := Lib.hid hown
        have HB2 := Lib.hid hb2
        clear hown hb2
        go_wp2_with fail
        go_ret
        exact ⟨_, rfl, by rw [HKL.out]; exact HO.out, HB2.out⟩

end Go.Proofs.YtfaadaahpjpfaaaDoor
