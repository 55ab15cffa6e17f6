/-
  Contracts of package hash: codes.
-/
import Derived.Test.YtfaadaahpjpfaaaDoorHsl
import Derived.Deep.QuietTactic
import Derived.BigQuiet
namespace Go.Proofs.YtfaadaahpjpfaaaDoor
open Go.RowKit
open Sha (wv)

/-- a stream with the message m comes back -/
def StrP (m : List UInt8) (w : World) (e : Ending) (w' : World) : Prop :=
  ∃ v blk n, e = .returned (.agg (strC v blk n).toArray) ∧ (n = m.length ∧ Sha.Str Sha.consts m v blk) ∧ Below w.heap.size w w'
theorem hsBegin_p (w : World) (ht : Tab w) : Calls Tryd.prog 14 #[] w (StrP [] w) :=
  (hsBegin_any w ht).mono fun _ _ ⟨v, blk, he, hs, hb⟩ => ⟨v, blk, 0, he, ⟨rfl, hs⟩, hb⟩
theorem hsAdd_p (m t : List UInt8) (v : Sha.St) (blk : List UInt8) (n : Nat) (w : World) (hs : n = m.length ∧ Sha.Str Sha.consts m v blk) (hm : m.length + t.length ≤ 1099511627776) (ht : Tab w) :
    Calls Tryd.prog 15 #[.agg (strC v blk n).toArray, .string (bstr t)] w (StrP (m ++ t) w) := by
  obtain ⟨rfl, h⟩ := hs
  exact (hsAdd_any m v blk (bstr t) w h (by rw [bstr_size]; exact hm) ht).mono fun _ _ ⟨v, blk, he, hs, hb⟩ => ⟨v, blk, _, he, ⟨rfl, hs⟩, hb⟩
theorem hsSumText_p (m : List UInt8) (v : Sha.St) (blk : List UInt8) (n : Nat) (w : World) (hs : n = m.length ∧ Sha.Str Sha.consts m v blk) (hm : m.length ≤ 1099511627776) (ht : Tab w) :
    Calls Tryd.prog 32 #[.agg (strC v blk n).toArray] w fun e w' => e = .returned (.string (bstr (Sha.sum Sha.consts m))) ∧ Below w.heap.size w w' := by
  obtain ⟨rfl, h⟩ := hs
  exact hsSumText_any m v blk w h hm ht
theorem hsSSum_p (m : List UInt8) (v : Sha.St) (blk : List UInt8) (n : Nat) (w : World) (hs : n = m.length ∧ Sha.Str Sha.consts m v blk) (hm : m.length ≤ 1099511627776) (ht : Tab w) :
    Calls Tryd.prog 17 #[.agg (strC v blk n).toArray] w fun e w' => e = .returned (.agg ((Sha.sum Sha.consts m).map bv).toArray) ∧ Below w.heap.size w w' := by
  obtain ⟨rfl, h⟩ := hs
  exact hsSSum_any m v blk w h hm ht
theorem hsMasked_p (k : List UInt8) (p : UInt8) (w : World) (hk : k.length ≤ 64) :
    Calls Tryd.prog 33 #[.string (bstr k), .int .u8 (p.toNat : Int)] w fun e w' => e = .returned (.string (bstr (Sha.key Sha.consts k p))) ∧ Below w.heap.size w w' :=
  hsMasked_any (bstr k) p w (by rw [bstr_size]; exact hk)

/-- the key that is used -/
def KeyP (key : List UInt8) (w : World) (s : Value) (wx : World) : Prop :=
  ∃ k : List UInt8, s = .string (bstr k) ∧ (k.length ≤ 64 ∧ ∀ p, Sha.key Sha.consts key p = Sha.key Sha.consts k p) ∧ Below w.heap.size w wx

set_option maxRecDepth 1000000 in
set_option maxHeartbeats 1000000 in
theorem hsMac_any (key text : List UInt8) (w : World) (hk : key.length ≤ 1000000) (ht : text.length ≤ 1000000) (hT : Tab w) :
    Calls Tryd.prog 18 #[.string (bstr key), .string (bstr text)] w fun e w' => e = .returned (.string (bstr (Sha.mac Sha.consts key text))) ∧ Below w.heap.size w w' := by
  have hks : (bstr key).size = key.length := bstr_size key
  obtain ⟨R, hR⟩ : ∃ x, x = Sha.mac Sha.consts key text := ⟨_, rfl⟩
  rw [← hR]
  have HR := Lib.hid hR
  have HT := Lib.hid hT
  have HT2 := Lib.hid ht
  have HK2 := Lib.hid hk
  clear hR hT ht
  go_enter Tryd.func18, Tryd.ntmps18
  go_upto_if 8 with fail
  clear hks
  go_cut [0] (fun s0 wx => KeyP key w s0 wx)
  case first =>
    by_cases h64 : 64 < key.length
    · have hd : decide ((64 : Int) < (key.length : Int)) = true := by simp; omega
      go_wp2_with fail
      refine (hsBegin_p w HT.out).mono ?_
      rintro e w1 ⟨v1, b1, n1, rfl, s1, h1⟩
      have S1 := Lib.hid s1
      have B1 := Lib.hid h1
      clear s1 h1
      go_wp2_with fail
      refine (hsAdd_p [] key v1 b1 n1 w1 S1.out (by simp; omega) (HT.out.below B1.out)).mono ?_
      rintro e w2 ⟨v2, b2, n2, rfl, s2, h2⟩
      have S2 := Lib.hid s2
      have B2 := Lib.hid (B1.out.trans (h2.mono B1.out.size))
      clear s2 h2
      go_wp2_with fail
      refine (hsSumText_p ([] ++ key) v2 b2 n2 w2 S2.out (by simp; omega) (HT.out.below B2.out)).mono ?_
      rintro e w3 ⟨rfl, h3⟩
      have B3 := Lib.hid (B2.out.trans (h3.mono B2.out.size))
      clear h3
      go_wp2_with fail
      go_meet
      exact ⟨_, rfl, ⟨by rw [Sha.sum_len]; omega, fun p => Sha.key_long _ _ _ h64⟩, B3.out⟩
    · have hd : decide ((64 : Int) < (key.length : Int)) = false := by simp; omega
      go_wp2_with fail
      go_meet
      exact ⟨key, rfl, ⟨by omega, fun p => rfl⟩, Below.refl _ _⟩
  case rest =>
    obtain ⟨k, rfl, ⟨hk64, hkey⟩, hb⟩ := hcut
    have hkl1 := Sha.key_len Sha.consts k 0x36
    have hkl2 := Sha.key_len Sha.consts k 0x5c
    have M1 := Lib.hid (fun W : World => hsMasked_p k 0x36 W hk64)
    have M2 := Lib.hid (fun W : World => hsMasked_p k 0x5c W hk64)
    have hm : R = Sha.sum Sha.consts (Sha.key Sha.consts k 0x5c ++ Sha.sum Sha.consts (Sha.key Sha.consts k 0x36 ++ text)) := by
      rw [HR.out, Sha.mac, hkey, hkey]
    have hsl := Sha.sum_len Sha.consts (Sha.key Sha.consts k 0x36 ++ text)
    generalize Sha.key Sha.consts k 0x36 = K1 at *
    generalize Sha.key Sha.consts k 0x5c = K2 at *
    have HM := Lib.hid hm
    have B0 := Lib.hid hb
    have L1 := Lib.hid hkl1
    have L2 := Lib.hid hkl2
    have L3 := Lib.hid hsl
    clear hm hb hkl1 hkl2 hkey hsl hk64
    go_wp2_with fail
    refine (hsBegin_p wc (HT.out.below B0.out)).mono ?_
    rintro e w1 ⟨v1, b1, n1, rfl, s1, h1⟩
    have S1 := Lib.hid s1
    have B1 := Lib.hid (B0.out.trans (h1.mono B0.out.size))
    clear s1 h1
    go_wp2_with fail
    refine (M1.out w1).mono ?_
    rintro e w2 ⟨rfl, h2⟩
    have B2 := Lib.hid (B1.out.trans (h2.mono B1.out.size))
    clear h2
    go_wp2_with fail
    refine (hsAdd_p [] K1 v1 b1 n1 w2 S1.out (by rw [L1.out]; simp) (HT.out.below B2.out)).mono ?_
    rintro e w3 ⟨v3, b3, n3, rfl, s3, h3⟩
    have S3 := Lib.hid s3
    have B3 := Lib.hid (B2.out.trans (h3.mono B2.out.size))
    clear s3 h3
    go_wp2_with fail
    refine (hsAdd_p ([] ++ K1) text v3 b3 n3 w3 S3.out (by rw [List.nil_append, L1.out]; have := HT2.out; omega) (HT.out.below B3.out)).mono ?_
    rintro e w4 ⟨v4, b4, n4, rfl, s4, h4⟩
    have S4 := Lib.hid s4
    have B4 := Lib.hid (B3.out.trans (h4.mono B3.out.size))
    clear s4 h4
    go_wp2_with fail
    refine (hsSumText_p ([] ++ K1 ++ text) v4 b4 n4 w4 S4.out (by rw [List.nil_append, List.length_append, L1.out]; have := HT2.out; omega) (HT.out.below B4.out)).mono ?_
    rintro e w5 ⟨rfl, h5⟩
    have B5 := Lib.hid (B4.out.trans (h5.mono B4.out.size))
    clear h5
    rw [List.nil_append]
    generalize Sha.sum Sha.consts (K1 ++ text) = I1 at *
    go_wp2_with fail
    refine (hsBegin_p w5 (HT.out.below B5.out)).mono ?_
    rintro e w6 ⟨v6, b6, n6, rfl, s6, h6⟩
    have S6 := Lib.hid s6
    have B6 := Lib.hid (B5.out.trans (h6.mono B5.out.size))
    clear s6 h6
    go_wp2_with fail
    refine (M2.out w6).mono ?_
    rintro e w7 ⟨rfl, h7⟩
    have B7 := Lib.hid (B6.out.trans (h7.mono B6.out.size))
    clear h7
    go_wp2_with fail
    refine (hsAdd_p [] K2 v6 b6 n6 w7 S6.out (by rw [L2.out]; simp) (HT.out.below B7.out)).mono ?_
    rintro e w8 ⟨v8, b8, n8, rfl, s8, h8⟩
    have S8 := Lib.hid s8
    have B8 := Lib.hid (B7.out.trans (h8.mono B7.out.size))
    clear s8 h8
    go_wp2_with fail
    refine (hsAdd_p ([] ++ K2) I1 v8 b8 n8 w8 S8.out (by rw [List.nil_append, L2.out, L3.out]; omega) (HT.out.below B8.out)).mono ?_
    rintro e w9 ⟨v9, b9, n9, rfl, s9, h9⟩
    have S9 := Lib.hid s9
    have B9 := Lib.hid (B8.out.trans (h9.mono B8.out.size))
    clear s9 h9
    go_wp2_with fail
    refine (hsSumText_p ([] ++ K2 ++ I1) v9 b9 n9 w9 S9.out (by rw [List.nil_append, List.length_append, L2.out, L3.out]; omega) (HT.out.below B9.out)).mono ?_
    rintro e w10 ⟨rfl, h10⟩
    have B10 := Lib.hid (B9.out.trans (h10.mono B9.out.size))
    clear h10
    go_wp2_with fail
    go_ret
    exact ⟨by rw [HM.out]; rfl, B10.out⟩

end Go.Proofs.YtfaadaahpjpfaaaDoor
