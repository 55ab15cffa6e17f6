/-
  voxellaw01.WireIntRoundTrip, its walk: decoding the encoding of an integer, with any bytes behind it.
-/
import Derived.Test.YtchlomkohjjpmaaSanb
import Derived.Test.YtchlomkohjjpmaaBased
namespace Go.Proofs.Ytchlomkohjjpmaa
open Go.RowKit

set_option maxRecDepth 1000000 in
set_option maxHeartbeats 1000000 in
theorem roundTrip_big (x : Int) (A : Option Addr) (n c : Nat) (w : World) (h : 2000 < n) :
    Calls Try.prog 6 #[.int .i64 x, .slice A n c] w fun e w' => e = .returned (.bool true) ∧ Below w.heap.size w w' := by
  go_enter Try.func6, Try.ntmps6
  go_wp2_with fail
  refine (sanity_any w).mono ?_
  rintro e w1 ⟨rfl, hb⟩
  go_wp2_with fail
  go_ret
  exact ⟨rfl, hb⟩

set_option maxRecDepth 1000000 in
set_option maxHeartbeats 1000000 in
theorem roundTrip_small (x : Int) (l : List UInt8) (A : Option Addr) (n c : Nat) (w : World) (h1 : -9223372036854775808 ≤ x) (h2 : x ≤ 9223372036854775807) (h : n ≤ 2000) (hn : l.length = n) (hA : A = none → n = 0) (hl : Lies w A (l.map bv)) :
    Calls Try.prog 6 #[.int .i64 x, .slice A n c] w fun e w' => e = .returned (.bool true) ∧ Below w.heap.size w w' := by
  obtain ⟨i0, hi, hz0, hz1, hz2⟩ := info_parts Try.infoU8
  have HL := Lib.hid hl
  have HN := Lib.hid hn
  have HA := Lib.hid hA
  have hle := Wm.encI_len x h1 h2
  have hpos : 1 ≤ (Wm.encI x).length := Wm.enc_pos _
  have HG := Lib.hid (Wm.getI_enc x l h1 h2)
  clear hl hn hA
  go_enter Try.func6, Try.ntmps6
  go_wp2_with fail
  refine (int_any x w h1 h2).mono ?_
  rintro e w1 ⟨v, rfl, ho, hb1⟩
  obtain ⟨A1, c1, rfl, hc1, _, hl1⟩ := own_shape ho
  have hA1 : Hid (A1 = none → (Wm.encI x).length = 0) := Lib.hid (fun h0 => by have := hl1.none_ h0; rw [this]; rfl)
  have HL1 := Lib.hid hl1
  have HE : Hid (((Wm.encI x).map bv).length = (Wm.encI x).length) := Lib.hid (List.length_map _)
  have HB1 := Lib.hid hb1
  have hsz := hb1.size
  generalize hk : (Wm.encI x).length = k at *
  clear ho hl1 hb1
  go_wp2_with (at_builtin; go_loud (refine wpList_append_full w1 rfl _ _ 28 28 rfl 5 i0 (.int .u8 0) 1 Try.underlying28 hi hz0 hz1 hz2 A1 k _ HE.out hA1.out HL1.out (.slice A n c) n _ (Src.of_lies w1 Try.underlying28 c (by rw [List.length_map, HN.out, Nat.mul_one]) HA.out (HL.out.below HB1.out) (bvs_one l)) rfl rfl ?q1 ?q2 ?_))
  case q1 => unfold maxLen; omega
  case q2 => omega
  intro A3 c3 w3 hc3 hl3 hA3 hb3
  have hsz3 := hb3.size
  rw [← List.map_append] at hl3
  have C := getInt_any (Wm.encI x ++ l) A3 (k + n) c3 w3 (by rw [List.length_append, HN.out, hk]) (by omega) hl3
  rw [HG.out] at C
  have HC := Lib.hid C
  have HB3 := Lib.hid (HB1.out.trans (hb3.mono hsz))
  have HK := Lib.hid hk
  clear C hl3 hA3 hb3 hk hc3 hc1
  have hp1 : decide ((1 : Int) ≤ (k : Int)) = true := by simp; omega
  have hp2 : decide ((k : Int) ≤ 10) = true := by simp; omega
  go_wp2_with fail
  refine HC.out.mono ?_
  rintro e w4 ⟨rfl, rfl⟩
  clear HC
  go_wp2_with fail
  refine (sanity_any w3).mono ?_
  rintro e w5 ⟨rfl, hb5⟩
  go_wp2_with fail
  go_ret
  refine ⟨?_, HB3.out.trans (hb5.mono (by omega))⟩
  simp

end Go.Proofs.Ytchlomkohjjpmaa
