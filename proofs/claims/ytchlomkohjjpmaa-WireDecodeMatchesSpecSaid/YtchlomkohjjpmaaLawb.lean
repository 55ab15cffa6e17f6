/-
  voxellaw01.WireConcat, its walk: two encodings, one behind the other.
-/
import Derived.Test.YtchlomkohjjpmaaLawa
import Derived.Test.YtchlomkohjjpmaaMathc
namespace Go.Proofs.Ytchlomkohjjpmaa
open Go.RowKit

set_option maxRecDepth 1000000 in
set_option maxHeartbeats 1000000 in
theorem concat_big (s : ByteArray) (A : Option Addr) (n c : Nat) (w : World) (h : 2000 < s.size + n) (h1 : s.size ≤ 9007199254740992) (h2 : n ≤ 140737488355328) :
    Calls Try.prog 10 #[.string s, .slice A n c] w fun e w' => e = .returned (.bool true) ∧ Below w.heap.size w w' := by
  have hx : (2000 : Int) < (s.size : Int) + (n : Int) := by omega
  go_enter Try.func10, Try.ntmps10
  go_wp2_with fail
  refine (sanity_any w).mono ?_
  rintro e w1 ⟨rfl, hb⟩
  go_wp2_with fail
  go_ret
  exact ⟨rfl, hb⟩

set_option maxRecDepth 1000000 in
set_option maxHeartbeats 1000000 in
theorem concat_small (s : ByteArray) (l : List Int) (A : Option Addr) (n c : Nat) (w : World) (h : s.size + n ≤ 2000) (hn : l.length = n) (hf : Fits l) (hl : Lies w A (l.map iv)) :
    Calls Try.prog 10 #[.string s, .slice A n c] w fun e w' => e = .returned (.bool true) ∧ Below w.heap.size w w' := by
  obtain ⟨i0, hi, hz0, hz1, hz2⟩ := info_parts Try.infoU8
  have HL := Lib.hid hl
  have HN := Lib.hid hn
  have HF := Lib.hid hf
  have hx : ¬ (2000 : Int) < (s.size : Int) + (n : Int) := by omega
  have hsl := ba_len s
  have hi10 := Wm.encI_len (s.data.toList.length : Int) (by omega) (by omega)
  have hk1 : (Wm.encS s.data.toList).length ≤ 2010 := by unfold Wm.encS; rw [List.length_append]; omega
  have hk2 := Wm.encIs_len l hf (by omega)
  have hk2p : 1 ≤ (Wm.encIs l).length := by unfold Wm.encIs; rw [List.length_append]; have := Wm.enc_pos (Wm.zig (l.length : Int)); unfold Wm.encI; omega
  have G1 := Lib.hid (Wm.getS_enc s.data.toList (Wm.encIs l) (by omega))
  have G2 := Lib.hid (Wm.getIs_enc l [] (by omega) hf)
  rw [List.append_nil] at G2
  have hk2' : (Wm.encIs l).length ≤ 20010 := by omega
  have C1 := Lib.hid (bytes_any s w (by omega))
  have C2 := fun w1 (hb : Below w.heap.size w w1) => ints_any l A n c w1 hn hf (hl.below hb) (by omega) (by omega)
  have HC2 := Lib.hid C2
  have E1 : Hid (((Wm.encS s.data.toList).map bv).length = (Wm.encS s.data.toList).length) := Lib.hid (List.length_map _)
  have E2 : Hid (((Wm.encIs l).map bv).length = (Wm.encIs l).length) := Lib.hid (List.length_map _)
  have EE : Hid ((Wm.encS s.data.toList ++ Wm.encIs l).length = (Wm.encS s.data.toList).length + (Wm.encIs l).length) := Lib.hid (List.length_append ..)
  clear hl hn hf hi10 hsl C2 hk2
  generalize hq1 : (Wm.encS s.data.toList).length = k1 at *
  generalize hq2 : (Wm.encIs l).length = k2 at *
  have Q1 := Lib.hid hq1
  have Q2 := Lib.hid hq2
  clear hq1 hq2
  go_enter Try.func10, Try.ntmps10
  go_wp2_with fail
  refine C1.out.mono ?_
  rintro e w1 ⟨v1, rfl, ho1, hb1⟩
  have hsz1 := hb1.size
  have HB1 := Lib.hid hb1
  clear C1 hb1
  go_wp2_with fail
  refine (HC2.out w1 HB1.out).mono ?_
  rintro e w2 ⟨v2, rfl, ho2, hb2⟩
  obtain ⟨A2, c2, rfl, hc2, _, hl2⟩ := own_shape ho2
  have hA2 : Hid (A2 = none → k2 = 0) := Lib.hid (fun h0 => by have := hl2.none_ h0; rw [← Q2.out, this]; rfl)
  have ho1 := own_below ho1 hb2
  have hsz2 := hb2.size
  have HB2 := Lib.hid (HB1.out.trans (hb2.mono hsz1))
  have HL2 := Lib.hid hl2
  clear HC2 ho2 hb2 hl2 HB1
  go_wp2_with (at_builtin; go_loud (refine wpList_append_onto_src w2 rfl _ _ 28 28 rfl w.heap.size 5 i0 (.int .u8 0) 1 1 Try.underlying28 hi hz0 hz1 hz2 rfl _ _ _ ho1 (.slice A2 k2 c2) k2 _ (Src.of_lies w2 Try.underlying28 c2 (by rw [E2.out, Nat.mul_one]) hA2.out HL2.out (bvs_one _)) rfl rfl ?q1 ?q2 ?q3 ?_))
  case q1 => unfold maxLen; omega
  case q2 => omega
  case q3 => omega
  intro v3 w3 ho3 hb3
  rw [← List.map_append] at ho3
  obtain ⟨A3, c3, rfl, hc3, _, hl3⟩ := own_shape ho3
  have hsz3 := hb3.size
  have HB3 := Lib.hid (HB2.out.trans hb3)
  have C3 := getBytes_any (Wm.encS s.data.toList ++ Wm.encIs l) A3 (k1 + k2) c3 w3 EE.out (by omega) hl3 hc3
  rw [G1.out] at C3
  have C3 : Calls Try.prog 26 #[.slice A3 (k1 + k2) c3] w3 fun e w' => e = .returned (.tuple #[.string s, .int .i64 (k1 : Int), .int .i64 0]) ∧ w3 = w' := C3
  have HC3 := Lib.hid C3
  have HL3 := Lib.hid hl3
  clear C3 ho1 ho3 hl3 hb3 HB2 HL2
  go_wp2_with fail
  refine HC3.out.mono ?_
  rintro e w4 ⟨rfl, rfl⟩
  clear HC3
  have hpa := part_args (u := k1) (n := k1 + k2) (c := c3) HL3.out EE.out hc3
  have hne : ¬ c3 = k1 := by omega
  rw [if_neg hne, List.drop_append_of_le_length (by rw [Q1.out]; exact Nat.le_refl _), List.drop_of_length_le (by rw [Q1.out]; exact Nat.le_refl _), List.nil_append] at hpa
  have C4 := getInts_any (Wm.encIs l) (A3.map (·.add k1)) k2 (c3 - k1) w3 Q2.out (by omega) hpa (by omega)
  rw [G2.out] at C4
  have HC4 := Lib.hid C4
  clear hpa C4
  go_wp2_with fail
  refine HC4.out.mono ?_
  rintro e w5 ⟨v5, rfl, ho5, hb5⟩
  rw [show (l.length : Nat) = n from HN.out] at ho5
  obtain ⟨A5, c5, rfl, hc5, _, hl5⟩ := own_shape ho5
  have hsz5 := hb5.size
  have HB5 := Lib.hid (HB3.out.trans (hb5.mono (by omega)))
  have HL5 := Lib.hid hl5
  clear HC4 ho5 hl5 hb5 HB3
  go_wp2_with fail
  refine (sanity_any w5).mono ?_
  rintro e w6 ⟨rfl, hb6⟩
  have hsz6 := hb6.size
  have HB6 := Lib.hid (HB5.out.trans (hb6.mono (by omega)))
  have C6 := Lib.hid (sameInts_any l A5 A n n c5 c w6 HN.out HN.out (by omega) (HL5.out.below hb6) (HL.out.below HB6.out))
  clear hb6 HB5
  go_wp2_with fail
  refine C6.out.mono ?_
  rintro e w7 ⟨rfl, hb7⟩
  have HB7 := Lib.hid (HB6.out.trans (hb7.mono (by omega)))
  clear C6 hb7 HB6
  go_wp2_with fail
  go_ret
  exact ⟨by simp, HB7.out⟩

end Go.Proofs.Ytchlomkohjjpmaa
