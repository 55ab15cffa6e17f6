/-
  Contracts of the reference's encoders.
-/
import Derived.Test.YtchlomkohjjpmaaLawb
namespace Go.Proofs.Ytchlomkohjjpmaa
open Go.RowKit

theorem src_own {w : World} {A : Option Addr} {k c : Nat} {l : List UInt8} (hk : l.length = k) (hl : Lies w A (l.map bv)) : Src Try.prog 1 28 (.slice A k c) k (l.map bv) w :=
  Src.of_lies w Try.underlying28 c (by rw [List.length_map, hk, Nat.mul_one]) (fun h => by have := hl.none_ h; subst this; exact hk.symm) hl (bvs_one l)

set_option maxRecDepth 1000000 in
set_option maxHeartbeats 400000 in
theorem refInt_any (n : Int) (w : World) (h1 : -9223372036854775808 ≤ n) (h2 : n ≤ 9223372036854775807) :
    Calls Try.prog 15 #[.int .i64 n] w fun e w' => ∃ v', e = .returned v' ∧ w'.ownsRow w.heap.size 5 1 v' (Wm.encI n).length ((Wm.encI n).map bv) ∧ Below w.heap.size w w' := by
  obtain ⟨i0, hi, hz0, hz1, hz2⟩ := info_parts Try.infoU8
  have hzl := Wm.zig_lt n h1 h2
  have E : Hid ((0 ≤ n → n * 2 = ((Wm.zig n : Nat) : Int)) ∧ (n < 0 → (-1 - n) * 2 + 1 = ((Wm.zig n : Nat) : Int))) := Lib.hid (by unfold Wm.zig; constructor <;> intro h <;> split <;> omega)
  by_cases hneg : n < 0
  all_goals
    go_enter Try.func15, Try.ntmps15
    go_wp2_with fail
    go_loopw [3, 4] (fun z b wr => ∃ (ys : List UInt8) (z' : Nat), z = .int .u64 (z' : Int) ∧ z' < 18446744073709551616 ∧ ys.length ≤ 10 ∧ ys ++ Wm.enc z' = Wm.encI n ∧ wr.ownsRow w.heap.size 5 1 b ys.length (ys.map bv) ∧ Below w.heap.size w wr)
      (fun z _ _ => (intOf z).toNat)
    case atStart =>
      first
        | exact ⟨[], Wm.zig n, by rw [← E.out.2 (by omega)], hzl, by simp, rfl, World.ownsRow_nil _ _ _ _, Below.refl _ _⟩
        | exact ⟨[], Wm.zig n, by rw [← E.out.1 (by omega)], hzl, by simp, rfl, World.ownsRow_nil _ _ _ _, Below.refl _ _⟩
    case round =>
      obtain ⟨ys, z', rfl, hz', hyl, hys, hown', hbel⟩ := hrel
      have hsz := hbel.size
      have HY := Lib.hid hys
      clear hys
      by_cases hlt : z' < 128
      · go_wp2_with (at_builtin; refine wpList_append_one wr rfl _ _ 28 rfl w.heap.size 5 i0 (.int .u8 0) 1 Try.underlying28 hi hz0 hz1 hz2 rfl _ _ _ hown' (.int .u8 (z' : Int)) rfl rfl rfl ?c1 ?c2 ?c3 ?_)
        case c1 => unfold maxLen; omega
        case c2 => omega
        case c3 => omega
        intro v' w1 ho hb
        go_wp2
        go_ret
        have e : Wm.encI n = ys ++ [UInt8.ofNat z'] := by rw [← HY.out, Wm.enc_lo hlt]
        rw [e]
        have e2 : (bv (UInt8.ofNat z')) = .int .u8 (z' : Int) := by unfold bv; rw [Wm.u8_of (by omega)]
        exact ⟨v', rfl, by simpa [e2] using ho, hbel.trans hb⟩
      · go_wp2_with (at_builtin; refine wpList_append_one wr rfl _ _ 28 rfl w.heap.size 5 i0 (.int .u8 0) 1 Try.underlying28 hi hz0 hz1 hz2 rfl _ _ _ hown' (.int .u8 ((z' : Int) % 128 + 128)) rfl rfl rfl ?c1 ?c2 ?c3 ?_)
        case c1 => unfold maxLen; omega
        case c2 => omega
        case c3 => omega
        intro v' w1 ho hb
        go_wp2
        have e2 : (bv (UInt8.ofNat (z' % 128 + 128))) = .int .u8 ((z' : Int) % 128 + 128) := by unfold bv; rw [Wm.u8_of (by omega)]; congr 1
        have e3 : (ys ++ [UInt8.ofNat (z' % 128 + 128)]) ++ Wm.enc (z' / 128) = Wm.encI n := by rw [← HY.out, Wm.enc_hi hlt]; simp
        have e4 : (ys ++ [UInt8.ofNat (z' % 128 + 128)]).length ≤ 10 := by
          have h5 := congrArg List.length e3
          rw [List.length_append] at h5
          have := Wm.enc_le10 hzl
          unfold Wm.encI at h5
          omega
        generalize UInt8.ofNat (z' % 128 + 128) = d at e2 e3 e4
        refine ⟨⟨ys ++ [d], z' / 128, by simp, by omega, e4, e3, ?_, hbel.trans hb⟩, by simp [intOf]; omega⟩
        simpa [e2] using ho

theorem refBytes_any (s : ByteArray) (w : World) (hs : s.size ≤ 70368744177664) :
    Calls Try.prog 17 #[.string s] w fun e w' => ∃ v', e = .returned v' ∧ w'.ownsRow w.heap.size 5 1 v' (Wm.encS s.data.toList).length ((Wm.encS s.data.toList).map bv) ∧ Below w.heap.size w w' := by
  obtain ⟨i0, hi, hz0, hz1, hz2⟩ := info_parts Try.infoU8
  have hz := Wm.encI_len (s.size : Int) (by omega) (by omega)
  go_enter Try.func17, Try.ntmps17
  go_wp2_with fail
  refine (refInt_any (s.size : Int) w (by omega) (by omega)).mono ?_
  rintro e w1 ⟨v1, rfl, ho, hb⟩
  have hsz := hb.size
  go_wp2_with (at_builtin; go_loud (refine wpList_append_onto_src w1 rfl _ _ 28 9 rfl w.heap.size 5 i0 (.int .u8 0) 1 1 Try.underlying28 hi hz0 hz1 hz2 rfl _ _ _ ho (.string s) s.size (byteCells s) (Src.ofString w1 Try.underlying9 s) rfl rfl ?c1 ?c2 ?c3 ?_))
  case c1 => unfold maxLen; omega
  case c2 => omega
  case c3 => omega
  intro v' w2 ho2 hb2
  go_wp2
  go_ret
  have hl := ba_len s
  refine ⟨v', rfl, ?_, hb.trans hb2⟩
  rw [byteCells_eq] at ho2
  unfold Wm.encS
  rw [hl, List.length_append, List.map_append, hl]
  exact ho2

set_option maxRecDepth 1000000 in
set_option maxHeartbeats 400000 in
theorem refInts_any (l : List Int) (A : Option Addr) (n c : Nat) (w : World) (hn : l.length = n) (hf : Fits l) (h : Lies w A (l.map iv)) (hlen : (Wm.encIs l).length ≤ 70368744170000) (hn2 : n ≤ 140737488355328) :
    Calls Try.prog 19 #[.slice A n c] w fun e w' => ∃ v', e = .returned v' ∧ w'.ownsRow w.heap.size 5 1 v' (Wm.encIs l).length ((Wm.encIs l).map bv) ∧ Below w.heap.size w w' := by
  obtain ⟨i0, hi, hz0, hz1, hz2⟩ := info_parts Try.infoU8
  have HL := Lib.hid h
  have HN := Lib.hid hn
  have HF := Lib.hid hf
  have HE := Lib.hid hlen
  clear h hn hf hlen
  go_enter Try.func19, Try.ntmps19
  go_wp2_with fail
  refine (refInt_any (n : Int) w (by omega) (by omega)).mono ?_
  rintro e w1 ⟨v1, rfl, ho, hb⟩
  go_wp2_with fail
  go_loopw [3, 4] (fun b i wr => ∃ k : Nat, i = .int .i64 (k : Int) ∧ k ≤ n ∧ wr.ownsRow w.heap.size 5 1 b (Wm.encI (n : Int) ++ (l.take k).flatMap Wm.encI).length ((Wm.encI (n : Int) ++ (l.take k).flatMap Wm.encI).map bv) ∧ Below w.heap.size w wr)
    (fun _ i _ => n - (intOf i).toNat)
  case atStart => exact ⟨0, rfl, by omega, by simpa using ho, hb⟩
  case round =>
    obtain ⟨k, rfl, hk, hown, hbel⟩ := hrel
    have hsz := hbel.size
    by_cases hlt : k < n
    · have hkl : k < l.length := by rw [HN.out]; exact hlt
      obtain ⟨b, o, hA, _⟩ := HL.out.at_ (by simpa using List.ne_nil_of_length_pos (show 0 < l.length by omega))
      subst hA
      have hx := List.getElem?_eq_getElem hkl
      generalize l[k] = x at hx
      have hc : wr.cell? ⟨b, o + k, none⟩ = some (.int .i64 x) := (HL.out.below hbel).at1 (by rw [List.getElem?_map, hx]; rfl)
      have hxf := HF.out x (List.mem_of_getElem? hx)
      have hx10 := Wm.encI_len x hxf.1 hxf.2
      have hfs := Wm.flat_succ Wm.encI l k x hx
      have hle := Wm.flat_take Wm.encI l k
      have hEE := HE.out
      unfold Wm.encIs at hEE
      rw [List.length_append, HN.out] at hEE
      have hkk : (Wm.encI (n : Int) ++ (l.take k).flatMap Wm.encI).length ≤ 70368744177664 := by rw [List.length_append]; omega
      have HS := Lib.hid hfs
      have HK := Lib.hid hkk
      have HX10 := Lib.hid hx10
      clear hx hkl hfs hle hEE hkk hx10
      go_wp2_with fail
      refine (refInt_any x wr hxf.1 hxf.2).mono ?_
      rintro e w2 ⟨v2, rfl, ho2, hb2⟩
      obtain ⟨A2, c2, rfl, _, _, l2⟩ := own_shape ho2
      have L2 := Lib.hid l2
      have hown2 := own_below hown hb2
      have hsz2 := hb2.size
      have HB := Lib.hid (hbel.trans (hb2.mono hsz))
      clear ho2 l2 hb2 hown hbel
      go_wp2_with (at_builtin; go_loud (refine wpList_append_onto_src w2 rfl _ _ 28 28 rfl w.heap.size 5 i0 (.int .u8 0) 1 1 Try.underlying28 hi hz0 hz1 hz2 rfl _ _ _ hown2 (.slice A2 (Wm.encI x).length c2) (Wm.encI x).length _ (src_own rfl L2.out) rfl rfl ?c1 ?c2 ?c3 ?_))
      case c1 => have := HX10.out; have := HK.out; unfold maxLen; omega
      case c2 => have := HX10.out; have := HK.out; omega
      case c3 => omega
      intro v3 w3 ho3 hb3
      go_wp2_with fail
      go_roundw
      case rel =>
        refine ⟨k + 1, by go_num, by omega, ?_, HB.out.trans hb3⟩
        rw [HS.out, ← List.append_assoc]
        simpa [Nat.add_assoc] using ho3
      case measure => simp [intOf]; omega
    · have hkn : k = n := by omega
      subst hkn
      go_wp2
      go_ret
      refine ⟨_, rfl, ?_, hbel⟩
      unfold Wm.encIs
      rw [HN.out]
      rw [List.take_of_length_le (by rw [HN.out]; exact Nat.le_refl _)] at hown
      exact hown

set_option maxRecDepth 1000000 in
set_option maxHeartbeats 400000 in
theorem refStrings_any (l : List (List UInt8)) (A : Option Addr) (n c : Nat) (w : World) (hn : l.length = n) (h : Lies w A (l.map sv)) (hlen : (Wm.encSs l).length ≤ 70368744170000) (hn2 : n ≤ 140737488355328) :
    Calls Try.prog 21 #[.slice A n c] w fun e w' => ∃ v', e = .returned v' ∧ w'.ownsRow w.heap.size 5 1 v' (Wm.encSs l).length ((Wm.encSs l).map bv) ∧ Below w.heap.size w w' := by
  obtain ⟨i0, hi, hz0, hz1, hz2⟩ := info_parts Try.infoU8
  have HL := Lib.hid h
  have HN := Lib.hid hn
  have HE := Lib.hid hlen
  clear h hn hlen
  go_enter Try.func21, Try.ntmps21
  go_wp2_with fail
  refine (refInt_any (n : Int) w (by omega) (by omega)).mono ?_
  rintro e w1 ⟨v1, rfl, ho, hb⟩
  go_wp2_with fail
  go_loopw [3, 4] (fun b i wr => ∃ k : Nat, i = .int .i64 (k : Int) ∧ k ≤ n ∧ wr.ownsRow w.heap.size 5 1 b (Wm.encI (n : Int) ++ (l.take k).flatMap Wm.encS).length ((Wm.encI (n : Int) ++ (l.take k).flatMap Wm.encS).map bv) ∧ Below w.heap.size w wr)
    (fun _ i _ => n - (intOf i).toNat)
  case atStart => exact ⟨0, rfl, by omega, by simpa using ho, hb⟩
  case round =>
    obtain ⟨k, rfl, hk, hown, hbel⟩ := hrel
    have hsz := hbel.size
    by_cases hlt : k < n
    · have hkl : k < l.length := by rw [HN.out]; exact hlt
      obtain ⟨b, o, hA, _⟩ := HL.out.at_ (by simpa using List.ne_nil_of_length_pos (show 0 < l.length by omega))
      subst hA
      have hx := List.getElem?_eq_getElem hkl
      generalize l[k] = x at hx
      have hc : wr.cell? ⟨b, o + k, none⟩ = some (.string (bstr x)) := (HL.out.below hbel).at1 (by rw [List.getElem?_map, hx]; rfl)
      have hfs := Wm.flat_succ Wm.encS l k x hx
      have hle := Wm.flat_take Wm.encS l
      have hle2 := hle (k + 1)
      rw [hfs, List.length_append] at hle2
      have hle3 := hle k
      have hES : (Wm.encS x).length = (Wm.encI (x.length : Int)).length + x.length := by unfold Wm.encS; rw [List.length_append]
      have hxs : (bstr x).size = x.length := bstr_size x
      have hEE := HE.out
      unfold Wm.encSs at hEE
      rw [List.length_append, HN.out] at hEE
      have hkk : (Wm.encI (n : Int) ++ (l.take k).flatMap Wm.encS).length ≤ 70368744177664 := by rw [List.length_append]; omega
      have hxl : (bstr x).size ≤ 70368744177664 := by omega
      have hx10 : (Wm.encS x).length ≤ 70368744177664 := by omega
      have HX := Lib.hid hxl
      have HS := Lib.hid hfs
      have HK := Lib.hid hkk
      have HX10 := Lib.hid hx10
      clear hx hkl hfs hle hle2 hle3 hES hxs hEE hkk hxl hx10
      go_wp2_with fail
      refine (refBytes_any (bstr x) wr HX.out).mono ?_
      rintro e w2 ⟨v2, rfl, ho2, hb2⟩
      rw [bstr_data] at ho2
      obtain ⟨A2, c2, rfl, _, _, l2⟩ := own_shape ho2
      have L2 := Lib.hid l2
      have hown2 := own_below hown hb2
      have hsz2 := hb2.size
      have HB := Lib.hid (hbel.trans (hb2.mono hsz))
      clear ho2 l2 hb2 hown hbel
      go_wp2_with (at_builtin; go_loud (refine wpList_append_onto_src w2 rfl _ _ 28 28 rfl w.heap.size 5 i0 (.int .u8 0) 1 1 Try.underlying28 hi hz0 hz1 hz2 rfl _ _ _ hown2 (.slice A2 (Wm.encS x).length c2) (Wm.encS x).length _ (src_own rfl L2.out) rfl rfl ?c1 ?c2 ?c3 ?_))
      case c1 => have := HX10.out; have := HK.out; unfold maxLen; omega
      case c2 => have := HX10.out; have := HK.out; omega
      case c3 => omega
      intro v3 w3 ho3 hb3
      go_wp2_with fail
      go_roundw
      case rel =>
        refine ⟨k + 1, by go_num, by omega, ?_, HB.out.trans hb3⟩
        rw [HS.out, ← List.append_assoc]
        simpa [Nat.add_assoc] using ho3
      case measure => simp [intOf]; omega
    · have hkn : k = n := by omega
      subst hkn
      go_wp2
      go_ret
      refine ⟨_, rfl, ?_, hbel⟩
      unfold Wm.encSs
      rw [HN.out]
      rw [List.take_of_length_le (by rw [HN.out]; exact Nat.le_refl _)] at hown
      exact hown

set_option maxRecDepth 1000000 in
set_option maxHeartbeats 400000 in
theorem refDigests_any (l : List (List UInt8)) (A : Option Addr) (n c : Nat) (w : World) (hn : l.length = n) (hf : Is16 l) (h : Lies w A (dcells l)) (hn2 : n ≤ 4398046511104) :
    Calls Try.prog 23 #[.slice A n c] w fun e w' => ∃ v', e = .returned v' ∧ w'.ownsRow w.heap.size 5 1 v' (Wm.encDs l).length ((Wm.encDs l).map bv) ∧ Below w.heap.size w w' := by
  obtain ⟨i0, hi, hz0, hz1, hz2⟩ := info_parts Try.infoU8
  have HL := Lib.hid h
  have HN := Lib.hid hn
  have HF := Lib.hid hf
  clear h hn hf
  go_enter Try.func23, Try.ntmps23
  go_wp2_with fail
  refine (refInt_any (n : Int) w (by omega) (by omega)).mono ?_
  rintro e w1 ⟨v1, rfl, ho, hb⟩
  go_wp2_with fail
  go_loopw [3, 4] (fun b i wr => ∃ k : Nat, i = .int .i64 (k : Int) ∧ k ≤ n ∧ wr.ownsRow w.heap.size 5 1 b (Wm.encI (n : Int) ++ (l.take k).flatten).length ((Wm.encI (n : Int) ++ (l.take k).flatten).map bv) ∧ Below w.heap.size w wr)
    (fun _ i _ => n - (intOf i).toNat)
  case atStart => exact ⟨0, rfl, by omega, by simpa using ho, hb⟩
  case round =>
    obtain ⟨k, rfl, hk, hown, hbel⟩ := hrel
    have hsz := hbel.size
    by_cases hlt : k < n
    · have hkl : k < l.length := by rw [HN.out]; exact hlt
      have hfl := flatten_len HF.out
      obtain ⟨b, o, hA, _⟩ := HL.out.at_ (by
        have : 0 < (dcells l).length := by unfold dcells; rw [List.length_map, hfl]; omega
        exact List.ne_nil_of_length_pos this)
      subst hA
      have hx := List.getElem?_eq_getElem hkl
      generalize l[k] = x at hx
      have hxf := HF.out x (List.mem_of_getElem? hx)
      have hc : Lies wr (some ⟨b, o + k * 16, none⟩) (x.map bv) := by
        have h1 := ((HL.out.below hbel).drop (k * 16)).take 16
        unfold dcells at h1
        rw [← List.map_drop, ← List.map_take, flatten_part HF.out hx] at h1
        exact h1
      have hfs : (l.take (k + 1)).flatten = (l.take k).flatten ++ x := by
        rw [List.take_succ_eq_append_getElem hkl, List.flatten_append]
        rw [List.getElem?_eq_getElem hkl] at hx; injection hx with hx; simp [hx]
      have htl : (l.take k).flatten.length = k * 16 := by
        rw [flatten_len (fun d hd => HF.out d (List.mem_of_mem_take hd)), List.length_take]; omega
      have hEn := Wm.encI_len (n : Int) (by omega) (by omega)
      have hkk : (Wm.encI (n : Int) ++ (l.take k).flatten).length ≤ 70368744177664 := by rw [List.length_append]; omega
      have HS := Lib.hid hfs
      have HK := Lib.hid hkk
      have HC := Lib.hid hc
      have HX := Lib.hid hxf
      clear hx hkl hfs htl hEn hkk hc hxf hfl
      go_wp2_with (at_builtin; go_loud (refine wpList_append_onto_src wr rfl _ _ 28 28 rfl w.heap.size 5 i0 (.int .u8 0) 1 1 Try.underlying28 hi hz0 hz1 hz2 rfl _ _ _ hown (.slice (some ⟨b, o + k * 16, none⟩) 16 16) 16 _ (src_own HX.out HC.out) rfl rfl ?c1 ?c2 ?c3 ?_))
      case c1 => have := HK.out; unfold maxLen; omega
      case c2 => have := HK.out; omega
      case c3 => exact hsz
      intro v3 w3 ho3 hb3
      go_wp2_with fail
      go_roundw
      case rel =>
        refine ⟨k + 1, by go_num, by omega, ?_, hbel.trans hb3⟩
        rw [HS.out, ← List.append_assoc]
        simpa [Nat.add_assoc, HX.out] using ho3
      case measure => simp [intOf]; omega
    · have hkn : k = n := by omega
      subst hkn
      go_wp2
      go_ret
      refine ⟨_, rfl, ?_, hbel⟩
      unfold Wm.encDs
      rw [HN.out]
      rw [List.take_of_length_le (by rw [HN.out]; exact Nat.le_refl _)] at hown
      exact hown

end Go.Proofs.Ytchlomkohjjpmaa
