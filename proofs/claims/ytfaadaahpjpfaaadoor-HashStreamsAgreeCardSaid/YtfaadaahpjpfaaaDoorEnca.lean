/-
  Contracts: integers and byte strings, as package wire and the reference encode them (the part that package hash needs).
-/
import Derived.Test.YtfaadaahpjpfaaaDoorBase
import Derived.Test.YtfaadaahpjpfaaaDoorBaseb
import Derived.Test.YtfaadaahpjpfaaaDoorMath
import Derived.Test.YtfaadaahpjpfaaaDoorProg
import Derived.Laws.DeepNot64
namespace Go.Proofs.YtfaadaahpjpfaaaDoor
open Go.RowKit

theorem Tryd.infoU8 : (Tryd.prog.info? 5).map (fun i => (i.zero, i.size, i.bytes)) = some (some (.int .u8 0), 1, 1) := by kernel_rfl

theorem u64_max : IntKind.u64.max = 18446744073709551615 := rfl
theorem u64_not (a : Nat) (ha : a < 18446744073709551616) : bits .xor .u64 IntKind.u64.max (a : Int) = 18446744073709551615 - (a : Int) := by
  rw [u64_max]
  rw [show (18446744073709551615 : Int) = ((18446744073709551615 : Nat) : Int) from rfl]
  show IntKind.u64.wrap ((BitVec.ofInt 64 _ ^^^ BitVec.ofInt 64 (a : Int)).toNat : Int) = _
  have h1 : BitVec.ofInt 64 ((18446744073709551615 : Nat) : Int) = BitVec.allOnes 64 := by decide
  rw [h1, BitVec.allOnes_xor, BitVec.toNat_not, ofInt_u64 a ha]
  simp [IntKind.wrap, IntKind.bits, IntKind.signed]
  omega

theorem fold_neg (n : Int) (h1 : n < 0) (h2 : -9223372036854775808 ≤ n) :
    bits BinOp.xor IntKind.u64 IntKind.u64.max (IntKind.u64.wrap (IntKind.u64.wrap n * 2)) = ((Wm.zig n : Nat) : Int) := by
  have e : IntKind.u64.wrap (IntKind.u64.wrap n * 2) = ((2 * n + 18446744073709551616).toNat : Int) := by
    simp [IntKind.wrap, IntKind.bits, IntKind.signed]; omega
  rw [e, u64_not _ (by omega)]
  unfold Wm.zig; rw [if_neg (by omega)]; omega

theorem fold_any (n : Int) (w : World) (h1 : -9223372036854775808 ≤ n) (h2 : n ≤ 9223372036854775807) :
    Calls Tryd.prog 46 #[.int .i64 n] w fun e w' => e = .returned (.int .u64 (Wm.zig n : Nat)) ∧ w = w' := by
  by_cases h : 0 ≤ n
  · have e : (n * 2 : Int) = ((Wm.zig n : Nat) : Int) := by unfold Wm.zig; rw [if_pos h]; omega
    have E := Lib.hid e
    clear e
    go_enter Tryd.func46, Tryd.ntmps46
    go_wp2
    go_ret
    exact ⟨by rw [← E.out]; rfl, rfl⟩
  · have hn : n < 0 := by omega
    have E := Lib.hid (fold_neg n hn h1)
    clear h
    go_enter Tryd.func46, Tryd.ntmps46
    go_wp2
    go_ret
    exact ⟨by rw [← E.out]; rfl, rfl⟩

set_option maxRecDepth 1000000 in
set_option maxHeartbeats 400000 in
/-- putInt appends the encoding -/
theorem putInt_any (n : Int) (B k : Nat) (v : Value) (xs : List UInt8) (w : World) (h1 : -9223372036854775808 ≤ n) (h2 : n ≤ 9223372036854775807)
    (hown : w.ownsRow B 5 1 v k (xs.map bv)) (hB : B ≤ w.heap.size) (hk : k ≤ 70368744177664) :
    Calls Tryd.prog 44 #[v, .int .i64 n] w fun e w' => ∃ v', e = .returned v' ∧ w'.ownsRow B 5 1 v' (k + (Wm.encI n).length) ((xs ++ Wm.encI n).map bv) ∧ Below B w w' := by
  obtain ⟨i0, hi, hz0, hz1, hz2⟩ := info_parts Tryd.infoU8
  have hzl := Wm.zig_lt n h1 h2
  go_enter Tryd.func44, Tryd.ntmps44
  go_wp2_with (go_at_call 46; refine (fold_any _ _ h1 h2).mono ?_; rintro e w1 ⟨rfl, rfl⟩)
  go_loopw [0, 5] (fun b z wr => ∃ (ys : List UInt8) (z' : Nat), z = .int .u64 (z' : Int) ∧ z' < 18446744073709551616 ∧ ys.length ≤ 10 ∧ ys ++ Wm.enc z' = Wm.encI n ∧ wr.ownsRow B 5 1 b (k + ys.length) ((xs ++ ys).map bv) ∧ Below B w wr)
    (fun _ z _ => (intOf z).toNat)
  case atStart => exact ⟨[], Wm.zig n, rfl, hzl, by simp, rfl, by simpa using hown, Below.refl _ _⟩
  case round =>
    obtain ⟨ys, z', rfl, hz', hyl, hys, hown', hbel⟩ := hrel
    have hsz := hbel.size
    have HY := Lib.hid hys
    clear hys
    by_cases hlt : z' < 128
    · go_wp2_with (at_builtin; go_loud (refine wpList_append_one wr rfl _ _ 22 rfl B 5 i0 (.int .u8 0) 1 Tryd.underlying22 hi hz0 hz1 hz2 rfl _ _ _ hown' (.int .u8 (z' : Int)) rfl rfl rfl ?c1 ?c2 ?c3 ?_))
      case c1 => unfold maxLen; omega
      case c2 => omega
      case c3 => omega
      intro v' w1 ho hb
      go_wp2
      go_ret
      have e : Wm.encI n = ys ++ [UInt8.ofNat z'] := by rw [← HY.out, Wm.enc_lo hlt]
      rw [e]
      have e2 : (bv (UInt8.ofNat z')) = .int .u8 (z' : Int) := by unfold bv; rw [Wm.u8_of (by omega)]
      exact ⟨v', rfl, by simpa [e2, Nat.add_assoc] using ho, hbel.trans hb⟩
    · go_wp2_with (at_builtin; go_loud (refine wpList_append_one wr rfl _ _ 22 rfl B 5 i0 (.int .u8 0) 1 Tryd.underlying22 hi hz0 hz1 hz2 rfl _ _ _ hown' (.int .u8 ((z' : Int) % 128 + 128)) rfl rfl rfl ?c1 ?c2 ?c3 ?_))
      case c1 => unfold maxLen; omega
      case c2 => omega
      case c3 => omega
      intro v' w1 ho hb
      go_wp2
      have e2 : (bv (UInt8.ofNat (z' % 128 + 128))) = .int .u8 ((z' : Int) % 128 + 128) := by unfold bv; rw [Wm.u8_of (by omega)]; congr 1
      have e3 : (ys ++ [UInt8.ofNat (z' % 128 + 128)]) ++ Wm.enc (z' / 128) = Wm.encI n := by rw [← HY.out, Wm.enc_hi hlt]; simp
      have e4 : (ys ++ [UInt8.ofNat (z' % 128 + 128)]).length ≤ 10 := by
        have h5 := congrArg List.length e3
        rw [List.length_append] at h5
        have := Wm.enc_le10 hzl
        unfold Wm.encI at h5
        omega
      generalize UInt8.ofNat (z' % 128 + 128) = d at e2 e3 e4
      refine ⟨⟨ys ++ [d], z' / 128, by simp, by omega, e4, e3, ?_, hbel.trans hb⟩, by simp [intOf]; omega⟩
      simpa [e2, Nat.add_assoc] using ho


/-- putBytes appends the length and the bytes -/
theorem putBytes_any (s : ByteArray) (B k : Nat) (v : Value) (xs : List UInt8) (w : World) (hs : s.size ≤ 70368744177664)
    (hown : w.ownsRow B 5 1 v k (xs.map bv)) (hB : B ≤ w.heap.size) (hk : k ≤ 70368744177000) :
    Calls Tryd.prog 40 #[v, .string s] w fun e w' => ∃ v', e = .returned v' ∧ w'.ownsRow B 5 1 v' (k + (Wm.encS s.data.toList).length) ((xs ++ Wm.encS s.data.toList).map bv) ∧ Below B w w' := by
  obtain ⟨i0, hi, hz0, hz1, hz2⟩ := info_parts Tryd.infoU8
  have hz := Wm.enc_le10 (Wm.zig_lt (s.size : Int) (by omega) (by omega))
  go_enter Tryd.func40, Tryd.ntmps40
  go_wp2_with fail
  refine (putInt_any (s.size : Int) B k v xs w (by omega) (by omega) hown hB (by omega)).mono ?_
  rintro e w1 ⟨v1, rfl, ho, hb⟩
  have hsz := hb.size
  change (Wm.encI (s.size : Int)).length ≤ 10 at hz
  go_wp2_with (at_builtin; go_loud (refine wpList_append_onto_src w1 rfl _ _ 22 9 rfl B 5 i0 (.int .u8 0) 1 1 Tryd.underlying22 hi hz0 hz1 hz2 rfl _ _ _ ho (.string s) s.size (byteCells s) (Src.ofString w1 Tryd.underlying9 s) rfl rfl ?c1 ?c2 ?c3 ?_))
  case c1 => unfold maxLen; omega
  case c2 => omega
  case c3 => omega
  intro v' w2 ho2 hb2
  go_wp2
  go_ret
  have hl := ba_len s
  refine ⟨v', rfl, ?_, hb.trans hb2⟩
  rw [byteCells_eq] at ho2
  unfold Wm.encS
  rw [hl]
  simpa [Nat.add_assoc, hl] using ho2

theorem bytes_any (s : ByteArray) (w : World) (hs : s.size ≤ 70368744177664) :
    Calls Tryd.prog 35 #[.string s] w fun e w' => ∃ v', e = .returned v' ∧ w'.ownsRow w.heap.size 5 1 v' (Wm.encS s.data.toList).length ((Wm.encS s.data.toList).map bv) ∧ Below w.heap.size w w' := by
  go_enter Tryd.func35, Tryd.ntmps35
  go_wp2_with fail
  refine (putBytes_any s w.heap.size 0 (.slice none 0 0) [] w hs (World.ownsRow_nil _ _ _ _) (Nat.le_refl _) (by omega)).mono ?_
  rintro e w1 ⟨v', rfl, ho, hb⟩
  go_wp2
  go_ret
  exact ⟨v', rfl, by simpa using ho, hb⟩


theorem src_own {w : World} {A : Option Addr} {k c : Nat} {l : List UInt8} (hk : l.length = k) (hl : Lies w A (l.map bv)) : Src Tryd.prog 1 22 (.slice A k c) k (l.map bv) w :=
  Src.of_lies w Tryd.underlying22 c (by rw [List.length_map, hk, Nat.mul_one]) (fun h => by have := hl.none_ h; subst this; exact hk.symm) hl (bvs_one l)

set_option maxRecDepth 1000000 in
set_option maxHeartbeats 400000 in
theorem refInt_any (n : Int) (w : World) (h1 : -9223372036854775808 ≤ n) (h2 : n ≤ 9223372036854775807) :
    Calls Tryd.prog 41 #[.int .i64 n] w fun e w' => ∃ v', e = .returned v' ∧ w'.ownsRow w.heap.size 5 1 v' (Wm.encI n).length ((Wm.encI n).map bv) ∧ Below w.heap.size w w' := by
  obtain ⟨i0, hi, hz0, hz1, hz2⟩ := info_parts Tryd.infoU8
  have hzl := Wm.zig_lt n h1 h2
  have E : Hid ((0 ≤ n → n * 2 = ((Wm.zig n : Nat) : Int)) ∧ (n < 0 → (-1 - n) * 2 + 1 = ((Wm.zig n : Nat) : Int))) := Lib.hid (by unfold Wm.zig; constructor <;> intro h <;> split <;> omega)
  by_cases hneg : n < 0
  all_goals
    go_enter Tryd.func41, Tryd.ntmps41
    go_wp2_with fail
    go_loopw [3, 4] (fun z b wr => ∃ (ys : List UInt8) (z' : Nat), z = .int .u64 (z' : Int) ∧ z' < 18446744073709551616 ∧ ys.length ≤ 10 ∧ ys ++ Wm.enc z' = Wm.encI n ∧ wr.ownsRow w.heap.size 5 1 b ys.length (ys.map bv) ∧ Below w.heap.size w wr)
      (fun z _ _ => (intOf z).toNat)
    case atStart =>
      first
        | exact ⟨[], Wm.zig n, by rw [← E.out.2 (by omega)], hzl, by simp, rfl, World.ownsRow_nil _ _ _ _, Below.refl _ _⟩
        | exact ⟨[], Wm.zig n, by rw [← E.out.1 (by omega)], hzl, by simp, rfl, World.ownsRow_nil _ _ _ _, Below.refl _ _⟩
    case round =>
      obtain ⟨ys, z', rfl, hz', hyl, hys, hown', hbel⟩ := hrel
      have hsz := hbel.size
      have HY := Lib.hid hys
      clear hys
      by_cases hlt : z' < 128
      · go_wp2_with (at_builtin; refine wpList_append_one wr rfl _ _ 22 rfl w.heap.size 5 i0 (.int .u8 0) 1 Tryd.underlying22 hi hz0 hz1 hz2 rfl _ _ _ hown' (.int .u8 (z' : Int)) rfl rfl rfl ?c1 ?c2 ?c3 ?_)
        case c1 => unfold maxLen; omega
        case c2 => omega
        case c3 => omega
        intro v' w1 ho hb
        go_wp2
        go_ret
        have e : Wm.encI n = ys ++ [UInt8.ofNat z'] := by rw [← HY.out, Wm.enc_lo hlt]
        rw [e]
        have e2 : (bv (UInt8.ofNat z')) = .int .u8 (z' : Int) := by unfold bv; rw [Wm.u8_of (by omega)]
        exact ⟨v', rfl, by simpa [e2] using ho, hbel.trans hb⟩
      · go_wp2_with (at_builtin; refine wpList_append_one wr rfl _ _ 22 rfl w.heap.size 5 i0 (.int .u8 0) 1 Tryd.underlying22 hi hz0 hz1 hz2 rfl _ _ _ hown' (.int .u8 ((z' : Int) % 128 + 128)) rfl rfl rfl ?c1 ?c2 ?c3 ?_)
        case c1 => unfold maxLen; omega
        case c2 => omega
        case c3 => omega
        intro v' w1 ho hb
        go_wp2
        have e2 : (bv (UInt8.ofNat (z' % 128 + 128))) = .int .u8 ((z' : Int) % 128 + 128) := by unfold bv; rw [Wm.u8_of (by omega)]; congr 1
        have e3 : (ys ++ [UInt8.ofNat (z' % 128 + 128)]) ++ Wm.enc (z' / 128) = Wm.encI n := by rw [← HY.out, Wm.enc_hi hlt]; simp
        have e4 : (ys ++ [UInt8.ofNat (z' % 128 + 128)]).length ≤ 10 := by
          have h5 := congrArg List.length e3
          rw [List.length_append] at h5
          have := Wm.enc_le10 hzl
          unfold Wm.encI at h5
          omega
        generalize UInt8.ofNat (z' % 128 + 128) = d at e2 e3 e4
        refine ⟨⟨ys ++ [d], z' / 128, by simp, by omega, e4, e3, ?_, hbel.trans hb⟩, by simp [intOf]; omega⟩
        simpa [e2] using ho

theorem refBytes_any (s : ByteArray) (w : World) (hs : s.size ≤ 70368744177664) :
    Calls Tryd.prog 37 #[.string s] w fun e w' => ∃ v', e = .returned v' ∧ w'.ownsRow w.heap.size 5 1 v' (Wm.encS s.data.toList).length ((Wm.encS s.data.toList).map bv) ∧ Below w.heap.size w w' := by
  obtain ⟨i0, hi, hz0, hz1, hz2⟩ := info_parts Tryd.infoU8
  have hz := Wm.encI_len (s.size : Int) (by omega) (by omega)
  go_enter Tryd.func37, Tryd.ntmps37
  go_wp2_with fail
  refine (refInt_any (s.size : Int) w (by omega) (by omega)).mono ?_
  rintro e w1 ⟨v1, rfl, ho, hb⟩
  have hsz := hb.size
  go_wp2_with (at_builtin; go_loud (refine wpList_append_onto_src w1 rfl _ _ 22 9 rfl w.heap.size 5 i0 (.int .u8 0) 1 1 Tryd.underlying22 hi hz0 hz1 hz2 rfl _ _ _ ho (.string s) s.size (byteCells s) (Src.ofString w1 Tryd.underlying9 s) rfl rfl ?c1 ?c2 ?c3 ?_))
  case c1 => unfold maxLen; omega
  case c2 => omega
  case c3 => omega
  intro v' w2 ho2 hb2
  go_wp2
  go_ret
  have hl := ba_len s
  refine ⟨v', rfl, ?_, hb.trans hb2⟩
  rw [byteCells_eq] at ho2
  unfold Wm.encS
  rw [hl, List.length_append, List.map_append, hl]
  exact ho2

end Go.Proofs.YtfaadaahpjpfaaaDoor
