/-
  Contracts of the functions that encode one integer.
-/
import Derived.Test.YtdbdlhgkhnenfaaDoorGa
import Derived.Test.YtdbdlhgkhnenfaaDoorGb
import Derived.Test.YtdbdlhgkhnenfaaDoorProg
import Derived.Laws.DeepNot64
import Derived.BigGuardPart
namespace Go.Proofs.YtdbdlhgkhnenfaaDoor
open Go.RowKit

theorem Tryd.infoU8 : (Tryd.prog.info? 5).map (fun i => (i.zero, i.size, i.bytes)) = some (some (.int .u8 0), 1, 1) := by kernel_rfl

theorem u64_max : IntKind.u64.max = 18446744073709551615 := rfl
theorem u64_not (a : Nat) (ha : a < 18446744073709551616) : bits .xor .u64 IntKind.u64.max (a : Int) = 18446744073709551615 - (a : Int) := by
  rw [u64_max]
  rw [show (18446744073709551615 : Int) = ((18446744073709551615 : Nat) : Int) from rfl]
  show IntKind.u64.wrap ((BitVec.ofInt 64 _ ^^^ BitVec.ofInt 64 (a : Int)).toNat : Int) = _
  have h1 : BitVec.ofInt 64 ((18446744073709551615 : Nat) : Int) = BitVec.allOnes 64 := by decide
  rw [h1, BitVec.allOnes_xor, BitVec.toNat_not, ofInt_u64 a ha]
  simp [IntKind.wrap, IntKind.bits, IntKind.signed]
  omega

theorem fold_neg (n : Int) (h1 : n < 0) (h2 : -9223372036854775808 ≤ n) :
    bits BinOp.xor IntKind.u64 IntKind.u64.max (IntKind.u64.wrap (IntKind.u64.wrap n * 2)) = ((Wm.zig n : Nat) : Int) := by
  have e : IntKind.u64.wrap (IntKind.u64.wrap n * 2) = ((2 * n + 18446744073709551616).toNat : Int) := by
    simp [IntKind.wrap, IntKind.bits, IntKind.signed]; omega
  rw [e, u64_not _ (by omega)]
  unfold Wm.zig; rw [if_neg (by omega)]; omega

theorem fold_any (n : Int) (w : World) (h1 : -9223372036854775808 ≤ n) (h2 : n ≤ 9223372036854775807) :
    Calls Tryd.prog 62 #[.int .i64 n] w fun e w' => e = .returned (.int .u64 (Wm.zig n : Nat)) ∧ w = w' := by
  by_cases h : 0 ≤ n
  · have e : (n * 2 : Int) = ((Wm.zig n : Nat) : Int) := by unfold Wm.zig; rw [if_pos h]; omega
    have E := Lib.hid e
    clear e
    go_enter Tryd.func62, Tryd.ntmps62
    go_wp2
    go_ret
    exact ⟨by rw [← E.out]; rfl, rfl⟩
  · have hn : n < 0 := by omega
    have E := Lib.hid (fold_neg n hn h1)
    clear h
    go_enter Tryd.func62, Tryd.ntmps62
    go_wp2
    go_ret
    exact ⟨by rw [← E.out]; rfl, rfl⟩

theorem unfold_any (z : Nat) (w : World) (h2 : z < 18446744073709551616) :
    Calls Tryd.prog 59 #[.int .u64 (z : Int)] w fun e w' => e = .returned (.int .i64 (Wm.zag z)) ∧ w = w' := by
  by_cases h : z % 2 = 1
  · have E := Lib.hid (show bits BinOp.xor IntKind.i64 (-1) ((z : Int) / 2) = Wm.zag z by
      rw [show (z : Int) / 2 = ((z / 2 : Nat) : Int) from by omega, i64_not _ (by omega)]; unfold Wm.zag; rw [if_pos h])
    have hb : ((z : Int) % 2 == 1) = true := by simp; omega
    clear h
    go_enter Tryd.func59, Tryd.ntmps59
    go_wp2
    go_ret
    exact ⟨by rw [← E.out]; rfl, rfl⟩
  · have E := Lib.hid (show ((z : Int) / 2) = Wm.zag z by unfold Wm.zag; rw [if_neg h]; omega)
    have hb : ((z : Int) % 2 == 1) = false := by simp; omega
    clear h
    go_enter Tryd.func59, Tryd.ntmps59
    go_wp2
    go_ret
    exact ⟨by rw [← E.out]; rfl, rfl⟩

set_option maxRecDepth 1000000 in
set_option maxHeartbeats 400000 in
/-- putInt appends the encoding -/
theorem putInt_any (n : Int) (B k : Nat) (v : Value) (xs : List UInt8) (w : World) (h1 : -9223372036854775808 ≤ n) (h2 : n ≤ 9223372036854775807)
    (hown : w.ownsRow B 5 1 v k (xs.map bv)) (hB : B ≤ w.heap.size) (hk : k ≤ 70368744177664) :
    Calls Tryd.prog 47 #[v, .int .i64 n] w fun e w' => ∃ v', e = .returned v' ∧ w'.ownsRow B 5 1 v' (k + (Wm.encI n).length) ((xs ++ Wm.encI n).map bv) ∧ Below B w w' := by
  obtain ⟨i0, hi, hz0, hz1, hz2⟩ := info_parts Tryd.infoU8
  have hzl := Wm.zig_lt n h1 h2
  go_enter Tryd.func47, Tryd.ntmps47
  go_wp2_with (go_at_call 62; refine (fold_any _ _ h1 h2).mono ?_; rintro e w1 ⟨rfl, rfl⟩)
  go_loopw [0, 5] (fun b z wr => ∃ (ys : List UInt8) (z' : Nat), z = .int .u64 (z' : Int) ∧ z' < 18446744073709551616 ∧ ys.length ≤ 10 ∧ ys ++ Wm.enc z' = Wm.encI n ∧ wr.ownsRow B 5 1 b (k + ys.length) ((xs ++ ys).map bv) ∧ Below B w wr)
    (fun _ z _ => (intOf z).toNat)
  case atStart => exact ⟨[], Wm.zig n, rfl, hzl, by simp, rfl, by simpa using hown, Below.refl _ _⟩
  case round =>
    obtain ⟨ys, z', rfl, hz', hyl, hys, hown', hbel⟩ := hrel
    have hsz := hbel.size
    have HY := Lib.hid hys
    clear hys
    by_cases hlt : z' < 128
    · go_wp2_with (at_builtin; go_loud (refine wpList_append_one wr rfl _ _ 43 rfl B 5 i0 (.int .u8 0) 1 Tryd.underlying43 hi hz0 hz1 hz2 rfl _ _ _ hown' (.int .u8 (z' : Int)) rfl rfl rfl ?c1 ?c2 ?c3 ?_))
      case c1 => unfold maxLen; omega
      case c2 => omega
      case c3 => omega
      intro v' w1 ho hb
      go_wp2
      go_ret
      have e : Wm.encI n = ys ++ [UInt8.ofNat z'] := by rw [← HY.out, Wm.enc_lo hlt]
      rw [e]
      have e2 : (bv (UInt8.ofNat z')) = .int .u8 (z' : Int) := by unfold bv; rw [Wm.u8_of (by omega)]
      exact ⟨v', rfl, by simpa [e2, Nat.add_assoc] using ho, hbel.trans hb⟩
    · go_wp2_with (at_builtin; go_loud (refine wpList_append_one wr rfl _ _ 43 rfl B 5 i0 (.int .u8 0) 1 Tryd.underlying43 hi hz0 hz1 hz2 rfl _ _ _ hown' (.int .u8 ((z' : Int) % 128 + 128)) rfl rfl rfl ?c1 ?c2 ?c3 ?_))
      case c1 => unfold maxLen; omega
      case c2 => omega
      case c3 => omega
      intro v' w1 ho hb
      go_wp2
      have e2 : (bv (UInt8.ofNat (z' % 128 + 128))) = .int .u8 ((z' : Int) % 128 + 128) := by unfold bv; rw [Wm.u8_of (by omega)]; congr 1
      have e3 : (ys ++ [UInt8.ofNat (z' % 128 + 128)]) ++ Wm.enc (z' / 128) = Wm.encI n := by rw [← HY.out, Wm.enc_hi hlt]; simp
      have e4 : (ys ++ [UInt8.ofNat (z' % 128 + 128)]).length ≤ 10 := by
        have h5 := congrArg List.length e3
        rw [List.length_append] at h5
        have := Wm.enc_le10 hzl
        unfold Wm.encI at h5
        omega
      generalize UInt8.ofNat (z' % 128 + 128) = d at e2 e3 e4
      refine ⟨⟨ys ++ [d], z' / 128, by simp, by omega, e4, e3, ?_, hbel.trans hb⟩, by simp [intOf]; omega⟩
      simpa [e2, Nat.add_assoc] using ho


/-- Int gives the encoding in new memory -/
theorem int_any (n : Int) (w : World) (h1 : -9223372036854775808 ≤ n) (h2 : n ≤ 9223372036854775807) :
    Calls Tryd.prog 28 #[.int .i64 n] w fun e w' => ∃ v', e = .returned v' ∧ w'.ownsRow w.heap.size 5 1 v' (Wm.encI n).length ((Wm.encI n).map bv) ∧ Below w.heap.size w w' := by
  go_enter Tryd.func28, Tryd.ntmps28
  go_wp2_with fail
  refine (putInt_any n w.heap.size 0 (.slice none 0 0) [] w h1 h2 (World.ownsRow_nil _ _ _ _) (Nat.le_refl _) (by omega)).mono ?_
  rintro e w1 ⟨v', rfl, ho, hb⟩
  go_wp2
  go_ret
  exact ⟨v', rfl, by simpa using ho, hb⟩

end Go.Proofs.YtdbdlhgkhnenfaaDoor
/-
  Contracts of the functions that decode one integer.
-/
namespace Go.Proofs.YtdbdlhgkhnenfaaDoor
open Go.RowKit

/-- the three results of a decoding function -/
def trip (x : Value) (u : Nat) (e : Int) : Value := .tuple #[x, .int .i64 (u : Int), .int .i64 e]

theorem or_shl (k z' x : Nat) (hz' : z' < 128 ^ k) (hx : x * 128 ^ k < 18446744073709551616) (hz2 : z' < 18446744073709551616) :
    bits BinOp.or IntKind.u64 (z' : Int) (IntKind.u64.wrap ((x : Int) * 2 ^ (7 * k))) = ((z' + x * 128 ^ k : Nat) : Int) := by
  have e1 : ((x : Int) * 2 ^ (7 * k)) = ((x * 128 ^ k : Nat) : Int) := by
    rw [show (128 : Nat) = 2 ^ 7 from rfl, ← Nat.pow_mul]; simp
  have e2 : IntKind.u64.wrap ((x * 128 ^ k : Nat) : Int) = ((x * 128 ^ k : Nat) : Int) := by
    generalize x * 128 ^ k = y at hx
    simp only [IntKind.wrap, IntKind.bits, IntKind.signed]
    simp; omega
  rw [e1, e2, u64_or_nat _ _ hz2 hx, Nat.or_comm, nat_join (7 * k) _ _ (by rw [Nat.pow_mul]; exact Nat.mul_mod_left _ _) (by rw [Nat.pow_mul]; exact hz'), Nat.add_comm]

theorem pow_le9 {k : Nat} (h : k ≤ 9) : 128 ^ k ≤ 9223372036854775808 := by rw [← Wm.pow9]; exact Nat.pow_le_pow_right (by decide) h
theorem mul_pow8 {k x : Nat} (h : k ≤ 8) (hx : x < 128) : x * 128 ^ k < 9223372036854775808 := by
  have h1 : 128 ^ k ≤ 128 ^ 8 := Nat.pow_le_pow_right (by decide) h
  have h2 : (128 : Nat) ^ 8 = 72057594037927936 := by decide
  have := Nat.mul_le_mul (show x ≤ 127 by omega) h1
  omega
theorem add_pow {k x z : Nat} (hz : z < 128 ^ k) (hx : x < 128) : z + x * 128 ^ k < 128 ^ (k + 1) := by
  rw [Nat.pow_succ, Nat.mul_comm (128 ^ k)]
  have := Nat.mul_le_mul_right (128 ^ k) (show x ≤ 127 by omega)
  omega

/-- one step of the decoding -/
theorem gi_step {l : List UInt8} {k z : Nat} {d : UInt8} (hk : k < l.length) (hd : l.getD k 0 = d) :
    Wm.gi k z (l.drop k) = if k = 9 ∧ 1 < d.toNat then (0, 0, 6) else if 0 < k ∧ d.toNat = 0 then (0, 0, 6)
      else if d.toNat < 128 then (Wm.zag (z + d.toNat * 128 ^ k), k + 1, 0) else Wm.gi (k + 1) (z + (d.toNat - 128) * 128 ^ k) (l.drop (k + 1)) := by
  have : l.drop k = d :: l.drop (k + 1) := by
    rw [List.drop_eq_getElem_cons hk]
    congr 1
    rw [← hd, List.getD_eq_getElem?_getD, List.getElem?_eq_getElem hk]; rfl
  rw [this, Wm.gi]

/-- the post of GetInt -/
def IntPost (R : Int × Nat × Int) (w : World) (e : Ending) (w' : World) : Prop :=
  e = .returned (.tuple #[.int .i64 R.1, .int .i64 (R.2.1 : Int), .int .i64 R.2.2]) ∧ w = w'

theorem unfold_int (z : Int) (z' : Nat) (w : World) (hz : z = (z' : Int)) (h2 : z' < 18446744073709551616) :
    Calls Tryd.prog 59 #[.int .u64 z] w fun e w' => e = .returned (.int .i64 (Wm.zag z')) ∧ w = w' := by
  subst hz; exact unfold_any z' w h2

set_option maxRecDepth 1000000 in
set_option maxHeartbeats 1000000 in
theorem getInt_some (l : List UInt8) (b o c : Nat) (w : World) (hlen : l.length ≤ 140737488355328)
    (hc : ∀ j, j < l.length → w.cell? ⟨b, o + j, none⟩ = some (.int .u8 ((l.getD j 0).toNat : Int))) :
    Calls Tryd.prog 39 #[.slice (some ⟨b, o, none⟩) l.length c] w (IntPost (Wm.getI l) w) := by
  go_enter Tryd.func39, Tryd.ntmps39
  go_wp2
  go_step3
  go_wp2
  go_step3
  go_wp2
  go_loop [5, 6] (fun z i => ∃ k z' : Nat, i = .int .i64 (k : Int) ∧ z = .int .u64 (z' : Int) ∧ k ≤ 9 ∧ k ≤ l.length ∧ z' < 128 ^ k ∧ Wm.getI l = Wm.gi k z' (l.drop k))
    (fun _ i => l.length - (intOf i).toNat)
  case atStart => exact ⟨0, 0, rfl, rfl, by omega, by omega, by decide, rfl⟩
  case round =>
    obtain ⟨k, z', rfl, rfl, hk9, hkl, hz', hg⟩ := hrel
    have HG := Lib.hid hg
    clear hg
    have HZ := Lib.hid hz'
    clear hz'
    by_cases hlt : k < l.length
    · have hcx := hc k hlt
      generalize hd : l.getD k 0 = d at hcx
      have HS := Lib.hid (HG.out.trans (gi_step (z := z') hlt hd))
      clear hd hc HG
      have hd256 : d.toNat < 256 := d.toNat_lt
      by_cases h9 : k = 9
      · subst h9
        by_cases hd1 : 1 < d.toNat
        · have H := Lib.hid (HS.out.trans (if_pos ⟨rfl, hd1⟩))
          clear HS
          go_wp2_with fail
          go_ret3
          exact ⟨by rw [H.out]; rfl, rfl⟩
        · have HS2 := Lib.hid (HS.out.trans (if_neg (fun h => hd1 h.2)))
          clear HS
          by_cases hd0 : d.toNat = 0
          · have H := Lib.hid (HS2.out.trans (if_pos ⟨by omega, hd0⟩))
            have hb : ((d.toNat : Int) == 0) = true := by simp; omega
            clear HS2 hd0
            go_wp2_with fail
            go_ret3
            exact ⟨by rw [H.out]; rfl, rfl⟩
          · have H := Lib.hid ((HS2.out.trans (if_neg (fun h => hd0 h.2))).trans (if_pos (by omega)))
            have hb : ((d.toNat : Int) == 0) = false := by simp; omega
            have E := Lib.hid (or_shl 9 z' d.toNat HZ.out (by rw [Wm.pow9]; omega) (by have := HZ.out; rw [Wm.pow9] at this; omega))
            have hz64 : z' < 9223372036854775808 := by have := HZ.out; rw [Wm.pow9] at this; exact this
            have HB := Lib.hid hz64
            clear HS2 hd0 hz64
            go_wp2_with fail
            refine (unfold_int _ (z' + d.toNat * 128 ^ 9) w ?_ (by rw [Wm.pow9]; have := HB.out; omega)).mono ?_
            · rw [← E.out]
              congr 1
              simp [IntKind.wrap, IntKind.bits, IntKind.signed]; omega
            rintro e w1 ⟨rfl, rfl⟩
            go_wp2_with fail
            go_ret3
            exact ⟨by rw [H.out]; rfl, rfl⟩
      · have h8 : k ≤ 8 := by omega
        have HS2 := Lib.hid (HS.out.trans (if_neg (fun h => h9 h.1)))
        clear HS
        have hm := mul_pow8 h8 (show d.toNat % 128 < 128 by omega)
        have hb9 : ((k : Int) == 9) = false := by simp; omega
        by_cases hd : d.toNat < 128
        · have hx : d.toNat * 128 ^ k < 18446744073709551616 := by rw [Nat.mod_eq_of_lt hd] at hm; omega
          have hzz : z' < 9223372036854775808 := Nat.lt_of_lt_of_le HZ.out (pow_le9 (by omega))
          have E := Lib.hid (or_shl k z' d.toNat HZ.out hx (by omega))
          have HB := Lib.hid (show z' + d.toNat * 128 ^ k < 18446744073709551616 by rw [Nat.mod_eq_of_lt hd] at hm; omega)
          clear hm hx hzz h9
          by_cases h0 : 0 < k
          · by_cases hd0 : d.toNat = 0
            · have H := Lib.hid (HS2.out.trans (if_pos ⟨h0, hd0⟩))
              have hb : ((d.toNat : Int) == 0) = true := by simp; omega
              clear HS2 hd0
              go_wp2_with fail
              go_ret3
              exact ⟨by rw [H.out]; rfl, rfl⟩
            · have H := Lib.hid ((HS2.out.trans (if_neg (fun h => hd0 h.2))).trans (if_pos hd))
              have hb : ((d.toNat : Int) == 0) = false := by simp; omega
              clear HS2 hd0
              go_wp2_with fail
              refine (unfold_int _ (z' + d.toNat * 128 ^ k) w E.out HB.out).mono ?_
              rintro e w1 ⟨rfl, rfl⟩
              go_wp2_with fail
              go_ret3
              exact ⟨by rw [H.out]; rfl, rfl⟩
          · have H := Lib.hid ((HS2.out.trans (if_neg (fun h => h0 h.1))).trans (if_pos hd))
            clear HS2
            go_wp2_with fail
            refine (unfold_int _ (z' + d.toNat * 128 ^ k) w E.out HB.out).mono ?_
            rintro e w1 ⟨rfl, rfl⟩
            go_wp2_with fail
            go_ret3
            exact ⟨by rw [H.out]; rfl, rfl⟩
        · have H := Lib.hid ((HS2.out.trans (if_neg (fun h => hd (by omega)))).trans (if_neg hd))
          have hx : (d.toNat - 128) * 128 ^ k < 18446744073709551616 := by
            have := mul_pow8 h8 (show d.toNat - 128 < 128 by omega)
            omega
          have hzz : z' < 9223372036854775808 := Nat.lt_of_lt_of_le HZ.out (pow_le9 (by omega))
          have E := Lib.hid (or_shl k z' (d.toNat - 128) HZ.out hx (by omega))
          have HP := Lib.hid (add_pow HZ.out (show d.toNat - 128 < 128 by omega))
          have hb : ((d.toNat : Int) == 0) = false := by simp; omega
          clear hm hx hzz h9 HS2
          by_cases h0 : 0 < k
          all_goals
            go_wp2_with fail
            refine ⟨⟨k + 1, z' + (d.toNat - 128) * 128 ^ k, by go_num, ?_, by omega, by omega, HP.out, H.out⟩, by simp [intOf]; omega⟩
            rw [← E.out, show ((d.toNat - 128 : Nat) : Int) = (d.toNat : Int) - 128 from by omega]
    · go_wp2_with fail
      go_ret3
      exact ⟨by rw [HG.out, List.drop_of_length_le (by omega)]; rfl, rfl⟩

end Go.Proofs.YtdbdlhgkhnenfaaDoor
/-
  Contracts: byte strings, and the number of elements of a list.
-/
namespace Go.Proofs.YtdbdlhgkhnenfaaDoor
open Go.RowKit

set_option maxRecDepth 1000000 in
set_option maxHeartbeats 400000 in
theorem getInt_nil (A : Option Addr) (c : Nat) (w : World) :
    Calls Tryd.prog 39 #[.slice A 0 c] w (IntPost (Wm.getI []) w) := by
  go_enter Tryd.func39, Tryd.ntmps39
  go_wp2
  go_step3
  go_wp2
  go_step3
  go_wp2
  refine wp_loop_rounds 1 ?_
  rw [rounds_succ]
  go_wp2
  go_ret3
  exact ⟨rfl, rfl⟩

theorem getInt_any (l : List UInt8) (A : Option Addr) (n c : Nat) (w : World) (hn : l.length = n) (hlen : n ≤ 140737488355328) (h : Lies w A (l.map bv)) :
    Calls Tryd.prog 39 #[.slice A n c] w (IntPost (Wm.getI l) w) := by
  subst hn
  by_cases hl : l = []
  · subst hl; exact getInt_nil A c w
  · obtain ⟨b, o, rfl, _⟩ := h.at_ (by simpa using hl)
    exact getInt_some l b o c w hlen h.cells8

end Go.Proofs.YtdbdlhgkhnenfaaDoor
/-
  Contracts: byte strings.
-/
namespace Go.Proofs.YtdbdlhgkhnenfaaDoor
open Go.RowKit

/-- putBytes appends the length and the bytes -/
theorem putBytes_any (s : ByteArray) (B k : Nat) (v : Value) (xs : List UInt8) (w : World) (hs : s.size ≤ 70368744177664)
    (hown : w.ownsRow B 5 1 v k (xs.map bv)) (hB : B ≤ w.heap.size) (hk : k ≤ 70368744177000) :
    Calls Tryd.prog 71 #[v, .string s] w fun e w' => ∃ v', e = .returned v' ∧ w'.ownsRow B 5 1 v' (k + (Wm.encS s.data.toList).length) ((xs ++ Wm.encS s.data.toList).map bv) ∧ Below B w w' := by
  obtain ⟨i0, hi, hz0, hz1, hz2⟩ := info_parts Tryd.infoU8
  have hz := Wm.enc_le10 (Wm.zig_lt (s.size : Int) (by omega) (by omega))
  go_enter Tryd.func71, Tryd.ntmps71
  go_wp2_with fail
  refine (putInt_any (s.size : Int) B k v xs w (by omega) (by omega) hown hB (by omega)).mono ?_
  rintro e w1 ⟨v1, rfl, ho, hb⟩
  have hsz := hb.size
  change (Wm.encI (s.size : Int)).length ≤ 10 at hz
  go_wp2_with (at_builtin; go_loud (refine wpList_append_onto_src w1 rfl _ _ 43 9 rfl B 5 i0 (.int .u8 0) 1 1 Tryd.underlying43 hi hz0 hz1 hz2 rfl _ _ _ ho (.string s) s.size (byteCells s) (Src.ofString w1 Tryd.underlying9 s) rfl rfl ?c1 ?c2 ?c3 ?_))
  case c1 => unfold maxLen; omega
  case c2 => omega
  case c3 => omega
  intro v' w2 ho2 hb2
  go_wp2
  go_ret
  have hl := ba_len s
  refine ⟨v', rfl, ?_, hb.trans hb2⟩
  rw [byteCells_eq] at ho2
  unfold Wm.encS
  rw [hl]
  simpa [Nat.add_assoc, hl] using ho2

theorem bytes_any (s : ByteArray) (w : World) (hs : s.size ≤ 70368744177664) :
    Calls Tryd.prog 55 #[.string s] w fun e w' => ∃ v', e = .returned v' ∧ w'.ownsRow w.heap.size 5 1 v' (Wm.encS s.data.toList).length ((Wm.encS s.data.toList).map bv) ∧ Below w.heap.size w w' := by
  go_enter Tryd.func55, Tryd.ntmps55
  go_wp2_with fail
  refine (putBytes_any s w.heap.size 0 (.slice none 0 0) [] w hs (World.ownsRow_nil _ _ _ _) (Nat.le_refl _) (by omega)).mono ?_
  rintro e w1 ⟨v', rfl, ho, hb⟩
  go_wp2
  go_ret
  exact ⟨v', rfl, by simpa using ho, hb⟩

/-- the post of GetBytes -/
def StrPost (R : List UInt8 × Nat × Int) (w : World) (e : Ending) (w' : World) : Prop :=
  e = .returned (.tuple #[.string (bstr R.1), .int .i64 (R.2.1 : Int), .int .i64 R.2.2]) ∧ w = w'

end Go.Proofs.YtdbdlhgkhnenfaaDoor
/-
  Contracts: lists are encoded.
-/
namespace Go.Proofs.YtdbdlhgkhnenfaaDoor
open Go.RowKit

/-- an integer as a cell -/
def iv (n : Int) : Value := .int .i64 n

/-- a byte string as a cell -/
def sv (s : List UInt8) : Value := .string (bstr s)

/-- the integers of a list fit -/
def Fits (l : List Int) : Prop := ∀ n ∈ l, -9223372036854775808 ≤ n ∧ n ≤ 9223372036854775807

theorem Lies.at1 {w : World} {b o : Nat} {xs : List Value} (h : Lies w (some ⟨b, o, none⟩) xs) {k : Nat} {u : Value} (hu : xs[k]? = some u) : w.cell? ⟨b, o + k, none⟩ = some u := by
  rcases h with h | ⟨b', o', hA, hc⟩
  · subst h; simp at hu
  · injection hA with hA
    injection hA with h1 h2
    subst h1 h2
    exact hc k u hu

set_option maxRecDepth 1000000 in
set_option maxHeartbeats 400000 in
theorem listInt_any (l : List Int) (A : Option Addr) (n c : Nat) (w : World) (hn : l.length = n) (hf : Fits l) (h : Lies w A (l.map iv)) (hlen : (Wm.encIs l).length ≤ 70368744170000) (hn2 : n ≤ 140737488355328) :
    Calls Tryd.prog 63 #[.slice A n c, .func (.func 47) #[] #[]] w fun e w' => ∃ v', e = .returned v' ∧ w'.ownsRow w.heap.size 5 1 v' (Wm.encIs l).length ((Wm.encIs l).map bv) ∧ Below w.heap.size w w' := by
  have HL := Lib.hid h
  have HN := Lib.hid hn
  have HF := Lib.hid hf
  have HE := Lib.hid hlen
  clear h hn hf hlen
  go_enter Tryd.func63, Tryd.ntmps63
  go_wp2_with fail
  refine (putInt_any (n : Int) w.heap.size 0 (.slice none 0 0) [] w (by omega) (by omega) (World.ownsRow_nil _ _ _ _) (Nat.le_refl _) (by omega)).mono ?_
  rintro e w1 ⟨v1, rfl, ho, hb⟩
  go_wp2_with fail
  go_loopw [5, 13] (fun b i wr => ∃ k : Nat, i = .int .i64 (k : Int) ∧ k ≤ n ∧ wr.ownsRow w.heap.size 5 1 b (Wm.encI (n : Int) ++ (l.take k).flatMap Wm.encI).length ((Wm.encI (n : Int) ++ (l.take k).flatMap Wm.encI).map bv) ∧ Below w.heap.size w wr)
    (fun _ i _ => n - (intOf i).toNat)
  case atStart => exact ⟨0, rfl, by omega, by simpa using ho, hb⟩
  case round =>
    obtain ⟨k, rfl, hk, hown, hbel⟩ := hrel
    have hsz := hbel.size
    by_cases hlt : k < n
    · have hkl : k < l.length := by rw [HN.out]; exact hlt
      obtain ⟨b, o, hA, _⟩ := HL.out.at_ (by simpa using List.ne_nil_of_length_pos (show 0 < l.length by omega))
      subst hA
      have hx := List.getElem?_eq_getElem hkl
      generalize l[k] = x at hx
      have hc : wr.cell? ⟨b, o + k, none⟩ = some (.int .i64 x) := (HL.out.below hbel).at1 (by rw [List.getElem?_map, hx]; rfl)
      have hxf := HF.out x (List.mem_of_getElem? hx)
      have hfs := Wm.flat_succ Wm.encI l k x hx
      have hle := Wm.flat_take Wm.encI l k
      have hEE := HE.out
      unfold Wm.encIs at hEE
      rw [List.length_append, HN.out] at hEE
      have hkk : (Wm.encI (n : Int) ++ (l.take k).flatMap Wm.encI).length ≤ 70368744177664 := by rw [List.length_append]; omega
      have HS := Lib.hid hfs
      have HK := Lib.hid hkk
      clear hx hkl hfs hle hEE hkk
      go_wp2_with (go_at_call 47; go_loud (refine (putInt_any x w.heap.size _ _ (Wm.encI (n : Int) ++ (l.take k).flatMap Wm.encI) wr hxf.1 hxf.2 hown hsz HK.out).mono ?_); rintro e w2 ⟨v2, rfl, ho2, hb2⟩)
      go_roundw
      case rel =>
        refine ⟨k + 1, by go_num, by omega, ?_, hbel.trans hb2⟩
        rw [HS.out, ← List.append_assoc]
        simpa [Nat.add_assoc] using ho2
      case measure => simp [intOf]; omega
    · have hkn : k = n := by omega
      subst hkn
      go_wp2
      go_ret
      refine ⟨_, rfl, ?_, hbel⟩
      unfold Wm.encIs
      rw [HN.out]
      rw [List.take_of_length_le (by rw [HN.out]; exact Nat.le_refl _)] at hown
      exact hown

theorem ints_any (l : List Int) (A : Option Addr) (n c : Nat) (w : World) (hn : l.length = n) (hf : Fits l) (h : Lies w A (l.map iv)) (hlen : (Wm.encIs l).length ≤ 70368744170000) (hn2 : n ≤ 140737488355328) :
    Calls Tryd.prog 50 #[.slice A n c] w fun e w' => ∃ v', e = .returned v' ∧ w'.ownsRow w.heap.size 5 1 v' (Wm.encIs l).length ((Wm.encIs l).map bv) ∧ Below w.heap.size w w' := by
  have C := Lib.hid (listInt_any l A n c w hn hf h hlen hn2)
  clear hn hf h hlen
  go_enter Tryd.func50, Tryd.ntmps50
  go_wp2_with fail
  refine C.out.mono ?_
  rintro e w1 ⟨v', rfl, ho, hb⟩
  clear C
  go_wp2
  go_ret
  exact ⟨v', rfl, ho, hb⟩

end Go.Proofs.YtdbdlhgkhnenfaaDoor
/-
  Contracts: lists of digests are encoded.
-/
namespace Go.Proofs.YtdbdlhgkhnenfaaDoor
open Go.RowKit

/-- a digest as a value -/
def dv (d : List UInt8) : Value := .agg (d.map bv).toArray
/-- the cells of a list of digests -/
def dcells (l : List (List UInt8)) : List Value := l.flatten.map bv
def Is16 (l : List (List UInt8)) : Prop := ∀ d ∈ l, d.length = 16

theorem Tryd.infoDg : (Tryd.prog.info? 23).map (·.size) = some 16 := by kernel_rfl

theorem flatten_len {l : List (List UInt8)} (h : Is16 l) : l.flatten.length = l.length * 16 := by
  induction l with
  | nil => rfl
  | cons d r ih =>
    rw [List.flatten_cons, List.length_append, h d (by simp), ih (fun x hx => h x (by simp [hx])), List.length_cons]; omega
theorem flatten_part {l : List (List UInt8)} (h : Is16 l) {k : Nat} {d : List UInt8} (hd : l[k]? = some d) : (l.flatten.drop (k * 16)).take 16 = d := by
  induction l generalizing k with
  | nil => simp at hd
  | cons x r ih =>
    have hx : x.length = 16 := h x (by simp)
    cases k with
    | zero =>
      simp at hd; subst hd
      rw [List.flatten_cons, Nat.zero_mul, List.drop_zero, ← hx]; exact List.take_left
    | succ k =>
      rw [List.flatten_cons, show (k + 1) * 16 = x.length + k * 16 from by omega, List.drop_length_add_append]
      exact ih (fun y hy => h y (by simp [hy])) (by simpa using hd)

set_option maxRecDepth 1000000 in
set_option maxHeartbeats 400000 in
theorem putDigest_any (d : List UInt8) (B k : Nat) (v : Value) (xs : List UInt8) (w : World) (hd : d.length = 16)
    (hown : w.ownsRow B 5 1 v k (xs.map bv)) (hB : B ≤ w.heap.size) (hk : k ≤ 70368744177664) :
    Calls Tryd.prog 75 #[v, dv d] w fun e w' => ∃ v', e = .returned v' ∧ w'.ownsRow B 5 1 v' (k + 16) ((xs ++ d).map bv) ∧ Below B w w' := by
  obtain ⟨i0, hi, hz0, hz1, hz2⟩ := info_parts Tryd.infoU8
  have HD := Lib.hid hd
  clear hd
  unfold dv
  go_enter Tryd.func75, Tryd.ntmps75
  go_wp2_with (at_builtin; go_loud (refine wpList_append_onto_src (w.alloc (.cells (d.map bv).toArray 23)) rfl _ _ 43 43 rfl B 5 i0 (.int .u8 0) 1 1 Tryd.underlying43 hi hz0 hz1 hz2 rfl _ _ _ (hown.alloc _) (.slice (some ⟨w.heap.size, 0, none⟩) 16 16) 16 (d.map bv) (Src.of_lies _ Tryd.underlying43 16 (by rw [List.length_map, HD.out]) (fun h => by cases h) (Lies.new w _ _) (bvs_one d)) rfl rfl ?c1 ?c2 ?c3 ?_))
  case c1 => unfold maxLen; omega
  case c2 => omega
  case c3 => simp; omega
  intro v' w1 ho hb
  go_wp2
  go_ret
  exact ⟨v', rfl, by simpa using ho, ((Below.refl B w).alloc hB _).trans hb⟩

set_option maxRecDepth 1000000 in
set_option maxHeartbeats 400000 in
theorem listDig_any (l : List (List UInt8)) (A : Option Addr) (n c : Nat) (w : World) (hn : l.length = n) (hf : Is16 l) (h : Lies w A (dcells l)) (hn2 : n ≤ 4398046511104) :
    Calls Tryd.prog 74 #[.slice A n c, .func (.func 75) #[] #[]] w fun e w' => ∃ v', e = .returned v' ∧ w'.ownsRow w.heap.size 5 1 v' (Wm.encDs l).length ((Wm.encDs l).map bv) ∧ Below w.heap.size w w' := by
  have HL := Lib.hid h
  have HN := Lib.hid hn
  have HF := Lib.hid hf
  clear h hn hf
  go_enter Tryd.func74, Tryd.ntmps74
  go_wp2_with fail
  refine (putInt_any (n : Int) w.heap.size 0 (.slice none 0 0) [] w (by omega) (by omega) (World.ownsRow_nil _ _ _ _) (Nat.le_refl _) (by omega)).mono ?_
  rintro e w1 ⟨v1, rfl, ho, hb⟩
  go_wp2_with fail
  go_loopw [5, 13] (fun b i wr => ∃ k : Nat, i = .int .i64 (k : Int) ∧ k ≤ n ∧ wr.ownsRow w.heap.size 5 1 b (Wm.encI (n : Int) ++ (l.take k).flatten).length ((Wm.encI (n : Int) ++ (l.take k).flatten).map bv) ∧ Below w.heap.size w wr)
    (fun _ i _ => n - (intOf i).toNat)
  case atStart => exact ⟨0, rfl, by omega, by simpa using ho, hb⟩
  case round =>
    obtain ⟨k, rfl, hk, hown, hbel⟩ := hrel
    have hsz := hbel.size
    by_cases hlt : k < n
    · have hkl : k < l.length := by rw [HN.out]; exact hlt
      have hfl := flatten_len HF.out
      obtain ⟨b, o, hA, _⟩ := HL.out.at_ (by
        have : 0 < (dcells l).length := by unfold dcells; rw [List.length_map, hfl]; omega
        exact List.ne_nil_of_length_pos this)
      subst hA
      have hx := List.getElem?_eq_getElem hkl
      generalize l[k] = x at hx
      have hxf := HF.out x (List.mem_of_getElem? hx)
      have hc : wr.rangeAt b (o + k * 16) (x.map bv) := by
        have h1 := (((HL.out.below hbel).drop (k * 16)).take 16).range
        unfold dcells at h1
        rw [← List.map_drop, ← List.map_take, flatten_part HF.out hx] at h1
        exact h1
      have hfs : (l.take (k + 1)).flatten = (l.take k).flatten ++ x := by
        rw [List.take_succ_eq_append_getElem hkl, List.flatten_append]
        rw [List.getElem?_eq_getElem hkl] at hx; injection hx with hx; simp [hx]
      have htl : (l.take k).flatten.length = k * 16 := by
        rw [flatten_len (fun d hd => HF.out d (List.mem_of_mem_take hd)), List.length_take]; omega
      have hEn := Wm.encI_len (n : Int) (by omega) (by omega)
      have hkk : (Wm.encI (n : Int) ++ (l.take k).flatten).length ≤ 70368744177664 := by rw [List.length_append]; omega
      have HS := Lib.hid hfs
      have HK := Lib.hid hkk
      have HC := Lib.hid hc
      have HX := Lib.hid hxf
      clear hx hkl hfs htl hEn hkk hc hxf hfl
      have Hi := Lib.hid (show (Tryd.prog.info? 23).map (·.size) = some (x.map bv).length by rw [Tryd.infoDg, List.length_map, HX.out])
      have Hi2 := Lib.hid (show (Tryd.prog.info? 23).map (·.size) = some (x.map bv).toArray.size by rw [Tryd.infoDg, List.size_toArray, List.length_map, HX.out])
      go_wp2_with (first
        | (refine wpList_load_mid rfl 23 _ rfl b (o + k * 16) rfl (x.map bv) _ HC.out Tryd.underlying23 rfl Hi.out ?_)
        | (refine wpList_store_new wr rfl 23 _ _ rfl _ (x.map bv).toArray rfl rfl Hi2.out ?c1 ?c2 ?_)
        | (refine wpList_load_new wr rfl 23 _ rfl (x.map bv).toArray rfl _ _ Tryd.underlying23 Hi2.out ?_))
      case c1 =>
        have h16 : (x.map bv).toArray.size = 16 := by rw [List.size_toArray, List.length_map, HX.out]
        rw [h16]; rfl
      case c2 => exact all_oneCell_toArray (bvs_one x)
      refine (putDigest_any x w.heap.size _ _ (Wm.encI (n : Int) ++ (l.take k).flatten) _ HX.out (hown.alloc _) (Nat.le_trans hsz (by simp)) HK.out).mono ?_
      rintro e w2 ⟨v2, rfl, ho2, hb2⟩
      go_wp2_with fail
      go_roundw
      case rel =>
        refine ⟨k + 1, by go_num, by omega, ?_, (hbel.alloc hsz _).trans hb2⟩
        rw [HS.out, ← List.append_assoc]
        have e1 : (Wm.encI (n : Int) ++ (l.take k).flatten ++ x).length = (Wm.encI (n : Int) ++ (l.take k).flatten).length + 16 := by rw [List.length_append (bs := x), HX.out]
        rw [e1]; exact ho2
      case measure => simp [intOf]; omega
    · have hkn : k = n := by omega
      subst hkn
      go_wp2
      go_ret
      refine ⟨_, rfl, ?_, hbel⟩
      unfold Wm.encDs
      rw [HN.out]
      rw [List.take_of_length_le (by rw [HN.out]; exact Nat.le_refl _)] at hown
      exact hown

theorem digests_any (l : List (List UInt8)) (A : Option Addr) (n c : Nat) (w : World) (hn : l.length = n) (hf : Is16 l) (h : Lies w A (dcells l)) (hn2 : n ≤ 4398046511104) :
    Calls Tryd.prog 60 #[.slice A n c] w fun e w' => ∃ v', e = .returned v' ∧ w'.ownsRow w.heap.size 5 1 v' (Wm.encDs l).length ((Wm.encDs l).map bv) ∧ Below w.heap.size w w' := by
  have C := Lib.hid (listDig_any l A n c w hn hf h hn2)
  clear hn hf h
  go_enter Tryd.func60, Tryd.ntmps60
  go_wp2_with fail
  refine C.out.mono ?_
  rintro e w1 ⟨v', rfl, ho, hb⟩
  clear C
  go_wp2
  go_ret
  exact ⟨v', rfl, ho, hb⟩

end Go.Proofs.YtdbdlhgkhnenfaaDoor
/-
  Contracts: integers and byte strings, as the reference encodes them.
-/
namespace Go.Proofs.YtdbdlhgkhnenfaaDoor
open Go.RowKit

theorem src_own {w : World} {A : Option Addr} {k c : Nat} {l : List UInt8} (hk : l.length = k) (hl : Lies w A (l.map bv)) : Src Tryd.prog 1 43 (.slice A k c) k (l.map bv) w :=
  Src.of_lies w Tryd.underlying43 c (by rw [List.length_map, hk, Nat.mul_one]) (fun h => by have := hl.none_ h; subst this; exact hk.symm) hl (bvs_one l)

set_option maxRecDepth 1000000 in
set_option maxHeartbeats 400000 in
theorem refInt_any (n : Int) (w : World) (h1 : -9223372036854775808 ≤ n) (h2 : n ≤ 9223372036854775807) :
    Calls Tryd.prog 24 #[.int .i64 n] w fun e w' => ∃ v', e = .returned v' ∧ w'.ownsRow w.heap.size 5 1 v' (Wm.encI n).length ((Wm.encI n).map bv) ∧ Below w.heap.size w w' := by
  obtain ⟨i0, hi, hz0, hz1, hz2⟩ := info_parts Tryd.infoU8
  have hzl := Wm.zig_lt n h1 h2
  have E : Hid ((0 ≤ n → n * 2 = ((Wm.zig n : Nat) : Int)) ∧ (n < 0 → (-1 - n) * 2 + 1 = ((Wm.zig n : Nat) : Int))) := Lib.hid (by unfold Wm.zig; constructor <;> intro h <;> split <;> omega)
  by_cases hneg : n < 0
  all_goals
    go_enter Tryd.func24, Tryd.ntmps24
    go_wp2_with fail
    go_loopw [3, 4] (fun z b wr => ∃ (ys : List UInt8) (z' : Nat), z = .int .u64 (z' : Int) ∧ z' < 18446744073709551616 ∧ ys.length ≤ 10 ∧ ys ++ Wm.enc z' = Wm.encI n ∧ wr.ownsRow w.heap.size 5 1 b ys.length (ys.map bv) ∧ Below w.heap.size w wr)
      (fun z _ _ => (intOf z).toNat)
    case atStart =>
      first
        | exact ⟨[], Wm.zig n, by rw [← E.out.2 (by omega)], hzl, by simp, rfl, World.ownsRow_nil _ _ _ _, Below.refl _ _⟩
        | exact ⟨[], Wm.zig n, by rw [← E.out.1 (by omega)], hzl, by simp, rfl, World.ownsRow_nil _ _ _ _, Below.refl _ _⟩
    case round =>
      obtain ⟨ys, z', rfl, hz', hyl, hys, hown', hbel⟩ := hrel
      have hsz := hbel.size
      have HY := Lib.hid hys
      clear hys
      by_cases hlt : z' < 128
      · go_wp2_with (at_builtin; refine wpList_append_one wr rfl _ _ 43 rfl w.heap.size 5 i0 (.int .u8 0) 1 Tryd.underlying43 hi hz0 hz1 hz2 rfl _ _ _ hown' (.int .u8 (z' : Int)) rfl rfl rfl ?c1 ?c2 ?c3 ?_)
        case c1 => unfold maxLen; omega
        case c2 => omega
        case c3 => omega
        intro v' w1 ho hb
        go_wp2
        go_ret
        have e : Wm.encI n = ys ++ [UInt8.ofNat z'] := by rw [← HY.out, Wm.enc_lo hlt]
        rw [e]
        have e2 : (bv (UInt8.ofNat z')) = .int .u8 (z' : Int) := by unfold bv; rw [Wm.u8_of (by omega)]
        exact ⟨v', rfl, by simpa [e2] using ho, hbel.trans hb⟩
      · go_wp2_with (at_builtin; refine wpList_append_one wr rfl _ _ 43 rfl w.heap.size 5 i0 (.int .u8 0) 1 Tryd.underlying43 hi hz0 hz1 hz2 rfl _ _ _ hown' (.int .u8 ((z' : Int) % 128 + 128)) rfl rfl rfl ?c1 ?c2 ?c3 ?_)
        case c1 => unfold maxLen; omega
        case c2 => omega
        case c3 => omega
        intro v' w1 ho hb
        go_wp2
        have e2 : (bv (UInt8.ofNat (z' % 128 + 128))) = .int .u8 ((z' : Int) % 128 + 128) := by unfold bv; rw [Wm.u8_of (by omega)]; congr 1
        have e3 : (ys ++ [UInt8.ofNat (z' % 128 + 128)]) ++ Wm.enc (z' / 128) = Wm.encI n := by rw [← HY.out, Wm.enc_hi hlt]; simp
        have e4 : (ys ++ [UInt8.ofNat (z' % 128 + 128)]).length ≤ 10 := by
          have h5 := congrArg List.length e3
          rw [List.length_append] at h5
          have := Wm.enc_le10 hzl
          unfold Wm.encI at h5
          omega
        generalize UInt8.ofNat (z' % 128 + 128) = d at e2 e3 e4
        refine ⟨⟨ys ++ [d], z' / 128, by simp, by omega, e4, e3, ?_, hbel.trans hb⟩, by simp [intOf]; omega⟩
        simpa [e2] using ho

theorem refBytes_any (s : ByteArray) (w : World) (hs : s.size ≤ 70368744177664) :
    Calls Tryd.prog 73 #[.string s] w fun e w' => ∃ v', e = .returned v' ∧ w'.ownsRow w.heap.size 5 1 v' (Wm.encS s.data.toList).length ((Wm.encS s.data.toList).map bv) ∧ Below w.heap.size w w' := by
  obtain ⟨i0, hi, hz0, hz1, hz2⟩ := info_parts Tryd.infoU8
  have hz := Wm.encI_len (s.size : Int) (by omega) (by omega)
  go_enter Tryd.func73, Tryd.ntmps73
  go_wp2_with fail
  refine (refInt_any (s.size : Int) w (by omega) (by omega)).mono ?_
  rintro e w1 ⟨v1, rfl, ho, hb⟩
  have hsz := hb.size
  go_wp2_with (at_builtin; go_loud (refine wpList_append_onto_src w1 rfl _ _ 43 9 rfl w.heap.size 5 i0 (.int .u8 0) 1 1 Tryd.underlying43 hi hz0 hz1 hz2 rfl _ _ _ ho (.string s) s.size (byteCells s) (Src.ofString w1 Tryd.underlying9 s) rfl rfl ?c1 ?c2 ?c3 ?_))
  case c1 => unfold maxLen; omega
  case c2 => omega
  case c3 => omega
  intro v' w2 ho2 hb2
  go_wp2
  go_ret
  have hl := ba_len s
  refine ⟨v', rfl, ?_, hb.trans hb2⟩
  rw [byteCells_eq] at ho2
  unfold Wm.encS
  rw [hl, List.length_append, List.map_append, hl]
  exact ho2

end Go.Proofs.YtdbdlhgkhnenfaaDoor
