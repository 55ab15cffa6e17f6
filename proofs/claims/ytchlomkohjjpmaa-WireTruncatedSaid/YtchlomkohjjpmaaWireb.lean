/-
  Contracts of the functions that decode one integer.
-/
import Derived.Test.YtchlomkohjjpmaaWirea
import Derived.BigGuardPart
namespace Go.Proofs.Ytchlomkohjjpmaa
open Go.RowKit

/-- the three results of a decoding function -/
def trip (x : Value) (u : Nat) (e : Int) : Value := .tuple #[x, .int .i64 (u : Int), .int .i64 e]

theorem or_shl (k z' x : Nat) (hz' : z' < 128 ^ k) (hx : x * 128 ^ k < 18446744073709551616) (hz2 : z' < 18446744073709551616) :
    bits BinOp.or IntKind.u64 (z' : Int) (IntKind.u64.wrap ((x : Int) * 2 ^ (7 * k))) = ((z' + x * 128 ^ k : Nat) : Int) := by
  have e1 : ((x : Int) * 2 ^ (7 * k)) = ((x * 128 ^ k : Nat) : Int) := by
    rw [show (128 : Nat) = 2 ^ 7 from rfl, ← Nat.pow_mul]; simp
  have e2 : IntKind.u64.wrap ((x * 128 ^ k : Nat) : Int) = ((x * 128 ^ k : Nat) : Int) := by
    generalize x * 128 ^ k = y at hx
    simp only [IntKind.wrap, IntKind.bits, IntKind.signed]
    simp; omega
  rw [e1, e2, u64_or_nat _ _ hz2 hx, Nat.or_comm, nat_join (7 * k) _ _ (by rw [Nat.pow_mul]; exact Nat.mul_mod_left _ _) (by rw [Nat.pow_mul]; exact hz'), Nat.add_comm]

theorem pow_le9 {k : Nat} (h : k ≤ 9) : 128 ^ k ≤ 9223372036854775808 := by rw [← Wm.pow9]; exact Nat.pow_le_pow_right (by decide) h
theorem mul_pow8 {k x : Nat} (h : k ≤ 8) (hx : x < 128) : x * 128 ^ k < 9223372036854775808 := by
  have h1 : 128 ^ k ≤ 128 ^ 8 := Nat.pow_le_pow_right (by decide) h
  have h2 : (128 : Nat) ^ 8 = 72057594037927936 := by decide
  have := Nat.mul_le_mul (show x ≤ 127 by omega) h1
  omega
theorem add_pow {k x z : Nat} (hz : z < 128 ^ k) (hx : x < 128) : z + x * 128 ^ k < 128 ^ (k + 1) := by
  rw [Nat.pow_succ, Nat.mul_comm (128 ^ k)]
  have := Nat.mul_le_mul_right (128 ^ k) (show x ≤ 127 by omega)
  omega

/-- one step of the decoding -/
theorem gi_step {l : List UInt8} {k z : Nat} {d : UInt8} (hk : k < l.length) (hd : l.getD k 0 = d) :
    Wm.gi k z (l.drop k) = if k = 9 ∧ 1 < d.toNat then (0, 0, 6) else if 0 < k ∧ d.toNat = 0 then (0, 0, 6)
      else if d.toNat < 128 then (Wm.zag (z + d.toNat * 128 ^ k), k + 1, 0) else Wm.gi (k + 1) (z + (d.toNat - 128) * 128 ^ k) (l.drop (k + 1)) := by
  have : l.drop k = d :: l.drop (k + 1) := by
    rw [List.drop_eq_getElem_cons hk]
    congr 1
    rw [← hd, List.getD_eq_getElem?_getD, List.getElem?_eq_getElem hk]; rfl
  rw [this, Wm.gi]

/-- the post of GetInt -/
def IntPost (R : Int × Nat × Int) (w : World) (e : Ending) (w' : World) : Prop :=
  e = .returned (.tuple #[.int .i64 R.1, .int .i64 (R.2.1 : Int), .int .i64 R.2.2]) ∧ w = w'

theorem unfold_int (z : Int) (z' : Nat) (w : World) (hz : z = (z' : Int)) (h2 : z' < 18446744073709551616) :
    Calls Try.prog 44 #[.int .u64 z] w fun e w' => e = .returned (.int .i64 (Wm.zag z')) ∧ w = w' := by
  subst hz; exact unfold_any z' w h2

set_option maxRecDepth 1000000 in
set_option maxHeartbeats 1000000 in
theorem getInt_some (l : List UInt8) (b o c : Nat) (w : World) (hlen : l.length ≤ 140737488355328)
    (hc : ∀ j, j < l.length → w.cell? ⟨b, o + j, none⟩ = some (.int .u8 ((l.getD j 0).toNat : Int))) :
    Calls Try.prog 24 #[.slice (some ⟨b, o, none⟩) l.length c] w (IntPost (Wm.getI l) w) := by
  go_enter Try.func24, Try.ntmps24
  go_wp2
  go_step3
  go_wp2
  go_step3
  go_wp2
  go_loop [5, 6] (fun z i => ∃ k z' : Nat, i = .int .i64 (k : Int) ∧ z = .int .u64 (z' : Int) ∧ k ≤ 9 ∧ k ≤ l.length ∧ z' < 128 ^ k ∧ Wm.getI l = Wm.gi k z' (l.drop k))
    (fun _ i => l.length - (intOf i).toNat)
  case atStart => exact ⟨0, 0, rfl, rfl, by omega, by omega, by decide, rfl⟩
  case round =>
    obtain ⟨k, z', rfl, rfl, hk9, hkl, hz', hg⟩ := hrel
    have HG := Lib.hid hg
    clear hg
    have HZ := Lib.hid hz'
    clear hz'
    by_cases hlt : k < l.length
    · have hcx := hc k hlt
      generalize hd : l.getD k 0 = d at hcx
      have HS := Lib.hid (HG.out.trans (gi_step (z := z') hlt hd))
      clear hd hc HG
      have hd256 : d.toNat < 256 := d.toNat_lt
      by_cases h9 : k = 9
      · subst h9
        by_cases hd1 : 1 < d.toNat
        · have H := Lib.hid (HS.out.trans (if_pos ⟨rfl, hd1⟩))
          clear HS
          go_wp2_with fail
          go_ret3
          exact ⟨by rw [H.out]; rfl, rfl⟩
        · have HS2 := Lib.hid (HS.out.trans (if_neg (fun h => hd1 h.2)))
          clear HS
          by_cases hd0 : d.toNat = 0
          · have H := Lib.hid (HS2.out.trans (if_pos ⟨by omega, hd0⟩))
            have hb : ((d.toNat : Int) == 0) = true := by simp; omega
            clear HS2 hd0
            go_wp2_with fail
            go_ret3
            exact ⟨by rw [H.out]; rfl, rfl⟩
          · have H := Lib.hid ((HS2.out.trans (if_neg (fun h => hd0 h.2))).trans (if_pos (by omega)))
            have hb : ((d.toNat : Int) == 0) = false := by simp; omega
            have E := Lib.hid (or_shl 9 z' d.toNat HZ.out (by rw [Wm.pow9]; omega) (by have := HZ.out; rw [Wm.pow9] at this; omega))
            have hz64 : z' < 9223372036854775808 := by have := HZ.out; rw [Wm.pow9] at this; exact this
            have HB := Lib.hid hz64
            clear HS2 hd0 hz64
            go_wp2_with fail
            refine (unfold_int _ (z' + d.toNat * 128 ^ 9) w ?_ (by rw [Wm.pow9]; have := HB.out; omega)).mono ?_
            · rw [← E.out]
              congr 1
              simp [IntKind.wrap, IntKind.bits, IntKind.signed]; omega
            rintro e w1 ⟨rfl, rfl⟩
            go_wp2_with fail
            go_ret3
            exact ⟨by rw [H.out]; rfl, rfl⟩
      · have h8 : k ≤ 8 := by omega
        have HS2 := Lib.hid (HS.out.trans (if_neg (fun h => h9 h.1)))
        clear HS
        have hm := mul_pow8 h8 (show d.toNat % 128 < 128 by omega)
        have hb9 : ((k : Int) == 9) = false := by simp; omega
        by_cases hd : d.toNat < 128
        · have hx : d.toNat * 128 ^ k < 18446744073709551616 := by rw [Nat.mod_eq_of_lt hd] at hm; omega
          have hzz : z' < 9223372036854775808 := Nat.lt_of_lt_of_le HZ.out (pow_le9 (by omega))
          have E := Lib.hid (or_shl k z' d.toNat HZ.out hx (by omega))
          have HB := Lib.hid (show z' + d.toNat * 128 ^ k < 18446744073709551616 by rw [Nat.mod_eq_of_lt hd] at hm; omega)
          clear hm hx hzz h9
          by_cases h0 : 0 < k
          · by_cases hd0 : d.toNat = 0
            · have H := Lib.hid (HS2.out.trans (if_pos ⟨h0, hd0⟩))
              have hb : ((d.toNat : Int) == 0) = true := by simp; omega
              clear HS2 hd0
              go_wp2_with fail
              go_ret3
              exact ⟨by rw [H.out]; rfl, rfl⟩
            · have H := Lib.hid ((HS2.out.trans (if_neg (fun h => hd0 h.2))).trans (if_pos hd))
              have hb : ((d.toNat : Int) == 0) = false := by simp; omega
              clear HS2 hd0
              go_wp2_with fail
              refine (unfold_int _ (z' + d.toNat * 128 ^ k) w E.out HB.out).mono ?_
              rintro e w1 ⟨rfl, rfl⟩
              go_wp2_with fail
              go_ret3
              exact ⟨by rw [H.out]; rfl, rfl⟩
          · have H := Lib.hid ((HS2.out.trans (if_neg (fun h => h0 h.1))).trans (if_pos hd))
            clear HS2
            go_wp2_with fail
            refine (unfold_int _ (z' + d.toNat * 128 ^ k) w E.out HB.out).mono ?_
            rintro e w1 ⟨rfl, rfl⟩
            go_wp2_with fail
            go_ret3
            exact ⟨by rw [H.out]; rfl, rfl⟩
        · have H := Lib.hid ((HS2.out.trans (if_neg (fun h => hd (by omega)))).trans (if_neg hd))
          have hx : (d.toNat - 128) * 128 ^ k < 18446744073709551616 := by
            have := mul_pow8 h8 (show d.toNat - 128 < 128 by omega)
            omega
          have hzz : z' < 9223372036854775808 := Nat.lt_of_lt_of_le HZ.out (pow_le9 (by omega))
          have E := Lib.hid (or_shl k z' (d.toNat - 128) HZ.out hx (by omega))
          have HP := Lib.hid (add_pow HZ.out (show d.toNat - 128 < 128 by omega))
          have hb : ((d.toNat : Int) == 0) = false := by simp; omega
          clear hm hx hzz h9 HS2
          by_cases h0 : 0 < k
          all_goals
            go_wp2_with fail
            refine ⟨⟨k + 1, z' + (d.toNat - 128) * 128 ^ k, by go_num, ?_, by omega, by omega, HP.out, H.out⟩, by simp [intOf]; omega⟩
            rw [← E.out, show ((d.toNat - 128 : Nat) : Int) = (d.toNat : Int) - 128 from by omega]
    · go_wp2_with fail
      go_ret3
      exact ⟨by rw [HG.out, List.drop_of_length_le (by omega)]; rfl, rfl⟩

end Go.Proofs.Ytchlomkohjjpmaa
