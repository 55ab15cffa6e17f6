/-
  Contracts of voxelref02: a message is padded.
-/
import Derived.Test.YtfaadaahpjpfaaaDoorEnca
import Derived.Test.YtfaadaahpjpfaaaDoorBased
import Derived.Test.YtfaadaahpjpfaaaDoorHse
namespace Go.Proofs.YtfaadaahpjpfaaaDoor
open Go.RowKit

def sliceLen : Value → Nat
  | .slice _ n _ => n
  | _ => 0
/-- the post of padded -/
def PadP (l : List UInt8) (w : World) (e : Ending) (w' : World) : Prop :=
  ∃ v, e = .returned v ∧ w'.ownsRow w.heap.size 5 1 v (Sha.padded l).length ((Sha.padded l).map bv) ∧ Below w.heap.size w w'

set_option maxRecDepth 1000000 in
set_option maxHeartbeats 1000000 in
theorem hrPadded_any (l : List UInt8) (A : Option Addr) (n c : Nat) (w : World) (hn : l.length = n) (hl : Lies w A (l.map bv)) (hb : n ≤ 1099511627776) :
    Calls Tryd.prog 27 #[.slice A n c] w (PadP l w) := by
  obtain ⟨i0, hi, hz0, hz1, hz2⟩ := info_parts Tryd.infoU8
  have hsrc := src_own (c := c) hn (hl.alloc (.cells #[] 5))
  have own0 : (w.alloc (.cells #[] 5)).ownsRow w.heap.size 5 1 (.slice (some ⟨w.heap.size, 0, none⟩) 0 0) 0 [] :=
    ⟨rfl, .inr ⟨w.heap.size, 0, #[], rfl, Nat.le_refl _, heap_alloc_new w _, Nat.le_refl _, by unfold maxLen; omega, rfl, rfl⟩⟩
  have HN := Lib.hid hn
  clear hn hl
  go_enter Tryd.func27, Tryd.ntmps27
  go_wp2_with (at_builtin; go_loud (refine wpList_append_onto_src (w.alloc (.cells #[] 5)) rfl _ _ 22 22 rfl w.heap.size 5 i0 (.int .u8 0) 1 1 Tryd.underlying22 hi hz0 hz1 hz2 rfl _ _ _ own0 (.slice A n c) n (l.map bv) hsrc rfl rfl ?c1 ?c2 ?c3 ?_))
  case c1 => unfold maxLen; omega
  case c2 => omega
  case c3 => simp
  intro v1 w1 own1 b1
  have B1 := Lib.hid (((Below.refl w.heap.size w).alloc (Nat.le_refl _) (.cells #[] 5)).trans b1)
  have hsz1 := B1.out.size
  clear b1 own0 hsrc
  go_wp2_with (at_builtin; go_loud (refine wpList_append_one w1 rfl _ _ 22 rfl w.heap.size 5 i0 (.int .u8 0) 1 Tryd.underlying22 hi hz0 hz1 hz2 rfl _ _ _ own1 (.int .u8 128) rfl rfl rfl ?d1 ?d2 ?d3 ?_))
  case d1 => unfold maxLen; omega
  case d2 => omega
  case d3 => exact hsz1
  intro v2 w2 own2 b2
  have e2 : l.map bv ++ [Value.int .u8 128] = (l ++ [128] ++ List.replicate 0 0).map bv := by simp [bv]
  rw [e2] at own2
  have O2 := Lib.hid own2
  have B2 := Lib.hid (B1.out.trans b2)
  clear own1 own2 b2 B1 e2
  obtain ⟨A2, c2, rfl, hnc2, _, _⟩ := own_shape O2.out
  go_wp2_with fail
  go_loopw [3] (fun v wr => ∃ (j : Nat) (A' : Option Addr) (c' : Nat), v = .slice A' (n + 1 + j) c' ∧ j ≤ Sha.zeros n ∧ wr.ownsRow w.heap.size 5 1 (.slice A' (n + 1 + j) c') (n + 1 + j) ((l ++ [128] ++ List.replicate j 0).map bv) ∧ Below w.heap.size w wr) (fun v _ => n + 1 + Sha.zeros n - sliceLen v)
  case atStart => exact ⟨0, A2, c2, rfl, by omega, O2.out, B2.out⟩
  case round =>
    obtain ⟨j, A', c', rfl, hj, hown, hb'⟩ := hrel
    have hsz := hb'.size
    have hzd : Sha.zeros n = (119 - n % 64) % 64 := rfl
    by_cases hlt : j < Sha.zeros n
    · have ht : ((((n : Int) + 1 + (j : Int)) % 64) != 56) = true := by simp; omega
      have HB := Lib.hid hb'
      have HZ := Lib.hid hzd
      generalize hX : l ++ [128] ++ List.replicate j 0 = X at hown
      have HX := Lib.hid hX
      clear hb' hzd hX
      go_wp2_with (at_builtin; go_loud (refine wpList_append_one wr rfl _ _ 22 rfl w.heap.size 5 i0 (.int .u8 0) 1 Tryd.underlying22 hi hz0 hz1 hz2 rfl _ _ _ hown (.int .u8 0) rfl rfl rfl ?f1 ?f2 ?f3 ?_))
      case f1 => have := HZ.out; unfold maxLen; omega
      case f2 => have := HZ.out; omega
      case f3 => exact hsz
      intro v3 w3 own3 b3
      have e3 : X.map bv ++ [Value.int .u8 0] = (l ++ [128] ++ List.replicate (j + 1) 0).map bv := by
        rw [List.replicate_succ', ← List.append_assoc, HX.out, List.map_append (l₂ := [0])]; rfl
      rw [e3] at own3
      obtain ⟨A3, c3, rfl, _, _, _⟩ := own_shape own3
      have HO := Lib.hid own3
      have HB3 := Lib.hid (HB.out.trans b3)
      clear own3 b3 hown e3 HZ ht
      go_wp2_with fail
      first
        | exact ⟨⟨j + 1, A3, c3, rfl, by omega, HO.out, HB3.out⟩, by simp [sliceLen]; omega⟩
        | (go_roundw
           case rel => exact ⟨j + 1, A3, c3, rfl, by omega, HO.out, HB3.out⟩
           case measure => simp [sliceLen]; omega)
    · have hj2 : j = Sha.zeros n := by omega
      have ht : ((((n : Int) + 1 + (j : Int)) % 64) != 56) = false := by simp; omega
      have htot : n + 1 + j ≤ n + 64 := by omega
      have HJ := Lib.hid hj2
      have HB := Lib.hid hb'
      clear hb' hzd hj2
      go_wp2_with fail
      go_loopw [3, 5] (fun v i wr => ∃ (k : Nat) (A' : Option Addr) (c' : Nat), i = .int .i64 (k : Int) ∧ k ≤ 8 ∧ v = .slice A' (n + 1 + j + k) c' ∧ wr.ownsRow w.heap.size 5 1 (.slice A' (n + 1 + j + k) c') (n + 1 + j + k) ((l ++ [128] ++ List.replicate j 0 ++ (Sha.len8 n).take k).map bv) ∧ Below w.heap.size w wr) (fun _ i _ => 8 - (intOf i).toNat)
      case atStart => exact ⟨0, A', c', rfl, by omega, rfl, by simpa using hown, HB.out⟩
      case round =>
        obtain ⟨k, A4, c4, rfl, hk, rfl, hown4, hb4⟩ := hrel
        have hsz4 := hb4.size
        by_cases hlt2 : k < 8
        · have HB4 := Lib.hid hb4
          have hst : (Sha.len8 n).take (k + 1) = (Sha.len8 n).take k ++ [UInt8.ofNat (8 * n / 2 ^ (56 - 8 * k))] := by
            rw [List.take_succ_eq_append_getElem (by rw [Sha.len8_len]; exact hlt2)]
            simp [Sha.len8]
          generalize hX : l ++ [128] ++ List.replicate j 0 ++ (Sha.len8 n).take k = X at hown4
          have HX := Lib.hid (show l ++ [128] ++ List.replicate j 0 ++ (Sha.len8 n).take (k + 1) = X ++ [UInt8.ofNat (8 * n / 2 ^ (56 - 8 * k))] by rw [hst, ← hX, ← List.append_assoc])
          have hu : (UInt8.ofNat (8 * n / 2 ^ (56 - 8 * k))).toNat = 8 * n / 2 ^ (56 - 8 * k) % 256 := by simp
          have HU := Lib.hid (show bv (UInt8.ofNat (8 * n / 2 ^ (56 - 8 * k))) = .int .u8 ((8 * (n : Int)) / 2 ^ (56 - 8 * k) % 256) by
            unfold bv; rw [hu]; congr 1)
          clear hb4 hX hst hu HJ
          have hki : (k : Int) < 8 := by omega
          have hs1 : (0 : Int) ≤ 56 - 8 * (k : Int) := by omega
          have hs2 : (56 - 8 * (k : Int)).toNat = 56 - 8 * k := by omega
          go_wp2_with (at_builtin; go_loud (refine wpList_append_one wr rfl _ _ 22 rfl w.heap.size 5 i0 (.int .u8 0) 1 Tryd.underlying22 hi hz0 hz1 hz2 rfl _ _ _ hown4 _ rfl rfl rfl ?g1 ?g2 ?g3 ?_))
          case g1 => unfold maxLen; omega
          case g2 => omega
          case g3 => exact hsz4
          intro v5 w5 own5 b5
          have e5 : X.map bv ++ [Value.int .u8 (8 * (n : Int) / 2 ^ (56 - 8 * k) % 256)] = (l ++ [128] ++ List.replicate j 0 ++ (Sha.len8 n).take (k + 1)).map bv := by
            rw [HX.out, List.map_append, List.map_cons, List.map_nil, HU.out]
          rw [e5] at own5
          obtain ⟨A5, c5, rfl, _, _, _⟩ := own_shape own5
          have HO := Lib.hid own5
          have HB5 := Lib.hid (HB4.out.trans b5)
          clear own5 b5 hown4 e5 hs1 hs2
          go_wp2_with fail
          first
            | exact ⟨⟨k + 1, A5, c5, by go_num, by omega, rfl, HO.out, HB5.out⟩, by simp [intOf]; omega⟩
            | (go_roundw
               case rel => exact ⟨k + 1, A5, c5, by go_num, by omega, rfl, HO.out, HB5.out⟩
               case measure => simp [intOf]; omega)
        · have hk8 : k = 8 := by omega
          subst hk8
          have e : l ++ [128] ++ List.replicate j 0 ++ (Sha.len8 n).take 8 = Sha.padded l := by
            rw [List.take_of_length_le (by rw [Sha.len8_len]; omega), Sha.padded_eq, HN.out, HJ.out]; simp
          have e2 : n + 1 + j + 8 = (Sha.padded l).length := by
            rw [← e, List.length_append, List.length_append, List.length_append, List.length_take, Sha.len8_len, HN.out]; simp
          rw [e, e2] at hown4
          have HO := Lib.hid hown4
          have HB4 := Lib.hid hb4
          have HE2 := Lib.hid e2
          clear hown4 hb4 e e2
          go_wp2_with fail
          go_ret
          exact ⟨.slice A4 (n + 1 + j + 8) c4, rfl, by rw [HE2.out]; exact HO.out, HB4.out⟩

end Go.Proofs.YtfaadaahpjpfaaaDoor
