/-
  Contracts of the reference's decoders: lists of digests.
-/
import Derived.Test.YtchlomkohjjpmaaRefd
namespace Go.Proofs.Ytchlomkohjjpmaa
open Go.RowKit

/-- the first k bytes of a digest, and zeros -/
def part (d : List UInt8) (k : Nat) : Array Value := ((d.take k).map bv ++ List.replicate (16 - k) (Value.int .u8 0)).toArray
theorem part_size (d : List UInt8) (k : Nat) (hd : d.length = 16) (hk : k ≤ 16) : (part d k).size = 16 := by
  unfold part
  rw [List.size_toArray, List.length_append, List.length_map, List.length_take, List.length_replicate]; omega
theorem part_step (d : List UInt8) (k : Nat) (hd : d.length = 16) (hk : k < 16) : (part d k).setIfInBounds k (.int .u8 ((d.getD k 0).toNat : Int)) = part d (k + 1) := by
  unfold part
  have h1 : (List.map bv (d.take k)).length = k := by rw [List.length_map, List.length_take]; omega
  rw [List.setIfInBounds_toArray, List.set_append_right _ _ (by omega), h1, Nat.sub_self, show 16 - k = (16 - (k + 1)) + 1 from by omega, List.replicate_succ, List.set_cons_zero,
    List.take_succ_eq_append_getElem (by omega), List.map_append, List.append_assoc]
  congr 2
  rw [List.getD_eq_getElem?_getD, List.getElem?_eq_getElem (by omega)]
  rfl
theorem part_all (d : List UInt8) (hd : d.length = 16) : part d 16 = (d.map bv).toArray := by
  unfold part
  rw [List.take_of_length_le (by omega), Nat.sub_self]; simp

set_option maxRecDepth 1000000 in
set_option maxHeartbeats 1000000 in
theorem refGetDigests_any (l : List UInt8) (A : Option Addr) (n c : Nat) (w : World) (hn : l.length = n) (hlen : n ≤ 1099511627776) (h : Lies w A (l.map bv)) (hnc : n ≤ c) :
    Calls Try.prog 35 #[.slice A n c] w
      (LPost w.heap.size 57 16 (Wm.getL 16 Wm.getD l).1.length (dcells (Wm.getL 16 Wm.getD l).1) (Wm.getL 16 Wm.getD l).2.1 (Wm.getL 16 Wm.getD l).2.2 w) := by
  obtain ⟨i0, hi, hz0, hz1, hz2⟩ := info_parts Try.infoDgl
  have C := Lib.hid (refLength_any l A n c 16 w hn (by omega) h (by omega) (by omega))
  have e1 : (16 : Int).toNat = 16 := rfl
  rw [e1] at C
  clear e1
  have hlm := Wm.getLen_bd (size := 16) (l := l)
  have HG : Hid (Wm.getL 16 Wm.getD l = _) := Lib.hid (by unfold Wm.getL; rfl)
  generalize Wm.getL 16 Wm.getD l = T at HG ⊢
  generalize Wm.getLen 16 l = R at *
  obtain ⟨x, u, er⟩ := R
  simp only at hlm HG
  rw [hn] at hlm
  obtain ⟨hx0, hux⟩ := hlm
  obtain ⟨N, rfl⟩ := Int.eq_ofNat_of_zero_le hx0
  rw [Int.toNat_natCast] at HG hux
  have HL := Lib.hid h
  have HN := Lib.hid hn
  clear h hn hx0
  by_cases her : er = 0
  · subst her
    have HT := Lib.hid (HG.out.trans (if_neg (by simp)))
    clear HG
    go_enter Try.func35, Try.ntmps35
    go_wp2_with fail
    refine C.out.mono ?_
    rintro e w1 ⟨rfl, rfl⟩
    clear C
    go_wp2_with fail
    go_loopw [6, 8, 9] (fun us v i wr => ∃ (k used : Nat) (acc : List (List UInt8)), i = .int .i64 (k : Int) ∧ us = .int .i64 (used : Int) ∧ k ≤ N ∧ used + (N - k) * 16 ≤ n ∧ acc.length = k ∧ T = Wm.elems Wm.getD (N - k) acc used (l.drop used) ∧ wr.ownsRow w.heap.size 57 16 v k (dcells acc) ∧ Below w.heap.size w wr)
      (fun _ _ i _ => N - (intOf i).toNat)
    case atStart => exact ⟨0, u, [], rfl, rfl, by omega, by omega, rfl, HT.out, World.ownsRow_nil _ _ _ _, Below.refl _ _⟩
    case round =>
      obtain ⟨k, used, acc, rfl, rfl, hk, hus, hacc, hT, hown, hbel⟩ := hrel
      have hsz := hbel.size
      have HA := Lib.hid hacc
      have HTT := Lib.hid hT
      clear hacc hT HT
      by_cases hlt : k < N
      · have hcu : ¬ c = used := by omega
        have hpa := part_args (u := used) (HL.out.below hbel) HN.out hnc
        rw [if_neg hcu] at hpa
        have hstep : T = Wm.elems Wm.getD (N - (k + 1)) (acc ++ [(l.drop used).take 16]) (used + 16) (l.drop (used + 16)) := by
          rw [HTT.out, show N - k = N - (k + 1) + 1 from by omega, Wm.elems, if_neg (by simp [Wm.getD])]
          simp only [Wm.getD, List.drop_drop]
        have hpa2 : ∀ b o, A = some ⟨b, o, none⟩ → ∀ i, i < 16 → ∀ ob, (wr.alloc ob).cell? ⟨b, o + (used + i), none⟩ = some (.int .u8 ((((l.drop used).take 16).getD i 0).toNat : Int)) := by
          intro b o hA i hi ob
          subst hA
          have h1 := (((HL.out.below hbel).drop used).take 16).alloc ob
          rw [← List.map_drop, ← List.map_take] at h1
          have h2 := h1.cells8 i (by rw [List.length_take, List.length_drop, HN.out]; omega)
          rwa [Nat.add_assoc] at h2
        have hdl : ((l.drop used).take 16).length = 16 := by rw [List.length_take, List.length_drop, HN.out]; omega
        have HS := Lib.hid hstep
        generalize (l.drop used).take 16 = d at *
        have HD := Lib.hid hdl
        have Hi2 := Lib.hid (show (Try.prog.info? 57).map (·.size) = some (d.map bv).toArray.size by rw [Try.infoDg, List.size_toArray, List.length_map, HD.out])
        obtain ⟨b, o, hA, _⟩ := HL.out.at_ (by
          have : 0 < (l.map bv).length := by rw [List.length_map, HN.out]; omega
          exact List.ne_nil_of_length_pos this)
        have hcells := fun i hi => (hpa2 b o hA i hi)
        have HC := Lib.hid hcells
        subst hA
        have hd16 := HD.out
        clear hstep HTT hdl hpa hcells hpa2
        go_wp2_with fail
        go_loopw [11] (fun i wr2 => ∃ k' : Nat, i = .int .i64 (k' : Int) ∧ k' ≤ 16 ∧ wr2 = wr.alloc (.cells (part d k') 57)) (fun i _ => 16 - (intOf i).toNat)
        case atStart => exact ⟨0, rfl, by omega, rfl⟩
        case round =>
          obtain ⟨i, rfl, hi16, rfl⟩ := hrel
          by_cases hlt2 : i < 16
          · have hcx := HC.out i hlt2 (.cells (part d i) 57)
            have hps := part_step d i (by omega) hlt2
            have hsz2 := part_size d i (by omega) hi16
            generalize hx : ((d.getD i 0).toNat) = x at hcx hps
            have hlti : (i : Int) < 16 := by omega
            have hui : (used : Int) + (i : Int) < (n : Int) := by omega
            go_wp2_with fail
            go_roundw
            case rel => exact ⟨i + 1, by go_num, by omega, by rw [← hps]⟩
            case measure => simp [intOf]; omega
          · have hie : i = 16 := by omega
            subst hie
            have hpall := part_all d HD.out
            rw [hpall]
            go_wp2_with (first
              | (refine wpList_load_new wr rfl 57 _ rfl (d.map bv).toArray rfl _ _ Try.underlying57 Hi2.out ?_)
              | (at_builtin; go_loud (refine wpList_append_wide (wr.alloc (.cells (d.map bv).toArray 57)) rfl _ _ 24 rfl w.heap.size 57 i0 (.agg zero16) 16 16 Try.underlying24 hi hz0 hz1 hz2 rfl _ _ _ (hown.alloc _) (d.map bv) ?c3 (bvs_one d) (wr.heap.size + 1) ?c4 _ ?c8 rfl rfl ?c5 ?c6 ?c7 ?_)))
            case c3 => rw [List.length_map, HD.out]
            case c4 => simp
            case c5 => unfold maxLen; omega
            case c6 => omega
            case c7 => simp; omega
            case c8 => exact (foldl_set_zip (d.map bv) 0 _ (by rw [List.length_map, HD.out]; rfl)).trans (by simp)
            intro v' w4 ho4 hb4
            go_wp2_with fail
            go_roundw
            case rel =>
              refine ⟨k + 1, used + 16, acc ++ [d], by go_num, by go_num, by omega, by omega, by simp [HA.out], HS.out, ?_, hbel.trans (((Below.refl _ _).alloc (by omega) _).trans hb4)⟩
              rw [dcells_snoc]; exact ho4
            case measure => simp [intOf]; omega
      · have hkn : k = N := by omega
        subst hkn
        go_wp2
        go_ret3
        have hT : T = (acc, used, 0) := by rw [HTT.out, Nat.sub_self, Wm.elems]
        rw [hT]
        refine ⟨_, rfl, ?_, hbel⟩
        show wr.ownsRow _ _ _ _ acc.length _
        rw [HA.out]; exact hown
  · have HT := Lib.hid (HG.out.trans (if_pos her))
    have hb : (er != 0) = true := by simpa using her
    clear HG her
    go_enter Try.func35, Try.ntmps35
    go_wp2_with fail
    refine C.out.mono ?_
    rintro e w1 ⟨rfl, rfl⟩
    clear C
    go_wp2
    go_ret3
    rw [HT.out]
    exact ⟨_, rfl, World.ownsRow_nil _ _ _ _, Below.refl _ _⟩


end Go.Proofs.Ytchlomkohjjpmaa
