/-
  Contracts: lists of digests are decoded.
-/
import Derived.Test.YtchlomkohjjpmaaWireh
namespace Go.Proofs.Ytchlomkohjjpmaa
open Go.RowKit

theorem dcells_snoc (l : List (List UInt8)) (d : List UInt8) : dcells (l ++ [d]) = dcells l ++ d.map bv := by unfold dcells; simp

set_option maxRecDepth 1000000 in
set_option maxHeartbeats 1000000 in
theorem getListDig_any (l : List UInt8) (A : Option Addr) (n c : Nat) (w : World) (hn : l.length = n) (hlen : n ≤ 1099511627776) (h : Lies w A (l.map bv)) (hnc : n ≤ c) :
    Calls Try.prog 49 #[.slice A n c, .int .i64 16, .func (.func 50) #[] #[]] w
      (LPost w.heap.size 57 16 (Wm.getL 16 Wm.getD l).1.length (dcells (Wm.getL 16 Wm.getD l).1) (Wm.getL 16 Wm.getD l).2.1 (Wm.getL 16 Wm.getD l).2.2 w) := by
  obtain ⟨i0, hi, hz0, hz1, hz2⟩ := info_parts Try.infoDgl
  have C := Lib.hid (getLength_any l A n c 16 w hn (by omega) h (by omega) (by omega))
  have e1 : (16 : Int).toNat = 16 := rfl
  rw [e1] at C
  clear e1
  have hlm := Wm.getLen_bd (size := 16) (l := l)
  have HG : Hid (Wm.getL 16 Wm.getD l = _) := Lib.hid (by unfold Wm.getL; rfl)
  generalize Wm.getL 16 Wm.getD l = T at HG ⊢
  generalize Wm.getLen 16 l = R at *
  obtain ⟨x, u, er⟩ := R
  simp only at hlm HG
  rw [hn] at hlm
  obtain ⟨hx0, hux⟩ := hlm
  obtain ⟨N, rfl⟩ := Int.eq_ofNat_of_zero_le hx0
  rw [Int.toNat_natCast] at HG hux
  have HL := Lib.hid h
  have HN := Lib.hid hn
  clear h hn hx0
  by_cases her : er = 0
  · subst her
    have HT := Lib.hid (HG.out.trans (if_neg (by simp)))
    clear HG
    go_enter Try.func49, Try.ntmps49
    go_wp2_with fail
    refine C.out.mono ?_
    rintro e w1 ⟨rfl, rfl⟩
    clear C
    go_wp2_with (at_make; go_loud (refine wpList_make_own w rfl _ _ 24 rfl w.heap.size 57 i0 (.agg zero16) 16 Try.underlying24 hi hz0 hz1 _ _ _ N rfl rfl rfl ?b1 ?b2 (Nat.le_refl _) ?_))
    case b1 => rw [hz2]; omega
    case b2 => unfold maxLen; omega
    intro w2 ho hg
    have hb : Below w.heap.size w w2 := (Below.refl _ _).grown hg (Nat.le_refl _) (fun k hk => by cases hk)
    clear hg
    go_wp2_with fail
    go_loopw [10, 12, 29] (fun us v i wr => ∃ (k used : Nat) (acc : List (List UInt8)), i = .int .i64 (k : Int) ∧ us = .int .i64 (used : Int) ∧ k ≤ N ∧ used + (N - k) * 16 ≤ n ∧ acc.length = k ∧ T = Wm.elems Wm.getD (N - k) acc used (l.drop used) ∧ wr.ownsRow w.heap.size 57 16 v k (dcells acc) ∧ Below w.heap.size w wr)
      (fun _ _ i _ => N - (intOf i).toNat)
    case atStart => exact ⟨0, u, [], rfl, rfl, by omega, by omega, rfl, HT.out, ho, hb⟩
    case round =>
      obtain ⟨k, used, acc, rfl, rfl, hk, hus, hacc, hT, hown, hbel⟩ := hrel
      have hsz := hbel.size
      have HA := Lib.hid hacc
      have HTT := Lib.hid hT
      clear hacc hT HT
      by_cases hlt : k < N
      · have hcu : ¬ c = used := by omega
        have hpa := part_args (u := used) (HL.out.below hbel) HN.out hnc
        rw [if_neg hcu] at hpa
        have CG := Lib.hid (getDigest_any (l.drop used) (A.map (·.add used)) (n - used) (c - used) wr (by rw [List.length_drop, HN.out]) hpa (by omega) (by omega))
        have hstep : T = Wm.elems Wm.getD (N - (k + 1)) (acc ++ [(l.drop used).take 16]) (used + 16) (l.drop (used + 16)) := by
          rw [HTT.out, show N - k = N - (k + 1) + 1 from by omega, Wm.elems, if_neg (by simp [Wm.getD])]
          simp only [Wm.getD, List.drop_drop]
        have hdl : ((l.drop used).take 16).length = 16 := by rw [List.length_take, List.length_drop, HN.out]; omega
        have HS := Lib.hid hstep
        generalize (l.drop used).take 16 = d at *
        have HD := Lib.hid hdl
        have Hi2 := Lib.hid (show (Try.prog.info? 57).map (·.size) = some (d.map bv).toArray.size by rw [Try.infoDg, List.size_toArray, List.length_map, HD.out])
        clear hstep HTT hdl hpa
        go_wp2_with fail
        refine CG.out.mono ?_
        rintro e w3 ⟨rfl, hb3⟩
        unfold dv
        have hsz3 := hb3.size
        have hd16 := HD.out
        go_wp2_with (first
          | (refine wpList_store_new w3 rfl 57 _ _ rfl _ (d.map bv).toArray rfl rfl Hi2.out ?c1 ?c2 ?_)
          | (refine wpList_load_new w3 rfl 57 _ rfl (d.map bv).toArray rfl _ _ Try.underlying57 Hi2.out ?_)
          | (at_builtin; go_loud (refine wpList_append_wide (w3.alloc (.cells (d.map bv).toArray 57)) rfl _ _ 24 rfl w.heap.size 57 i0 (.agg zero16) 16 16 Try.underlying24 hi hz0 hz1 hz2 rfl _ _ _ ((own_below hown hb3).alloc _) (d.map bv) ?c3 (bvs_one d) (w3.heap.size + 1) ?c4 _ ?c8 rfl rfl ?c5 ?c6 ?c7 ?_)))
        case c1 =>
          have e16 : (d.map bv).toArray.size = 16 := by rw [List.size_toArray, List.length_map, HD.out]
          rw [e16]; rfl
        case c2 => exact all_oneCell_toArray (bvs_one d)
        case c3 => rw [List.length_map, HD.out]
        case c4 => simp
        case c5 => unfold maxLen; omega
        case c6 => omega
        case c7 => simp; omega
        case c8 => exact (foldl_set_zip (d.map bv) 0 _ (by rw [List.length_map, HD.out]; rfl)).trans (by simp)
        intro v' w4 ho4 hb4
        go_wp2_with fail
        go_roundw
        case rel =>
          refine ⟨k + 1, used + 16, acc ++ [d], by go_num, by go_num, by omega, by omega, by simp [HA.out], HS.out, ?_, (hbel.trans (hb3.mono hsz)).trans (((Below.refl _ _).alloc (by omega) _).trans hb4)⟩
          rw [dcells_snoc]; exact ho4
        case measure => simp [intOf]; omega
      · have hkn : k = N := by omega
        subst hkn
        go_wp2
        go_ret3
        have hT : T = (acc, used, 0) := by rw [HTT.out, Nat.sub_self, Wm.elems]
        rw [hT]
        refine ⟨_, rfl, ?_, hbel⟩
        show wr.ownsRow _ _ _ _ acc.length _
        rw [HA.out]; exact hown
  · have HT := Lib.hid (HG.out.trans (if_pos her))
    have hb : (er != 0) = true := by simpa using her
    clear HG her
    go_enter Try.func49, Try.ntmps49
    go_wp2_with fail
    refine C.out.mono ?_
    rintro e w1 ⟨rfl, rfl⟩
    clear C
    go_wp2
    go_ret3
    rw [HT.out]
    exact ⟨_, rfl, World.ownsRow_nil _ _ _ _, Below.refl _ _⟩

theorem getDigests_any (l : List UInt8) (A : Option Addr) (n c : Nat) (w : World) (hn : l.length = n) (hlen : n ≤ 1099511627776) (h : Lies w A (l.map bv)) (hnc : n ≤ c) :
    Calls Try.prog 34 #[.slice A n c] w
      (LPost w.heap.size 57 16 (Wm.getL 16 Wm.getD l).1.length (dcells (Wm.getL 16 Wm.getD l).1) (Wm.getL 16 Wm.getD l).2.1 (Wm.getL 16 Wm.getD l).2.2 w) := by
  have C := Lib.hid (getListDig_any l A n c w hn hlen h hnc)
  clear hn h
  generalize Wm.getL 16 Wm.getD l = T at *
  go_enter Try.func34, Try.ntmps34
  go_wp2_with fail
  refine C.out.mono ?_
  rintro e w1 ⟨v', rfl, ho, hb⟩
  clear C
  go_wp2
  go_ret3
  exact ⟨v', rfl, ho, hb⟩

end Go.Proofs.Ytchlomkohjjpmaa
