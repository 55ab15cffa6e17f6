/-
  Contracts of the reference's decoders: a length, a string, lists of integers and strings.
-/
import Derived.Test.YtchlomkohjjpmaaRefb
namespace Go.Proofs.Ytchlomkohjjpmaa
open Go.RowKit

theorem refGetInt_any (l : List UInt8) (A : Option Addr) (n c : Nat) (w : World) (hn : l.length = n) (hlen : n ≤ 140737488355328) (h : Lies w A (l.map bv)) :
    Calls Try.prog 25 #[.slice A n c] w (IntPost (Wm.getI l) w) := by
  subst hn
  by_cases hl : l = []
  · subst hl; exact refGetInt_nil A c w
  · obtain ⟨b, o, rfl, _⟩ := h.at_ (by simpa using hl)
    exact refGetInt_some l b o c w hlen h.cells8

set_option maxRecDepth 1000000 in
set_option maxHeartbeats 400000 in
theorem refLength_any (l : List UInt8) (A : Option Addr) (n c : Nat) (size : Int) (w : World) (hn : l.length = n) (hlen : n ≤ 140737488355328) (h : Lies w A (l.map bv)) (hs : 1 ≤ size) (hs2 : size ≤ 1000) :
    Calls Try.prog 47 #[.slice A n c, .int .i64 size] w (IntPost (Wm.getLen size.toNat l) w) := by
  have C := Lib.hid (refGetInt_any l A n c w hn hlen h)
  obtain ⟨hI1, hI2⟩ := @Wm.getI_used l
  obtain ⟨hB1, hB2⟩ := @Wm.getI_bd l
  have HG : Hid (Wm.getLen size.toNat l = _) := Lib.hid (by unfold Wm.getLen; rfl)
  generalize Wm.getLen size.toNat l = T at HG ⊢
  rw [hn] at hI1 HG
  generalize Wm.getI l = R at *
  obtain ⟨x, u, er⟩ := R
  clear h hn
  simp only at hI1 hI2 hB1 hB2 HG
  go_enter Try.func47, Try.ntmps47
  go_wp2_with fail
  refine C.out.mono ?_
  rintro e w1 ⟨rfl, rfl⟩
  clear C
  go_wp2_with fail
  · have h1 : (er != 0) = true := by assumption
    go_ret3
    exact ⟨by rw [HG.out, if_pos (by simpa using h1)]; rfl, rfl⟩
  · have h1 : (er != 0) = false := by assumption
    have h2 : x < 0 := by assumption
    go_ret3
    exact ⟨by rw [HG.out, if_neg (by simpa using h1), if_pos h2]; rfl, rfl⟩
  · have h1 : (er != 0) = false := by assumption
    have h2 : 0 ≤ x := by assumption
    have h3 : ((n : Int) - (u : Int)) / size < x := by assumption
    have h4 : (((n - u) / size.toNat : Nat) : Int) < x := by
      rw [Int.natCast_ediv, Int.toNat_of_nonneg (by omega), Int.natCast_sub hI1]; exact h3
    go_ret3
    exact ⟨by rw [HG.out, if_neg (by simpa using h1), if_neg (by omega), if_pos h4]; rfl, rfl⟩
  · have h1 : (er != 0) = false := by assumption
    have h2 : 0 ≤ x := by assumption
    have h3 : x ≤ ((n : Int) - (u : Int)) / size := by assumption
    have h4 : ¬ (((n - u) / size.toNat : Nat) : Int) < x := by
      rw [Int.natCast_ediv, Int.toNat_of_nonneg (by omega), Int.natCast_sub hI1]; omega
    go_ret3
    exact ⟨by rw [HG.out, if_neg (by simpa using h1), if_neg (by omega), if_neg h4]; rfl, rfl⟩

set_option maxRecDepth 1000000 in
set_option maxHeartbeats 400000 in
theorem refGetInts_any (l : List UInt8) (A : Option Addr) (n c : Nat) (w : World) (hn : l.length = n) (hlen : n ≤ 1099511627776) (h : Lies w A (l.map bv)) (hnc : n ≤ c) :
    Calls Try.prog 29 #[.slice A n c] w
      (LPost w.heap.size 3 1 (Wm.getL 1 Wm.getI l).1.length ((Wm.getL 1 Wm.getI l).1.map iv) (Wm.getL 1 Wm.getI l).2.1 (Wm.getL 1 Wm.getI l).2.2 w) := by
  obtain ⟨i0, hi, hz0, hz1, hz2⟩ := info_parts Try.infoInt
  have C := Lib.hid (refLength_any l A n c 1 w hn (by omega) h (by omega) (by omega))
  have e1 : (1 : Int).toNat = 1 := rfl
  rw [e1] at C
  clear e1
  have hlm := Wm.getLen_bd (size := 1) (l := l)
  have HG : Hid (Wm.getL 1 Wm.getI l = _) := Lib.hid (by unfold Wm.getL; rfl)
  generalize Wm.getL 1 Wm.getI l = T at HG ⊢
  generalize Wm.getLen 1 l = R at *
  obtain ⟨x, u, er⟩ := R
  simp only at hlm HG
  rw [hn] at hlm
  obtain ⟨hx0, hux⟩ := hlm
  obtain ⟨N, rfl⟩ := Int.eq_ofNat_of_zero_le hx0
  rw [Int.toNat_natCast] at HG hux
  have HL := Lib.hid h
  have HN := Lib.hid hn
  clear h hn hx0
  by_cases her : er = 0
  · subst her
    have HT := Lib.hid (HG.out.trans (if_neg (by simp)))
    clear HG
    go_enter Try.func29, Try.ntmps29
    go_wp2_with fail
    refine C.out.mono ?_
    rintro e w1 ⟨rfl, rfl⟩
    clear C
    go_wp2_with fail
    go_loopw [6, 8, 9] (fun us v i wr => ∃ (k used : Nat) (acc : List Int), i = .int .i64 (k : Int) ∧ us = .int .i64 (used : Int) ∧ k ≤ N ∧ used ≤ n ∧ acc.length = k ∧ T = Wm.elems Wm.getI (N - k) acc used (l.drop used) ∧ wr.ownsRow w.heap.size 3 1 v k (acc.map iv) ∧ Below w.heap.size w wr)
      (fun _ _ i _ => N - (intOf i).toNat)
    case atStart => exact ⟨0, u, [], rfl, rfl, by omega, by omega, rfl, HT.out, World.ownsRow_nil _ _ _ _, Below.refl _ _⟩
    case round =>
      obtain ⟨k, used, acc, rfl, rfl, hk, hus, hacc, hT, hown, hbel⟩ := hrel
      have hsz := hbel.size
      have HA := Lib.hid hacc
      have HTT := Lib.hid hT
      clear hacc hT HT
      by_cases hlt : k < N
      · have CG := refGetInt_any (l.drop used) (if c = used then A else A.map (·.add used)) (n - used) (c - used) wr (by rw [List.length_drop, HN.out]) (by omega) (part_args (HL.out.below hbel) HN.out hnc)
        have hub := (@Wm.getI_used (l.drop used)).1
        rw [List.length_drop, HN.out] at hub
        have hstep : T = if (Wm.getI (l.drop used)).2.2 ≠ 0 then ([], 0, (Wm.getI (l.drop used)).2.2) else Wm.elems Wm.getI (N - (k + 1)) (acc ++ [(Wm.getI (l.drop used)).1]) (used + (Wm.getI (l.drop used)).2.1) (l.drop (used + (Wm.getI (l.drop used)).2.1)) := by
          rw [HTT.out, show N - k = N - (k + 1) + 1 from by omega, Wm.elems, List.drop_drop]
        have HS := Lib.hid hstep
        have HC := Lib.hid CG
        have hne : (Wm.getI (l.drop used)).2.2 = 0 → ¬ c = used := by
          intro h0 h1
          rw [List.drop_of_length_le (by rw [HN.out]; omega)] at h0
          exact absurd h0 (by decide)
        clear CG hstep HTT
        generalize Wm.getI (l.drop used) = G at *
        obtain ⟨y, m, er⟩ := G
        simp only at hub HS hne
        by_cases her : er = 0
        · subst her
          have HR := Lib.hid (HS.out.trans (if_neg (by simp)))
          have hcu := hne rfl
          have HC2 := HC.out
          rw [if_neg hcu] at HC2
          have HC3 := Lib.hid HC2
          clear HS hne HC HC2
          go_wp2_with (first
            | (go_at_call 25; refine HC3.out.mono ?_; rintro e w3 ⟨rfl, rfl⟩)
            | (at_builtin; refine wpList_append_one wr rfl _ _ 22 rfl w.heap.size 3 i0 (.int .i64 0) 8 Try.underlying22 hi hz0 hz1 hz2 rfl _ _ _ hown (.int .i64 y) rfl rfl rfl ?c1 ?c2 ?c3 ?_))
          case c1 => unfold maxLen; omega
          case c2 => omega
          case c3 => exact hsz
          intro v' w3 ho3 hb3
          go_wp2_with fail
          go_roundw
          case rel =>
            refine ⟨k + 1, used + m, acc ++ [y], by go_num, by go_num, by omega, by omega, by simp [HA.out], HR.out, ?_, hbel.trans hb3⟩
            rw [List.map_append]; exact ho3
          case measure => simp [intOf]; omega
        · have HR := Lib.hid (HS.out.trans (if_pos her))
          have hb : (er != 0) = true := by simpa using her
          clear HS her hne
          go_wp2_with (go_at_call 25; refine HC.out.mono ?_; rintro e w3 ⟨rfl, rfl⟩)
          all_goals
            go_ret3
            rw [HR.out]
            exact ⟨_, rfl, World.ownsRow_nil _ _ _ _, hbel⟩
      · have hkn : k = N := by omega
        subst hkn
        go_wp2
        go_ret3
        have hT : T = (acc, used, 0) := by rw [HTT.out, Nat.sub_self, Wm.elems]
        rw [hT]
        refine ⟨_, rfl, ?_, hbel⟩
        show wr.ownsRow _ _ _ _ acc.length _
        rw [HA.out]; exact hown
  · have HT := Lib.hid (HG.out.trans (if_pos her))
    have hb : (er != 0) = true := by simpa using her
    clear HG her
    go_enter Try.func29, Try.ntmps29
    go_wp2_with fail
    refine C.out.mono ?_
    rintro e w1 ⟨rfl, rfl⟩
    clear C
    go_wp2
    go_ret3
    rw [HT.out]
    exact ⟨_, rfl, World.ownsRow_nil _ _ _ _, Below.refl _ _⟩


end Go.Proofs.Ytchlomkohjjpmaa
