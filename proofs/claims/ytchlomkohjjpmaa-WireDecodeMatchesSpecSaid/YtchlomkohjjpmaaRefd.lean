/-
  Contracts of the reference's decoders: a string, lists of strings.
-/
import Derived.Test.YtchlomkohjjpmaaRefc
namespace Go.Proofs.Ytchlomkohjjpmaa
open Go.RowKit

namespace Wm
theorem getS_def (l : List UInt8) : getS l = if (getI l).2.2 ≠ 0 then ([], 0, (getI l).2.2) else if (getI l).1 < 0 then ([], 0, 6)
    else if ((l.length - (getI l).2.1 : Nat) : Int) < (getI l).1 then ([], 0, 5) else ((l.drop (getI l).2.1).take (getI l).1.toNat, (getI l).2.1 + (getI l).1.toNat, 0) := by
  unfold getS getLen
  rw [Nat.div_one]
  by_cases h1 : (getI l).2.2 ≠ 0
  · rw [if_pos h1, if_pos h1, if_pos h1]
  · rw [if_neg h1, if_neg h1]
    by_cases h2 : (getI l).1 < 0
    · rw [if_pos h2, if_pos h2, if_pos (by decide)]
    · rw [if_neg h2, if_neg h2]
      by_cases h3 : ((l.length - (getI l).2.1 : Nat) : Int) < (getI l).1
      · rw [if_pos h3, if_pos h3, if_pos (by decide)]
      · rw [if_neg h3, if_neg h3, if_neg (by simp)]
end Wm

set_option maxRecDepth 1000000 in
set_option maxHeartbeats 400000 in
theorem refGetBytes_any (l : List UInt8) (A : Option Addr) (n c : Nat) (w : World) (hn : l.length = n) (hlen : n ≤ 140737488355328) (h : Lies w A (l.map bv)) (hnc : n ≤ c) :
    Calls Try.prog 27 #[.slice A n c] w (StrPost (Wm.getS l) w) := by
  have C := Lib.hid (refGetInt_any l A n c w hn hlen h)
  obtain ⟨hI1, hI2⟩ := @Wm.getI_used l
  obtain ⟨hB1, hB2⟩ := @Wm.getI_bd l
  have HG : Hid (Wm.getS l = _) := Lib.hid (Wm.getS_def l)
  generalize Wm.getS l = T at HG ⊢
  rw [hn] at hI1 HG
  generalize Wm.getI l = R at *
  obtain ⟨x, u, er⟩ := R
  simp only at hI1 hI2 hB1 hB2 HG
  have HL := Lib.hid h
  have HN := Lib.hid hn
  clear h hn
  go_enter Try.func27, Try.ntmps27
  go_wp2_with fail
  refine C.out.mono ?_
  rintro e w1 ⟨rfl, rfl⟩
  clear C
  by_cases h1 : er = 0
  · subst h1
    have HG2 := Lib.hid (HG.out.trans (if_neg (by simp)))
    clear HG
    by_cases h2 : x < 0
    · have G := Lib.hid (HG2.out.trans (if_pos h2))
      clear HG2
      go_wp2_with fail
      go_ret3
      exact ⟨by rw [G.out]; rfl, rfl⟩
    · have HG3 := Lib.hid (HG2.out.trans (if_neg h2))
      clear HG2
      obtain ⟨N, rfl⟩ := Int.eq_ofNat_of_zero_le (show 0 ≤ x by omega)
      rw [Int.toNat_natCast] at HG3
      by_cases h3 : n - u < N
      · have G := Lib.hid (HG3.out.trans (if_pos (show ((n - u : Nat) : Int) < (N : Int) by omega)))
        clear HG3
        go_wp2_with fail
        go_ret3
        exact ⟨by rw [G.out]; rfl, rfl⟩
      · have G := Lib.hid (HG3.out.trans (if_neg (show ¬ ((n - u : Nat) : Int) < (N : Int) by omega)))
        clear HG3
        go_wp2_with (refine wpList_convert_str w rfl _ 28 9 5 rfl Try.underlying28 Try.underlying5 Try.underlying9 _ _ _ rfl ((l.drop u).take N) ?c1 ?c2 ?c3 ?_)
        · rw [List.length_take, List.length_drop, HN.out]; omega
        · intro hA
          have h0 := HL.out.none_ hA
          have h1 := HN.out
          subst h0
          simp at h1; omega
        · intro hA
          have h0 := HL.out.none_ hA
          have h1 := HN.out
          subst h0
          simp at h1; omega
        · have h0 : N = 0 := by omega
          rw [h0]; exact Lies.nil w A
        · have h1 : ¬ c = u := by assumption
          have h2 := HL.out.part (lo := u) (hi := u + N) (mx := c) (by omega)
          rw [if_neg h1, List.drop_take, show u + N - u = N from by omega] at h2
          exact h2
        all_goals
          go_ret3
          exact ⟨by rw [G.out]; rfl, rfl⟩
  · have G := Lib.hid (HG.out.trans (if_pos h1))
    have hb : (er != 0) = true := by simpa using h1
    clear HG
    go_wp2_with fail
    go_ret3
    exact ⟨by rw [G.out]; rfl, rfl⟩

set_option maxRecDepth 1000000 in
set_option maxHeartbeats 400000 in
theorem refGetStrings_any (l : List UInt8) (A : Option Addr) (n c : Nat) (w : World) (hn : l.length = n) (hlen : n ≤ 1099511627776) (h : Lies w A (l.map bv)) (hnc : n ≤ c) :
    Calls Try.prog 32 #[.slice A n c] w
      (LPost w.heap.size 9 1 (Wm.getL 1 Wm.getS l).1.length ((Wm.getL 1 Wm.getS l).1.map sv) (Wm.getL 1 Wm.getS l).2.1 (Wm.getL 1 Wm.getS l).2.2 w) := by
  obtain ⟨i0, hi, hz0, hz1, hz2⟩ := info_parts Try.infoStr
  have C := Lib.hid (refLength_any l A n c 1 w hn (by omega) h (by omega) (by omega))
  have e1 : (1 : Int).toNat = 1 := rfl
  rw [e1] at C
  clear e1
  have hlm := Wm.getLen_bd (size := 1) (l := l)
  have HG : Hid (Wm.getL 1 Wm.getS l = _) := Lib.hid (by unfold Wm.getL; rfl)
  generalize Wm.getL 1 Wm.getS l = T at HG ⊢
  generalize Wm.getLen 1 l = R at *
  obtain ⟨x, u, er⟩ := R
  simp only at hlm HG
  rw [hn] at hlm
  obtain ⟨hx0, hux⟩ := hlm
  obtain ⟨N, rfl⟩ := Int.eq_ofNat_of_zero_le hx0
  rw [Int.toNat_natCast] at HG hux
  have HL := Lib.hid h
  have HN := Lib.hid hn
  clear h hn hx0
  by_cases her : er = 0
  · subst her
    have HT := Lib.hid (HG.out.trans (if_neg (by simp)))
    clear HG
    go_enter Try.func32, Try.ntmps32
    go_wp2_with fail
    refine C.out.mono ?_
    rintro e w1 ⟨rfl, rfl⟩
    clear C
    go_wp2_with fail
    go_loopw [6, 8, 9] (fun us v i wr => ∃ (k used : Nat) (acc : List (List UInt8)), i = .int .i64 (k : Int) ∧ us = .int .i64 (used : Int) ∧ k ≤ N ∧ used ≤ n ∧ acc.length = k ∧ T = Wm.elems Wm.getS (N - k) acc used (l.drop used) ∧ wr.ownsRow w.heap.size 9 1 v k (acc.map sv) ∧ Below w.heap.size w wr)
      (fun _ _ i _ => N - (intOf i).toNat)
    case atStart => exact ⟨0, u, [], rfl, rfl, by omega, by omega, rfl, HT.out, World.ownsRow_nil _ _ _ _, Below.refl _ _⟩
    case round =>
      obtain ⟨k, used, acc, rfl, rfl, hk, hus, hacc, hT, hown, hbel⟩ := hrel
      have hsz := hbel.size
      have HA := Lib.hid hacc
      have HTT := Lib.hid hT
      clear hacc hT HT
      by_cases hlt : k < N
      · have CG := refGetBytes_any (l.drop used) (if c = used then A else A.map (·.add used)) (n - used) (c - used) wr (by rw [List.length_drop, HN.out]) (by omega) (part_args (HL.out.below hbel) HN.out hnc) (by omega)
        have hub := Wm.getS_used (l.drop used)
        rw [List.length_drop, HN.out] at hub
        have hstep : T = if (Wm.getS (l.drop used)).2.2 ≠ 0 then ([], 0, (Wm.getS (l.drop used)).2.2) else Wm.elems Wm.getS (N - (k + 1)) (acc ++ [(Wm.getS (l.drop used)).1]) (used + (Wm.getS (l.drop used)).2.1) (l.drop (used + (Wm.getS (l.drop used)).2.1)) := by
          rw [HTT.out, show N - k = N - (k + 1) + 1 from by omega, Wm.elems, List.drop_drop]
        have HS := Lib.hid hstep
        have HC := Lib.hid CG
        have hne : (Wm.getS (l.drop used)).2.2 = 0 → ¬ c = used := by
          intro h0 h1
          rw [List.drop_of_length_le (by rw [HN.out]; omega)] at h0
          exact absurd h0 (by decide)
        clear CG hstep HTT
        generalize Wm.getS (l.drop used) = G at *
        obtain ⟨y, m, er⟩ := G
        simp only at hub HS hne
        by_cases her : er = 0
        · subst her
          have HR := Lib.hid (HS.out.trans (if_neg (by simp)))
          have hcu := hne rfl
          have HC2 := HC.out
          rw [if_neg hcu] at HC2
          have HC3 := Lib.hid HC2
          clear HS hne HC HC2
          go_wp2_with (first
            | (go_at_call 27; refine HC3.out.mono ?_; rintro e w3 ⟨rfl, rfl⟩)
            | (at_builtin; refine wpList_append_one wr rfl _ _ 23 rfl w.heap.size 9 i0 (.string ⟨#[]⟩) 16 Try.underlying23 hi hz0 hz1 hz2 rfl _ _ _ hown (.string (bstr y)) rfl rfl rfl ?c1 ?c2 ?c3 ?_))
          case c1 => unfold maxLen; omega
          case c2 => omega
          case c3 => exact hsz
          intro v' w3 ho3 hb3
          go_wp2_with fail
          go_roundw
          case rel =>
            refine ⟨k + 1, used + m, acc ++ [y], by go_num, by go_num, by omega, by omega, by simp [HA.out], HR.out, ?_, hbel.trans hb3⟩
            rw [List.map_append]; exact ho3
          case measure => simp [intOf]; omega
        · have HR := Lib.hid (HS.out.trans (if_pos her))
          have hb : (er != 0) = true := by simpa using her
          clear HS her hne
          go_wp2_with (go_at_call 27; refine HC.out.mono ?_; rintro e w3 ⟨rfl, rfl⟩)
          all_goals
            go_ret3
            rw [HR.out]
            exact ⟨_, rfl, World.ownsRow_nil _ _ _ _, hbel⟩
      · have hkn : k = N := by omega
        subst hkn
        go_wp2
        go_ret3
        have hT : T = (acc, used, 0) := by rw [HTT.out, Nat.sub_self, Wm.elems]
        rw [hT]
        refine ⟨_, rfl, ?_, hbel⟩
        show wr.ownsRow _ _ _ _ acc.length _
        rw [HA.out]; exact hown
  · have HT := Lib.hid (HG.out.trans (if_pos her))
    have hb : (er != 0) = true := by simpa using her
    clear HG her
    go_enter Try.func32, Try.ntmps32
    go_wp2_with fail
    refine C.out.mono ?_
    rintro e w1 ⟨rfl, rfl⟩
    clear C
    go_wp2
    go_ret3
    rw [HT.out]
    exact ⟨_, rfl, World.ownsRow_nil _ _ _ _, Below.refl _ _⟩


end Go.Proofs.Ytchlomkohjjpmaa
