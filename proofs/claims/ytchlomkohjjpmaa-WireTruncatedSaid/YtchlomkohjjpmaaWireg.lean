/-
  Contracts: lists of integers and strings are decoded.
-/
import Derived.Test.YtchlomkohjjpmaaWiref
import Derived.Test.YtchlomkohjjpmaaMathb
namespace Go.Proofs.Ytchlomkohjjpmaa
open Go.RowKit

theorem Try.infoInt : (Try.prog.info? 3).map (fun i => (i.zero, i.size, i.bytes)) = some (some (.int .i64 0), 1, 8) := by kernel_rfl
theorem Try.infoStr : (Try.prog.info? 9).map (fun i => (i.zero, i.size, i.bytes)) = some (some (.string ⟨#[]⟩), 1, 16) := by kernel_rfl

/-- the post of a decoder of lists: a slice of the call's own, the bytes used, the error -/
def LPost (B : Nat) (ty : TypeId) (size n : Nat) (xs : List Value) (u : Nat) (er : Int) (w : World) (e : Ending) (w' : World) : Prop :=
  ∃ v, e = .returned (.tuple #[v, .int .i64 (u : Int), .int .i64 er]) ∧ w'.ownsRow B ty size v n xs ∧ Below B w w'

theorem part_args {w : World} {A : Option Addr} {l : List UInt8} (h : Lies w A (l.map bv)) {u n c : Nat} (hn : l.length = n) (hnc : n ≤ c) :
    Lies w (if c = u then A else A.map (·.add u)) ((l.drop u).map bv) := by
  have h2 := h.part (lo := u) (hi := n) (mx := c) hnc
  rw [List.take_of_length_le (by rw [List.length_map, hn]; exact Nat.le_refl _), ← List.map_drop] at h2
  exact h2

set_option maxRecDepth 1000000 in
set_option maxHeartbeats 400000 in
theorem getListInt_any (l : List UInt8) (A : Option Addr) (n c : Nat) (w : World) (hn : l.length = n) (hlen : n ≤ 1099511627776) (h : Lies w A (l.map bv)) (hnc : n ≤ c) :
    Calls Try.prog 46 #[.slice A n c, .int .i64 1, .func (.func 24) #[] #[]] w
      (LPost w.heap.size 3 1 (Wm.getL 1 Wm.getI l).1.length ((Wm.getL 1 Wm.getI l).1.map iv) (Wm.getL 1 Wm.getI l).2.1 (Wm.getL 1 Wm.getI l).2.2 w) := by
  obtain ⟨i0, hi, hz0, hz1, hz2⟩ := info_parts Try.infoInt
  have C := Lib.hid (getLength_any l A n c 1 w hn (by omega) h (by omega) (by omega))
  have e1 : (1 : Int).toNat = 1 := rfl
  rw [e1] at C
  clear e1
  have hlm := Wm.getLen_bd (size := 1) (l := l)
  have HG : Hid (Wm.getL 1 Wm.getI l = _) := Lib.hid (by unfold Wm.getL; rfl)
  generalize Wm.getL 1 Wm.getI l = T at HG ⊢
  generalize Wm.getLen 1 l = R at *
  obtain ⟨x, u, er⟩ := R
  simp only at hlm HG
  rw [hn] at hlm
  obtain ⟨hx0, hux⟩ := hlm
  obtain ⟨N, rfl⟩ := Int.eq_ofNat_of_zero_le hx0
  rw [Int.toNat_natCast] at HG hux
  have HL := Lib.hid h
  have HN := Lib.hid hn
  clear h hn hx0
  by_cases her : er = 0
  · subst her
    have HT := Lib.hid (HG.out.trans (if_neg (by simp)))
    clear HG
    go_enter Try.func46, Try.ntmps46
    go_wp2_with fail
    refine C.out.mono ?_
    rintro e w1 ⟨rfl, rfl⟩
    clear C
    go_wp2_with (at_make; go_loud (refine wpList_make_own w rfl _ _ 22 rfl w.heap.size 3 i0 (.int .i64 0) 1 Try.underlying22 hi hz0 hz1 _ _ _ N rfl rfl rfl ?b1 ?b2 (Nat.le_refl _) ?_))
    case b1 => rw [hz2]; omega
    case b2 => unfold maxLen; omega
    intro w2 ho hg
    have hb : Below w.heap.size w w2 := (Below.refl _ _).grown hg (Nat.le_refl _) (fun k hk => by cases hk)
    clear hg
    go_wp2_with fail
    go_loopw [10, 12, 29] (fun us v i wr => ∃ (k used : Nat) (acc : List Int), i = .int .i64 (k : Int) ∧ us = .int .i64 (used : Int) ∧ k ≤ N ∧ used ≤ n ∧ acc.length = k ∧ T = Wm.elems Wm.getI (N - k) acc used (l.drop used) ∧ wr.ownsRow w.heap.size 3 1 v k (acc.map iv) ∧ Below w.heap.size w wr)
      (fun _ _ i _ => N - (intOf i).toNat)
    case atStart => exact ⟨0, u, [], rfl, rfl, by omega, by omega, rfl, HT.out, ho, hb⟩
    case round =>
      obtain ⟨k, used, acc, rfl, rfl, hk, hus, hacc, hT, hown, hbel⟩ := hrel
      have hsz := hbel.size
      have HA := Lib.hid hacc
      have HTT := Lib.hid hT
      clear hacc hT HT
      by_cases hlt : k < N
      · have CG := getInt_any (l.drop used) (if c = used then A else A.map (·.add used)) (n - used) (c - used) wr (by rw [List.length_drop, HN.out]) (by omega) (part_args (HL.out.below hbel) HN.out hnc)
        have hub := (@Wm.getI_used (l.drop used)).1
        rw [List.length_drop, HN.out] at hub
        have hstep : T = if (Wm.getI (l.drop used)).2.2 ≠ 0 then ([], 0, (Wm.getI (l.drop used)).2.2) else Wm.elems Wm.getI (N - (k + 1)) (acc ++ [(Wm.getI (l.drop used)).1]) (used + (Wm.getI (l.drop used)).2.1) (l.drop (used + (Wm.getI (l.drop used)).2.1)) := by
          rw [HTT.out, show N - k = N - (k + 1) + 1 from by omega, Wm.elems, List.drop_drop]
        have HS := Lib.hid hstep
        have HC := Lib.hid CG
        have hne : (Wm.getI (l.drop used)).2.2 = 0 → ¬ c = used := by
          intro h0 h1
          rw [List.drop_of_length_le (by rw [HN.out]; omega)] at h0
          exact absurd h0 (by decide)
        clear CG hstep HTT
        generalize Wm.getI (l.drop used) = G at *
        obtain ⟨y, m, er⟩ := G
        simp only at hub HS hne
        by_cases her : er = 0
        · subst her
          have HR := Lib.hid (HS.out.trans (if_neg (by simp)))
          have hcu := hne rfl
          have HC2 := HC.out
          rw [if_neg hcu] at HC2
          have HC3 := Lib.hid HC2
          clear HS hne HC HC2
          go_wp2_with (first
            | (go_at_call 24; refine HC3.out.mono ?_; rintro e w3 ⟨rfl, rfl⟩)
            | (at_builtin; refine wpList_append_one wr rfl _ _ 22 rfl w.heap.size 3 i0 (.int .i64 0) 8 Try.underlying22 hi hz0 hz1 hz2 rfl _ _ _ hown (.int .i64 y) rfl rfl rfl ?c1 ?c2 ?c3 ?_))
          case c1 => unfold maxLen; omega
          case c2 => omega
          case c3 => exact hsz
          intro v' w3 ho3 hb3
          go_wp2_with fail
          go_roundw
          case rel =>
            refine ⟨k + 1, used + m, acc ++ [y], by go_num, by go_num, by omega, by omega, by simp [HA.out], HR.out, ?_, hbel.trans hb3⟩
            rw [List.map_append]; exact ho3
          case measure => simp [intOf]; omega
        · have HR := Lib.hid (HS.out.trans (if_pos her))
          have hb : (er != 0) = true := by simpa using her
          clear HS her hne
          go_wp2_with (go_at_call 24; refine HC.out.mono ?_; rintro e w3 ⟨rfl, rfl⟩)
          all_goals
            go_ret3
            rw [HR.out]
            exact ⟨_, rfl, World.ownsRow_nil _ _ _ _, hbel⟩
      · have hkn : k = N := by omega
        subst hkn
        go_wp2
        go_ret3
        have hT : T = (acc, used, 0) := by rw [HTT.out, Nat.sub_self, Wm.elems]
        rw [hT]
        refine ⟨_, rfl, ?_, hbel⟩
        show wr.ownsRow _ _ _ _ acc.length _
        rw [HA.out]; exact hown
  · have HT := Lib.hid (HG.out.trans (if_pos her))
    have hb : (er != 0) = true := by simpa using her
    clear HG her
    go_enter Try.func46, Try.ntmps46
    go_wp2_with fail
    refine C.out.mono ?_
    rintro e w1 ⟨rfl, rfl⟩
    clear C
    go_wp2
    go_ret3
    rw [HT.out]
    exact ⟨_, rfl, World.ownsRow_nil _ _ _ _, Below.refl _ _⟩

set_option maxRecDepth 1000000 in
set_option maxHeartbeats 400000 in
theorem getListStr_any (l : List UInt8) (A : Option Addr) (n c : Nat) (w : World) (hn : l.length = n) (hlen : n ≤ 1099511627776) (h : Lies w A (l.map bv)) (hnc : n ≤ c) :
    Calls Try.prog 48 #[.slice A n c, .int .i64 1, .func (.func 26) #[] #[]] w
      (LPost w.heap.size 9 1 (Wm.getL 1 Wm.getS l).1.length ((Wm.getL 1 Wm.getS l).1.map sv) (Wm.getL 1 Wm.getS l).2.1 (Wm.getL 1 Wm.getS l).2.2 w) := by
  obtain ⟨i0, hi, hz0, hz1, hz2⟩ := info_parts Try.infoStr
  have C := Lib.hid (getLength_any l A n c 1 w hn (by omega) h (by omega) (by omega))
  have e1 : (1 : Int).toNat = 1 := rfl
  rw [e1] at C
  clear e1
  have hlm := Wm.getLen_bd (size := 1) (l := l)
  have HG : Hid (Wm.getL 1 Wm.getS l = _) := Lib.hid (by unfold Wm.getL; rfl)
  generalize Wm.getL 1 Wm.getS l = T at HG ⊢
  generalize Wm.getLen 1 l = R at *
  obtain ⟨x, u, er⟩ := R
  simp only at hlm HG
  rw [hn] at hlm
  obtain ⟨hx0, hux⟩ := hlm
  obtain ⟨N, rfl⟩ := Int.eq_ofNat_of_zero_le hx0
  rw [Int.toNat_natCast] at HG hux
  have HL := Lib.hid h
  have HN := Lib.hid hn
  clear h hn hx0
  by_cases her : er = 0
  · subst her
    have HT := Lib.hid (HG.out.trans (if_neg (by simp)))
    clear HG
    go_enter Try.func48, Try.ntmps48
    go_wp2_with fail
    refine C.out.mono ?_
    rintro e w1 ⟨rfl, rfl⟩
    clear C
    go_wp2_with (at_make; go_loud (refine wpList_make_own w rfl _ _ 23 rfl w.heap.size 9 i0 (.string ⟨#[]⟩) 1 Try.underlying23 hi hz0 hz1 _ _ _ N rfl rfl rfl ?b1 ?b2 (Nat.le_refl _) ?_))
    case b1 => rw [hz2]; omega
    case b2 => unfold maxLen; omega
    intro w2 ho hg
    have hb : Below w.heap.size w w2 := (Below.refl _ _).grown hg (Nat.le_refl _) (fun k hk => by cases hk)
    clear hg
    go_wp2_with fail
    go_loopw [10, 12, 29] (fun us v i wr => ∃ (k used : Nat) (acc : List (List UInt8)), i = .int .i64 (k : Int) ∧ us = .int .i64 (used : Int) ∧ k ≤ N ∧ used ≤ n ∧ acc.length = k ∧ T = Wm.elems Wm.getS (N - k) acc used (l.drop used) ∧ wr.ownsRow w.heap.size 9 1 v k (acc.map sv) ∧ Below w.heap.size w wr)
      (fun _ _ i _ => N - (intOf i).toNat)
    case atStart => exact ⟨0, u, [], rfl, rfl, by omega, by omega, rfl, HT.out, ho, hb⟩
    case round =>
      obtain ⟨k, used, acc, rfl, rfl, hk, hus, hacc, hT, hown, hbel⟩ := hrel
      have hsz := hbel.size
      have HA := Lib.hid hacc
      have HTT := Lib.hid hT
      clear hacc hT HT
      by_cases hlt : k < N
      · have CG := getBytes_any (l.drop used) (if c = used then A else A.map (·.add used)) (n - used) (c - used) wr (by rw [List.length_drop, HN.out]) (by omega) (part_args (HL.out.below hbel) HN.out hnc) (by omega)
        have hub := Wm.getS_used (l.drop used)
        rw [List.length_drop, HN.out] at hub
        have hstep : T = if (Wm.getS (l.drop used)).2.2 ≠ 0 then ([], 0, (Wm.getS (l.drop used)).2.2) else Wm.elems Wm.getS (N - (k + 1)) (acc ++ [(Wm.getS (l.drop used)).1]) (used + (Wm.getS (l.drop used)).2.1) (l.drop (used + (Wm.getS (l.drop used)).2.1)) := by
          rw [HTT.out, show N - k = N - (k + 1) + 1 from by omega, Wm.elems, List.drop_drop]
        have HS := Lib.hid hstep
        have HC := Lib.hid CG
        have hne : (Wm.getS (l.drop used)).2.2 = 0 → ¬ c = used := by
          intro h0 h1
          rw [List.drop_of_length_le (by rw [HN.out]; omega)] at h0
          exact absurd h0 (by decide)
        clear CG hstep HTT
        generalize Wm.getS (l.drop used) = G at *
        obtain ⟨y, m, er⟩ := G
        simp only at hub HS hne
        by_cases her : er = 0
        · subst her
          have HR := Lib.hid (HS.out.trans (if_neg (by simp)))
          have hcu := hne rfl
          have HC2 := HC.out
          rw [if_neg hcu] at HC2
          have HC3 := Lib.hid HC2
          clear HS hne HC HC2
          go_wp2_with (first
            | (go_at_call 26; refine HC3.out.mono ?_; rintro e w3 ⟨rfl, rfl⟩)
            | (at_builtin; refine wpList_append_one wr rfl _ _ 23 rfl w.heap.size 9 i0 (.string ⟨#[]⟩) 16 Try.underlying23 hi hz0 hz1 hz2 rfl _ _ _ hown (.string (bstr y)) rfl rfl rfl ?c1 ?c2 ?c3 ?_))
          case c1 => unfold maxLen; omega
          case c2 => omega
          case c3 => exact hsz
          intro v' w3 ho3 hb3
          go_wp2_with fail
          go_roundw
          case rel =>
            refine ⟨k + 1, used + m, acc ++ [y], by go_num, by go_num, by omega, by omega, by simp [HA.out], HR.out, ?_, hbel.trans hb3⟩
            rw [List.map_append]; exact ho3
          case measure => simp [intOf]; omega
        · have HR := Lib.hid (HS.out.trans (if_pos her))
          have hb : (er != 0) = true := by simpa using her
          clear HS her hne
          go_wp2_with (go_at_call 26; refine HC.out.mono ?_; rintro e w3 ⟨rfl, rfl⟩)
          all_goals
            go_ret3
            rw [HR.out]
            exact ⟨_, rfl, World.ownsRow_nil _ _ _ _, hbel⟩
      · have hkn : k = N := by omega
        subst hkn
        go_wp2
        go_ret3
        have hT : T = (acc, used, 0) := by rw [HTT.out, Nat.sub_self, Wm.elems]
        rw [hT]
        refine ⟨_, rfl, ?_, hbel⟩
        show wr.ownsRow _ _ _ _ acc.length _
        rw [HA.out]; exact hown
  · have HT := Lib.hid (HG.out.trans (if_pos her))
    have hb : (er != 0) = true := by simpa using her
    clear HG her
    go_enter Try.func48, Try.ntmps48
    go_wp2_with fail
    refine C.out.mono ?_
    rintro e w1 ⟨rfl, rfl⟩
    clear C
    go_wp2
    go_ret3
    rw [HT.out]
    exact ⟨_, rfl, World.ownsRow_nil _ _ _ _, Below.refl _ _⟩


theorem getInts_any (l : List UInt8) (A : Option Addr) (n c : Nat) (w : World) (hn : l.length = n) (hlen : n ≤ 1099511627776) (h : Lies w A (l.map bv)) (hnc : n ≤ c) :
    Calls Try.prog 28 #[.slice A n c] w
      (LPost w.heap.size 3 1 (Wm.getL 1 Wm.getI l).1.length ((Wm.getL 1 Wm.getI l).1.map iv) (Wm.getL 1 Wm.getI l).2.1 (Wm.getL 1 Wm.getI l).2.2 w) := by
  have C := Lib.hid (getListInt_any l A n c w hn hlen h hnc)
  clear hn h
  generalize Wm.getL 1 Wm.getI l = T at *
  go_enter Try.func28, Try.ntmps28
  go_wp2_with fail
  refine C.out.mono ?_
  rintro e w1 ⟨v', rfl, ho, hb⟩
  clear C
  go_wp2
  go_ret3
  exact ⟨v', rfl, ho, hb⟩

theorem getStrings_any (l : List UInt8) (A : Option Addr) (n c : Nat) (w : World) (hn : l.length = n) (hlen : n ≤ 1099511627776) (h : Lies w A (l.map bv)) (hnc : n ≤ c) :
    Calls Try.prog 31 #[.slice A n c] w
      (LPost w.heap.size 9 1 (Wm.getL 1 Wm.getS l).1.length ((Wm.getL 1 Wm.getS l).1.map sv) (Wm.getL 1 Wm.getS l).2.1 (Wm.getL 1 Wm.getS l).2.2 w) := by
  have C := Lib.hid (getListStr_any l A n c w hn hlen h hnc)
  clear hn h
  generalize Wm.getL 1 Wm.getS l = T at *
  go_enter Try.func31, Try.ntmps31
  go_wp2_with fail
  refine C.out.mono ?_
  rintro e w1 ⟨v', rfl, ho, hb⟩
  clear C
  go_wp2
  go_ret3
  exact ⟨v', rfl, ho, hb⟩

end Go.Proofs.Ytchlomkohjjpmaa
