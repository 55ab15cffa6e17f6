/-
  voxellaw01.WireLengths, its walk.
-/
import Derived.Test.YtchlomkohjjpmaaSanb
import Derived.Test.YtchlomkohjjpmaaMathe
import Derived.Deep.RegionHeld3
import Derived.Deep.DeepCutAuto
import Derived.IntWalk
namespace Go.Proofs.Ytchlomkohjjpmaa
open Go.RowKit

theorem ba_loop (s : ByteArray) : ∀ (k i : Nat) (r : List UInt8), s.size - i = k → ByteArray.toList.loop s i r = r.reverse ++ s.data.toList.drop i := by
  intro k
  induction k with
  | zero =>
    intro i r h
    have h2 : s.data.toList.length ≤ i := by rw [Array.length_toList]; exact Nat.le_of_sub_eq_zero h
    rw [ByteArray.toList.loop, if_neg (by omega), List.drop_of_length_le h2, List.append_nil]
  | succ k ih =>
    intro i r h
    have h2 : i < s.data.toList.length := by rw [Array.length_toList]; show i < s.size; omega
    rw [ByteArray.toList.loop, if_pos (by omega), ih (i + 1) _ (by omega), List.drop_eq_getElem_cons h2, List.reverse_cons, List.append_assoc]
    have h3 : i < s.data.size := by rw [← Array.length_toList]; exact h2
    have h4 : s.get! i = s.data.toList[i] := by
      show s.data[i]! = _
      rw [getElem!_pos s.data i h3]; rfl
    rw [h4]; rfl
theorem ba_toList (s : ByteArray) : s.toList = s.data.toList := by
  rw [ByteArray.toList, ba_loop s s.size 0 [] (by omega)]; simp

/-- a conversion from bytes to a string as it runs, under a name -/
noncomputable def convRun (v : Value) (w : World) : Result Value := (convert 28 9 v).run Try.prog w
theorem convRun_eq (v : Value) (w : World) : (convert 28 9 v).run Try.prog w = convRun v w := rfl
theorem convRun_lies (w : World) (A : Option Addr) (r c : Nat) (l : List UInt8) (hr : r ≤ l.length) (hl : 0 < l.length) (h : Lies w A (l.map bv)) : convRun (.slice A r c) w = .ok (.string (bstr (l.take r))) w :=
  run_convert_lies w 28 5 9 Try.underlying28 Try.underlying5 Try.underlying9 A r c (l.take r) (by rw [List.length_take]; omega)
    (fun hA => by have := h.none_ hA; subst this; simp at hl) (by rw [List.map_take]; exact h.take r)
attribute [local go_sem ↓] convRun_eq

set_option maxRecDepth 1000000 in
set_option maxHeartbeats 4000000 in
theorem lengths_any (m n : Int) (w : World) (hm : -9223372036854775808 ≤ m ∧ m ≤ 9223372036854775807) (hn : -9223372036854775808 ≤ n ∧ n ≤ 9223372036854775807) :
    Calls Try.prog 5 #[.int .i64 m, .int .i64 n] w fun e w' => e = .returned (.bool true) ∧ Below w.heap.size w w' := by
  obtain ⟨m1, m2⟩ := hm
  obtain ⟨n1, n2⟩ := hn
  go_enter Try.func5, Try.ntmps5
  go_wp2_with fail
  refine (int_any m w m1 m2).mono ?_
  rintro e w1 ⟨v, rfl, o1, b1⟩
  obtain ⟨A, c, rfl, k1, _, l1⟩ := own_shape o1
  have L1 := Lib.hid l1
  have HW := Lib.hid b1
  have z1 := b1.size
  clear o1 b1 l1
  go_wp2_with fail
  refine (int_any n w1 n1 n2).mono ?_
  rintro e w2 ⟨v, rfl, o2, b2⟩
  obtain ⟨B, d, rfl, k2, _, l2⟩ := own_shape o2
  have L1 := Lib.hid (L1.out.below b2)
  have L2 := Lib.hid l2
  have HW := Lib.hid (HW.out.trans (b2.mono z1))
  have z2 := HW.out.size
  clear o2 b2 l2 z1
  have t1 := Wm.encI_len m m1 m2
  have t2 := Wm.encI_len n n1 n2
  have t3 := Wm.encI_pos m
  have t4 := Wm.encI_pos n
  have HT := Lib.hid (Wm.len_twin m)
  have hle : Wm.far m ≤ Wm.far n → (Wm.encI m).length ≤ (Wm.encI n).length := Wm.len_mono
  have hge : Wm.far n ≤ Wm.far m → (Wm.encI n).length ≤ (Wm.encI m).length := Wm.len_mono
  have hone := Wm.len_one m
  have HS : Hid (∀ k, k = min (Wm.encI m).length (Wm.encI n).length → (Wm.encI m).take k = (Wm.encI n).take k → m = n) := Lib.hid (fun k hk h => Wm.same_head ⟨m1, m2⟩ ⟨n1, n2⟩ hk h)
  generalize hp : (Wm.encI m).length = p at *
  generalize hq : (Wm.encI n).length = q at *
  have HP := Lib.hid hp
  have HQ := Lib.hid hq
  have hfm : (Wm.far m : Int) = m ∧ -1 - m ≤ m ∨ (Wm.far m : Int) = -1 - m ∧ m ≤ -1 - m := by unfold Wm.far; split <;> omega
  have hfn : (Wm.far n : Int) = n ∧ -1 - n ≤ n ∨ (Wm.far n : Int) = -1 - n ∧ n ≤ -1 - n := by unfold Wm.far; split <;> omega
  generalize Wm.far m = i at *
  generalize Wm.far n = k at *
  clear hp hq
  go_upto_region 2 with fail
  go_cut [7, 8] (fun s7 s8 wx => s7 = .int .i64 (i : Int) ∧ s8 = .int .i64 (k : Int) ∧ wx = w2)
  case first =>
    clear hle hge hone HS HT HP HQ L1 L2
    rcases hfm with ⟨e1, f1⟩ | ⟨e1, f1⟩ <;> rcases hfn with ⟨e2, f2⟩ | ⟨e2, f2⟩
    all_goals
      go_wp2_with fail
      all_goals
        go_meet
        refine ⟨?_, ?_, rfl⟩
        all_goals (first | rfl | (congr 1; omega))
  case rest =>
    obtain ⟨rfl, rfl, rfl⟩ := hcut
    go_upto_region 3 with fail
    go_cut [66] (fun s wx => s = .bool false ∧ wx = wc)
    case first =>
      clear HS HT HP HQ L1 L2 hfm hfn
      have b1 : decide ((10 : Int) < (p : Int)) = false := by simp; omega
      have b2 : ((p : Int) == 0) = false := by simp; omega
      have b3 : ((q : Int) == 0) = false := by simp; omega
      have b4 : ((p : Int) == 1) = true ∧ i < 64 ∨ ((p : Int) == 1) = false ∧ 64 ≤ i := by
        by_cases h : i < 64
        · exact .inl ⟨by rw [hone.2 h]; rfl, h⟩
        · have : ¬ p = 1 := fun h2 => h (hone.1 h2)
          exact .inr ⟨by simp; omega, by omega⟩
      have b5 : i ≤ k ∧ p ≤ q ∨ ¬ i ≤ k := by
        by_cases h : i ≤ k
        · exact .inl ⟨h, hle h⟩
        · exact .inr h
      have b6 : k ≤ i ∧ q ≤ p ∨ ¬ k ≤ i := by
        by_cases h : k ≤ i
        · exact .inl ⟨h, hge h⟩
        · exact .inr h
      clear hle hge hone
      rcases b4 with ⟨v1, v2⟩ | ⟨v1, v2⟩ <;> rcases b5 with ⟨x1, x2⟩ | x1 <;> rcases b6 with ⟨y1, y2⟩ | y1
      all_goals
        go_wp2_with fail
        all_goals
          go_meet
          first | exact ⟨rfl, rfl⟩ | (exfalso; omega)
    case rest =>
      obtain ⟨rfl, rfl⟩ := hcut
      go_upto_region 5 with fail
      go_cut [9] (fun s wx => s = .int .i64 ((min p q : Nat) : Int) ∧ wx = wc)
      case first =>
        rcases Nat.le_total p q with h | h
        · go_wp2_with fail
          all_goals
            go_meet
            exact ⟨by congr 2; omega, rfl⟩
        · go_wp2_with fail
          all_goals
            go_meet
            exact ⟨by congr 2; omega, rfl⟩
      case rest =>
        obtain ⟨rfl, rfl⟩ := hcut
        generalize hr : min p q = r at *
        have r1 : r ≤ p := by omega
        have r2 : r ≤ q := by omega
        have HR := Lib.hid hr
        clear hle hge hone hfm hfn hr
        have HX := Lib.hid (HS.out r rfl)
        have hs1 : Hid (∀ w', Below wc.heap.size wc w' → convRun (.slice A r c) w' = .ok (.string (bstr ((Wm.encI m).take r))) w' ∧ convRun (.slice B r d) w' = .ok (.string (bstr ((Wm.encI n).take r))) w' ∧ Below w.heap.size w w') :=
          Lib.hid (fun w' hb => ⟨convRun_lies w' A r c _ (by rw [HP.out]; exact r1) (by rw [HP.out]; exact t3) (L1.out.below hb), convRun_lies w' B r d _ (by rw [HQ.out]; exact r2) (by rw [HQ.out]; exact t4) (L2.out.below hb), HW.out.trans (hb.mono z2)⟩)
        have HE : Hid (m = n → bstr ((Wm.encI m).take r) = bstr ((Wm.encI n).take r)) := Lib.hid (fun h => by rw [h])
        have HF : Hid (bstr ((Wm.encI m).take r) = bstr ((Wm.encI n).take r) → m = n) := Lib.hid (fun h => HX.out (bstr_inj h))
        generalize bstr ((Wm.encI m).take r) = s1 at *
        generalize bstr ((Wm.encI n).take r) = s2 at *
        have hb0 : Hid (Below wc.heap.size wc wc.drew) := Lib.hid ⟨rfl, rfl, rfl, Nat.le_refl _, fun _ _ => rfl⟩
        have j1 := Int.ofNat_le.2 r1
        have j2 := Int.ofNat_le.2 r2
        have j3 : (0 : Int) ≤ (r : Int) := by omega
        have j4 : (r : Int) ≤ (c : Int) := by omega
        have j5 : (r : Int) ≤ (d : Int) := by omega
        have hbo : (s1.toList == s2.toList) = (m == n) := by
          by_cases h : m = n
          · rw [HE.out h, h]; simp
          · have h2 : ¬ s1.toList = s2.toList := fun h2 => h (HF.out (by rw [ba_toList, ba_toList] at h2; cases s1; cases s2; simp at h2; rw [h2]))
            rw [beq_eq_false_iff_ne.2 h, beq_eq_false_iff_ne.2 h2]
        have q1 : -9223372036854775808 ≤ -1 - m := by omega
        have q2 : -1 - m ≤ 9223372036854775807 := by omega
        have hwr : IntKind.i64.wrap (-1 - m) = -1 - m := IntWalk.i64_in _ (by omega)
        clear HS HX HP HQ HR L1 L2 t1 t2 HE HF
        go_wp2_with fail
        go_region_held3 (fun w' => convRun (.slice A r c) w' = .ok (.string s1) w' ∧ convRun (.slice B r d) w' = .ok (.string s2) w' ∧ Below w.heap.size w w')
          (first
            | exact hs1.out _ hb0.out
            | exact hs1.out _ (hb0.out.trans (b5.out.mono (Nat.le_refl _)))
            | exact hs1.out _ ((hb0.out.trans (b5.out.mono (Nat.le_refl _))).trans (b6.out.mono b5.out.size)))
          (first
            | (go_at_call 12; refine (sanity_any _).mono ?_; rintro e w5 ⟨rfl, b5⟩; have b5 := Lib.hid b5)
            | (go_at_call 14; refine (int_any (-1 - m) _ q1 q2).mono ?_; rintro e w6 ⟨v6, rfl, o6, b6⟩; obtain ⟨A6, c6, rfl, _, _, _⟩ := own_shape o6; have b6 := Lib.hid b6; rw [HT.out]; clear o6))
        have hh : convRun (.slice A r c) w6 = .ok (.string s1) w6 ∧ convRun (.slice B r d) w6 = .ok (.string s2) w6 ∧ Below w.heap.size w w6 := by assumption
        have hb := Lib.hid hh.2.2
        have hx : ((s1.toList == s2.toList) == (m == n)) = true := by rw [hbo]; simp
        clear hh hwr hbo
        go_wp2
        go_ret
        exact ⟨rfl, hb.out⟩

end Go.Proofs.Ytchlomkohjjpmaa
