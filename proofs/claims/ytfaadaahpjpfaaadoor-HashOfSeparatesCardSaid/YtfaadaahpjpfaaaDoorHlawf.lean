/-
  voxellaw02.HashOfSeparates, its walk.
-/
import Derived.Test.YtfaadaahpjpfaaaDoorHlawb
import Derived.Test.YtfaadaahpjpfaaaDoorHsep
import Derived.Test.YtfaadaahpjpfaaaDoorHsk
import Derived.Test.YtfaadaahpjpfaaaDoorHsx
import Derived.Test.YtfaadaahpjpfaaaDoorEqa
import Derived.Deep.QuietTactic
import Derived.BigQuiet
import Derived.Deep.CutRange
namespace Go.Proofs.YtfaadaahpjpfaaaDoor
open Go.RowKit
attribute [local go_sem ↓] convRun_eq

set_option maxRecDepth 1000000 in
set_option maxHeartbeats 1000000 in
theorem sep_law (p q : Int) (hp : 0 ≤ p ∧ p < 256) (hq : 0 ≤ q ∧ q < 256) (l m : List (List UInt8)) (A B : Option Addr) (n c n2 c2 : Nat) (w : World) (hT : Tab w)
    (hn : l.length = n) (hl : Lies w A (l.map sv)) (hs : ∀ s ∈ l, s.length ≤ 140737488351232) (hnb : n ≤ 140737488351232)
    (hm : m.length = n2) (hl2 : Lies w B (m.map sv)) (hs2 : ∀ s ∈ m, s.length ≤ 140737488351232) (hnb2 : n2 ≤ 140737488351232) :
    Calls Tryd.prog 8 #[.agg #[.int .u8 p, .int .u8 q], .slice A n c, .slice B n2 c2] w fun e w' => e = .returned (.bool true) ∧ Below w.heap.size w w' := by
  have C := Lib.hid (fun (W : World) (hb : Below w.heap.size w W) => sanity_any W (hT.below hb))
  have CF1 := Lib.hid (fun (W : World) (hb : Below w.heap.size w W) => hrFew_any l A n c W hn (hl.below hb) hs hnb)
  have CF2 := Lib.hid (fun (W : World) (hb : Below w.heap.size w W) => hrFew_any m B n2 c2 W hm (hl2.below hb) hs2 hnb2)
  have HT := Lib.hid hT
  have HN := Lib.hid hn
  have HM := Lib.hid hm
  have HL := Lib.hid hl
  have HL2 := Lib.hid hl2
  have HP := Lib.hid hp
  have HQ := Lib.hid hq
  clear hT hn hm hl hl2 hp hq hs hs2 hnb hnb2
  go_enter Tryd.func8, Tryd.ntmps8
  go_wp2_with fail
  have r0 := Row.new w #[Value.int .u8 p, Value.int .u8 q] 48
  have b0 := (Below.refl w.heap.size w).alloc (Nat.le_refl _) (.cells #[Value.int .u8 p, Value.int .u8 q] 48)
  refine (C.out _ b0).mono ?_
  rintro e w1 ⟨rfl, h⟩
  have R1 := Lib.hid (r0.below h)
  have B1 := Lib.hid (b0.trans (h.mono b0.size))
  clear r0 b0 h C
  go_wp2_with fail
  refine (CF1.out w1 B1.out).mono ?_
  rintro e w' ⟨b, rfl, hf, rfl⟩
  clear CF1
  cases b with
  | false =>
    go_wp2_with fail
    go_ret
    exact ⟨rfl, B1.out⟩
  | true =>
    have HF := Lib.hid (hf rfl)
    clear hf
    go_wp2_with fail
    refine (CF2.out w1 B1.out).mono ?_
    rintro e w' ⟨b, rfl, hf, rfl⟩
    clear CF2
    cases b with
    | false =>
      go_wp2_with fail
      go_ret
      exact ⟨rfl, B1.out⟩
    | true =>
      have HF2 := Lib.hid (hf rfl)
      clear hf
      have hn12 : n ≤ 12 := by have := HF.out.1; have := HN.out; omega
      have hn13 : n2 ≤ 12 := by have := HF2.out.1; have := HM.out; omega
      obtain ⟨c0, f0⟩ := R1.out 0 _ rfl
      obtain ⟨c1, f1⟩ := R1.out 1 _ rfl
      clear f0 f1
      go_upto_region 4 with fail
      go_cut [8] (fun s wx => s = .bool (decide (p = q ∧ l.length = m.length)) ∧ wx = w1)
      case first =>
        have hl1 := HN.out
        have hl2 := HM.out
        by_cases hpq : p = q
        · subst hpq
          by_cases hll : n = n2
          · have hd : decide (p = p ∧ l.length = m.length) = true := by rw [hl1, hl2, hll]; simp
            subst hll
            have HD := Lib.hid hd
            clear hd hl1 hl2
            go_wp2_with fail
            go_meet
            exact ⟨by rw [HD.out], rfl⟩
          · have hd : decide (p = p ∧ l.length = m.length) = false := by rw [hl1, hl2]; simp [hll]
            have hll2 : ((n : Int) == (n2 : Int)) = false := beq_eq_false_iff_ne.2 (by omega)
            have HD := Lib.hid hd
            clear hd hl1 hl2
            go_wp2_with fail
            go_meet
            exact ⟨by rw [HD.out], rfl⟩
        · have hd : decide (p = q ∧ l.length = m.length) = false := by simp [hpq]
          have hpq2 : (p == q) = false := beq_eq_false_iff_ne.2 hpq
          have HD := Lib.hid hd
          clear hd hl1 hl2
          go_wp2_with fail
          go_meet
          exact ⟨by rw [HD.out], rfl⟩
      case rest =>
        obtain ⟨rfl, rfl⟩ := hcut
        obtain ⟨sa, hsa⟩ : ∃ x, x = decide (p = q ∧ l.length = m.length) := ⟨_, rfl⟩
        rw [← hsa]
        have HSA := Lib.hid hsa
        clear hsa c0 c1
        go_wp2_with fail
        go_loopw [8, 9] (fun s i wr => ∃ (k : Nat) (sb : Bool), i = .int .i64 (k : Int) ∧ k ≤ n ∧ s = .bool sb ∧ (sb = true ↔ p = q ∧ l.length = m.length ∧ l.take k = m.take k) ∧ Row w.heap.size [.int .u8 p, .int .u8 q] wr ∧ Below w.heap.size w wr) (fun _ i _ => n - (intOf i).toNat)
        case atStart => exact ⟨0, sa, rfl, by omega, rfl, by rw [HSA.out]; simp, R1.out, B1.out⟩
        case round =>
          obtain ⟨k, sb, rfl, hk, rfl, hsb, hr, hb⟩ := hrel
          have HSB := Lib.hid hsb
          have HR := Lib.hid hr
          have HB := Lib.hid hb
          obtain ⟨gb, hgb⟩ : ∃ x, x = (decide (k < n) && sb) := ⟨_, rfl⟩
          have HGB := Lib.hid hgb
          clear hsb hr hb hgb
          go_upto_region 6 with fail
          go_cut [46] from 40 to 57 (fun s wx => s = .bool gb ∧ wx = wr)
          case first =>
            by_cases hlt : k < n
            · have hg : gb = sb := by rw [HGB.out]; simp [hlt]
              subst hg
              cases gb with
              | false =>
                go_wp2_with fail
                go_meet
                exact ⟨rfl, rfl⟩
              | true =>
                go_wp2_with fail
                go_meet
                exact ⟨rfl, rfl⟩
            · have hg : gb = false := by rw [HGB.out]; simp [hlt]
              subst hg
              go_wp2_with fail
              go_meet
              exact ⟨rfl, rfl⟩
          case rest =>
            obtain ⟨rfl, rfl⟩ := hcut
            cases gb with
            | true =>
              have hlt : k < n := by have h := HGB.out; simp at h; exact h.1
              have hst : sb = true := by have h := HGB.out; simp at h; exact h.2
              obtain ⟨hpq, hll, htk⟩ := HSB.out.1 hst
              have hkl : k < l.length := by rw [HN.out]; exact hlt
              have hkm : k < m.length := by rw [← hll]; exact hkl
              have hk2 : k < n2 := by rw [← HM.out]; exact hkm
              obtain ⟨b, o, hA, _⟩ := HL.out.at_ (by simpa using List.ne_nil_of_length_pos (show 0 < l.length by omega))
              obtain ⟨b2, o2, hB, _⟩ := HL2.out.at_ (by simpa using List.ne_nil_of_length_pos (show 0 < m.length by omega))
              have hx := List.getElem?_eq_getElem hkl
              have hy := List.getElem?_eq_getElem hkm
              have hts := take_step l m k hkl hkm
              generalize l[k] = u at hx hts
              generalize m[k] = v at hy hts
              have hc : wc.cell? ⟨b, o + k, none⟩ = some (.string (bstr u)) := by
                have h1 := HL.out.below HB.out
                rw [hA] at h1
                exact h1.at1 (by rw [List.getElem?_map, hx]; rfl)
              have hc2 : wc.cell? ⟨b2, o2 + k, none⟩ = some (.string (bstr v)) := by
                have h1 := HL2.out.below HB.out
                rw [hB] at h1
                exact h1.at1 (by rw [List.getElem?_map, hy]; rfl)
              have hbe := beq_bstr u v
              have HTS := Lib.hid hts
              have HC := Lib.hid (And.intro hpq (And.intro hll htk))
              subst hst
              clear hx hy hts hpq hll htk hkl hkm
              subst hA hB
              go_wp2_with fail
              go_quiet (fail)
              go_wp2_with fail
              go_roundw
              case rel =>
                refine ⟨k + 1, decide (u = v), by go_num, by omega, rfl, ?_, HR.out.drewN nq, below_drewN HB.out nq⟩
                rw [decide_eq_true_iff, HTS.out]
                exact ⟨fun h => ⟨HC.out.1, HC.out.2.1, HC.out.2.2, h⟩, fun h => h.2.2.2⟩
              case measure => simp [intOf]; omega
            | false =>
              have hfin : sb = true ↔ p = q ∧ l = m := by
                constructor
                · intro h
                  obtain ⟨h1, h2, h3⟩ := HSB.out.1 h
                  have hkn : ¬ k < n := fun hlt => by have h4 := HGB.out; rw [h] at h4; simp at h4; omega
                  rw [List.take_of_length_le (by rw [HN.out]; omega), List.take_of_length_le (by rw [← h2, HN.out]; omega)] at h3
                  exact ⟨h1, h3⟩
                · rintro ⟨h1, h2⟩
                  exact HSB.out.2 ⟨h1, by rw [h2], by rw [h2]⟩
              rw [← inOf_inj HP.out HQ.out HF.out HF2.out] at hfin
              have CI1 := Lib.hid (fun (W : World) (hb : Below w.heap.size w W) => hrInput_any p l A n c W HN.out (HL.out.below hb) HF.out.small)
              have CI2 := Lib.hid (fun (W : World) (hb : Below w.heap.size w W) => hrInput_any q m B n2 c2 W HM.out (HL2.out.below hb) HF2.out.small)
              have CO1 := Lib.hid (fun (W : World) (hb : Below w.heap.size w W) => hsOf_any p l A n c W HN.out (HL.out.below hb) HF.out.small (HT.out.below hb))
              have CO2 := Lib.hid (fun (W : World) (hb : Below w.heap.size w W) => hsOf_any q m B n2 c2 W HM.out (HL2.out.below hb) HF2.out.small (HT.out.below hb))
              have hx := inOf_le p l HF.out.small
              have hy := inOf_le q m HF2.out.small
              generalize inOf p l = X at *
              generalize inOf q m = Y at *
              have CS1 := Lib.hid (fun (A : Option Addr) (c : Nat) (W : World) (hb : Below w.heap.size w W) (hl : Lies W A (X.map bv)) => hsSum_any X A X.length c W rfl (fun h => by rw [hl.none_ h]; rfl) hl (by omega) (HT.out.below hb))
              have CS2 := Lib.hid (fun (A : Option Addr) (c : Nat) (W : World) (hb : Below w.heap.size w W) (hl : Lies W A (Y.map bv)) => hsSum_any Y A Y.length c W rfl (fun h => by rw [hl.none_ h]; rfl) hl (by omega) (HT.out.below hb))
              have hs1 := Sha.sum_len Sha.consts X
              have hs2 := Sha.sum_len Sha.consts Y
              generalize Sha.sum Sha.consts X = S1 at *
              generalize Sha.sum Sha.consts Y = S2 at *
              have LS1 := Lib.hid hs1
              have LS2 := Lib.hid hs2
              obtain ⟨c0, f0⟩ := HR.out 0 _ rfl
              obtain ⟨c1, f1⟩ := HR.out 1 _ rfl
              have hp1 := HP.out.1
              have hp2 := HP.out.2
              have hq1 := HQ.out.1
              have hq2 := HQ.out.2
              have HXY := Lib.hid hfin
              clear f0 f1 hx hy hs1 hs2 hfin HSB HGB HSA R1 B1 HL HL2 HN HM HF HF2 HP HQ
              go_wp2_with fail
              refine (CI1.out wc HB.out).mono ?_
              rintro e w2 ⟨v1, rfl, o1, h⟩
              obtain ⟨A1, a1, rfl, _, _, li1⟩ := own_shape o1
              have L1 := Lib.hid li1
              have R2 := Lib.hid (HR.out.below h)
              have B2 := Lib.hid (HB.out.trans (h.mono HB.out.size))
              obtain ⟨d1, f1⟩ := R2.out 1 _ rfl
              clear o1 li1 h f1 c0 c1 CI1
              go_wp2_with fail
              refine (CI2.out w2 B2.out).mono ?_
              rintro e w3 ⟨v2, rfl, o2, h⟩
              obtain ⟨A2, a2, rfl, _, _, li2⟩ := own_shape o2
              have L2 := Lib.hid li2
              have L1 := Lib.hid (L1.out.below h)
              have R3 := Lib.hid (R2.out.below h)
              have B3 := Lib.hid (B2.out.trans (h.mono B2.out.size))
              clear o2 li2 h d1 R2 B2 CI2 HR HB
              cases sb with
              | true =>
                have hXY : X = Y := HXY.out.1 rfl
                have e1 := convRun_lies w3 A1 X.length a1 X rfl (fun h => by rw [L1.out.none_ h]; rfl) L1.out
                have e2 := convRun_lies w3 A2 Y.length a2 Y rfl (fun h => by rw [L2.out.none_ h]; rfl) L2.out
                have hb := beq_bstr X Y
                rw [decide_eq_true hXY] at hb
                clear hXY
                go_wp2_with fail
                go_ret
                exact ⟨rfl, B3.out⟩
              | false =>
                have hXY : ¬ X = Y := fun h => by have h2 := HXY.out.2 h; cases h2
                have hbf := beq_bstr X Y
                rw [decide_eq_false hXY] at hbf
                have HBF := Lib.hid hbf
                obtain ⟨c0, f0⟩ := R3.out 0 _ rfl
                obtain ⟨D1, hD1⟩ : ∃ x, x = S1.take 16 := ⟨_, rfl⟩
                obtain ⟨D2, hD2⟩ : ∃ x, x = S2.take 16 := ⟨_, rfl⟩
                have hl1 : D1.length = 16 := by rw [hD1, List.length_take, LS1.out]; rfl
                have hl2 : D2.length = 16 := by rw [hD2, List.length_take, LS2.out]; rfl
                rw [← hD1] at CO1
                rw [← hD2] at CO2
                have HD1 := Lib.hid hD1
                have HD2 := Lib.hid hD2
                have LD1 := Lib.hid hl1
                have LD2 := Lib.hid hl2
                have J1 := Lib.hid (show (Tryd.prog.info? 44).map (·.size) = some (D1.map bv).toArray.size by rw [List.size_toArray, List.length_map, hl1]; kernel_rfl)
                have Z1 := Lib.hid (show (D1.map bv).toArray.size = 16 by rw [List.size_toArray, List.length_map, hl1])
                have O1 := Lib.hid (all_oneCell_toArray (bvs_one D1))
                have J2 := Lib.hid (show (Tryd.prog.info? 44).map (·.size) = some (D2.map bv).toArray.size by rw [List.size_toArray, List.length_map, hl2]; kernel_rfl)
                have Z2 := Lib.hid (show (D2.map bv).toArray.size = 16 by rw [List.size_toArray, List.length_map, hl2])
                have O2 := Lib.hid (all_oneCell_toArray (bvs_one D2))
                have J3 := Lib.hid (show (Tryd.prog.info? 24).map (·.size) = some (S1.map bv).toArray.size by rw [List.size_toArray, List.length_map, LS1.out]; kernel_rfl)
                have Z3 := Lib.hid (show (S1.map bv).toArray.size = 32 by rw [List.size_toArray, List.length_map, LS1.out])
                have O3 := Lib.hid (all_oneCell_toArray (bvs_one S1))
                have J4 := Lib.hid (show (Tryd.prog.info? 24).map (·.size) = some (S2.map bv).toArray.size by rw [List.size_toArray, List.length_map, LS2.out]; kernel_rfl)
                have Z4 := Lib.hid (show (S2.map bv).toArray.size = 32 by rw [List.size_toArray, List.length_map, LS2.out])
                have O4 := Lib.hid (all_oneCell_toArray (bvs_one S2))
                clear hXY hbf hD1 hD2 hl1 hl2 f0
                go_wp2_with fail
                refine (CO1.out w3 B3.out).mono ?_
                rintro e w4 ⟨rfl, h⟩
                have L1 := Lib.hid (L1.out.below h)
                have L2 := Lib.hid (L2.out.below h)
                have R4 := Lib.hid (R3.out.below h)
                have B4 := Lib.hid (B3.out.trans (h.mono B3.out.size))
                have c1' := (R4.out.alloc (.cells (D1.map bv).toArray 44) 1 _ rfl).1
                have c1 := (R4.out 1 _ rfl).1
                clear h R3 B3 c0 CO1
                go_wp2_with (with_reducible refine wpList_store_new w4 rfl 44 (.tmp 12) (.tmp 81) rfl _ (D1.map bv).toArray rfl rfl J1.out (Eq.trans (b := 16) (by kernel_rfl) Z1.out.symm) O1.out ?_)
                refine (CO2.out _ (B4.out.alloc B4.out.size _)).mono ?_
                rintro e w5 ⟨rfl, h⟩
                obtain ⟨g1, hg1⟩ : ∃ x, x = w4.heap.size := ⟨_, rfl⟩
                have Q1 := (Row.newl w4 (D1.map bv) 44).below h
                have ab := below_drewN ((Below.refl w4.heap.size w4).alloc (Nat.le_refl _) (.cells (D1.map bv).toArray 44)) 0
                have L1 := Lib.hid ((L1.out.below ab).below h)
                have L2 := Lib.hid ((L2.out.below ab).below h)
                have B5 := Lib.hid ((B4.out.alloc B4.out.size (.cells (D1.map bv).toArray 44)).trans (h.mono (B4.out.alloc B4.out.size (.cells (D1.map bv).toArray 44)).size))
                rw [← hg1] at Q1 ⊢
                have Q1 := Lib.hid Q1
                clear h ab hg1 c1 c1' R4 B4 CO2
                go_wp2_with (with_reducible refine wpList_store_new w5 rfl 44 (.tmp 13) (.tmp 86) rfl _ (D2.map bv).toArray rfl rfl J2.out (Eq.trans (b := 16) (by kernel_rfl) Z2.out.symm) O2.out ?_)
                have ab := ((Below.refl w5.heap.size w5).alloc (Nat.le_refl _) (.cells (D2.map bv).toArray 44))
                refine (CS1.out A1 a1 _ (B5.out.trans (ab.mono B5.out.size)) (L1.out.below ab)).mono ?_
                rintro e w6 ⟨rfl, h⟩
                obtain ⟨g2, hg2⟩ : ∃ x, x = w5.heap.size := ⟨_, rfl⟩
                have Q2 := (Row.newl w5 (D2.map bv) 44).below h
                have Q1 := Lib.hid ((Q1.out.below ab).below h)
                have L1 := Lib.hid ((L1.out.below ab).below h)
                have L2 := Lib.hid ((L2.out.below ab).below h)
                have B6 := Lib.hid ((B5.out.trans (ab.mono B5.out.size)).trans (h.mono (B5.out.trans (ab.mono B5.out.size)).size))
                rw [← hg2] at Q2 ⊢
                have Q2 := Lib.hid Q2
                clear h ab hg2 B5 CS1
                go_wp2_with (with_reducible refine wpList_store_new w6 rfl 24 (.tmp 14) (.tmp 88) rfl _ (S1.map bv).toArray rfl rfl J3.out (Eq.trans (b := 32) (by kernel_rfl) Z3.out.symm) O3.out ?_)
                have ab := ((Below.refl w6.heap.size w6).alloc (Nat.le_refl _) (.cells (S1.map bv).toArray 24))
                refine (CS2.out A2 a2 _ (B6.out.trans (ab.mono B6.out.size)) (L2.out.below ab)).mono ?_
                rintro e w7 ⟨rfl, h⟩
                obtain ⟨g3, hg3⟩ : ∃ x, x = w6.heap.size := ⟨_, rfl⟩
                have Q3 := (Row.newl w6 (S1.map bv) 24).below h
                have Q1 := Lib.hid ((Q1.out.below ab).below h)
                have Q2 := Lib.hid ((Q2.out.below ab).below h)
                have L1 := Lib.hid ((L1.out.below ab).below h)
                have L2 := Lib.hid ((L2.out.below ab).below h)
                have B7 := Lib.hid ((B6.out.trans (ab.mono B6.out.size)).trans (h.mono (B6.out.trans (ab.mono B6.out.size)).size))
                rw [← hg3] at Q3 ⊢
                have Q3 := Lib.hid Q3
                clear h ab hg3 B6 CS2
                go_upto_region 17 with (with_reducible refine wpList_store_new w7 rfl 24 (.tmp 15) (.tmp 90) rfl _ (S2.map bv).toArray rfl rfl J4.out (Eq.trans (b := 32) (by kernel_rfl) Z4.out.symm) O4.out ?_)
                have ab := ((Below.refl w7.heap.size w7).alloc (Nat.le_refl _) (.cells (S2.map bv).toArray 24))
                obtain ⟨g4, hg4⟩ : ∃ x, x = w7.heap.size := ⟨_, rfl⟩
                have Q4 := Row.newl w7 (S2.map bv) 24
                have Q1 := Q1.out.below ab
                have Q2 := Q2.out.below ab
                have Q3 := Q3.out.below ab
                have L1 := L1.out.below ab
                have L2 := L2.out.below ab
                have B8 := B7.out.trans (ab.mono B7.out.size)
                obtain ⟨V, hV⟩ : ∃ x, x = w7.alloc (.cells (S2.map bv).toArray 24) := ⟨_, rfl⟩
                rw [← hV] at Q1 Q2 Q3 Q4 L1 L2 B8 ⊢
                rw [← hg4] at Q4 ⊢
                have Q1 := Lib.hid Q1
                have Q2 := Lib.hid Q2
                have Q3 := Lib.hid Q3
                have Q4 := Lib.hid Q4
                have L1 := Lib.hid L1
                have L2 := Lib.hid L2
                have B8 := Lib.hid B8
                have HL1 := LS1.out
                have HL2 := LS2.out
                clear ab hV hg4 B7
                go_wp2_with fail
                go_loopw [16, 17] (fun s i wr => ∃ (k : Nat) (cb : Bool), i = .int .i64 (k : Int) ∧ k ≤ 16 ∧ s = .bool cb ∧ (cb = true ↔ S1.take k = S2.take k) ∧ Below V.heap.size V wr) (fun _ i _ => 16 - (intOf i).toNat)
                case atStart => exact ⟨0, true, rfl, by omega, rfl, by simp, Below.refl _ _⟩
                case round =>
                  obtain ⟨k, cb, rfl, hk, rfl, hcb, hb⟩ := hrel
                  have HCB := Lib.hid hcb
                  have HBW := Lib.hid hb
                  clear hcb hb
                  by_cases hlt : k < 16
                  · have hk32 : (k : Int) < 32 := by omega
                    have hx := List.getElem?_eq_getElem (show k < S1.length by omega)
                    have hy := List.getElem?_eq_getElem (show k < S2.length by omega)
                    have hts := take_step S1 S2 k (by omega) (by omega)
                    generalize S1[k] = u at hx hts
                    generalize S2[k] = v at hy hts
                    have c3 : wr.cell? ⟨g3, k, none⟩ = some (.int .u8 (u.toNat : Int)) := ((Q3.out.below HBW.out) k (bv u) (by rw [List.getElem?_map, hx]; rfl)).1
                    have c4 : wr.cell? ⟨g4, k, none⟩ = some (.int .u8 (v.toNat : Int)) := ((Q4.out.below HBW.out) k (bv v) (by rw [List.getElem?_map, hy]; rfl)).1
                    have hbe : ((u.toNat : Int) == (v.toNat : Int)) = decide (u = v) := by
                      by_cases h : u = v
                      · rw [h]; simp
                      · have h2 : ¬ ((u.toNat : Int) = (v.toNat : Int)) := fun h3 => h (UInt8.toNat_inj.1 (by omega))
                        rw [beq_eq_false_iff_ne.2 h2, decide_eq_false h]
                    have HTS := Lib.hid hts
                    clear hx hy hts HL1 HL2
                    cases cb with
                    | true =>
                      go_wp2_with fail
                      go_quiet (fail)
                      go_wp2_with fail
                      go_roundw
                      case rel =>
                        refine ⟨k + 1, decide (u = v), by go_num, by omega, rfl, ?_, below_drewN HBW.out nq⟩
                        rw [decide_eq_true_iff, HTS.out]
                        exact ⟨fun h => ⟨HCB.out.1 (by first | rfl | trivial), h⟩, fun h => h.2⟩
                      case measure => simp [intOf]; omega
                    | false =>
                      go_wp2_with fail
                      go_quiet (fail)
                      go_wp2_with fail
                      go_roundw
                      case rel =>
                        refine ⟨k + 1, false, by go_num, by omega, rfl, ?_, below_drewN HBW.out nq⟩
                        rw [HTS.out]
                        exact ⟨fun h => (Bool.noConfusion h), fun h => by have h2 := HCB.out.2 h.1; first | exact h2 | exact h2.elim⟩
                      case measure => simp [intOf]; omega
                  · have hk16 : k = 16 := by omega
                    subst hk16
                    rw [← HD1.out, ← HD2.out] at HCB
                    have e1 := convRun_lies wr A1 X.length a1 X rfl (fun h => by rw [L1.out.none_ h]; rfl) (L1.out.below HBW.out)
                    have e2 := convRun_lies wr A2 Y.length a2 Y rfl (fun h => by rw [L2.out.none_ h]; rfl) (L2.out.below HBW.out)
                    have hb := HBF.out
                    have hb2 : ((bstr X).toList != (bstr Y).toList) = true := by rw [bne, hb]; rfl
                    have G1 := Lib.hid (Q1.out.below HBW.out).range
                    have G2 := Lib.hid (Q2.out.below HBW.out).range
                    have I1 := Lib.hid (show (Tryd.prog.info? 44).map (·.size) = some (D1.map bv).length by rw [List.length_map, LD1.out]; kernel_rfl)
                    have I2 := Lib.hid (show (Tryd.prog.info? 44).map (·.size) = some (D2.map bv).length by rw [List.length_map, LD2.out]; kernel_rfl)
                    have h44 : ∀ W, (Op.equalIn 10000 44 (.agg (D1.map bv).toArray) (.agg (D2.map bv).toArray)).run Tryd.prog W = .ok cb W := fun W => by
                      rw [run_eq16 W D1 D2 LD1.out LD2.out]
                      congr 1
                      rw [Bool.eq_iff_iff, decide_eq_true_iff, HCB.out]
                    clear hk hlt
                    cases cb with
                    | true =>
                      go_wp2_with (first | (with_reducible refine wpList_load_mid_g (by kernel_rfl) 44 (.tmp 12) rfl g1 0 rfl (D1.map bv) _ G1.out Tryd.underlying44 rfl I1.out ?_) | (with_reducible refine wpList_load_mid_g (by kernel_rfl) 44 (.tmp 13) rfl g2 0 rfl (D2.map bv) _ G2.out Tryd.underlying44 rfl I2.out ?_))
                      go_ret
                      exact ⟨rfl, B8.out.trans (HBW.out.mono B8.out.size)⟩
                    | false =>
                      go_wp2_with (first | (with_reducible refine wpList_load_mid_g (by kernel_rfl) 44 (.tmp 12) rfl g1 0 rfl (D1.map bv) _ G1.out Tryd.underlying44 rfl I1.out ?_) | (with_reducible refine wpList_load_mid_g (by kernel_rfl) 44 (.tmp 13) rfl g2 0 rfl (D2.map bv) _ G2.out Tryd.underlying44 rfl I2.out ?_))
                      go_ret
                      exact ⟨rfl, B8.out.trans (HBW.out.mono B8.out.size)⟩

end Go.Proofs.YtfaadaahpjpfaaaDoor
