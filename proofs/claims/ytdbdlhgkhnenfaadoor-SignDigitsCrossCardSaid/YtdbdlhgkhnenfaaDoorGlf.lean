/-
  voxellaw03.SignDigitsCross, its walk.
-/
import Derived.Test.YtdbdlhgkhnenfaaDoorGst
import Derived.BigQuiet
namespace Go.Proofs.YtdbdlhgkhnenfaaDoor
open Go.RowKit

theorem Gr_drewN (w : World) (n : Nat) : Gr w (w.drewN n) := below_drewN (Below.refl _ _) n
def lessB (x y : List Nat) : Nat → Bool
  | 0 => false
  | k + 1 => lessB x y k || decide (x.getD k 0 < y.getD k 0)
theorem lessB_self (x : List Nat) : ∀ k, lessB x x k = false
  | 0 => rfl
  | k + 1 => by rw [lessB, lessB_self x k, Bool.false_or]; exact decide_eq_false (Nat.lt_irrefl _)
theorem lessB_false {x y : List Nat} : ∀ {k}, lessB x y k = false → ∀ j, j < k → y.getD j 0 ≤ x.getD j 0
  | 0, _, j, hj => absurd hj (Nat.not_lt_zero _)
  | k + 1, h, j, hj => by
    rw [lessB, Bool.or_eq_false_iff] at h
    by_cases hjk : j = k
    · subst hjk; exact Nat.le_of_not_lt (of_decide_eq_false h.2)
    · exact lessB_false h.1 j (by omega)
theorem nibs_le : ∀ (a b : List UInt8), a.length = b.length → (∀ j, (Sg.nibs b).getD j 0 ≤ (Sg.nibs a).getD j 0) → Sg.rest a ≤ Sg.rest b ∧ (Sg.rest a = Sg.rest b → a = b)
  | [], [], _, _ => ⟨Nat.le_refl _, fun _ => rfl⟩
  | [], _ :: _, h, _ => by cases h
  | _ :: _, [], h, _ => by cases h
  | x :: a, y :: b, h, hj => by
    have h0 := hj 0
    have h1 := hj 1
    have ih := nibs_le a b (by simpa using h) (fun j => by have := hj (j + 2); simpa [Sg.nibs] using this)
    have e0 : y.toNat / 16 ≤ x.toNat / 16 := by simpa [Sg.nibs] using h0
    have e1 : y.toNat % 16 ≤ x.toNat % 16 := by simpa [Sg.nibs] using h1
    have hx := x.toNat_lt
    have hy := y.toNat_lt
    have ra : Sg.rest (x :: a) = (30 - (x.toNat / 16 + x.toNat % 16)) + Sg.rest a := by simp [Sg.rest]
    have rb : Sg.rest (y :: b) = (30 - (y.toNat / 16 + y.toNat % 16)) + Sg.rest b := by simp [Sg.rest]
    rw [ra, rb]
    refine ⟨by omega, fun e => ?_⟩
    have hxy : x.toNat = y.toNat := by omega
    rw [ih.2 (by omega), UInt8.toNat_inj.1 hxy]
theorem digits_le {a b : List UInt8} (ha : a.length = 16) (hb : b.length = 16) (h : ∀ j, j < 35 → (Sg.digits b).getD j 0 ≤ (Sg.digits a).getD j 0) : a = b := by
  have na : (Sg.nibs a).length = 32 := by rw [Sg.nibs_len, ha]
  have nb : (Sg.nibs b).length = 32 := by rw [Sg.nibs_len, hb]
  have h32 := h 32 (by omega)
  have h33 := h 33 (by omega)
  have h34 := h 34 (by omega)
  simp only [Sg.digits, List.getD_eq_getElem?_getD] at h32 h33 h34
  rw [List.getElem?_append_right (by omega), List.getElem?_append_right (by omega), na, nb] at h32 h33 h34
  simp at h32 h33 h34
  have hn : ∀ j, (Sg.nibs b).getD j 0 ≤ (Sg.nibs a).getD j 0 := by
    intro j
    by_cases hj : j < 32
    · have h1 := h j (by omega)
      simp only [Sg.digits, List.getD_eq_getElem?_getD] at h1 ⊢
      rwa [List.getElem?_append_left (by omega), List.getElem?_append_left (by omega)] at h1
    · rw [List.getD_eq_getElem?_getD, List.getElem?_eq_none (by omega)]
      exact Nat.zero_le _
  obtain ⟨r1, r2⟩ := nibs_le a b (by omega) hn
  exact r2 (by omega)
theorem cross_less {a b : List UInt8} (ha : a.length = 16) (hb : b.length = 16) (hab : a ≠ b) : lessB (Sg.digits a) (Sg.digits b) 35 = true := by
  cases h : lessB (Sg.digits a) (Sg.digits b) 35 with
  | true => rfl
  | false => exact absurd (digits_le ha hb (lessB_false h)) hab

set_option maxRecDepth 1000000 in
set_option maxHeartbeats 8000000 in
theorem signCross_law (a b : List UInt8) (w : World) (hT : Tab w) (ha : a.length = 16) (hb : b.length = 16) :
    Calls Tryd.prog 7 #[.agg (a.map bv).toArray, .agg (b.map bv).toArray] w
      fun e w' => e = .returned (.bool true) ∧ Below w.heap.size w w' := by
  have r1 := Row.newl w (a.map bv) 23
  have g1 := Gr.al w (.cells (a.map bv).toArray 23)
  obtain ⟨u1, hu1⟩ : ∃ x, x = w.alloc (.cells (a.map bv).toArray 23) := ⟨_, rfl⟩
  have hus : u1.heap.size = w.heap.size + 1 := by rw [hu1]; simp
  rw [← hu1] at r1 g1
  have r2 := Row.newl u1 (b.map bv) 23
  have g2 := Gr.al u1 (.cells (b.map bv).toArray 23)
  obtain ⟨u, hu⟩ : ∃ x, x = u1.alloc (.cells (b.map bv).toArray 23) := ⟨_, rfl⟩
  rw [← hu] at r2 g2
  have g0 := g1.trans g2
  have XA := Lib.hid (r1.below g2)
  have XB := Lib.hid r2
  have C := Lib.hid (sanity_any u (hT.below g0))
  have B0 : Hid (Below w.heap.size w u) := Lib.hid g0
  have HU1 := Lib.hid hu1
  have HU := Lib.hid hu
  have HUS := Lib.hid hus
  obtain ⟨qa, hqa⟩ : ∃ x, x = w.heap.size := ⟨_, rfl⟩
  obtain ⟨qb, hqb⟩ : ∃ x, x = u1.heap.size := ⟨_, rfl⟩
  rw [← hqa] at XA
  rw [← hqb] at XB
  have HQA := Lib.hid hqa
  have HQB := Lib.hid (show qb = w.heap.size + 1 by rw [hqb, hus])
  have Da := Lib.hid (D16.of ha)
  have Db := Lib.hid (D16.of hb)
  have CA := Lib.hid (fun (W : World) => digits_any a W ha)
  have CB := Lib.hid (fun (W : World) => digits_any b W hb)
  have hal := Sg.digits_len ha
  have hbl := Sg.digits_len hb
  have heq : ∀ W, (Op.equalIn 10000 23 (.agg (a.map bv).toArray) (.agg (b.map bv).toArray)).run Tryd.prog W = .ok (decide (a = b)) W := fun W => run_eq16 W a b ha hb
  have hfin : lessB (Sg.digits a) (Sg.digits b) 35 = !decide (a = b) ∧ lessB (Sg.digits b) (Sg.digits a) 35 = !decide (a = b) := by
    by_cases hab : a = b
    · rw [decide_eq_true hab, hab]; exact ⟨lessB_self _ _, lessB_self _ _⟩
    · rw [decide_eq_false hab]; exact ⟨cross_less ha hb hab, cross_less hb ha (fun e => hab e.symm)⟩
  generalize Sg.digits a = da at CA hal hfin
  generalize Sg.digits b = db at CB hbl hfin
  have DDA := Lib.hid (D35.of hal)
  have DDB := Lib.hid (D35.of hbl)
  have HAL := Lib.hid hal
  have HBL := Lib.hid hbl
  have HEQ := Lib.hid heq
  have HFIN := Lib.hid hfin
  clear r1 g1 hu1 hus r2 g2 hu g0 hqa hqb hT ha hb hal hbl heq hfin
  go_enter Tryd.func7, Tryd.ntmps7
  go_upto_region 1 with fail
  rw [← HU1.out, ← HU.out, ← HQB.out, ← HQA.out]
  clear HU HU1 HUS HQA HQB
  go_wp2_with fail
  refine C.out.mono ?_
  rintro e w1 ⟨rfl, b1⟩
  have B1 := Lib.hid (B0.out.trans (b1.mono B0.out.size))
  have XA := Lib.hid (XA.out.below b1)
  have XB := Lib.hid (XB.out.below b1)
  clear b1 C B0
  go_wp2_with (with_reducible refine wpList_load_mid rfl 23 (.tmp 2) rfl qa 0 rfl (a.map bv) _ XA.out.range Tryd.underlying23 rfl Da.out.I ?_)
  refine (CA.out w1).mono ?_
  rintro e w2 ⟨rfl, b2⟩
  go_upto_region 3 with (with_reducible refine wpList_store_new w2 rfl 25 (.tmp 6) (.tmp 13) rfl _ (da.map nv).toArray rfl rfl DDA.out.J (Eq.trans (b := 35) (by kernel_rfl) DDA.out.Z.symm) DDA.out.O ?_)
  have rd := Row.newl w2 (da.map nv) 25
  have gv := Gr.trans (show Gr w1 w2 from b2) (Gr.al w2 (.cells (da.map nv).toArray 25))
  obtain ⟨ga, hgd⟩ : ∃ x, x = w2.heap.size := ⟨_, rfl⟩
  obtain ⟨w3, hV⟩ : ∃ x, x = w2.alloc (.cells (da.map nv).toArray 25) := ⟨_, rfl⟩
  rw [← hV] at rd gv ⊢
  rw [← hgd] at rd ⊢
  have RA := Lib.hid rd
  have XA := Lib.hid (XA.out.below gv)
  have XB := Lib.hid (XB.out.below gv)
  have B3 := Lib.hid (Gr.to B1.out gv)
  clear rd gv hgd hV b2 B1 CA
  go_wp2_with (with_reducible refine wpList_load_mid rfl 23 (.tmp 3) rfl qb 0 rfl (b.map bv) _ XB.out.range Tryd.underlying23 rfl Db.out.I ?_)
  refine (CB.out w3).mono ?_
  rintro e w4 ⟨rfl, b2⟩
  go_upto_region 4 with (with_reducible refine wpList_store_new w4 rfl 25 (.tmp 7) (.tmp 15) rfl _ (db.map nv).toArray rfl rfl DDB.out.J (Eq.trans (b := 35) (by kernel_rfl) DDB.out.Z.symm) DDB.out.O ?_)
  have rd := Row.newl w4 (db.map nv) 25
  have gv := Gr.trans (show Gr w3 w4 from b2) (Gr.al w4 (.cells (db.map nv).toArray 25))
  obtain ⟨gb, hgd⟩ : ∃ x, x = w4.heap.size := ⟨_, rfl⟩
  obtain ⟨w8, hV⟩ : ∃ x, x = w4.alloc (.cells (db.map nv).toArray 25) := ⟨_, rfl⟩
  rw [← hV] at rd gv ⊢
  rw [← hgd] at rd ⊢
  have RB := Lib.hid rd
  have RA := Lib.hid (RA.out.below gv)
  have XA := Lib.hid (XA.out.below gv)
  have XB := Lib.hid (XB.out.below gv)
  have B8 := Lib.hid (Gr.to B3.out gv)
  clear rd gv hgd hV b2 B3 CB
  go_wp2_with fail
  go_loopw [8, 9, 10] (fun ls gs i' wr => ∃ k : Nat, i' = .int .i64 (k : Int) ∧ k ≤ 35 ∧ ls = .bool (lessB da db k) ∧ gs = .bool (lessB db da k) ∧ Gr w8 wr) (fun _ _ i' _ => 35 - (intOf i').toNat)
  case atStart => exact ⟨0, rfl, by omega, rfl, rfl, Gr.refl _⟩
  case round =>
    obtain ⟨k, rfl, hk, rfl, rfl, hg⟩ := hrel
    by_cases hlt : k < 35
    · have ca : (da.map nv)[k]? = some (nv (da.getD k 0)) := by rw [List.getElem?_map, List.getD_eq_getElem?_getD, List.getElem?_eq_getElem (by rw [HAL.out]; exact hlt)]; rfl
      have cb : (db.map nv)[k]? = some (nv (db.getD k 0)) := by rw [List.getElem?_map, List.getD_eq_getElem?_getD, List.getElem?_eq_getElem (by rw [HBL.out]; exact hlt)]; rfl
      have hlx : lessB da db (k + 1) = (lessB da db k || decide (da.getD k 0 < db.getD k 0)) := rfl
      have hgx : lessB db da (k + 1) = (lessB db da k || decide (db.getD k 0 < da.getD k 0)) := rfl
      generalize da.getD k 0 = x at ca hlx hgx
      generalize db.getD k 0 = y at cb hlx hgx
      have cella : ∀ W, Gr wr W → W.cell? ⟨ga, k, none⟩ = some (.int .i64 (x : Int)) := fun W h => (RA.out.below (hg.trans h) k _ ca).1
      have cellb : ∀ W, Gr wr W → W.cell? ⟨gb, k, none⟩ = some (.int .i64 (y : Int)) := fun W h => (RB.out.below (hg.trans h) k _ cb).1
      have CELLA := Lib.hid cella
      have CELLB := Lib.hid cellb
      have GW := Lib.hid hg
      have e1 : decide ((x : Int) < (y : Int)) = decide (x < y) := by simp
      have e2 : decide ((y : Int) < (x : Int)) = decide (y < x) := by simp
      clear ca cb cella cellb hg
      generalize lessB da db k = lb at *
      generalize lessB db da k = gb' at *
      have HLX := Lib.hid hlx
      have HGX := Lib.hid hgx
      clear hlx hgx
      cases lb
      · cases gb'
        · have a0 := CELLA.out wr (Gr.refl _)
          have b0 := CELLB.out wr (Gr.refl _)
          go_wp2_with fail
          go_quiet (fail)
          go_wp2_with fail
          have a1 := CELLA.out wr.drew (Gr.dr wr)
          have b1 := CELLB.out wr.drew (Gr.dr wr)
          go_quiet (fail)
          go_wp2_with fail
          exact ⟨⟨k + 1, by go_num, by omega, by rw [HLX.out]; simp, by rw [HGX.out]; simp, by first | exact GW.out.trans (Gr_drewN _ _) | exact GW.out⟩, by simp [intOf]; omega⟩
        · have a0 := CELLA.out wr (Gr.refl _)
          have b0 := CELLB.out wr (Gr.refl _)
          go_wp2_with fail
          go_quiet (fail)
          go_wp2_with fail
          have a1 := CELLA.out wr.drew (Gr.dr wr)
          have b1 := CELLB.out wr.drew (Gr.dr wr)
          go_quiet (fail)
          go_wp2_with fail
          exact ⟨⟨k + 1, by go_num, by omega, by rw [HLX.out]; simp, by rw [HGX.out]; simp, by first | exact GW.out.trans (Gr_drewN _ _) | exact GW.out⟩, by simp [intOf]; omega⟩
      · cases gb'
        · have a0 := CELLA.out wr (Gr.refl _)
          have b0 := CELLB.out wr (Gr.refl _)
          go_wp2_with fail
          go_quiet (fail)
          go_wp2_with fail
          have a1 := CELLA.out wr.drew (Gr.dr wr)
          have b1 := CELLB.out wr.drew (Gr.dr wr)
          go_quiet (fail)
          go_wp2_with fail
          exact ⟨⟨k + 1, by go_num, by omega, by rw [HLX.out]; simp, by rw [HGX.out]; simp, by first | exact GW.out.trans (Gr_drewN _ _) | exact GW.out⟩, by simp [intOf]; omega⟩
        · have a0 := CELLA.out wr (Gr.refl _)
          have b0 := CELLB.out wr (Gr.refl _)
          go_wp2_with fail
          go_quiet (fail)
          go_wp2_with fail
          have a1 := CELLA.out wr.drew (Gr.dr wr)
          have b1 := CELLB.out wr.drew (Gr.dr wr)
          go_quiet (fail)
          go_wp2_with fail
          exact ⟨⟨k + 1, by go_num, by omega, by rw [HLX.out]; simp, by rw [HGX.out]; simp, by first | exact GW.out.trans (Gr_drewN _ _) | exact GW.out⟩, by simp [intOf]; omega⟩
    · have hk35 : k = 35 := by omega
      subst hk35
      rw [HFIN.out.1, HFIN.out.2]
      have XA := Lib.hid (XA.out.below hg)
      have XB := Lib.hid (XB.out.below hg)
      have BW := Lib.hid (Gr.to B8.out hg)
      have heq := HEQ.out
      clear hlt hk hg B8 RA RB
      generalize decide (a = b) = t at *
      cases t
      · go_wp2_with (first | (with_reducible refine wpList_load_mid_g (by kernel_rfl) 23 (.tmp 2) rfl qa 0 rfl (a.map bv) _ XA.out.range Tryd.underlying23 rfl Da.out.I ?_) | (with_reducible refine wpList_load_mid_g (by kernel_rfl) 23 (.tmp 3) rfl qb 0 rfl (b.map bv) _ XB.out.range Tryd.underlying23 rfl Db.out.I ?_))
        go_ret
        exact ⟨rfl, BW.out⟩
      · go_wp2_with (first | (with_reducible refine wpList_load_mid_g (by kernel_rfl) 23 (.tmp 2) rfl qa 0 rfl (a.map bv) _ XA.out.range Tryd.underlying23 rfl Da.out.I ?_) | (with_reducible refine wpList_load_mid_g (by kernel_rfl) 23 (.tmp 3) rfl qb 0 rfl (b.map bv) _ XB.out.range Tryd.underlying23 rfl Db.out.I ?_))
        go_ret
        exact ⟨rfl, BW.out⟩
end Go.Proofs.YtdbdlhgkhnenfaaDoor
