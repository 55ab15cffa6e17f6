/-
  Contracts of the specification of package sign: signatures.
-/
import Derived.Test.YtdbdlhgkhnenfaaDoorGsq
import Derived.Test.YtdbdlhgkhnenfaaDoorGsg
namespace Go.Proofs.YtdbdlhgkhnenfaaDoor
open Go.RowKit

set_option maxRecDepth 1000000 in
set_option maxHeartbeats 4000000 in
theorem rsign_any (seed : List UInt8) (h i : Int) (m : List UInt8) (w : World) (hs : seed.length ≤ 1000000) (hm : m.length ≤ 1000) (hT : TabR w) :
    Calls Tryd.prog 19 #[.string (bstr seed), .int .i64 h, .int .i64 i, .string (bstr m)] w
      fun e w' => e = .returned (.tuple #[.string (bstr (sgnS seed h i m)), .int .i64 (sgnE h i)]) ∧ Below w.heap.size w w' := by
  have HT := Lib.hid hT
  have CPU := Lib.hid (rpublic_any seed h w hs hT)
  have hpul := pubD_len seed h
  have DPU := Lib.hid (D16.of hpul)
  by_cases hh : 0 ≤ h ∧ h ≤ 6
  case neg =>
    rw [(sgn_a (seed := seed) (m := m) (i := i) hh).1, (sgn_a (seed := seed) (m := m) (i := i) hh).2]
    rw [show pubE h = 1 from if_neg hh] at CPU
    generalize pubD seed h = p at CPU DPU
    clear hh hs hm hT hpul
    go_enter Tryd.func19, Tryd.ntmps19
    go_wp2_with fail
    refine CPU.out.mono ?_
    rintro e w1 ⟨rfl, b1⟩
    have B1 := Lib.hid (b1.alloc b1.size (.cells (p.map bv).toArray 23))
    clear b1 CPU
    go_wp2_with (with_reducible refine wpList_store_new w1 rfl 23 (.tmp 10) (.tmp 24) rfl _ (p.map bv).toArray rfl rfl DPU.out.J (Eq.trans (b := 16) (by kernel_rfl) DPU.out.Z.symm) DPU.out.O ?_)
    go_ret2
    exact ⟨rfl, B1.out⟩
  rw [show pubE h = 0 from if_pos hh] at CPU
  have CC0 := Lib.hid (fun W => rcount_any h W)
  by_cases hx : 0 ≤ i ∧ i < cnt h
  case neg =>
    rw [(sgn_b (seed := seed) (m := m) hh hx).1, (sgn_b (seed := seed) (m := m) hh hx).2]
    generalize pubD seed h = p at CPU DPU
    generalize cnt h = cc at *
    clear hh hs hm hT hpul
    by_cases hneg : i < 0
    · go_enter Tryd.func19, Tryd.ntmps19
      go_wp2_with fail
      refine CPU.out.mono ?_
      rintro e w1 ⟨rfl, b1⟩
      have B1 := Lib.hid (b1.alloc b1.size (.cells (p.map bv).toArray 23))
      clear b1 CPU
      go_wp2_with (with_reducible refine wpList_store_new w1 rfl 23 (.tmp 10) (.tmp 24) rfl _ (p.map bv).toArray rfl rfl DPU.out.J (Eq.trans (b := 16) (by kernel_rfl) DPU.out.Z.symm) DPU.out.O ?_)
      go_ret2
      exact ⟨rfl, B1.out⟩
    · have hge : cc ≤ i := by omega
      go_enter Tryd.func19, Tryd.ntmps19
      go_wp2_with fail
      refine CPU.out.mono ?_
      rintro e w1 ⟨rfl, b1⟩
      have B1 := Lib.hid (b1.alloc b1.size (.cells (p.map bv).toArray 23))
      clear b1 CPU
      go_wp2_with (with_reducible refine wpList_store_new w1 rfl 23 (.tmp 10) (.tmp 24) rfl _ (p.map bv).toArray rfl rfl DPU.out.J (Eq.trans (b := 16) (by kernel_rfl) DPU.out.Z.symm) DPU.out.O ?_)
      refine (CC0.out _).mono ?_
      rintro e w2 ⟨rfl, hw2⟩
      have B2 := Lib.hid (show Below w.heap.size w w2 by rw [hw2]; exact B1.out)
      clear hw2 B1
      go_wp2_with fail
      go_ret2
      exact ⟨rfl, B2.out⟩
  rw [(sgn_c (seed := seed) (m := m) hh hx).1, (sgn_c (seed := seed) (m := m) hh hx).2]
  have hcb := cnt_bd h
  have hcn := cnt_in hh
  have hpd : pubD seed h = Sg.value seed h.toNat 0 := if_pos hh
  obtain ⟨H, rfl⟩ := Int.eq_ofNat_of_zero_le hh.1
  obtain ⟨i, rfl⟩ := Int.eq_ofNat_of_zero_le hx.1
  rw [Int.toNat_natCast] at hpd
  rw [hpd] at CPU DPU
  have hH : H ≤ 6 := by omega
  have hi64 : i < 64 := by omega
  have hiN : i < 2 ^ H := by
    have h1 := hx.2
    rw [hcn, Int.toNat_natCast] at h1
    exact_mod_cast h1
  rw [Int.toNat_natCast, Int.toNat_natCast]
  have hpl := Sg.value_len seed H 0
  have CM := Lib.hid (fun (W : World) (ht : TabR W) => rmessage_any (Sg.value seed H 0) (i : Int) m W hpl (by omega) hm ht)
  have hml := Sg.message_len (Sg.value seed H 0) (i : Int) m
  have hdl := Sg.digits_len hml
  have hds := Sg.digits_get_le hml
  have CDG := Lib.hid (fun (W : World) => rdigits_any (Sg.message (Sg.value seed H 0) (i : Int) m) W hml)
  have CI := Lib.hid (fun (W : World) => refInt_any (i : Int) W (by omega) (by omega))
  have hil := Wm.encI_len (i : Int) (by omega) (by omega)
  have hsign : Sg.sign seed H i m = Wm.encI (i : Int) ++ (Sg.chains seed (i : Int) (Sg.digits (Sg.message (Sg.value seed H 0) (i : Int) m)) 35).flatten ++ (Sg.sides seed i H).flatten := rfl
  obtain ⟨ds, hdse⟩ : ∃ x, x = Sg.digits (Sg.message (Sg.value seed H 0) (i : Int) m) := ⟨_, rfl⟩
  rw [← hdse] at hdl hds CDG hsign
  generalize Sg.message (Sg.value seed H 0) (i : Int) m = mm at CM CDG
  generalize Sg.value seed H 0 = p at hpl CM CPU DPU
  obtain ⟨E, hE⟩ : ∃ x, x = Wm.encI (i : Int) := ⟨_, rfl⟩
  rw [← hE] at hil CI hsign
  have HSG := Lib.hid hsign
  have HDL := Lib.hid hdl
  have HDS := Lib.hid hds
  have DDS := Lib.hid (D35.of hdl)
  have hx1 : ¬ ((i : Int) < 0) := by omega
  have hx2 := hx.2
  have CV := Lib.hid (fun (l n : Nat) (W : World) (h1 : l ≤ 6) (h2 : (n + 1) * 2 ^ l ≤ 1000) (ht : TabR W) => rvalue_any seed hs l n W h1 h2 ht)
  have CST0 := Lib.hid (fun (j : Int) (W : World) (hj : 0 ≤ j ∧ j ≤ 1000) (ht : TabR W) => rstart_any seed (i : Int) j W hs (by omega) hj ht)
  clear hh hx hs hm hT hml hdl hds hsign hdse hpl hE hcn hpul hpd
  generalize cnt (H : Int) = cc at *
  go_enter Tryd.func19, Tryd.ntmps19
  go_wp2_with fail
  refine CPU.out.mono ?_
  rintro e w1 ⟨rfl, b1⟩
  have rp := Row.newl w1 (p.map bv) 23
  have B1 := b1.alloc b1.size (.cells (p.map bv).toArray 23)
  obtain ⟨gp, hgp⟩ : ∃ z, z = w1.heap.size := ⟨_, rfl⟩
  obtain ⟨w3, hw3⟩ : ∃ z, z = w1.alloc (.cells (p.map bv).toArray 23) := ⟨_, rfl⟩
  rw [← hw3] at rp B1
  rw [← hgp] at rp
  have RP := Lib.hid rp
  have B3 := Lib.hid B1
  have HW3 := Lib.hid hw3
  have HGP := Lib.hid hgp
  clear rp B1 hgp hw3 b1 CPU
  go_upto_region 2 with (with_reducible refine wpList_store_new w1 rfl 23 (.tmp 10) (.tmp 24) rfl _ (p.map bv).toArray rfl rfl DPU.out.J (Eq.trans (b := 16) (by kernel_rfl) DPU.out.Z.symm) DPU.out.O ?_)
  rw [← HW3.out, ← HGP.out]
  clear HW3 HGP
  go_wp2_with fail
  refine (CC0.out w3).mono ?_
  rintro e w3b ⟨rfl, rfl⟩
  go_wp2_with fail
  refine (CI.out w3b).mono ?_
  rintro e w7 ⟨v7, rfl, o7, b7⟩
  obtain ⟨A7, c7, rfl, _, _, l7⟩ := own_shape o7
  have L7 := Lib.hid l7
  have HA7 : Hid (A7 = none → E.length = 0) := Lib.hid (fun h => by have h2 := L7.out.none_ h; rw [h2]; rfl)
  have G7 := Lib.hid (show Gr w3b w7 from b7)
  have RP7 := Lib.hid (RP.out.below b7)
  clear o7 b7 l7 RP CI CC0
  go_wp2_with (first | (with_reducible refine wpList_convert_str w7 rfl (.tmp 38) 43 9 5 rfl Tryd.underlying43 Tryd.underlying5 Tryd.underlying9 A7 E.length c7 rfl E rfl HA7.out L7.out ?_) | (with_reducible refine wpList_load_mid rfl 23 (.tmp 10) rfl gp 0 rfl (p.map bv) _ RP7.out.range Tryd.underlying23 rfl DPU.out.I ?_))
  refine (CM.out w7 (HT.out.below (Gr.to B3.out G7.out))).mono ?_
  rintro e w4 ⟨rfl, b4⟩
  have G4 := Lib.hid (G7.out.trans (show Gr w7 w4 from b4))
  clear b4 CM L7 HA7 RP7 G7
  go_wp2_with fail
  refine (CDG.out w4).mono ?_
  rintro e w5 ⟨rfl, b5⟩
  have G5 := Lib.hid (G4.out.trans (show Gr w4 w5 from b5))
  clear b5 CDG G4
  go_upto_region 8 with (with_reducible refine wpList_store_new w5 rfl 25 (.tmp 13) (.tmp 44) rfl _ (ds.map nv).toArray rfl rfl DDS.out.J (Eq.trans (b := 35) (by kernel_rfl) DDS.out.Z.symm) DDS.out.O ?_)
  have rd := Row.newl w5 (ds.map nv) 25
  have gv := G5.out.trans (Gr.al w5 (.cells (ds.map nv).toArray 25))
  obtain ⟨gd, hgd⟩ : ∃ x, x = w5.heap.size := ⟨_, rfl⟩
  obtain ⟨w8, hV⟩ : ∃ x, x = w5.alloc (.cells (ds.map nv).toArray 25) := ⟨_, rfl⟩
  rw [← hV] at rd gv ⊢
  rw [← hgd] at rd ⊢
  have RD8 := Lib.hid rd
  have B8 := Lib.hid (Gr.to B3.out gv)
  clear rd gv hgd hV G5 B3
  go_wp2_with fail
  go_loopw [12, 14] (fun sg i' wr => ∃ k : Nat, i' = .int .i64 (k : Int) ∧ k ≤ 35 ∧ sg = .string (bstr (E ++ (Sg.chains seed (i : Int) ds k).flatten)) ∧ Gr w8 wr) (fun _ i' _ => 35 - (intOf i').toNat)
  case atStart => exact ⟨0, rfl, by omega, by simp [Sg.chains], Gr.refl _⟩
  case round =>
    obtain ⟨k, rfl, hk, rfl, hg⟩ := hrel
    have hcl : (Sg.chains seed (i : Int) ds k).flatten.length = k * 16 := by rw [flatten_len (Sg.chains_16 _ _ _ _), Sg.chains_length]
    by_cases hlt : k < 35
    · have hvl := Sg.start_len seed (i : Int) (k : Int)
      have CST := Lib.hid (fun (W : World) (ht : TabR W) => CST0.out (k : Int) W (by omega) ht)
      have hcs := congrArg List.flatten (Sg.chains_succ seed (i : Int) ds k)
      rw [List.flatten_append, List.flatten_cons, List.flatten_nil, List.append_nil] at hcs
      have hcn0 : (ds.map nv)[k]? = some (nv (ds.getD k 0)) := by rw [List.getElem?_map, List.getD_eq_getElem?_getD, List.getElem?_eq_getElem (by rw [HDL.out]; exact hlt)]; rfl
      have hdk := HDS.out k
      have hcc := fun (W : World) (ht : TabR W) => rclimb_any (i : Int) (k : Int) (Sg.start seed (i : Int) (k : Int)) 0 (ds.getD k 0) W hvl ht (by omega) (by omega) (by omega)
      rw [Nat.zero_add] at hcc
      have hyl : (Sg.climb (i : Int) (k : Int) (Sg.start seed (i : Int) (k : Int)) 0 (ds.getD k 0)).length = 16 := Sg.climb_len hvl _ _
      generalize Sg.climb (i : Int) (k : Int) (Sg.start seed (i : Int) (k : Int)) 0 (ds.getD k 0) = y at hcs hcc hyl
      generalize Sg.start seed (i : Int) (k : Int) = v at hvl hcc CST
      generalize ds.getD k 0 = d at hcc hcn0 hdk
      have hcn : (ds.map nv)[k]? = some (.int .i64 (d : Int)) := hcn0
      have hacl : (E ++ (Sg.chains seed (i : Int) ds k).flatten).length ≤ 1000 := by rw [List.length_append, hcl]; omega
      have hacs : E ++ (Sg.chains seed (i : Int) ds (k + 1)).flatten = (E ++ (Sg.chains seed (i : Int) ds k).flatten) ++ y := by rw [hcs, List.append_assoc]
      generalize E ++ (Sg.chains seed (i : Int) ds k).flatten = acc at hacl hacs ⊢
      have HACS := Lib.hid hacs
      have e1 : (bstr acc).size = acc.length := bstr_size acc
      have e2 : (bstr y).size = y.length := bstr_size y
      have e3 := bstr_cat acc y
      have CC := Lib.hid hcc
      have DY := Lib.hid (D16.of hyl)
      have HY16 := Lib.hid hyl
      have GX := Lib.hid hg
      have BW := Lib.hid (Gr.to B8.out hg)
      have CN := Lib.hid (fun (W : World) (hgw : Gr wr W) => (((RD8.out.below hg).below hgw) k (.int .i64 (d : Int)) hcn).1)
      clear hvl hcs hcn0 hcc hcn hacs hg hcl
      go_wp2_with fail
      refine wpK_region (by kernel_rfl) ?_
      refine wpK_ta (i := 0) (some 49) rfl rfl (by kernel_rfl) (fun _ _ _ h => h) (Or.inl ⟨rfl, fun _ => rfl⟩) ?_
      simp only [Act.put, List.setIfInBounds_toArray, List.set_cons_zero, List.set_cons_succ]
      refine wpK_ta (i := 1) (some 50) rfl rfl (by kernel_rfl) (fun _ _ _ h => h) (Or.inl ⟨rfl, fun _ => rfl⟩) ?_
      simp only [Act.put, List.setIfInBounds_toArray, List.set_cons_zero, List.set_cons_succ]
      refine wpK_ta (i := 2) (some 51) rfl rfl (by kernel_rfl) (fun _ _ _ h => h) (Or.inl ⟨rfl, fun _ => rfl⟩) ?_
      simp only [Act.put, List.setIfInBounds_toArray, List.set_cons_zero, List.set_cons_succ]
      refine wpK_ta (i := 3) (some 52) rfl rfl (by kernel_rfl) (fun _ _ _ h => h) (Or.inl ⟨rfl, fun _ => rfl⟩) ?_
      simp only [Act.put, List.setIfInBounds_toArray, List.set_cons_zero, List.set_cons_succ]
      refine wpK_ta (i := 4) (some 53) rfl rfl (by kernel_rfl) (fun _ _ _ h => h) (Or.inl ⟨rfl, fun _ => rfl⟩) ?_
      simp only [Act.put, List.setIfInBounds_toArray, List.set_cons_zero, List.set_cons_succ]
      refine wpK_ta (i := 6) (some 55) rfl rfl (by kernel_rfl) (fun _ _ _ h => h) (Or.inl ⟨rfl, fun _ => rfl⟩) ?_
      simp only [Act.put, List.setIfInBounds_toArray, List.set_cons_zero, List.set_cons_succ]
      refine wpK_tk (i := 5) (some 54) (v := .agg (v.map bv).toArray) rfl rfl (by kernel_rfl) (fun _ _ _ h => h) (.call (f := 35) (args := #[.string (bstr seed), .int .i64 (i : Int), .int .i64 (k : Int)]) (by rfl) (fun W => by go_simp) (fun W hg => CST.out W (HT.out.below (Gr.to BW.out hg.un)))) ?_
      simp only [Act.put, List.setIfInBounds_toArray, List.set_cons_zero, List.set_cons_succ]
      refine wpK_ta (i := 7) (some 56) (v := .pointer (some ⟨gd, k, none⟩)) rfl rfl (by kernel_rfl) (fun _ _ _ h => h) (Or.inl ⟨by rfl, fun W => by go_simp⟩) ?_
      simp only [Act.put, List.setIfInBounds_toArray, List.set_cons_zero, List.set_cons_succ]
      refine wpK_tk (i := 8) (some 57) (v := .int .i64 (d : Int)) rfl rfl (by kernel_rfl) (fun _ _ _ h => h) (.val (by rfl) (fun W hg => by have hc := CN.out W hg.un; go_simp)) ?_
      simp only [Act.put, List.setIfInBounds_toArray, List.set_cons_zero, List.set_cons_succ]
      refine wpK_tk (i := 9) (some 58) (v := .agg (y.map bv).toArray) rfl rfl (by kernel_rfl) (fun _ _ _ h => h) (.call (f := 34) (args := #[.int .i64 (i : Int), .int .i64 (k : Int), .agg (v.map bv).toArray, .int .i64 0, .int .i64 (d : Int)]) (by rfl) (fun W => by go_simp) (fun W hg => CC.out W (HT.out.below (Gr.to BW.out hg.un)))) ?_
      simp only [Act.put, List.setIfInBounds_toArray, List.set_cons_zero, List.set_cons_succ]
      refine wpK_val (i := 10) (some 15) rfl rfl (by kernel_rfl) (by rfl) (fun W1 hgW1 => ⟨.pointer (some ⟨W1.heap.size, 0, none⟩), W1.alloc (.cells z16 23), by (go_simp <;> rfl), Gr.al _ _, ?_⟩)
      simp only [Act.put, List.setIfInBounds_toArray, List.set_cons_zero, List.set_cons_succ]
      have n6 := Row.new W1 z16 23
      have g6 := hgW1.un.trans (Gr.al W1 (.cells z16 23))
      obtain ⟨gx, hgx⟩ : ∃ z, z = W1.heap.size := ⟨_, rfl⟩
      have hgxb : w8.heap.size ≤ gx := by have h1 := hgW1.un.size; have h2 := GX.out.size; omega
      obtain ⟨W4, e4⟩ : ∃ z, z = W1.alloc (.cells z16 23) := ⟨_, rfl⟩
      rw [← e4, ← hgx] at n6
      rw [← e4] at g6
      rw [← e4, ← hgx]
      have N6 : Hid (Row gx (fill16 []) W4) := Lib.hid n6
      have G6 := Lib.hid g6
      clear n6 g6 e4 hgx
      refine wpK_store (i := 11) (none) rfl rfl (by kernel_rfl) (by rfl) (by rfl) (fun W8 hgW8 => ⟨_, run_store_mid 23 (.tmp 15) (.tmp 58) rfl (gx) (0) ((y.map bv).toArray) rfl rfl ((N6.out.below hgW8).there 0 _ (by rw [DY.out.Z, z16_len]; decide)) DY.out.J DY.out.O, ?_⟩)
      simp only [Act.put]
      refine wpK_done (by kernel_rfl) (fun W9 hgW9 => ?_) _
      have RX := Lib.hid ((Row.over (D := y.map bv) (N6.out.below hgW8) (by rw [z16_len, DY.out.len])).below hgW9)
      have PG := Lib.hid (show Gr w8 W9 from Gr.to (below_setCells (b := gx) hgxb (y.map bv) 0 w8 W8 (Gr.to (GX.out.trans G6.out) hgW8)) hgW9)
      clear hgW1 hgW8 hgW9
      go_wp2_with (with_reducible refine wpList_load_mid rfl 23 (.tmp 15) rfl gx 0 rfl (y.map bv) _ RX.out.range Tryd.underlying23 rfl DY.out.I ?_)
      refine (hrText_any y W9 HY16.out).mono ?_
      rintro e w2 ⟨rfl, b2⟩
      have PG2 := Lib.hid (PG.out.trans (show Gr W9 w2 from b2))
      clear b2 RX PG
      go_wp2_with fail
      first
        | exact ⟨⟨k + 1, by go_num, by omega, by rw [HACS.out], PG2.out⟩, by simp [intOf]; omega⟩
        | (go_roundw
           case rel => exact ⟨k + 1, by go_num, by omega, by rw [HACS.out], PG2.out⟩
           case measure => simp [intOf]; omega)
    · have hk35 : k = 35 := by omega
      subst hk35
      obtain ⟨F, hF⟩ : ∃ x, x = E ++ (Sg.chains seed (i : Int) ds 35).flatten := ⟨_, rfl⟩
      have hFl : F.length ≤ 1000 := by rw [hF, List.length_append, hcl]; omega
      have hsg := HSG.out
      rw [← hF] at hsg ⊢
      have HSF := Lib.hid hsg
      have GW := Lib.hid hg
      clear hF hsg hcl hg hk hlt HSG
      go_wp2_with fail
      go_loopw [12, 16, 17] (fun sg nn i' wr => ∃ l : Nat, i' = .int .i64 (l : Int) ∧ l ≤ H ∧ nn = .int .i64 ((i / 2 ^ l : Nat) : Int) ∧ sg = .string (bstr (F ++ (Sg.sides seed i l).flatten)) ∧ Gr w8 wr) (fun _ _ i' _ => H - (intOf i').toNat)
      case atStart => exact ⟨0, rfl, by omega, by simp, by simp [Sg.sides], GW.out⟩
      case round =>
        obtain ⟨l, rfl, hl, rfl, rfl, hg⟩ := hrel
        have hcl : (Sg.sides seed i l).flatten.length = l * 16 := by rw [flatten_len (Sg.sides_16 _ _ _), Sg.sides_length]
        by_cases hlt : l < H
        · obtain ⟨q, hqe⟩ : ∃ q, q = i / 2 ^ l := ⟨_, rfl⟩
          obtain ⟨p2, hpe⟩ : ∃ p2, p2 = i / 2 ^ (l + 1) := ⟨_, rfl⟩
          have hpq : p2 = q / 2 := by rw [hpe, hqe, Nat.pow_succ, Nat.div_div_eq_div_mul]
          have hqn : q < 64 := by rw [hqe]; exact Nat.lt_of_le_of_lt (Nat.div_le_self _ _) hi64
          have hqN : q < 2 ^ (H - l) := by
            rw [hqe, Nat.div_lt_iff_lt_mul (Nat.two_pow_pos _), ← Nat.pow_add, Nat.sub_add_cancel (by omega)]
            exact hiN
          have hev : 2 ^ (H - l) = 2 * 2 ^ (H - l - 1) := by
            conv => lhs; rw [show H - l = (H - l - 1) + 1 by omega, Nat.pow_succ]
            omega
          have hss := congrArg List.flatten (Sg.sides_succ seed i l)
          rw [List.flatten_append, List.flatten_cons, List.flatten_nil, List.append_nil, ← hqe] at hss
          obtain ⟨s, hse⟩ : ∃ s, s = Sg.beside q := ⟨_, rfl⟩
          have hsN : s < 2 ^ (H - l) := by
            generalize 2 ^ (H - l - 1) = z at hev
            rw [hse]; unfold Sg.beside; split <;> omega
          have hb1000 : (s + 1) * 2 ^ l ≤ 1000 := by
            have h1 : (s + 1) * 2 ^ l ≤ 2 ^ (H - l) * 2 ^ l := Nat.mul_le_mul_right _ hsN
            rw [← Nat.pow_add, Nat.sub_add_cancel (by omega)] at h1
            exact Nat.le_trans h1 (Nat.le_trans (Nat.pow_le_pow_right (by omega) hH) (by decide))
          rw [← hse] at hss
          have CVY := Lib.hid (fun (W : World) (ht : TabR W) => CV.out l s W (by omega) hb1000 ht)
          have hyl := Sg.value_len seed l s
          generalize Sg.value seed l s = y at CVY hyl hss
          have hacl : (F ++ (Sg.sides seed i l).flatten).length ≤ 2000 := by rw [List.length_append, hcl]; omega
          have hacs : F ++ (Sg.sides seed i (l + 1)).flatten = (F ++ (Sg.sides seed i l).flatten) ++ y := by rw [hss, List.append_assoc]
          generalize F ++ (Sg.sides seed i l).flatten = acc at hacl hacs ⊢
          have HACS := Lib.hid hacs
          have e1 : (bstr acc).size = acc.length := bstr_size acc
          have e2 : (bstr y).size = y.length := bstr_size y
          have e3 := bstr_cat acc y
          have DY := Lib.hid (D16.of hyl)
          have HY16 := Lib.hid hyl
          have GX := Lib.hid hg
          have BW := Lib.hid (Gr.to B8.out hg)
          rw [← hqe]
          have HPE := Lib.hid hpe
          have hpq2 : (q : Int) / 2 = (p2 : Int) := by omega
          clear hqN hev hss hacs hg hcl hb1000 hqe hpe hpq hsN
          by_cases hbit : q % 2 = 1
          · have hsv : (q : Int) - 1 = (s : Int) := by rw [hse]; unfold Sg.beside; rw [if_pos hbit]; omega
            have hqi : (q : Int) % 2 = 1 := by omega
            clear hse
            go_wp2_with fail
            refine (CVY.out wr (HT.out.below BW.out)).mono ?_
            rintro e w3 ⟨rfl, b3⟩
            go_upto_region 21 with (with_reducible refine wpList_store_new w3 rfl 23 (.tmp 19) (.tmp 79) rfl _ (y.map bv).toArray rfl rfl DY.out.J (Eq.trans (b := 16) (by kernel_rfl) DY.out.Z.symm) DY.out.O ?_)
            have rn := Row.newl w3 (y.map bv) 23
            have gn1 := (GX.out.trans (show Gr wr w3 from b3)).trans (Gr.al w3 (.cells (y.map bv).toArray 23))
            obtain ⟨gn, hgn⟩ : ∃ x, x = w3.heap.size := ⟨_, rfl⟩
            obtain ⟨V, hV⟩ : ∃ x, x = w3.alloc (.cells (y.map bv).toArray 23) := ⟨_, rfl⟩
            rw [← hV] at rn gn1 ⊢
            rw [← hgn] at rn ⊢
            have ZN := Lib.hid rn
            have ZG := Lib.hid gn1
            clear rn gn1 hgn hV b3 CVY
            go_wp2_with (with_reducible refine wpList_load_mid rfl 23 (.tmp 19) rfl gn 0 rfl (y.map bv) _ ZN.out.range Tryd.underlying23 rfl DY.out.I ?_)
            refine (hrText_any y V HY16.out).mono ?_
            rintro e w5 ⟨rfl, b5⟩
            have PG2 := Lib.hid (ZG.out.trans (show Gr V w5 from b5))
            clear b5 ZN ZG
            go_wp2_with fail
            refine ⟨⟨_, _, _, _, _, _, _, _, _, _, _, _, _, _, _, _, _, _, _, _, _, _, _, _, _, _, _, ?rel1, rfl⟩, ?meas1⟩
            case rel1 => exact ⟨l + 1, by go_num, by omega, by rw [← HPE.out], by rw [HACS.out], PG2.out⟩
            case meas1 => simp [intOf]; omega
          · have hsv : (q : Int) + 1 = (s : Int) := by rw [hse]; unfold Sg.beside; rw [if_neg hbit]; omega
            have hqi : (q : Int) % 2 = 0 := by omega
            clear hse
            go_wp2_with fail
            refine (CVY.out wr (HT.out.below BW.out)).mono ?_
            rintro e w3 ⟨rfl, b3⟩
            go_upto_region 21 with (with_reducible refine wpList_store_new w3 rfl 23 (.tmp 19) (.tmp 79) rfl _ (y.map bv).toArray rfl rfl DY.out.J (Eq.trans (b := 16) (by kernel_rfl) DY.out.Z.symm) DY.out.O ?_)
            have rn := Row.newl w3 (y.map bv) 23
            have gn1 := (GX.out.trans (show Gr wr w3 from b3)).trans (Gr.al w3 (.cells (y.map bv).toArray 23))
            obtain ⟨gn, hgn⟩ : ∃ x, x = w3.heap.size := ⟨_, rfl⟩
            obtain ⟨V, hV⟩ : ∃ x, x = w3.alloc (.cells (y.map bv).toArray 23) := ⟨_, rfl⟩
            rw [← hV] at rn gn1 ⊢
            rw [← hgn] at rn ⊢
            have ZN := Lib.hid rn
            have ZG := Lib.hid gn1
            clear rn gn1 hgn hV b3 CVY
            go_wp2_with (with_reducible refine wpList_load_mid rfl 23 (.tmp 19) rfl gn 0 rfl (y.map bv) _ ZN.out.range Tryd.underlying23 rfl DY.out.I ?_)
            refine (hrText_any y V HY16.out).mono ?_
            rintro e w5 ⟨rfl, b5⟩
            have PG2 := Lib.hid (ZG.out.trans (show Gr V w5 from b5))
            clear b5 ZN ZG
            go_wp2_with fail
            refine ⟨⟨_, _, _, _, _, _, _, _, _, _, _, _, _, _, _, _, _, _, _, _, _, _, _, _, _, _, _, ?rel0, rfl⟩, ?meas0⟩
            case rel0 => exact ⟨l + 1, by go_num, by omega, by rw [← HPE.out], by rw [HACS.out], PG2.out⟩
            case meas0 => simp [intOf]; omega
        · have hlH : l = H := by omega
          subst hlH
          have BF := Lib.hid (Gr.to B8.out hg)
          have HSF2 := Lib.hid HSF.out
          clear hcl hg
          go_wp2_with fail
          go_ret2
          exact ⟨by rw [HSF2.out]; rfl, BF.out⟩
end Go.Proofs.YtdbdlhgkhnenfaaDoor
