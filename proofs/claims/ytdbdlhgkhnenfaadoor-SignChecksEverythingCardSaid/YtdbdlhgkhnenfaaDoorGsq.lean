/-
  Contracts of package sign: public keys, signatures.
-/
import Derived.Test.YtdbdlhgkhnenfaaDoorGsz
import Derived.Test.YtdbdlhgkhnenfaaDoorGsr
import Derived.Test.YtdbdlhgkhnenfaaDoorGsi
import Derived.Test.YtdbdlhgkhnenfaaDoorGsv
namespace Go.Proofs.YtdbdlhgkhnenfaaDoor
open Go.RowKit

/-- a signature, and the error -/
def sgnS (seed : List UInt8) (h i : Int) (m : List UInt8) : List UInt8 := if 0 ≤ i ∧ i < cnt h then Sg.sign seed h.toNat i.toNat m else []
def sgnE (h i : Int) : Int := if 0 ≤ h ∧ h ≤ 6 then (if 0 ≤ i ∧ i < cnt h then 0 else 23) else 1
theorem sgn_a {seed m : List UInt8} {h i : Int} (hh : ¬ (0 ≤ h ∧ h ≤ 6)) : sgnS seed h i m = [] ∧ sgnE h i = 1 := by
  have : ¬ (0 ≤ i ∧ i < cnt h) := by rw [cnt_out hh]; omega
  exact ⟨if_neg this, if_neg hh⟩
theorem sgn_b {seed m : List UInt8} {h i : Int} (hh : 0 ≤ h ∧ h ≤ 6) (hx : ¬ (0 ≤ i ∧ i < cnt h)) : sgnS seed h i m = [] ∧ sgnE h i = 23 :=
  ⟨if_neg hx, by unfold sgnE; rw [if_pos hh, if_neg hx]⟩
theorem sgn_c {seed m : List UInt8} {h i : Int} (hh : 0 ≤ h ∧ h ≤ 6) (hx : 0 ≤ i ∧ i < cnt h) : sgnS seed h i m = Sg.sign seed h.toNat i.toNat m ∧ sgnE h i = 0 :=
  ⟨if_pos hx, by unfold sgnE; rw [if_pos hh, if_pos hx]⟩
theorem bstr_cat (l m : List UInt8) : bstr l ++ bstr m = bstr (l ++ m) := by
  apply ByteArray.ext
  simp [bstr]

set_option maxRecDepth 1000000 in
set_option maxHeartbeats 1000000 in
theorem public_any (seed : List UInt8) (h : Int) (w : World) (hs : seed.length ≤ 1000000) (hT : Tab w) :
    Calls Tryd.prog 16 #[.string (bstr seed), .int .i64 h] w
      fun e w' => e = .returned (.tuple #[.agg ((pubD seed h).map bv).toArray, .int .i64 (pubE h)]) ∧ Below w.heap.size w w' := by
  have HT := Lib.hid hT
  have CP := Lib.hid (fun W => permitted_any h W)
  have K0 : Hid (Row w.heap.size (fill16 []) (w.alloc (.cells z16 23))) := Lib.hid (Row.new w z16 23)
  have g0 := Gr.al w (.cells z16 23)
  obtain ⟨u, hu⟩ : ∃ x, x = w.alloc (.cells z16 23) := ⟨_, rfl⟩
  rw [← hu] at K0 g0
  have B0 : Hid (Below w.heap.size w u) := Lib.hid g0
  have HU := Lib.hid hu
  have hyl := pubD_len seed h
  have DY := Lib.hid (D16.of hyl)
  obtain ⟨y, hy⟩ : ∃ y, y = pubD seed h := ⟨_, rfl⟩
  rw [← hy] at DY ⊢
  by_cases hh : 0 ≤ h ∧ h ≤ 6
  · rw [decide_eq_true hh] at CP
    obtain ⟨H, rfl⟩ := Int.eq_ofNat_of_zero_le hh.1
    have hl6 : H ≤ 6 := by omega
    have hE : pubE (H : Int) = 0 := if_pos hh
    have hD : y = Sg.value seed H 0 := by rw [hy]; unfold pubD; rw [if_pos hh]; rfl
    have HD := Lib.hid hD
    have CG := Lib.hid (fun (W : World) (ht : Tab W) => grow_any seed H W hs hl6 ht)
    rw [hE]
    clear hT hs g0 hu hyl hy hE hD hh
    go_enter Tryd.func16, Tryd.ntmps16
    go_upto_region 1 with fail
    rw [← HU.out]
    clear HU
    go_wp2_with fail
    refine (CP.out u).mono ?_
    rintro e w1 ⟨rfl, rfl⟩
    go_wp2_with fail
    refine (CG.out w1 (HT.out.below B0.out)).mono ?_
    rintro e w2 ⟨gL, f, rfl, hr, hl, hb⟩
    have hc := (hr H _ (lv_get f H H (Nat.le_refl _))).1
    obtain ⟨bA, oA, cA, hfl, hcA, hli, _, _⟩ := hl H (Nat.le_refl _)
    have hd := hli.digest (lev_16 seed H H) (k := 0) (by rw [lev_len]; exact Nat.two_pow_pos _)
    rw [lev_get _ _ _ _ (Nat.two_pow_pos _), ← HD.out] at hd
    rw [Nat.sub_self] at hfl
    rw [hfl] at hc
    change w2.cell? ⟨gL, H, none⟩ = some (.slice (some ⟨bA, oA, none⟩) 1 cA) at hc
    change w2.rangeAt bA (oA + 0 * 16) (y.map bv) at hd
    rw [Nat.zero_mul, Nat.add_zero] at hd
    have HDG := Lib.hid hd
    have T8 := Lib.hid ((K0.out.below hb).there 0 (y.map bv).toArray.size (by rw [DY.out.Z, z16_len]; decide))
    have B8 := Lib.hid (Gr.to B0.out hb)
    have ha3 : (H : Int) < (H : Int) + 1 := by omega
    clear hr hl hb hfl hcA hli hd CG CP K0 B0
    go_wp2_with (first | (with_reducible refine wpList_load_mid rfl 23 (.tmp 16) rfl bA oA rfl (y.map bv) _ HDG.out Tryd.underlying23 rfl DY.out.I ?_) | (with_reducible refine wpList_store_mid rfl 23 (.tmp 4) (.tmp 17) rfl w.heap.size 0 (y.map bv).toArray rfl rfl T8.out DY.out.J DY.out.O ?_))
    have HRR := Lib.hid (World.rangeAt_setCells_same w2 w.heap.size 0 (y.map bv).toArray.toList (by simpa using T8.out))
    refine bodyPost_ret (results_cell_tmp1 rfl _ _ _ w.heap.size 0 (y.map bv) _ rfl HRR.out Tryd.underlying23 rfl DY.out.I) rfl ?_
    exact ⟨rfl, below_setCells (Nat.le_refl _) _ 0 _ _ B8.out⟩
  · rw [decide_eq_false hh] at CP
    have hE : pubE h = 1 := if_neg hh
    have hD : (y.map bv).toArray = z16 := by rw [hy]; unfold pubD; rw [if_neg hh]; rfl
    have OZ := Lib.hid (show z16.all (·.oneCell') = true by have h := DY.out.O; rw [hD] at h; exact h)
    rw [hE, hD]
    have T8 := Lib.hid (K0.out.there 0 z16.size (by rw [z16_len]; decide))
    have JZ := Lib.hid (show (Tryd.prog.info? 23).map (·.size) = some z16.size by kernel_rfl)
    clear hT hs g0 hu hyl hy hE hh hD K0 DY
    go_enter Tryd.func16, Tryd.ntmps16
    go_upto_region 1 with fail
    rw [← HU.out]
    clear HU
    go_wp2_with fail
    refine (CP.out u).mono ?_
    rintro e w1 ⟨rfl, rfl⟩
    go_wp2_with (with_reducible refine wpList_store_mid rfl 23 (.tmp 4) (.tmp 9) rfl w.heap.size 0 z16 rfl rfl T8.out JZ.out OZ.out ?_)
    have HRR := Lib.hid (World.rangeAt_setCells_same w1 w.heap.size 0 z16.toList (by simpa using T8.out))
    refine bodyPost_ret (results_cell_tmp1 rfl _ _ _ w.heap.size 0 z16.toList _ rfl HRR.out Tryd.underlying23 rfl JZ.out) rfl ?_
    exact ⟨rfl, below_setCells (Nat.le_refl _) _ 0 _ _ B0.out⟩

set_option maxRecDepth 1000000 in
set_option maxHeartbeats 4000000 in
theorem sign_any (seed : List UInt8) (h i : Int) (m : List UInt8) (w : World) (hs : seed.length ≤ 1000000) (hm : m.length ≤ 1000) (hT : Tab w) :
    Calls Tryd.prog 18 #[.string (bstr seed), .int .i64 h, .int .i64 i, .string (bstr m)] w
      fun e w' => e = .returned (.tuple #[.string (bstr (sgnS seed h i m)), .int .i64 (sgnE h i)]) ∧ Below w.heap.size w w' := by
  have HT := Lib.hid hT
  have CP := Lib.hid (fun W => permitted_any h W)
  by_cases hh : 0 ≤ h ∧ h ≤ 6
  case neg =>
    rw [(sgn_a (seed := seed) (m := m) (i := i) hh).1, (sgn_a (seed := seed) (m := m) (i := i) hh).2]
    rw [decide_eq_false hh] at CP
    clear hh hs hm hT
    go_enter Tryd.func18, Tryd.ntmps18
    go_wp2_with fail
    refine (CP.out w).mono ?_
    rintro e w1 ⟨rfl, rfl⟩
    go_wp2_with fail
    go_ret2
    exact ⟨rfl, Below.refl _ _⟩
  rw [decide_eq_true hh] at CP
  have CE := Lib.hid (fun W => exists_any h i W)
  by_cases hx : 0 ≤ i ∧ i < cnt h
  case neg =>
    rw [(sgn_b (seed := seed) (m := m) hh hx).1, (sgn_b (seed := seed) (m := m) hh hx).2]
    rw [decide_eq_false hx] at CE
    clear hh hs hm hT hx
    go_enter Tryd.func18, Tryd.ntmps18
    go_wp2_with fail
    refine (CP.out w).mono ?_
    rintro e w1 ⟨rfl, rfl⟩
    go_wp2_with fail
    refine (CE.out w1).mono ?_
    rintro e w2 ⟨rfl, rfl⟩
    go_wp2_with fail
    go_ret2
    exact ⟨rfl, Below.refl _ _⟩
  rw [(sgn_c (seed := seed) (m := m) hh hx).1, (sgn_c (seed := seed) (m := m) hh hx).2]
  rw [decide_eq_true hx] at CE
  have hcb := cnt_bd h
  have hcn := cnt_in hh
  obtain ⟨H, rfl⟩ := Int.eq_ofNat_of_zero_le hh.1
  obtain ⟨i, rfl⟩ := Int.eq_ofNat_of_zero_le hx.1
  have hH : H ≤ 6 := by omega
  have hi64 : i < 64 := by omega
  have hiN : i < 2 ^ H := by
    have h1 := hx.2
    rw [hcn, Int.toNat_natCast] at h1
    exact_mod_cast h1
  rw [Int.toNat_natCast, Int.toNat_natCast]
  have CG := Lib.hid (fun (W : World) (ht : Tab W) => grow_any seed H W hs hH ht)
  have hpl := Sg.value_len seed H 0
  have CM := Lib.hid (fun (W : World) (ht : Tab W) => message_any (Sg.value seed H 0) (i : Int) m W hpl (by omega) hm ht)
  have hml := Sg.message_len (Sg.value seed H 0) (i : Int) m
  have hdl := Sg.digits_len hml
  have hds := Sg.digits_get_le hml
  have CDG := Lib.hid (fun (W : World) => digits_any (Sg.message (Sg.value seed H 0) (i : Int) m) W hml)
  have CI := Lib.hid (fun (W : World) => int_any (i : Int) W (by omega) (by omega))
  have hil := Wm.encI_len (i : Int) (by omega) (by omega)
  have CS := Lib.hid (fun (W : World) (ht : Tab W) => secrets_any seed (i : Int) W hs (by omega) ht)
  have hsign : Sg.sign seed H i m = Wm.encI (i : Int) ++ (Sg.chains seed (i : Int) (Sg.digits (Sg.message (Sg.value seed H 0) (i : Int) m)) 35).flatten ++ (Sg.sides seed i H).flatten := rfl
  obtain ⟨ds, hdse⟩ : ∃ x, x = Sg.digits (Sg.message (Sg.value seed H 0) (i : Int) m) := ⟨_, rfl⟩
  rw [← hdse] at hdl hds CDG hsign
  generalize Sg.message (Sg.value seed H 0) (i : Int) m = mm at CM CDG
  obtain ⟨p, hp⟩ : ∃ x, x = Sg.value seed H 0 := ⟨_, rfl⟩
  rw [← hp] at hpl CM
  have DP := Lib.hid (D16.of hpl)
  have HP := Lib.hid hp
  obtain ⟨E, hE⟩ : ∃ x, x = Wm.encI (i : Int) := ⟨_, rfl⟩
  rw [← hE] at hil CI hsign
  have HSG := Lib.hid hsign
  have HDL := Lib.hid hdl
  have HDS := Lib.hid hds
  have DDS := Lib.hid (D35.of hdl)
  have ha3 : (H : Int) < (H : Int) + 1 := by omega
  clear hh hx hs hm hT hml hdl hds hsign hdse hpl hp hE hcn
  generalize cnt (H : Int) = cc at *
  go_enter Tryd.func18, Tryd.ntmps18
  go_wp2_with fail
  refine (CP.out w).mono ?_
  rintro e w1 ⟨rfl, rfl⟩
  go_wp2_with fail
  refine (CE.out w1).mono ?_
  rintro e w2 ⟨rfl, rfl⟩
  go_wp2_with fail
  refine (CG.out w2 HT.out).mono ?_
  rintro e w3 ⟨gL, f, rfl, hr, hl, hb⟩
  have hc := (hr H _ (lv_get f H H (Nat.le_refl _))).1
  obtain ⟨bA, oA, cA, hfl, hcA, hli, _, _⟩ := hl H (Nat.le_refl _)
  have hd := hli.digest (lev_16 seed H H) (k := 0) (by rw [lev_len]; exact Nat.two_pow_pos _)
  rw [lev_get _ _ _ _ (Nat.two_pow_pos _), ← HP.out] at hd
  rw [Nat.sub_self] at hfl
  rw [hfl] at hc
  change w3.cell? ⟨gL, H, none⟩ = some (.slice (some ⟨bA, oA, none⟩) 1 cA) at hc
  change w3.rangeAt bA (oA + 0 * 16) (p.map bv) at hd
  rw [Nat.zero_mul, Nat.add_zero] at hd
  have HDG := Lib.hid hd
  have RL := Lib.hid hr
  have LL := Lib.hid hl
  have B3 := Lib.hid hb
  clear hr hl hb hfl hcA hli hd CG CP CE
  go_wp2_with (with_reducible refine wpList_load_mid rfl 23 (.tmp 31) rfl bA oA rfl (p.map bv) _ HDG.out Tryd.underlying23 rfl DP.out.I ?_)
  refine (CM.out w3 (HT.out.below B3.out)).mono ?_
  rintro e w4 ⟨rfl, b4⟩
  have G4 := Lib.hid (show Gr w3 w4 from b4)
  clear b4 CM hc
  go_wp2_with fail
  refine (CDG.out w4).mono ?_
  rintro e w5 ⟨rfl, b5⟩
  have G5 := Lib.hid (G4.out.trans (show Gr w4 w5 from b5))
  clear b5 CDG G4
  go_upto_region 7 with (with_reducible refine wpList_store_new w5 rfl 25 (.tmp 11) (.tmp 36) rfl _ (ds.map nv).toArray rfl rfl DDS.out.J (Eq.trans (b := 35) (by kernel_rfl) DDS.out.Z.symm) DDS.out.O ?_)
  have rd := Row.newl w5 (ds.map nv) 25
  have gv := G5.out.trans (Gr.al w5 (.cells (ds.map nv).toArray 25))
  obtain ⟨gd, hgd⟩ : ∃ x, x = w5.heap.size := ⟨_, rfl⟩
  obtain ⟨V, hV⟩ : ∃ x, x = w5.alloc (.cells (ds.map nv).toArray 25) := ⟨_, rfl⟩
  rw [← hV] at rd gv ⊢
  rw [← hgd] at rd ⊢
  have RD := Lib.hid rd
  have GV := Lib.hid gv
  clear rd gv hgd hV G5
  go_wp2_with fail
  refine (climber_any (i : Int) V).mono ?_
  rintro e w6 ⟨rfl, hcr, b6⟩
  obtain ⟨gc, hgc⟩ : ∃ x, x = V.heap.size := ⟨_, rfl⟩
  rw [← hgc] at hcr ⊢
  have RC := Lib.hid hcr
  have G6 := Lib.hid (GV.out.trans (show Gr V w6 from b6))
  have RD6 := Lib.hid (RD.out.below b6)
  clear hcr b6 hgc RD GV
  go_wp2_with fail
  refine (CI.out w6).mono ?_
  rintro e w7 ⟨v7, rfl, o7, b7⟩
  obtain ⟨A7, c7, rfl, _, _, l7⟩ := own_shape o7
  have L7 := Lib.hid l7
  have HA7 : Hid (A7 = none → E.length = 0) := Lib.hid (fun h => by have h2 := L7.out.none_ h; rw [h2]; rfl)
  have G7 := Lib.hid (G6.out.trans (show Gr w6 w7 from b7))
  have RD7 := Lib.hid (RD6.out.below b7)
  have RC7 := Lib.hid (RC.out.below b7)
  clear o7 b7 l7 G6 RD6 RC CI
  go_wp2_with (with_reducible refine wpList_convert_str w7 rfl (.tmp 40) 43 9 5 rfl Tryd.underlying43 Tryd.underlying5 Tryd.underlying9 A7 E.length c7 rfl E rfl HA7.out L7.out ?_)
  refine (CS.out w7 (HT.out.below (Gr.to B3.out G7.out))).mono ?_
  rintro e w8 ⟨rfl, b8⟩
  have G8 := Lib.hid (G7.out.trans (show Gr w7 w8 from b8))
  have RD8 := Lib.hid (RD7.out.below b8)
  have RC8 := Lib.hid (RC7.out.below b8)
  clear b8 G7 RD7 RC7 L7 HA7 CS
  go_wp2_with fail
  go_loopw [13, 45] (fun sg i' wr => ∃ k : Nat, i' = .int .i64 (k : Int) ∧ k ≤ 35 ∧ sg = .string (bstr (E ++ (Sg.chains seed (i : Int) ds k).flatten)) ∧ Gr w8 wr) (fun _ i' _ => 35 - (intOf i').toNat)
  case atStart => exact ⟨0, rfl, by omega, by simp [Sg.chains], Gr.refl _⟩
  case round =>
    obtain ⟨k, rfl, hk, rfl, hg⟩ := hrel
    have hcl : (Sg.chains seed (i : Int) ds k).flatten.length = k * 16 := by rw [flatten_len (Sg.chains_16 _ _ _ _), Sg.chains_length]
    by_cases hlt : k < 35
    · have hvl := Sg.start_len seed (i : Int) (k : Int)
      have hlx : ∀ W : World, (Instr.index 55 (.agg (dcells (Sg.secs seed (i : Int) 35)).toArray) (.int .i64 (k : Int))).run Tryd.prog W = .ok (.agg (((Sg.secs seed (i : Int) 35).getD k []).map bv).toArray) W := fun W => run_index_dig (P := Tryd.prog) W 55 23 5 35 Tryd.underlying55 Tryd.underlying23 (by kernel_rfl) _ (Sg.secs_length _ _ _) (Sg.secs_16 _ _ _) k hlt
      rw [Sg.secs_get _ _ _ _ hlt] at hlx
      have hcs := congrArg List.flatten (Sg.chains_succ seed (i : Int) ds k)
      rw [List.flatten_append, List.flatten_cons, List.flatten_nil, List.append_nil] at hcs
      have hcn0 : (ds.map nv)[k]? = some (nv (ds.getD k 0)) := by rw [List.getElem?_map, List.getD_eq_getElem?_getD, List.getElem?_eq_getElem (by rw [HDL.out]; exact hlt)]; rfl
      have hdk := HDS.out k
      have hcc := fun (W : World) (hcw : W.cell? ⟨gc, 0, none⟩ = some (.int .i64 (i : Int))) (ht : Tab W) => climb_any (i : Int) gc (k : Int) (Sg.start seed (i : Int) (k : Int)) 0 (ds.getD k 0) W hvl hcw ht (by omega) (by omega) (by omega)
      rw [Nat.zero_add] at hcc
      have hyl : (Sg.climb (i : Int) (k : Int) (Sg.start seed (i : Int) (k : Int)) 0 (ds.getD k 0)).length = 16 := Sg.climb_len hvl _ _
      generalize Sg.climb (i : Int) (k : Int) (Sg.start seed (i : Int) (k : Int)) 0 (ds.getD k 0) = y at hcs hcc hyl
      generalize Sg.start seed (i : Int) (k : Int) = v at hvl hlx hcc
      generalize ds.getD k 0 = d at hcc hcn0 hdk
      have hcn : (ds.map nv)[k]? = some (.int .i64 (d : Int)) := hcn0
      have hacl : (E ++ (Sg.chains seed (i : Int) ds k).flatten).length ≤ 1000 := by rw [List.length_append, hcl]; omega
      have hacs : E ++ (Sg.chains seed (i : Int) ds (k + 1)).flatten = (E ++ (Sg.chains seed (i : Int) ds k).flatten) ++ y := by rw [hcs, List.append_assoc]
      generalize E ++ (Sg.chains seed (i : Int) ds k).flatten = acc at hacl hacs ⊢
      have HACS := Lib.hid hacs
      have e1 : (bstr acc).size = acc.length := bstr_size acc
      have e2 : (bstr y).size = y.length := bstr_size y
      have e3 := bstr_cat acc y
      have rx := Row.newl wr (v.map bv) 23
      have g1 := hg.trans (Gr.al wr (.cells (v.map bv).toArray 23))
      have DV := Lib.hid (D16.of hvl)
      have HY16 := Lib.hid hyl
      obtain ⟨gx, hgx⟩ : ∃ z, z = wr.heap.size := ⟨_, rfl⟩
      obtain ⟨X, hX⟩ : ∃ z, z = wr.alloc (.cells (v.map bv).toArray 23) := ⟨_, rfl⟩
      rw [← hX] at rx g1
      rw [← hgx] at rx
      have RX := Lib.hid rx
      have GX := Lib.hid g1
      have CN := Lib.hid (fun (W : World) (hgw : Gr X W) => (((RD8.out.below g1).below hgw) k (.int .i64 (d : Int)) hcn).1)
      have CC := Lib.hid (fun (W : World) (hgw : Gr X W) => hcc W (((RC8.out.below g1).below hgw) 0 _ rfl).1 (HT.out.below (Gr.to B3.out ((G8.out.trans g1).trans hgw))))
      have HX := Lib.hid hX
      have HGX := Lib.hid hgx
      clear hvl hcs hcn0 hcc hcn hacs hg rx g1 hX hgx hcl
      go_upto_region 12 with (with_reducible refine wpList_store_new wr rfl 23 (.tmp 15) (.tmp 48) rfl _ (v.map bv).toArray rfl rfl DV.out.J (Eq.trans (b := 16) (by kernel_rfl) DV.out.Z.symm) DV.out.O ?_)
      rw [← HX.out, ← HGX.out]
      clear HX HGX hlx
      refine wpK_region (by kernel_rfl) ?_
      refine wpK_ta (i := 0) (some 49) rfl rfl (by kernel_rfl) (fun _ _ _ h => h) (Or.inl ⟨rfl, fun _ => rfl⟩) ?_
      simp only [Act.put, List.setIfInBounds_toArray, List.set_cons_zero, List.set_cons_succ]
      refine wpK_ta (i := 1) (some 50) rfl rfl (by kernel_rfl) (fun _ _ _ h => h) (Or.inl ⟨rfl, fun _ => rfl⟩) ?_
      simp only [Act.put, List.setIfInBounds_toArray, List.set_cons_zero, List.set_cons_succ]
      refine wpK_ta (i := 2) (some 51) rfl rfl (by kernel_rfl) (fun _ _ _ h => h) (Or.inl ⟨rfl, fun _ => rfl⟩) ?_
      simp only [Act.put, List.setIfInBounds_toArray, List.set_cons_zero, List.set_cons_succ]
      refine wpK_ta (i := 4) (some 53) rfl rfl (by kernel_rfl) (fun _ _ _ h => h) (Or.inl ⟨rfl, fun _ => rfl⟩) ?_
      simp only [Act.put, List.setIfInBounds_toArray, List.set_cons_zero, List.set_cons_succ]
      refine wpK_tk (i := 3) (some 52) rfl rfl (by kernel_rfl) (fun _ _ _ h => h) (.load_mid (by rfl) 23 (.tmp 15) rfl (gx) (0) rfl (v.map bv) _ (fun W hg => (RX.out.below hg.un).range) Tryd.underlying23 rfl DV.out.I) ?_
      simp only [Act.put, List.setIfInBounds_toArray, List.set_cons_zero, List.set_cons_succ]
      refine wpK_ta (i := 5) (some 54) (v := .pointer (some ⟨gd, k, none⟩)) rfl rfl (by kernel_rfl) (fun _ _ _ h => h) (Or.inl ⟨by rfl, fun W => by go_simp⟩) ?_
      simp only [Act.put, List.setIfInBounds_toArray, List.set_cons_zero, List.set_cons_succ]
      refine wpK_tk (i := 6) (some 55) (v := .int .i64 (d : Int)) rfl rfl (by kernel_rfl) (fun _ _ _ h => h) (.val (by rfl) (fun W hg => by have hc := CN.out W hg.un; go_simp)) ?_
      simp only [Act.put, List.setIfInBounds_toArray, List.set_cons_zero, List.set_cons_succ]
      refine wpK_tk (i := 7) (some 56) (v := .agg (y.map bv).toArray) rfl rfl (by kernel_rfl) (fun _ _ _ h => h) (.call (f := 49) (args := #[.int .i64 (k : Int), .agg (v.map bv).toArray, .int .i64 0, .int .i64 (d : Int), .pointer (some ⟨gc, 0, none⟩)]) (by rfl) (fun W => by go_simp) (fun W hg => CC.out W hg.un)) ?_
      simp only [Act.put, List.setIfInBounds_toArray, List.set_cons_zero, List.set_cons_succ]
      refine wpK_tk (i := 8) (some 57) (v := .string (bstr y)) rfl rfl (by kernel_rfl) (fun _ _ _ h => h) (.call (f := 33) (args := #[.agg (y.map bv).toArray]) (by rfl) (fun W => by go_simp) (fun W hg => text_any y W HY16.out)) ?_
      simp only [Act.put, List.setIfInBounds_toArray, List.set_cons_zero, List.set_cons_succ]
      refine wpK_ta (i := 9) (some 58) (v := .string (bstr (acc ++ y))) rfl rfl (by kernel_rfl) (fun _ _ _ h => h) (Or.inl ⟨by rfl, fun W => by (go_simp; omega)⟩) ?_
      simp only [Act.put, List.setIfInBounds_toArray, List.set_cons_zero, List.set_cons_succ]
      refine wpK_ta (i := 10) (some 13) rfl rfl (by kernel_rfl) (fun _ _ _ h => h) (Or.inl ⟨rfl, fun _ => rfl⟩) ?_
      simp only [Act.put, List.setIfInBounds_toArray, List.set_cons_zero, List.set_cons_succ]
      refine wpK_done (by kernel_rfl) (fun W9 hgW9 => ?_) _
      have PG := Lib.hid (GX.out.trans hgW9.un)
      clear hgW9
      go_wp2_with fail
      first
        | exact ⟨⟨k + 1, by go_num, by omega, by rw [HACS.out]; rfl, PG.out⟩, by simp [intOf]; omega⟩
        | (go_roundw
           case rel => exact ⟨k + 1, by go_num, by omega, by rw [HACS.out]; rfl, PG.out⟩
           case measure => simp [intOf]; omega)
    · have hk35 : k = 35 := by omega
      subst hk35
      obtain ⟨F, hF⟩ : ∃ x, x = E ++ (Sg.chains seed (i : Int) ds 35).flatten := ⟨_, rfl⟩
      have hFl : F.length ≤ 1000 := by rw [hF, List.length_append, hcl]; omega
      have hsg := HSG.out
      rw [← hF] at hsg ⊢
      have HSF := Lib.hid hsg
      have GW := Lib.hid hg
      clear hF hsg hcl hg hk hlt HSG
      go_wp2_with fail
      go_loopw [13, 61] (fun sg i' wr => ∃ l : Nat, i' = .int .i64 (l : Int) ∧ l ≤ H ∧ sg = .string (bstr (F ++ (Sg.sides seed i l).flatten)) ∧ Gr w8 wr) (fun _ i' _ => H - (intOf i').toNat)
      case atStart => exact ⟨0, rfl, by omega, by simp [Sg.sides], GW.out⟩
      case round =>
        obtain ⟨l, rfl, hl, rfl, hg⟩ := hrel
        have hcl : (Sg.sides seed i l).flatten.length = l * 16 := by rw [flatten_len (Sg.sides_16 _ _ _), Sg.sides_length]
        by_cases hlt : l < H
        · obtain ⟨bA, oA, cA, hfl, hcA, hli, _, _⟩ := LL.out l (by omega)
          obtain ⟨q, hqe⟩ : ∃ q, q = i / 2 ^ l := ⟨_, rfl⟩
          obtain ⟨N2, hN2⟩ : ∃ N2, N2 = 2 ^ (H - l) := ⟨_, rfl⟩
          have hqn : q < 64 := by rw [hqe]; exact Nat.lt_of_le_of_lt (Nat.div_le_self _ _) hi64
          have hqN : q < N2 := by
            rw [hqe, hN2, Nat.div_lt_iff_lt_mul (Nat.two_pow_pos _), ← Nat.pow_add, Nat.sub_add_cancel (by omega)]
            exact hiN
          have hev : N2 = 2 * 2 ^ (H - l - 1) := by
            rw [hN2]; conv => lhs; rw [show H - l = (H - l - 1) + 1 by omega, Nat.pow_succ]
            omega
          have hsh : (i : Int) / 2 ^ l = (q : Int) := by rw [hqe]; exact shr_q i l
          have hxor : bits .xor .i64 (q : Int) 1 = ((Sg.beside q : Nat) : Int) := xor_1 ⟨q, hqn⟩
          have hsN : Sg.beside q < N2 := by
            generalize 2 ^ (H - l - 1) = z at hev
            unfold Sg.beside; split <;> omega
          have hss := congrArg List.flatten (Sg.sides_succ seed i l)
          rw [List.flatten_append, List.flatten_cons, List.flatten_nil, List.append_nil, ← hqe] at hss
          obtain ⟨s, hse⟩ : ∃ s, s = Sg.beside q := ⟨_, rfl⟩
          rw [← hse] at hxor hsN hss
          have LD := Lib.hid (fun (W : World) (hgw : Gr wr W) => ((hli.below (G8.out.trans hg)).below hgw).digest (lev_16 seed H l) (k := s) (by rw [lev_len, ← hN2]; exact hsN))
          rw [lev_get _ _ _ _ (by rw [← hN2]; exact hsN)] at LD
          have hyl := Sg.value_len seed l s
          generalize Sg.value seed l s = y at LD hyl hss
          have CL0 := Lib.hid (fun (W : World) (hgw : Gr wr W) => (((RL.out.below (G8.out.trans hg)).below hgw) l _ (lv_get f H l (by omega))).1)
          rw [hfl, ← hN2] at CL0
          have hacl : (F ++ (Sg.sides seed i l).flatten).length ≤ 2000 := by rw [List.length_append, hcl]; omega
          have hacs : F ++ (Sg.sides seed i (l + 1)).flatten = (F ++ (Sg.sides seed i l).flatten) ++ y := by rw [hss, List.append_assoc]
          generalize F ++ (Sg.sides seed i l).flatten = acc at hacl hacs ⊢
          have HACS := Lib.hid hacs
          have e1 : (bstr acc).size = acc.length := bstr_size acc
          have e2 : (bstr y).size = y.length := bstr_size y
          have e3 := bstr_cat acc y
          have DY := Lib.hid (D16.of hyl)
          have HY16 := Lib.hid hyl
          have GX := Lib.hid hg
          have hl6 : (l : Int) ≤ 64 := by omega
          have hl7 : (l : Int) < (H : Int) + 1 := by omega
          clear hfl hcA hli hqe hN2 hev hss hse hacs hg hcl
          go_wp2_with fail
          refine wpK_region (by kernel_rfl) ?_
          refine wpK_ta (i := 0) (some 64) rfl rfl (by kernel_rfl) (fun _ _ _ h => h) (Or.inl ⟨rfl, fun _ => rfl⟩) ?_
          simp only [Act.put, List.setIfInBounds_toArray, List.set_cons_zero, List.set_cons_succ]
          refine wpK_ta (i := 1) (some 65) rfl rfl (by kernel_rfl) (fun _ _ _ h => h) (Or.inl ⟨rfl, fun _ => rfl⟩) ?_
          simp only [Act.put, List.setIfInBounds_toArray, List.set_cons_zero, List.set_cons_succ]
          refine wpK_ta (i := 2) (some 66) rfl rfl (by kernel_rfl) (fun _ _ _ h => h) (Or.inl ⟨rfl, fun _ => rfl⟩) ?_
          simp only [Act.put, List.setIfInBounds_toArray, List.set_cons_zero, List.set_cons_succ]
          refine wpK_ta (i := 5) (some 69) rfl rfl (by kernel_rfl) (fun _ _ _ h => h) (Or.inl ⟨rfl, fun _ => rfl⟩) ?_
          simp only [Act.put, List.setIfInBounds_toArray, List.set_cons_zero, List.set_cons_succ]
          refine wpK_ta (i := 6) (some 70) rfl rfl (by kernel_rfl) (fun _ _ _ h => h) (Or.inl ⟨rfl, fun _ => rfl⟩) ?_
          simp only [Act.put, List.setIfInBounds_toArray, List.set_cons_zero, List.set_cons_succ]
          refine wpK_ta (i := 3) (some 67) (v := .pointer (some ⟨gL, l, none⟩)) rfl rfl (by kernel_rfl) (fun _ _ _ h => h) (Or.inl ⟨by rfl, fun W => by go_simp⟩) ?_
          simp only [Act.put, List.setIfInBounds_toArray, List.set_cons_zero, List.set_cons_succ]
          refine wpK_tk (i := 4) (some 68) (v := .slice (some ⟨bA, oA, none⟩) N2 cA) rfl rfl (by kernel_rfl) (fun _ _ _ h => h) (.val (by rfl) (fun W hg => by have hc := CL0.out W hg.un; go_simp)) ?_
          simp only [Act.put, List.setIfInBounds_toArray, List.set_cons_zero, List.set_cons_succ]
          refine wpK_ta (i := 7) (some 71) (v := .int .i64 (q : Int)) rfl rfl (by kernel_rfl) (fun _ _ _ h => h) (Or.inl ⟨by rfl, fun W => by go_simp⟩) ?_
          simp only [Act.put, List.setIfInBounds_toArray, List.set_cons_zero, List.set_cons_succ]
          refine wpK_ta (i := 8) (some 72) (v := .int .i64 (s : Int)) rfl rfl (by kernel_rfl) (fun _ _ _ h => h) (Or.inl ⟨by rfl, fun W => by go_simp⟩) ?_
          simp only [Act.put, List.setIfInBounds_toArray, List.set_cons_zero, List.set_cons_succ]
          refine wpK_ta (i := 9) (some 73) (v := .pointer (some ⟨bA, oA + s * 16, none⟩)) rfl rfl (by kernel_rfl) (fun _ _ _ h => h) (Or.inl ⟨by rfl, fun W => by go_simp⟩) ?_
          simp only [Act.put, List.setIfInBounds_toArray, List.set_cons_zero, List.set_cons_succ]
          refine wpK_tk (i := 10) (some 74) rfl rfl (by kernel_rfl) (fun _ _ _ h => h) (.load_mid (by rfl) 23 (.tmp 73) rfl (bA) (oA + s * 16) rfl (y.map bv) _ (fun W hg => LD.out W hg.un) Tryd.underlying23 rfl DY.out.I) ?_
          simp only [Act.put, List.setIfInBounds_toArray, List.set_cons_zero, List.set_cons_succ]
          refine wpK_tk (i := 11) (some 75) (v := .string (bstr y)) rfl rfl (by kernel_rfl) (fun _ _ _ h => h) (.call (f := 33) (args := #[.agg (y.map bv).toArray]) (by rfl) (fun W => by go_simp) (fun W hg => text_any y W HY16.out)) ?_
          simp only [Act.put, List.setIfInBounds_toArray, List.set_cons_zero, List.set_cons_succ]
          refine wpK_ta (i := 12) (some 76) (v := .string (bstr (acc ++ y))) rfl rfl (by kernel_rfl) (fun _ _ _ h => h) (Or.inl ⟨by rfl, fun W => by (go_simp; omega)⟩) ?_
          simp only [Act.put, List.setIfInBounds_toArray, List.set_cons_zero, List.set_cons_succ]
          refine wpK_ta (i := 13) (some 13) rfl rfl (by kernel_rfl) (fun _ _ _ h => h) (Or.inl ⟨rfl, fun _ => rfl⟩) ?_
          simp only [Act.put, List.setIfInBounds_toArray, List.set_cons_zero, List.set_cons_succ]
          refine wpK_done (by kernel_rfl) (fun W9 hgW9 => ?_) _
          have PG := Lib.hid (GX.out.trans hgW9.un)
          clear hgW9
          go_wp2_with fail
          first
            | exact ⟨⟨l + 1, by go_num, by omega, by rw [HACS.out]; rfl, PG.out⟩, by simp [intOf]; omega⟩
            | (go_roundw
               case rel => exact ⟨l + 1, by go_num, by omega, by rw [HACS.out]; rfl, PG.out⟩
               case measure => simp [intOf]; omega)
        · have hlH : l = H := by omega
          subst hlH
          have BF := Lib.hid (Gr.to B3.out (G8.out.trans hg))
          have HSF2 := Lib.hid HSF.out
          clear hcl hg
          go_wp2_with fail
          go_ret2
          exact ⟨by rw [HSF2.out]; rfl, BF.out⟩
end Go.Proofs.YtdbdlhgkhnenfaaDoor
