/-
  Contracts of package sign: leaves.
-/
import Derived.Test.YtdbdlhgkhnenfaaDoorGsf
namespace Go.Proofs.YtdbdlhgkhnenfaaDoor
open Go.RowKit

/-- the values of a leaf while they are climbed in place -/
def mix (i : Int) (vs : List (List UInt8)) (ds : List Nat) (k : Nat) : List (List UInt8) := Sg.tops i vs ds k ++ vs.drop k
theorem mix_16 {i : Int} {vs : List (List UInt8)} {ds : List Nat} {k : Nat} (h : Is16 vs) (hk : k ≤ vs.length) : Is16 (mix i vs ds k) := fun d hd => by
  rcases List.mem_append.1 hd with hd | hd
  · exact Sg.tops_16 h hk d hd
  · exact h d (List.mem_of_mem_drop hd)
theorem mix_len (i : Int) (vs : List (List UInt8)) (ds : List Nat) (k : Nat) (hk : k ≤ vs.length) : (mix i vs ds k).length = vs.length := by
  unfold mix; rw [List.length_append, Sg.tops_length, List.length_drop]; omega
theorem mix_zero (i : Int) (vs : List (List UInt8)) (ds : List Nat) : mix i vs ds 0 = vs := by unfold mix Sg.tops; simp
theorem mix_end (i : Int) (vs : List (List UInt8)) (ds : List Nat) (h : vs.length = 35) : mix i vs ds 35 = Sg.tops i vs ds 35 := by
  unfold mix; rw [List.drop_of_length_le (by omega), List.append_nil]
theorem dcells_len {l : List (List UInt8)} (h : Is16 l) : (dcells l).length = l.length * 16 := by unfold dcells; rw [List.length_map, flatten_len h]
theorem mix_step {i : Int} {vs : List (List UInt8)} {ds : List Nat} {k g : Nat} {y : List UInt8} {w : World} (h : Is16 vs) (hk : k < vs.length) (hy : y = Sg.climb i (k : Int) (vs.getD k []) (ds.getD k 0) (15 - ds.getD k 0))
    (hr : Row g (dcells (mix i vs ds k)) w) : Row g (dcells (mix i vs ds (k + 1))) (w.setCells g (k * 16) (y.map bv)) := by
  have hvk : (vs.getD k []).length = 16 := by
    rw [List.getD_eq_getElem?_getD, List.getElem?_eq_getElem hk]; exact h _ (List.getElem_mem _)
  have hyl : y.length = 16 := by rw [hy]; exact Sg.climb_len hvk _ _
  have h1 := hr.setCells (k * 16) (y.map bv) (by rw [dcells_len (mix_16 h (by omega)), mix_len _ _ _ _ (by omega), List.length_map, hyl]; omega)
  have ht : (dcells (Sg.tops i vs ds k)).length = k * 16 := by rw [dcells_len (Sg.tops_16 h (by omega)), Sg.tops_length]
  have e0 : dcells (mix i vs ds k) = dcells (Sg.tops i vs ds k) ++ ((vs.getD k []).map bv ++ dcells (vs.drop (k + 1))) := by
    unfold mix dcells
    rw [List.drop_eq_getElem_cons hk, List.flatten_append, List.map_append, List.flatten_cons, List.map_append, List.getD_eq_getElem?_getD, List.getElem?_eq_getElem hk]
    rfl
  have e1 : dcells (mix i vs ds (k + 1)) = dcells (Sg.tops i vs ds k) ++ (y.map bv ++ dcells (vs.drop (k + 1))) := by
    unfold mix dcells
    rw [Sg.tops_succ, ← hy, List.append_assoc, List.flatten_append, List.map_append, List.flatten_append, List.map_append]
    simp
  have e2 : (dcells (mix i vs ds k)).take (k * 16) = dcells (Sg.tops i vs ds k) := by rw [e0, ← ht, List.take_left]
  have e3 : (dcells (mix i vs ds k)).drop (k * 16 + (y.map bv).length) = dcells (vs.drop (k + 1)) := by
    have hl2 : (y.map bv).length = ((vs.getD k []).map bv).length := by rw [List.length_map, List.length_map, hyl, hvk]
    rw [e0, ← ht, List.drop_length_add_append, hl2, List.drop_left]
  rw [e2, e3, List.append_assoc, ← e1] at h1
  exact h1

set_option maxRecDepth 1000000 in
set_option maxHeartbeats 1000000 in
theorem leafOf_any (i : Int) (vs : List (List UInt8)) (ds : List Nat) (w : World) (hv : Is16 vs) (hvl : vs.length = 35) (hdl : ds.length = 35) (hds : ∀ j, ds.getD j 0 ≤ 15) (hi : 0 ≤ i ∧ i ≤ 1000) (hT : Tab w) :
    Calls Tryd.prog 41 #[.int .i64 i, .agg (dcells vs).toArray, .agg (ds.map nv).toArray] w
      fun e w' => e = .returned (.agg ((Sg.leafFrom i vs ds).map bv).toArray) ∧ Below w.heap.size w w' := by
  have HT := Lib.hid hT
  have HV := Lib.hid hv
  have HVL := Lib.hid hvl
  have HDL := Lib.hid hdl
  have HDS := Lib.hid hds
  have HI := Lib.hid hi
  obtain ⟨q1, q2, q3, q4, q5⟩ := rows3 w (dcells vs).toArray (ds.map nv).toArray z16 55 25 23
  obtain ⟨u, hu⟩ : ∃ x, x = ((w.alloc (.cells (dcells vs).toArray 55)).alloc (.cells (ds.map nv).toArray 25)).alloc (.cells z16 23) := ⟨_, rfl⟩
  rw [← hu] at q1 q2 q3 q4 q5
  have R1 : Hid (Row w.heap.size (dcells vs) u) := Lib.hid q1
  have R2 : Hid (Row (w.heap.size + 1) (ds.map nv) u) := Lib.hid q2
  have R3 : Hid (Row (w.heap.size + 1 + 1) (fill16 []) u) := Lib.hid q3
  have B3 := Lib.hid q4
  have HU := Lib.hid hu
  have HGC0 := Lib.hid q5
  have HD0 := Lib.hid (D560.of hv hvl)
  clear q1 q2 q3 q4 q5 hu hv hvl hdl hds hi hT
  go_enter Tryd.func41, Tryd.ntmps41
  go_upto_region 1 with fail
  rw [← HU.out]
  clear HU
  go_wp2_with fail
  refine (climber_any i u).mono ?_
  rintro e w1 ⟨rfl, c1, b1⟩
  have S1 := Lib.hid (R1.out.below b1)
  have S2 := Lib.hid (R2.out.below b1)
  have S3 := Lib.hid (R3.out.below b1)
  have S4 := Lib.hid (B3.out.trans (b1.mono B3.out.size))
  have HGC : Hid (u.heap.size ≠ w.heap.size) := Lib.hid (by rw [HGC0.out]; omega)
  have hcf : Row u.heap.size [.int .i64 i] w1 := c1
  obtain ⟨gc, hgc⟩ : ∃ x, x = u.heap.size := ⟨_, rfl⟩
  rw [← hgc] at hcf HGC ⊢
  have SC := Lib.hid hcf
  clear c1 b1 R1 R2 R3 B3 HGC0 hgc hcf
  go_wp2_with (with_reducible refine wpList_load_mid rfl 55 (.tmp 4) rfl w.heap.size 0 rfl (dcells vs) _ S1.out.range Tryd.underlying55 rfl HD0.out.I ?_)
  go_loopw [13] (fun i' wr => ∃ k : Nat, i' = .int .i64 (k : Int) ∧ k ≤ 35 ∧ Row w.heap.size (dcells (mix i vs ds k)) wr ∧ Row (w.heap.size + 1) (ds.map nv) wr ∧ Row (w.heap.size + 1 + 1) (fill16 []) wr ∧ Row gc [.int .i64 i] wr ∧ Below w.heap.size w wr) (fun i' _ => 35 - (intOf i').toNat)
  case atStart => exact ⟨0, rfl, by omega, by rw [mix_zero]; exact S1.out, S2.out, S3.out, SC.out, S4.out⟩
  case round =>
    obtain ⟨k, rfl, hk, h1, h2, h3, hc, hb⟩ := hrel
    by_cases hlt : k < 35
    · have hvk : (vs.getD k []).length = 16 := by
        rw [List.getD_eq_getElem?_getD, List.getElem?_eq_getElem (by rw [HVL.out]; exact hlt)]; exact HV.out _ (List.getElem_mem _)
      have hlx : ∀ W : World, (Instr.index 55 (.agg (dcells vs).toArray) (.int .i64 (k : Int))).run Tryd.prog W = .ok (.agg ((vs.getD k []).map bv).toArray) W := fun W => run_index_dig (P := Tryd.prog) W 55 23 5 35 Tryd.underlying55 Tryd.underlying23 (by kernel_rfl) vs HVL.out HV.out k hlt
      obtain ⟨y, hy⟩ : ∃ y, y = Sg.climb i (k : Int) (vs.getD k []) (ds.getD k 0) (15 - ds.getD k 0) := ⟨_, rfl⟩
      have hyl : y.length = 16 := by rw [hy]; exact Sg.climb_len hvk _ _
      have HST := Lib.hid (fun (W : World) (hr : Row w.heap.size (dcells (mix i vs ds k)) W) => mix_step HV.out (by rw [HVL.out]; exact hlt) hy hr)
      have hmx : (dcells (mix i vs ds k)).length = 560 := by rw [dcells_len (mix_16 HV.out (by rw [HVL.out]; omega)), mix_len _ _ _ _ (by rw [HVL.out]; omega), HVL.out]
      have hcn0 : (ds.map nv)[k]? = some (nv (ds.getD k 0)) := by rw [List.getElem?_map, List.getD_eq_getElem?_getD, List.getElem?_eq_getElem (by rw [HDL.out]; exact hlt)]; rfl
      have cn := (h2 k (nv (ds.getD k 0)) hcn0).1
      have hdk := HDS.out k
      have e15 : ((ds.getD k 0 + (15 - ds.getD k 0) : Nat) : Int) = 15 := by omega
      have hcc := fun (W : World) (hcw : W.cell? ⟨gc, 0, none⟩ = some (.int .i64 i)) (ht : Tab W) => climb_any i gc (k : Int) (vs.getD k []) (ds.getD k 0) (15 - ds.getD k 0) W hvk hcw ht HI.out (by omega) (by omega)
      rw [e15, ← hy] at hcc
      generalize ds.getD k 0 = d at hcc cn hdk hy e15 hcn0
      generalize vs.getD k [] = v at hvk hlx hcc hy
      have hcn : (ds.map nv)[k]? = some (.int .i64 (d : Int)) := hcn0
      clear hcn0
      have hvn := Row.newl wr (v.map bv) 23
      have g1 := Gr.al wr (.cells (v.map bv).toArray 23)
      have DV := Lib.hid (D16.of hvk)
      have DY := Lib.hid (D16.of hyl)
      have HMX := Lib.hid hmx
      obtain ⟨V, hV⟩ : ∃ x, x = wr.alloc (.cells (v.map bv).toArray 23) := ⟨_, rfl⟩
      rw [← hV] at hvn g1
      have Q1 := Lib.hid (h1.below g1)
      have Q2 := Lib.hid (h2.below g1)
      have Q3 := Lib.hid (h3.below g1)
      have QC := Lib.hid (hc.below g1)
      have QB := Lib.hid (Gr.to hb g1)
      have Q4 := Lib.hid hvn
      have CN := Lib.hid (fun (W : World) (hg : Gr V W) => ((h2.below g1).below hg k (.int .i64 (d : Int)) hcn).1)
      have CC := Lib.hid (fun (W : World) (hg : Gr V W) => hcc W ((QC.out.below hg) 0 _ rfl).1 (HT.out.below (Gr.to QB.out hg)))
      have HV1 := Lib.hid hV
      clear h1 h2 h3 hc hb hvn g1 hV hmx hyl hcc e15 hy cn S1 S2 S3 S4 SC
      go_wp2_with (with_reducible refine wpList_store_new wr rfl 23 (.tmp 9) (.tmp 16) rfl _ (v.map bv).toArray rfl rfl DV.out.J (Eq.trans (b := 16) (by kernel_rfl) DV.out.Z.symm) DV.out.O ?_)
      rw [← HV1.out]
      clear HV1 hlx
      refine wpK_region (by kernel_rfl) ?_
      refine wpK_tk (i := 0) (some 17) rfl rfl (by kernel_rfl) (fun _ _ _ h => h) (.val (by rfl) (fun _ _ => rfl)) ?_
      simp only [Act.put, List.setIfInBounds_toArray, List.set_cons_zero, List.set_cons_succ]
      refine wpK_tk (i := 1) (some 18) rfl rfl (by kernel_rfl) (fun _ _ _ h => h) (.val (by rfl) (fun _ _ => rfl)) ?_
      simp only [Act.put, List.setIfInBounds_toArray, List.set_cons_zero, List.set_cons_succ]
      refine wpK_tk (i := 2) (some 19) rfl rfl (by kernel_rfl) (fun _ _ _ h => h) (.val (by rfl) (fun _ _ => rfl)) ?_
      simp only [Act.put, List.setIfInBounds_toArray, List.set_cons_zero, List.set_cons_succ]
      refine wpK_tk (i := 4) (some 21) rfl rfl (by kernel_rfl) (fun _ _ _ h => h) (.val (by rfl) (fun _ _ => rfl)) ?_
      simp only [Act.put, List.setIfInBounds_toArray, List.set_cons_zero, List.set_cons_succ]
      refine wpK_tk (i := 3) (some 20) rfl rfl (by kernel_rfl) (fun _ _ _ h => h) (.load_mid (by rfl) 23 (.tmp 9) rfl (wr.heap.size) (0) rfl (v.map bv) _ (fun W hg => (Q4.out.below hg.un).range) Tryd.underlying23 rfl DV.out.I) ?_
      simp only [Act.put, List.setIfInBounds_toArray, List.set_cons_zero, List.set_cons_succ]
      refine wpK_tk (i := 5) (some 22) (v := .pointer (some ⟨w.heap.size + 1, k, none⟩)) rfl rfl (by kernel_rfl) (fun _ _ _ h => h) (.val (by rfl) (fun W hg => by go_simp)) ?_
      simp only [Act.put, List.setIfInBounds_toArray, List.set_cons_zero, List.set_cons_succ]
      refine wpK_tk (i := 6) (some 23) (v := .int .i64 (d : Int)) rfl rfl (by kernel_rfl) (fun _ _ _ h => h) (.val (by rfl) (fun W hg => by have hc := (CN.out W hg.un); go_simp)) ?_
      simp only [Act.put, List.setIfInBounds_toArray, List.set_cons_zero, List.set_cons_succ]
      refine wpK_tk (i := 7) (some 24) (v := .agg (y.map bv).toArray) rfl rfl (by kernel_rfl) (fun _ _ _ h => h) (.call (f := 49) (args := #[.int .i64 (k : Int), .agg (v.map bv).toArray, .int .i64 (d : Int), .int .i64 15, .pointer (some ⟨gc, 0, none⟩)]) (by rfl) (fun W => by go_simp) (fun W hg => CC.out W hg.un)) ?_
      simp only [Act.put, List.setIfInBounds_toArray, List.set_cons_zero, List.set_cons_succ]
      refine wpK_tk (i := 8) (some 25) (v := .pointer (some ⟨w.heap.size, k * 16, none⟩)) rfl rfl (by kernel_rfl) (fun _ _ _ h => h) (.val (by rfl) (fun W hg => by go_simp)) ?_
      simp only [Act.put, List.setIfInBounds_toArray, List.set_cons_zero, List.set_cons_succ]
      refine wpK_store (i := 9) (none) rfl rfl (by kernel_rfl) (by rfl) (by rfl) (fun W8 hgW8 => ⟨_, run_store_mid 23 (.tmp 25) (.tmp 24) rfl (w.heap.size) (k * 16) ((y.map bv).toArray) rfl rfl ((Q1.out.below hgW8.un).there (k * 16) _ (by rw [DY.out.Z, HMX.out]; omega)) DY.out.J DY.out.O, ?_⟩)
      simp only [Act.put]
      refine wpK_done (by kernel_rfl) (fun W9 hgW9 => ?_) _
      have G8 := hgW8.un
      have r1 := ((HST.out W8 (Q1.out.below G8))).below hgW9
      have r2 := ((Q2.out.below G8).far (b := w.heap.size) (by omega) (k * 16) (y.map bv)).below hgW9
      have r3 := ((Q3.out.below G8).far (b := w.heap.size) (by omega) (k * 16) (y.map bv)).below hgW9
      have r5 := ((QC.out.below G8).far (b := w.heap.size) HGC.out (k * 16) (y.map bv)).below hgW9
      have b9 := Gr.to (below_setCells (b := w.heap.size) (Nat.le_refl _) (y.map bv) (k * 16) w W8 (Gr.to QB.out G8)) hgW9
      have P1 := Lib.hid r1
      have P2 := Lib.hid r2
      have P3 := Lib.hid r3
      have P5 := Lib.hid r5
      have P9 := Lib.hid b9
      clear r1 r2 r3 r5 b9 hgW8 hgW9 G8
      go_wp2_with fail
      first
        | exact ⟨⟨k + 1, by go_num, by omega, P1.out, P2.out, P3.out, P5.out, P9.out⟩, by simp [intOf]; omega⟩
        | (go_roundw
           case rel => exact ⟨k + 1, by go_num, by omega, P1.out, P2.out, P3.out, P5.out, P9.out⟩
           case measure => simp [intOf]; omega)
    · have hk35 : k = 35 := by omega
      subst hk35
      rw [mix_end _ _ _ HVL.out] at h1
      have h16 := Sg.tops_16 (i := i) (ds := ds) HV.out (show 35 ≤ vs.length by rw [HVL.out]; exact Nat.le_refl _)
      have htl := Sg.tops_length i vs ds 35
      have hlf : Sg.leafFrom i vs ds = Sg.of 4 [Wm.encDs (Sg.tops i vs ds 35)] := rfl
      obtain ⟨y, hy⟩ : ∃ y, y = Sg.leafFrom i vs ds := ⟨_, rfl⟩
      rw [← hy] at hlf
      generalize Sg.tops i vs ds 35 = T at h1 h16 htl hlf
      have hel : (Wm.encDs T).length ≤ 600 := by
        unfold Wm.encDs
        rw [List.length_append, flatten_len h16, htl]
        have := Wm.encI_len ((35 : Nat) : Int) (by omega) (by omega)
        omega
      have CI := Lib.hid (fun (c : Nat) (W : World) (hl : Row w.heap.size (dcells T) W) => digests_any T (some ⟨w.heap.size, 0, none⟩) 35 c W htl h16 hl.lies (by omega))
      generalize Wm.encDs T = E at hlf hel CI
      have hst2 : (Sha.sum Sha.consts (inOf 4 [E])).take 16 = y := hlf.symm
      have COf := Lib.hid (fun (A : Option Addr) (c : Nat) (W : World) (hl : Lies W A [sv E]) (ht : Tab W) => hsOf_any 4 [E] A 1 c W rfl hl (Small.one (by omega)) ht)
      rw [hst2] at COf
      have hyl : y.length = 16 := by rw [hlf]; exact Sg.of_len _ _
      have DY := Lib.hid (D16.of hyl)
      have HY := Lib.hid hy
      have hsl := fun W : World => run_slice_arr_full (P := Tryd.prog) W 55 23 35 16 Tryd.underlying55 (by kernel_rfl) w.heap.size 0 (by omega)
      have Q1 := Lib.hid h1
      have Q3 := Lib.hid h3
      have QB := Lib.hid hb
      clear h1 h2 h3 hc hb h16 htl hlf hst2 hyl hy hk hlt S1 S2 S3 S4 SC
      go_wp2_with fail
      refine (CI.out 35 wr Q1.out).mono ?_
      rintro e w5 ⟨v5, rfl, o5, b5⟩
      obtain ⟨A5, c5, rfl, _, _, l5⟩ := own_shape o5
      have L5 := Lib.hid l5
      have G5 := Lib.hid (show Gr wr w5 from b5)
      have HA5 : Hid (A5 = none → E.length = 0) := Lib.hid (fun h => by have h2 := L5.out.none_ h; rw [h2]; rfl)
      have l7 := Lies.fresh w5 [sv E] 9
      have g7 := Gr.al w5 (.cells [sv E].toArray 9)
      obtain ⟨W7, e7⟩ : ∃ z, z = w5.alloc (.cells [sv E].toArray 9) := ⟨_, rfl⟩
      rw [← e7] at l7 g7
      have L7 := Lib.hid l7
      have G7 := Lib.hid (G5.out.trans g7)
      have E7 := Lib.hid (show W7 = w5.alloc (.cells #[.string (bstr E)] 9) from e7)
      clear o5 b5 l5 hsl l7 g7 e7
      go_wp2_with (with_reducible refine wpList_convert_str w5 rfl (.tmp 28) 43 9 5 rfl Tryd.underlying43 Tryd.underlying5 Tryd.underlying9 A5 E.length c5 rfl E rfl HA5.out L5.out ?_)
      rw [← E7.out]
      refine (COf.out _ 1 W7 L7.out (HT.out.below (Gr.to QB.out G7.out))).mono ?_
      rintro e w8 ⟨rfl, b8⟩
      have G8 := G7.out.trans (show Gr W7 w8 from b8)
      have T8 := Lib.hid ((Q3.out.below G8).there 0 (y.map bv).toArray.size (by rw [DY.out.Z, z16_len]; decide))
      have B8 := Lib.hid (Gr.to QB.out G8)
      clear G8 b8 L5 L7 E7 HA5
      go_wp2_with (with_reducible refine wpList_store_mid rfl 23 (.tmp 6) (.tmp 31) rfl (w.heap.size + 1 + 1) 0 (y.map bv).toArray rfl rfl T8.out DY.out.J DY.out.O ?_)
      have HRR := Lib.hid (World.rangeAt_setCells_same w8 (w.heap.size + 1 + 1) 0 (y.map bv).toArray.toList (by simpa using T8.out))
      refine bodyPost_ret (results_cell_mid rfl _ _ _ (w.heap.size + 1 + 1) 0 (y.map bv) _ rfl HRR.out Tryd.underlying23 rfl DY.out.I) rfl ?_
      exact ⟨by rw [HY.out], below_setCells (by omega) _ 0 _ _ B8.out⟩
end Go.Proofs.YtdbdlhgkhnenfaaDoor
