/-
  Contracts of package sign: a byte string cut into digests; the way up the tree.
-/
import Derived.Test.YtdbdlhgkhnenfaaDoorGse
import Derived.Test.YtdbdlhgkhnenfaaDoorGq
import Derived.Deep.DeepCutAuto
import Derived.Deep.RegionHeld
namespace Go.Proofs.YtdbdlhgkhnenfaaDoor
open Go.RowKit

theorem shr_q (i l : Nat) : (i : Int) / 2 ^ l = ((i / 2 ^ l : Nat) : Int) := by rw [Int.natCast_ediv]; norm_cast
theorem and_1 : ∀ n : Fin 64, bits .and .i64 (n.val : Int) 1 = ((n.val % 2 : Nat) : Int) := by decide +kernel
theorem xor_1 : ∀ n : Fin 64, bits .xor .i64 (n.val : Int) 1 = ((Sg.beside n.val : Nat) : Int) := by decide +kernel

set_option maxRecDepth 1000000 in
set_option maxHeartbeats 2000000 in
theorem rootAbove_any (i : Nat) (v : List UInt8) (bs : List (List UInt8)) (A : Option Addr) (h c : Nat) (w : World) (hi : i < 64) (hv : v.length = 16) (h16 : Is16 bs) (hbl : bs.length = h) (hh : h ≤ 6) (hA : Lies w A (dcells bs)) (hT : Tab w) :
    Calls Tryd.prog 42 #[.int .i64 (i : Int), .agg (v.map bv).toArray, .slice A h c] w
      fun e w' => e = .returned (.agg ((Sg.up i v bs h).map bv).toArray) ∧ Below w.heap.size w w' := by
  have HT := Lib.hid hT
  have HV := Lib.hid hv
  have H16 := Lib.hid h16
  have HBL := Lib.hid hbl
  have HA := Lib.hid (fun (W : World) (hb : Below w.heap.size w W) => hA.below hb)
  have DV := Lib.hid (D16.of hv)
  obtain ⟨q1, q2, q3, q4, q5⟩ := rows3 w (v.map bv).toArray z16 (v.map bv).toArray 23 23 23
  obtain ⟨u0, hu0⟩ : ∃ x, x = (w.alloc (.cells (v.map bv).toArray 23)).alloc (.cells z16 23) := ⟨_, rfl⟩
  obtain ⟨u, hu⟩ : ∃ x, x = u0.alloc (.cells (v.map bv).toArray 23) := ⟨_, rfl⟩
  have r0 := (two_rows w (v.map bv).toArray z16 23 23).1
  have s0 := (two_rows w (v.map bv).toArray z16 23 23).2.2.2
  rw [← hu0] at q2 q3 q4 q5 r0 s0
  rw [← hu] at q2 q3 q4 q5
  have R0 := Lib.hid (show Row w.heap.size (v.map bv) u0 from r0)
  have S0 : Hid (u0.heap.size = w.heap.size + 1 + 1) := Lib.hid s0
  have R2 : Hid (Row (w.heap.size + 1) (fill16 []) u) := Lib.hid q2
  have R3 : Hid (Row (w.heap.size + 1 + 1) (v.map bv) u) := Lib.hid q3
  have B3 := Lib.hid q4
  have S5 : Hid (u.heap.size = w.heap.size + 3) := Lib.hid q5
  have HU0 := Lib.hid hu0
  have HU := Lib.hid hu
  clear q1 q2 q3 q4 q5 hu hu0 hv h16 hbl hA hT r0 s0
  go_enter Tryd.func42, Tryd.ntmps42
  go_upto_region 1 with fail
  rw [← HU0.out]
  go_upto_region 2 with (first | (with_reducible refine wpList_load_mid rfl 23 (.tmp 4) rfl w.heap.size 0 rfl (v.map bv) _ R0.out.range Tryd.underlying23 rfl DV.out.I ?_) | (with_reducible refine wpList_store_new u0 rfl 23 (.tmp 7) (.tmp 11) rfl _ (v.map bv).toArray rfl rfl DV.out.J (Eq.trans (b := 16) (by kernel_rfl) DV.out.Z.symm) DV.out.O ?_))
  rw [← HU.out, S0.out]
  clear HU HU0 S0 R0
  go_wp2_with fail
  go_loopw [14] (fun i' wr => ∃ l : Nat, i' = .int .i64 (l : Int) ∧ l ≤ h ∧ Row (w.heap.size + 1 + 1) ((Sg.up i v bs l).map bv) wr ∧ Row (w.heap.size + 1) (fill16 []) wr ∧ Below w.heap.size w wr) (fun i' _ => h - (intOf i').toNat)
  case atStart => exact ⟨0, rfl, by omega, R3.out, R2.out, B3.out⟩
  case round =>
    obtain ⟨l, rfl, hl, h1, h2, h3⟩ := hrel
    have hxl : (Sg.up i v bs l).length = 16 := Sg.up_len HV.out bs l
    obtain ⟨x, hxe⟩ : ∃ x, x = Sg.up i v bs l := ⟨_, rfl⟩
    rw [← hxe] at h1 hxl
    have HXE := Lib.hid hxe
    have DX := Lib.hid (D16.of hxl)
    by_cases hlt : l < h
    · have hA1 := HA.out wr h3
      obtain ⟨bA, oA, rfl, _⟩ := hA1.at_ (by
        intro h0
        have h4 := congrArg List.length h0
        unfold dcells at h4
        rw [List.length_map, flatten_len H16.out, HBL.out] at h4
        simp at h4
        omega)
      have hdg := hA1.digest H16.out (k := l) (by rw [HBL.out]; exact hlt)
      have hbl : (bs.getD l []).length = 16 := by
        rw [List.getD_eq_getElem?_getD, List.getElem?_eq_getElem (by rw [HBL.out]; exact hlt)]; exact H16.out _ (List.getElem_mem _)
      obtain ⟨b, hbe⟩ : ∃ b, b = bs.getD l [] := ⟨_, rfl⟩
      rw [← hbe] at hdg hbl
      have HBE := Lib.hid hbe
      have DB := Lib.hid (D16.of hbl)
      have hw3 : w.heap.size + 3 ≤ wr.heap.size := by
        have := World.block_lt_of_cell? _ _ (h1.range 0 (bv (x.getD 0 0)) (by rw [List.getElem?_map, List.getD_eq_getElem?_getD, List.getElem?_eq_getElem (by omega)]; rfl))
        simp only at this
        omega
      have F1 := Lib.hid (show Row (w.heap.size + 1 + 1) (x.map bv) wr.drew from h1)
      have F2 := Lib.hid (show wr.drew.rangeAt bA (oA + l * 16) (b.map bv) from hdg)
      have V1 := Lib.hid h1
      have V2 := Lib.hid h2
      have B9 := Lib.hid h3
      have HXL := Lib.hid hxl
      have HBLN := Lib.hid hbl
      clear h1 h2 h3 hdg hxe hbe hA1 hxl hbl R2 R3 B3 S5
      go_upto_region 5 with fail
      go_cut [9, 10] (fun v9 v10 wc => ∃ b9 b10 : Nat, v9 = .pointer (some ⟨b9, 0, none⟩) ∧ v10 = .pointer (some ⟨b10, 0, none⟩) ∧ b9 ≠ b10 ∧ wr.heap.size ≤ b9 ∧ wr.heap.size ≤ b10 ∧ Row b9 (x.map bv) wc ∧ Row b10 (b.map bv) wc ∧ Gr wr wc)
      case first =>
        refine wp_region_held_drew (S := fun W => W.rangeAt (w.heap.size + 1 + 1) 0 (x.map bv) ∧ W.rangeAt bA (oA + l * 16) (b.map bv)) (by kernel_rfl) ⟨F1.out.range, F2.out⟩ (fun hHeld => ?_)
        have E1 : Row (w.heap.size + 1 + 1) (x.map bv) wr.drew := F1.out
        have G0 := Gr.dr wr
        generalize wr.drew = W0 at *
        refine wpH_tk (i := 0) (some 17) rfl rfl (by kernel_rfl) (fun _ _ _ h => h) (yieldsIf_load_mid (by rfl) 23 (.tmp 7) rfl (w.heap.size + 1 + 1) 0 rfl (x.map bv) _ (fun _ h => h.1) Tryd.underlying23 rfl DX.out.I) (by assumption) ?_
        simp only [Act.put, List.setIfInBounds_toArray, List.set_cons_zero, List.set_cons_succ]
        refine wpH_tk (i := 1) (some 18) rfl rfl (by kernel_rfl) (fun _ _ _ h => h) (Or.inl ⟨rfl, fun _ _ => rfl⟩) (by assumption) ?_
        simp only [Act.put, List.setIfInBounds_toArray, List.set_cons_zero, List.set_cons_succ]
        refine wpH_tk (i := 2) (some 19) rfl rfl (by kernel_rfl) (fun _ _ _ h => h) (Or.inl ⟨rfl, fun _ _ => rfl⟩) (by assumption) ?_
        simp only [Act.put, List.setIfInBounds_toArray, List.set_cons_zero, List.set_cons_succ]
        refine wpH_tk (i := 3) (some 20) (v := .pointer (some ⟨bA, oA + l * 16, none⟩)) rfl rfl (by kernel_rfl) (fun _ _ _ h => h) (Or.inl ⟨by rfl, fun W _ => by go_simp⟩) (by assumption) ?_
        simp only [Act.put, List.setIfInBounds_toArray, List.set_cons_zero, List.set_cons_succ]
        refine wpH_tk (i := 4) (some 21) rfl rfl (by kernel_rfl) (fun _ _ _ h => h) (yieldsIf_load_mid (by rfl) 23 (.tmp 20) rfl bA (oA + l * 16) rfl (b.map bv) _ (fun _ h => h.2) Tryd.underlying23 rfl DB.out.I) (by assumption) ?_
        simp only [Act.put, List.setIfInBounds_toArray, List.set_cons_zero, List.set_cons_succ]
        refine wpAnyH_ready (rs := [5, 6]) (by kernel_rfl) (by simp) ?_
        refine AllReadyH.cons rfl (fun K hK => ?_) (AllReadyH.cons rfl (fun K hK => ?_) AllReadyH.nil)
        · obtain ⟨t1, t2, t3, t4, t5, t6, t7, t8⟩ := two_new W0 (x.map bv) (b.map bv) DX.out.len DB.out.len 23 (W0.heap.size) (W0.heap.size + 1) (by omega) _ rfl
          have hS : ∀ W, Gr W0 W → W.rangeAt (w.heap.size + 1 + 1) 0 (x.map bv) ∧ W.rangeAt bA (oA + l * 16) (b.map bv) := fun W hg => ⟨(E1.below hg).range, fun j v hj => (hg.cell (World.block_lt_of_cell? _ _ (hHeld.2 j v hj))).trans (hHeld.2 j v hj)⟩
          have HS := Lib.hid hS
          clear hS
          go_simp
          refine hK.out _ _ (HS.out _ (Gr.al _ _)) (fun hHeld => ?_)
          clear hK K
          refine wpAnyH_ready (rs := [6]) (by kernel_rfl) (by simp) ?_
          refine AllReadyH.cons rfl (fun K hK => ?_) AllReadyH.nil
          go_simp
          refine hK.out _ _ (HS.out _ t5) (fun hHeld => ?_)
          clear hK K
          refine wpAnyH_ready (rs := [7]) (by kernel_rfl) (by simp) ?_
          refine AllReadyH.cons rfl (fun K hK => ?_) AllReadyH.nil
          rw [if_pos (by rfl)]
          refine wp_store_mid 23 (.tmp 9) (.tmp 17) rfl (W0.heap.size) 0 (x.map bv).toArray rfl rfl (by rw [DX.out.Z]; exact t1) DX.out.J DX.out.O ?_
          refine hK.out _ _ (HS.out _ t6) (fun hHeld => ?_)
          clear hK K
          simp only [Act.put]
          refine wpAnyH_ready (rs := [8]) (by kernel_rfl) (by simp) ?_
          refine AllReadyH.cons rfl (fun K hK => ?_) AllReadyH.nil
          rw [if_pos (by rfl)]
          refine wp_store_mid 23 (.tmp 10) (.tmp 21) rfl (W0.heap.size + 1) 0 (b.map bv).toArray rfl rfl (by rw [DB.out.Z]; exact t2) DB.out.J DB.out.O ?_
          refine hK.out _ _ (HS.out _ t7) (fun hHeld => ?_)
          clear hK K
          simp only [Act.put]
          refine wpAnyH_done (by kernel_rfl) ?_ _
          have Z1 := Lib.hid t3
          have Z2 := Lib.hid t4
          have Z3 := Lib.hid (G0.trans t7)
          have Z4 := Lib.hid t8
          have HSZ := G0.size
          clear t1 t2 t3 t4 t5 t6 t7 t8 HS
          go_wp2_with fail
          go_meet
          exact ⟨W0.heap.size, W0.heap.size + 1, rfl, rfl, Z4.out, by omega, by omega, Z1.out, Z2.out, Z3.out⟩
        · obtain ⟨t1, t2, t3, t4, t5, t6, t7, t8⟩ := two_new W0 (x.map bv) (b.map bv) DX.out.len DB.out.len 23 (W0.heap.size + 1) (W0.heap.size) (by omega) _ rfl
          have hS : ∀ W, Gr W0 W → W.rangeAt (w.heap.size + 1 + 1) 0 (x.map bv) ∧ W.rangeAt bA (oA + l * 16) (b.map bv) := fun W hg => ⟨(E1.below hg).range, fun j v hj => (hg.cell (World.block_lt_of_cell? _ _ (hHeld.2 j v hj))).trans (hHeld.2 j v hj)⟩
          have HS := Lib.hid hS
          clear hS
          go_simp
          refine hK.out _ _ (HS.out _ (Gr.al _ _)) (fun hHeld => ?_)
          clear hK K
          refine wpAnyH_ready (rs := [5]) (by kernel_rfl) (by simp) ?_
          refine AllReadyH.cons rfl (fun K hK => ?_) AllReadyH.nil
          go_simp
          refine hK.out _ _ (HS.out _ t5) (fun hHeld => ?_)
          clear hK K
          refine wpAnyH_ready (rs := [7]) (by kernel_rfl) (by simp) ?_
          refine AllReadyH.cons rfl (fun K hK => ?_) AllReadyH.nil
          rw [if_pos (by rfl)]
          refine wp_store_mid 23 (.tmp 9) (.tmp 17) rfl (W0.heap.size + 1) 0 (x.map bv).toArray rfl rfl (by rw [DX.out.Z]; exact t1) DX.out.J DX.out.O ?_
          refine hK.out _ _ (HS.out _ t6) (fun hHeld => ?_)
          clear hK K
          simp only [Act.put]
          refine wpAnyH_ready (rs := [8]) (by kernel_rfl) (by simp) ?_
          refine AllReadyH.cons rfl (fun K hK => ?_) AllReadyH.nil
          rw [if_pos (by rfl)]
          refine wp_store_mid 23 (.tmp 10) (.tmp 21) rfl (W0.heap.size) 0 (b.map bv).toArray rfl rfl (by rw [DB.out.Z]; exact t2) DB.out.J DB.out.O ?_
          refine hK.out _ _ (HS.out _ t7) (fun hHeld => ?_)
          clear hK K
          simp only [Act.put]
          refine wpAnyH_done (by kernel_rfl) ?_ _
          have Z1 := Lib.hid t3
          have Z2 := Lib.hid t4
          have Z3 := Lib.hid (G0.trans t7)
          have Z4 := Lib.hid t8
          have HSZ := G0.size
          clear t1 t2 t3 t4 t5 t6 t7 t8 HS
          go_wp2_with fail
          go_meet
          exact ⟨W0.heap.size + 1, W0.heap.size, rfl, rfl, Z4.out, by omega, by omega, Z1.out, Z2.out, Z3.out⟩
      case rest =>
        obtain ⟨b9, b10, rfl, rfl, hne, hb9, hb10, z1, z2, zg⟩ := hcut
        have b9' := Gr.to B9.out zg
        have v1' := V1.out.below zg
        have v2' := V2.out.below zg
        clear B9 V1 V2 F1 F2
        obtain ⟨q, hqe⟩ : ∃ q, q = i / 2 ^ l := ⟨_, rfl⟩
        obtain ⟨p, hpe⟩ : ∃ p, p = i / 2 ^ (l + 1) := ⟨_, rfl⟩
        have hqn : q < 64 := by rw [hqe]; exact Nat.lt_of_le_of_lt (Nat.div_le_self _ _) hi
        have hpn : p < 64 := by rw [hpe]; exact Nat.lt_of_le_of_lt (Nat.div_le_self _ _) hi
        have hsh : (i : Int) / 2 ^ l = (q : Int) := by rw [hqe]; exact shr_q i l
        have hsh2 : (i : Int) / 2 ^ (l + 1) = (p : Int) := by rw [hpe]; exact shr_q i (l + 1)
        have HQE := Lib.hid hqe
        have HPE := Lib.hid hpe
        clear hqe hpe
        have hl5 : ((l : Int) + 1).toNat = l + 1 := by omega
        have hl6 : (l : Int) ≤ 64 := by omega
        have hl7 : (l : Int) + 1 ≤ 64 := by omega
        have hl8 : (0 : Int) ≤ (l : Int) + 1 := by omega
        have hl9 : IntKind.i64.wrap ((l : Int) + 1) = (l : Int) + 1 := by simp [IntKind.wrap, IntKind.bits, IntKind.signed]; omega
        have hand : bits .and .i64 (q : Int) 1 = ((q % 2 : Nat) : Int) := and_1 ⟨q, hqn⟩
        by_cases hbit : q % 2 = 1
        · have hq : q % 2 = 1 := by omega
          have hst : Sg.up i v bs (l + 1) = Sg.node ((l : Int) + 1) (p : Int) b x := by
            show Sg.upOne i l (Sg.up i v bs l) (bs.getD l []) = _
            unfold Sg.upOne
            rw [← HXE.out, ← HBE.out, ← HQE.out, ← HPE.out, hq]
            rfl
          have hand2 : bits .and .i64 (q : Int) 1 = 1 := by rw [hand, hq]; rfl
          obtain ⟨y, hy⟩ : ∃ y, y = Sg.up i v bs (l + 1) := ⟨_, rfl⟩
          have hyl : y.length = 16 := by rw [hy]; exact Sg.up_len HV.out bs (l + 1)
          have CJ := Lib.hid (fun (W : World) (ht : Tab W) => join_any ((l : Int) + 1) (p : Int) b x W HBLN.out HXL.out ht (by omega) (by omega))
          rw [← hst, ← hy] at CJ
          have DY := Lib.hid (D16.of hyl)
          have HY := Lib.hid hy
          clear hst hy hyl hand hq
          have t1 := Lib.hid (z1.there 0 (b.map bv).toArray.size (by rw [DB.out.Z, DX.out.len]; decide))
          have t2 := Lib.hid ((z2.far (b := b9) (Ne.symm hne) 0 (b.map bv)).there 0 (x.map bv).toArray.size (by rw [DX.out.Z, DB.out.len]; decide))
          have l1 := (Row.over (D := b.map bv) z1 (by rw [DX.out.len, DB.out.len])).far (b := b10) hne 0 (x.map bv)
          have l2 := Row.over (D := x.map bv) (z2.far (b := b9) (Ne.symm hne) 0 (b.map bv)) (by rw [DX.out.len, DB.out.len])
          have v1 := (v1'.far (b := b9) (by omega) 0 (b.map bv)).far (b := b10) (by omega) 0 (x.map bv)
          have v2 := (v2'.far (b := b9) (by omega) 0 (b.map bv)).far (b := b10) (by omega) 0 (x.map bv)
          have b9_ := below_setCells (b := b10) (by omega) (x.map bv) 0 w _ (below_setCells (b := b9) (by omega) (b.map bv) 0 w wc b9')
          have Z1 := Lib.hid z1.range
          have Z2 := Lib.hid z2.range
          obtain ⟨Wc, hWc⟩ : ∃ z, z = (wc.setCells b9 0 (b.map bv)).setCells b10 0 (x.map bv) := ⟨_, rfl⟩
          rw [← hWc] at l1 l2 v1 v2 b9_
          have HWC := Lib.hid hWc
          have L1 := Lib.hid l1
          have L2 := Lib.hid l2
          have V1 := Lib.hid v1
          have V2 := Lib.hid v2
          have B9 := Lib.hid b9_
          clear l1 l2 v1 v2 b9_ z1 z2 zg v1' v2' b9' hWc
          go_upto_region 8 with (first | (with_reducible refine wpList_load_mid rfl 23 (.tmp 10) rfl b10 0 rfl (b.map bv) _ Z2.out Tryd.underlying23 rfl DB.out.I ?_) | (with_reducible refine wpList_load_mid rfl 23 (.tmp 9) rfl b9 0 rfl (x.map bv) _ Z1.out Tryd.underlying23 rfl DX.out.I ?_) | (with_reducible refine wpList_store_mid rfl 23 (.tmp 9) (.tmp 27) rfl b9 0 (b.map bv).toArray rfl rfl t1.out DB.out.J DB.out.O ?_) | (with_reducible refine wpList_store_mid rfl 23 (.tmp 10) (.tmp 28) rfl b10 0 (x.map bv).toArray rfl rfl t2.out DX.out.J DX.out.O ?_))
          change Code.wp _ _ _ _ ((wc.setCells b9 0 (b.map bv)).setCells b10 0 (x.map bv))
          rw [← HWC.out]
          clear HWC t1 t2 Z1 Z2
          refine wpK_region (by kernel_rfl) ?_
          refine wpK_ta (i := 0) (some 29) rfl rfl (by kernel_rfl) (fun _ _ _ h => h) (Or.inl ⟨rfl, fun _ => rfl⟩) ?_
          simp only [Act.put, List.setIfInBounds_toArray, List.set_cons_zero, List.set_cons_succ]
          refine wpK_ta (i := 1) (some 30) (v := .int .i64 ((l : Int) + 1)) rfl rfl (by kernel_rfl) (fun _ _ _ h => h) (Or.inl ⟨by rfl, fun W => by go_simp⟩) ?_
          simp only [Act.put, List.setIfInBounds_toArray, List.set_cons_zero, List.set_cons_succ]
          refine wpK_ta (i := 2) (some 31) rfl rfl (by kernel_rfl) (fun _ _ _ h => h) (Or.inl ⟨rfl, fun _ => rfl⟩) ?_
          simp only [Act.put, List.setIfInBounds_toArray, List.set_cons_zero, List.set_cons_succ]
          refine wpK_ta (i := 3) (some 32) rfl rfl (by kernel_rfl) (fun _ _ _ h => h) (Or.inl ⟨rfl, fun _ => rfl⟩) ?_
          simp only [Act.put, List.setIfInBounds_toArray, List.set_cons_zero, List.set_cons_succ]
          refine wpK_ta (i := 4) (some 33) (v := .int .i64 ((l : Int) + 1)) rfl rfl (by kernel_rfl) (fun _ _ _ h => h) (Or.inl ⟨by rfl, fun W => by go_simp⟩) ?_
          simp only [Act.put, List.setIfInBounds_toArray, List.set_cons_zero, List.set_cons_succ]
          refine wpK_ta (i := 5) (some 34) (v := .int .i64 (p : Int)) rfl rfl (by kernel_rfl) (fun _ _ _ h => h) (Or.inl ⟨by rfl, fun W => by go_simp⟩) ?_
          simp only [Act.put, List.setIfInBounds_toArray, List.set_cons_zero, List.set_cons_succ]
          refine wpK_tk (i := 6) (some 35) rfl rfl (by kernel_rfl) (fun _ _ _ h => h) (.load_mid (by rfl) 23 (.tmp 9) rfl (b9) (0) rfl (b.map bv) _ (fun W hg => (L1.out.below hg.un).range) Tryd.underlying23 rfl DB.out.I) ?_
          simp only [Act.put, List.setIfInBounds_toArray, List.set_cons_zero, List.set_cons_succ]
          refine wpK_tk (i := 7) (some 36) rfl rfl (by kernel_rfl) (fun _ _ _ h => h) (.load_mid (by rfl) 23 (.tmp 10) rfl (b10) (0) rfl (x.map bv) _ (fun W hg => (L2.out.below hg.un).range) Tryd.underlying23 rfl DX.out.I) ?_
          simp only [Act.put, List.setIfInBounds_toArray, List.set_cons_zero, List.set_cons_succ]
          refine wpK_tk (i := 8) (some 37) (v := .agg (y.map bv).toArray) rfl rfl (by kernel_rfl) (fun _ _ _ h => h) (.call (f := 48) (args := #[.int .i64 ((l : Int) + 1), .int .i64 (p : Int), .agg (b.map bv).toArray, .agg (x.map bv).toArray]) (by rfl) (fun W => by go_simp) (fun W hg => CJ.out W (HT.out.below (Gr.to B9.out hg.un)))) ?_
          simp only [Act.put, List.setIfInBounds_toArray, List.set_cons_zero, List.set_cons_succ]
          refine wpK_store (i := 9) (none) rfl rfl (by kernel_rfl) (by rfl) (by rfl) (fun W8 hgW8 => ⟨_, run_store_mid 23 (.tmp 7) (.tmp 37) rfl (w.heap.size + 1 + 1) (0) ((y.map bv).toArray) rfl rfl ((V1.out.below hgW8.un).there 0 _ (by rw [DY.out.Z, DX.out.len]; decide)) DY.out.J DY.out.O, ?_⟩)
          simp only [Act.put]
          refine wpK_done (by kernel_rfl) (fun W9 hgW9 => ?_) _
          have G8 := hgW8.un
          have r1 := ((V1.out.below G8).over (D := y.map bv) (by rw [DX.out.len, DY.out.len])).below hgW9
          have r2 := ((V2.out.below G8).far (b := w.heap.size + 1 + 1) (by omega) 0 (y.map bv)).below hgW9
          have b9_ := Gr.to (below_setCells (b := w.heap.size + 1 + 1) (by omega) (y.map bv) 0 w W8 (Gr.to B9.out G8)) hgW9
          have P1 := Lib.hid r1
          have P2 := Lib.hid r2
          have P3 := Lib.hid b9_
          clear r1 r2 b9_ hgW8 hgW9 G8
          go_wp2_with fail
          first
            | exact ⟨⟨l + 1, by go_num, by omega, by rw [← HY.out]; exact P1.out, P2.out, P3.out⟩, by simp [intOf]; omega⟩
            | (go_roundw
               case rel => exact ⟨l + 1, by go_num, by omega, by rw [← HY.out]; exact P1.out, P2.out, P3.out⟩
               case measure => simp [intOf]; omega)
        · have hq : q % 2 = 0 := by omega
          have hst : Sg.up i v bs (l + 1) = Sg.node ((l : Int) + 1) (p : Int) x b := by
            show Sg.upOne i l (Sg.up i v bs l) (bs.getD l []) = _
            unfold Sg.upOne
            rw [← HXE.out, ← HBE.out, ← HQE.out, ← HPE.out, hq]
            rfl
          have hand2 : bits .and .i64 (q : Int) 1 = 0 := by rw [hand, hq]; rfl
          obtain ⟨y, hy⟩ : ∃ y, y = Sg.up i v bs (l + 1) := ⟨_, rfl⟩
          have hyl : y.length = 16 := by rw [hy]; exact Sg.up_len HV.out bs (l + 1)
          have CJ := Lib.hid (fun (W : World) (ht : Tab W) => join_any ((l : Int) + 1) (p : Int) x b W HXL.out HBLN.out ht (by omega) (by omega))
          rw [← hst, ← hy] at CJ
          have DY := Lib.hid (D16.of hyl)
          have HY := Lib.hid hy
          clear hst hy hyl hand hq
          have L1 := Lib.hid z1
          have L2 := Lib.hid z2
          have V1 := Lib.hid v1'
          have V2 := Lib.hid v2'
          have B9 := Lib.hid b9'
          clear z1 z2 zg v1' v2' b9'
          go_upto_region 8 with fail
          refine wpK_region (by kernel_rfl) ?_
          refine wpK_ta (i := 0) (some 29) rfl rfl (by kernel_rfl) (fun _ _ _ h => h) (Or.inl ⟨rfl, fun _ => rfl⟩) ?_
          simp only [Act.put, List.setIfInBounds_toArray, List.set_cons_zero, List.set_cons_succ]
          refine wpK_ta (i := 1) (some 30) (v := .int .i64 ((l : Int) + 1)) rfl rfl (by kernel_rfl) (fun _ _ _ h => h) (Or.inl ⟨by rfl, fun W => by go_simp⟩) ?_
          simp only [Act.put, List.setIfInBounds_toArray, List.set_cons_zero, List.set_cons_succ]
          refine wpK_ta (i := 2) (some 31) rfl rfl (by kernel_rfl) (fun _ _ _ h => h) (Or.inl ⟨rfl, fun _ => rfl⟩) ?_
          simp only [Act.put, List.setIfInBounds_toArray, List.set_cons_zero, List.set_cons_succ]
          refine wpK_ta (i := 3) (some 32) rfl rfl (by kernel_rfl) (fun _ _ _ h => h) (Or.inl ⟨rfl, fun _ => rfl⟩) ?_
          simp only [Act.put, List.setIfInBounds_toArray, List.set_cons_zero, List.set_cons_succ]
          refine wpK_ta (i := 4) (some 33) (v := .int .i64 ((l : Int) + 1)) rfl rfl (by kernel_rfl) (fun _ _ _ h => h) (Or.inl ⟨by rfl, fun W => by go_simp⟩) ?_
          simp only [Act.put, List.setIfInBounds_toArray, List.set_cons_zero, List.set_cons_succ]
          refine wpK_ta (i := 5) (some 34) (v := .int .i64 (p : Int)) rfl rfl (by kernel_rfl) (fun _ _ _ h => h) (Or.inl ⟨by rfl, fun W => by go_simp⟩) ?_
          simp only [Act.put, List.setIfInBounds_toArray, List.set_cons_zero, List.set_cons_succ]
          refine wpK_tk (i := 6) (some 35) rfl rfl (by kernel_rfl) (fun _ _ _ h => h) (.load_mid (by rfl) 23 (.tmp 9) rfl (b9) (0) rfl (x.map bv) _ (fun W hg => (L1.out.below hg.un).range) Tryd.underlying23 rfl DX.out.I) ?_
          simp only [Act.put, List.setIfInBounds_toArray, List.set_cons_zero, List.set_cons_succ]
          refine wpK_tk (i := 7) (some 36) rfl rfl (by kernel_rfl) (fun _ _ _ h => h) (.load_mid (by rfl) 23 (.tmp 10) rfl (b10) (0) rfl (b.map bv) _ (fun W hg => (L2.out.below hg.un).range) Tryd.underlying23 rfl DB.out.I) ?_
          simp only [Act.put, List.setIfInBounds_toArray, List.set_cons_zero, List.set_cons_succ]
          refine wpK_tk (i := 8) (some 37) (v := .agg (y.map bv).toArray) rfl rfl (by kernel_rfl) (fun _ _ _ h => h) (.call (f := 48) (args := #[.int .i64 ((l : Int) + 1), .int .i64 (p : Int), .agg (x.map bv).toArray, .agg (b.map bv).toArray]) (by rfl) (fun W => by go_simp) (fun W hg => CJ.out W (HT.out.below (Gr.to B9.out hg.un)))) ?_
          simp only [Act.put, List.setIfInBounds_toArray, List.set_cons_zero, List.set_cons_succ]
          refine wpK_store (i := 9) (none) rfl rfl (by kernel_rfl) (by rfl) (by rfl) (fun W8 hgW8 => ⟨_, run_store_mid 23 (.tmp 7) (.tmp 37) rfl (w.heap.size + 1 + 1) (0) ((y.map bv).toArray) rfl rfl ((V1.out.below hgW8.un).there 0 _ (by rw [DY.out.Z, DX.out.len]; decide)) DY.out.J DY.out.O, ?_⟩)
          simp only [Act.put]
          refine wpK_done (by kernel_rfl) (fun W9 hgW9 => ?_) _
          have G8 := hgW8.un
          have r1 := ((V1.out.below G8).over (D := y.map bv) (by rw [DX.out.len, DY.out.len])).below hgW9
          have r2 := ((V2.out.below G8).far (b := w.heap.size + 1 + 1) (by omega) 0 (y.map bv)).below hgW9
          have b9_ := Gr.to (below_setCells (b := w.heap.size + 1 + 1) (by omega) (y.map bv) 0 w W8 (Gr.to B9.out G8)) hgW9
          have P1 := Lib.hid r1
          have P2 := Lib.hid r2
          have P3 := Lib.hid b9_
          clear r1 r2 b9_ hgW8 hgW9 G8
          go_wp2_with fail
          first
            | exact ⟨⟨l + 1, by go_num, by omega, by rw [← HY.out]; exact P1.out, P2.out, P3.out⟩, by simp [intOf]; omega⟩
            | (go_roundw
               case rel => exact ⟨l + 1, by go_num, by omega, by rw [← HY.out]; exact P1.out, P2.out, P3.out⟩
               case measure => simp [intOf]; omega)
    · have hlh : l = h := by omega
      subst hlh
      have R1 := Lib.hid h1.range
      have T1 := Lib.hid (h2.there 0 (x.map bv).toArray.size (by rw [DX.out.Z, z16_len]; decide))
      have B9 := Lib.hid h3
      clear h1 h2 h3 R2 R3 B3 S5
      go_wp2_with (first | (with_reducible refine wpList_load_mid rfl 23 (.tmp 7) rfl (w.heap.size + 1 + 1) 0 rfl (x.map bv) _ R1.out Tryd.underlying23 rfl DX.out.I ?_) | (with_reducible refine wpList_store_mid rfl 23 (.tmp 6) (.tmp 39) rfl (w.heap.size + 1) 0 (x.map bv).toArray rfl rfl T1.out DX.out.J DX.out.O ?_))
      have HRR := Lib.hid (World.rangeAt_setCells_same wr (w.heap.size + 1) 0 (x.map bv).toArray.toList (by simpa using T1.out))
      refine bodyPost_ret (results_cell_mid rfl _ _ _ (w.heap.size + 1) 0 (x.map bv) _ rfl HRR.out Tryd.underlying23 rfl DX.out.I) rfl ?_
      exact ⟨by rw [HXE.out], below_setCells (by omega) _ 0 _ _ B9.out⟩
end Go.Proofs.YtdbdlhgkhnenfaaDoor
