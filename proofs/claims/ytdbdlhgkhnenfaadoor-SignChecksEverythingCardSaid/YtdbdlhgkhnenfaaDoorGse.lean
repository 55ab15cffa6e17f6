/-
  Contracts of package sign and its specification: climbing in the specification, values from the two below.
-/
import Derived.Test.YtdbdlhgkhnenfaaDoorGsc
namespace Go.Proofs.YtdbdlhgkhnenfaaDoor
open Go.RowKit

theorem rows3 (w : World) (a b c : Array Value) (t1 t2 t3 : TypeId) :
    Row w.heap.size a.toList (((w.alloc (.cells a t1)).alloc (.cells b t2)).alloc (.cells c t3)) ∧ Row (w.heap.size + 1) b.toList (((w.alloc (.cells a t1)).alloc (.cells b t2)).alloc (.cells c t3)) ∧
    Row (w.heap.size + 2) c.toList (((w.alloc (.cells a t1)).alloc (.cells b t2)).alloc (.cells c t3)) ∧
    Below w.heap.size w (((w.alloc (.cells a t1)).alloc (.cells b t2)).alloc (.cells c t3)) ∧ (((w.alloc (.cells a t1)).alloc (.cells b t2)).alloc (.cells c t3)).heap.size = w.heap.size + 3 := by
  obtain ⟨q1, q2, q3, q4⟩ := two_rows w a b t1 t2
  have h3 := Row.new ((w.alloc (.cells a t1)).alloc (.cells b t2)) c t3
  rw [q4] at h3
  exact ⟨q1.alloc _, q2.alloc _, h3, q3.alloc (by omega) _, by simp⟩

set_option maxRecDepth 1000000 in
set_option maxHeartbeats 1000000 in
theorem rclimb_any (i : Int) (j : Int) (v : List UInt8) (a n : Nat) (w : World) (hv : v.length = 16) (hR : TabR w)
    (hi : 0 ≤ i ∧ i ≤ 1000) (hj : 0 ≤ j ∧ j ≤ 1000) (hn : a + n ≤ 100) :
    Calls Tryd.prog 34 #[.int .i64 i, .int .i64 j, .agg (v.map bv).toArray, .int .i64 (a : Int), .int .i64 ((a + n : Nat) : Int)] w
      fun e w' => e = .returned (.agg ((Sg.climb i j v a n).map bv).toArray) ∧ Below w.heap.size w w' := by
  have HR := Lib.hid hR
  have HV := Lib.hid hv
  have HI := Lib.hid hi
  have HJ := Lib.hid hj
  have hn1 : ((a + n : Nat) : Int) = (a : Int) + (n : Int) := by omega
  rw [hn1]
  obtain ⟨q1, q2, q3, q4⟩ := two_rows w (v.map bv).toArray z16 23 23
  obtain ⟨u, hu⟩ : ∃ x, x = (w.alloc (.cells (v.map bv).toArray 23)).alloc (.cells z16 23) := ⟨_, rfl⟩
  rw [← hu] at q1 q2 q3
  have K1 : Hid (Row w.heap.size (v.map bv) u) := Lib.hid q1
  have K2 : Hid (Row (w.heap.size + 1) (fill16 []) u) := Lib.hid q2
  have K3 := Lib.hid q3
  have HU := Lib.hid hu
  clear q1 q2 q3 q4 hu hv hR hi hj hn1
  go_enter Tryd.func34, Tryd.ntmps34
  go_upto_region 1 with fail
  rw [← HU.out]
  clear HU
  go_wp2_with fail
  go_loopw [11] (fun i' wr => ∃ m : Nat, i' = .int .i64 ((a + m + 1 : Nat) : Int) ∧ m ≤ n ∧ Row w.heap.size ((Sg.climb i j v a m).map bv) wr ∧ Row (w.heap.size + 1) (fill16 []) wr ∧ Below w.heap.size w wr) (fun i' _ => a + n + 1 - (intOf i').toNat)
  case atStart => exact ⟨0, by go_num, by omega, K1.out, K2.out, K3.out⟩
  case round =>
    obtain ⟨m, rfl, hm, h1, h2, h3⟩ := hrel
    have hx : (Sg.climb i j v a m).length = 16 := Sg.climb_len HV.out a m
    have hst : Sg.climb i j v a (m + 1) = Sg.of 4 [Wm.encIs [i, j, ((a + m + 1 : Nat) : Int)], Sg.climb i j v a m] := rfl
    obtain ⟨x, hxe⟩ : ∃ x, x = Sg.climb i j v a m := ⟨_, rfl⟩
    rw [← hxe] at h1 hx hst
    have HXE := Lib.hid hxe
    clear hxe
    have hk1 : ((a + m + 1 : Nat) : Int) = (a : Int) + (m : Int) + 1 := by omega
    by_cases hlt : m < n
    · have hkb : 0 ≤ (a : Int) + (m : Int) + 1 ∧ (a : Int) + (m : Int) + 1 ≤ 1000 := by omega
      rw [hk1] at hst ⊢
      generalize (a : Int) + (m : Int) + 1 = k at hst hkb hk1 ⊢
      have hf : Fits [i, j, k] := Fits.three HI.out HJ.out hkb
      have hle := encIs_le3 _ hf (by simp)
      obtain ⟨E, hE⟩ : ∃ E, E = Wm.encIs [i, j, k] := ⟨_, rfl⟩
      have CI := Lib.hid (fun (A : Option Addr) (c : Nat) (W : World) (hl : Lies W A [iv i, iv j, iv k]) => refInts_any [i, j, k] A 3 c W rfl hf hl (by omega) (by omega))
      rw [← hE] at hst hle CI
      obtain ⟨y, hy⟩ : ∃ y, y = Sg.climb i j v a (m + 1) := ⟨_, rfl⟩
      rw [← hy] at hst
      have COf := Lib.hid (fun (A : Option Addr) (c : Nat) (W : World) (hl : Lies W A [sv E, sv x]) (ht : TabR W) => hrOf_any 4 [E, x] A 2 c W rfl hl (Small.two (by omega) (by omega)) ht)
      have hst2 : (Sha.sum Sha.consts (inOf 4 [E, x])).take 16 = y := hst.symm
      rw [hst2] at COf
      have hyl : y.length = 16 := by rw [hst]; exact Sg.of_len _ _
      have DX := Lib.hid (D16.of hx)
      have DY := Lib.hid (D16.of hyl)
      have HX := Lib.hid hx
      have HY := Lib.hid hy
      have R1 := Lib.hid h1
      have R2 := Lib.hid h2
      have B3 := Lib.hid h3
      have hlt3 : k ≤ (a : Int) + (n : Int) := by omega
      clear h1 h2 h3 hst hst2 hx hf hyl hy hle hE K1 K2 K3
      go_wp2_with fail
      refine wpK_region (by kernel_rfl) ?_
      refine wpK_tk (i := 0) (some 19) rfl rfl (by kernel_rfl) (fun _ _ _ h => h) (.val (by rfl) (fun _ _ => rfl)) ?_
      simp only [Act.put, List.setIfInBounds_toArray, List.set_cons_zero, List.set_cons_succ]
      refine wpK_tk (i := 1) (some 20) rfl rfl (by kernel_rfl) (fun _ _ _ h => h) (.val (by rfl) (fun _ _ => rfl)) ?_
      simp only [Act.put, List.setIfInBounds_toArray, List.set_cons_zero, List.set_cons_succ]
      refine wpK_tk (i := 2) (some 21) rfl rfl (by kernel_rfl) (fun _ _ _ h => h) (.val (by rfl) (fun _ _ => rfl)) ?_
      simp only [Act.put, List.setIfInBounds_toArray, List.set_cons_zero, List.set_cons_succ]
      refine wpK_tk (i := 6) (some 25) rfl rfl (by kernel_rfl) (fun _ _ _ h => h) (.load_mid (by rfl) 23 (.tmp 7) rfl (w.heap.size) (0) rfl (x.map bv) _ (fun W hg => (R1.out.below hg.un).range) Tryd.underlying23 rfl DX.out.I) ?_
      simp only [Act.put, List.setIfInBounds_toArray, List.set_cons_zero, List.set_cons_succ]
      refine wpK_val (i := 3) (some 22) rfl rfl (by kernel_rfl) (by rfl) (fun W1 hgW1 => ⟨.slice (some ⟨W1.heap.size, 0, none⟩) 3 3, W1.alloc (.cells #[iv i, iv j, iv k] 3), by (go_simp <;> rfl), Gr.al _ _, ?_⟩)
      simp only [Act.put, List.setIfInBounds_toArray, List.set_cons_zero, List.set_cons_succ]
      have l4 := Lies.fresh W1 [iv i, iv j, iv k] 3
      have g4 := Lib.hid (hgW1.un.trans (Gr.al W1 (.cells #[iv i, iv j, iv k] 3)))
      obtain ⟨W4, e4⟩ : ∃ z, z = W1.alloc (.cells #[iv i, iv j, iv k] 3) := ⟨_, rfl⟩
      change Lies (W1.alloc (.cells #[iv i, iv j, iv k] 3)) _ _ at l4
      rw [← e4] at l4 g4 ⊢
      have L4 := Lib.hid l4
      clear l4 e4
      refine wpK_call (i := 4) (some 23) 53 #[.slice (some ⟨W1.heap.size, 0, none⟩) 3 3] rfl rfl (by kernel_rfl) (by rfl) (fun W => by go_simp) (fun W5 hgW5 => ?_)
      refine (CI.out _ 3 W5 (L4.out.below hgW5)).mono ?_
      rintro e w5 ⟨v5, rfl, o5, b5⟩
      refine ⟨_, rfl, b5, ?_⟩
      simp only [Act.put, List.setIfInBounds_toArray, List.set_cons_zero, List.set_cons_succ]
      obtain ⟨A5, c5, rfl, _, _, l5⟩ := own_shape o5
      have L5 := Lib.hid l5
      have g5 := Lib.hid ((g4.out.trans hgW5).trans b5)
      have HA5 : Hid (A5 = none → E.length = 0) := Lib.hid (fun h => by have h2 := L5.out.none_ h; rw [h2]; rfl)
      clear o5 b5 l5
      refine wpK_tk (i := 5) (some 24) rfl rfl (by kernel_rfl) (fun _ _ _ h => h) (.conv (by rfl) (.tmp 23) 43 9 5 rfl Tryd.underlying43 Tryd.underlying5 Tryd.underlying9 A5 E.length c5 rfl E rfl HA5.out (fun W hg => L5.out.below hg)) ?_
      simp only [Act.put, List.setIfInBounds_toArray, List.set_cons_zero, List.set_cons_succ]
      refine wpK_tk (i := 7) (some 26) (v := .string (bstr x)) rfl rfl (by kernel_rfl) (fun _ _ _ h => h) (.call (f := 36) (args := #[.agg (x.map bv).toArray]) (by rfl) (fun W => by go_simp) (fun W hg => hrText_any x W HX.out)) ?_
      simp only [Act.put, List.setIfInBounds_toArray, List.set_cons_zero, List.set_cons_succ]
      refine wpK_val (i := 8) (some 27) rfl rfl (by kernel_rfl) (by rfl) (fun W6 hgW6 => ⟨.slice (some ⟨W6.heap.size, 0, none⟩) 2 2, W6.alloc (.cells #[sv E, sv x] 9), by (go_simp <;> rfl), Gr.al _ _, ?_⟩)
      simp only [Act.put, List.setIfInBounds_toArray, List.set_cons_zero, List.set_cons_succ]
      have l7 := Lies.fresh W6 [sv E, sv x] 9
      have g7 := Lib.hid ((g5.out.trans hgW6).trans (Gr.al W6 (.cells #[sv E, sv x] 9)))
      obtain ⟨W7, e7⟩ : ∃ z, z = W6.alloc (.cells #[sv E, sv x] 9) := ⟨_, rfl⟩
      change Lies (W6.alloc (.cells #[sv E, sv x] 9)) _ _ at l7
      rw [← e7] at l7 g7 ⊢
      have L7 := Lib.hid l7
      clear l7 e7
      refine wpK_tk (i := 9) (some 28) (v := .agg (y.map bv).toArray) rfl rfl (by kernel_rfl) (fun _ _ _ h => h) (.call (f := 38) (args := #[.int .i64 4, .slice (some ⟨W6.heap.size, 0, none⟩) 2 2]) (by rfl) (fun W => by go_simp) (fun W hg => COf.out _ 2 W (L7.out.below hg) (HR.out.below (Gr.to B3.out (g7.out.trans hg))))) ?_
      simp only [Act.put, List.setIfInBounds_toArray, List.set_cons_zero, List.set_cons_succ]
      refine wpK_store (i := 10) (none) rfl rfl (by kernel_rfl) (by rfl) (by rfl) (fun W8 hgW8 => ⟨_, run_store_mid 23 (.tmp 7) (.tmp 28) rfl (w.heap.size) (0) ((y.map bv).toArray) rfl rfl ((R1.out.below (g7.out.trans hgW8)).there 0 _ (by rw [DY.out.Z, DX.out.len]; decide)) DY.out.J DY.out.O, ?_⟩)
      simp only [Act.put]
      refine wpK_done (by kernel_rfl) (fun W9 hgW9 => ?_) _
      have G8 := g7.out.trans hgW8
      have r1 := ((R1.out.below G8).over (D := y.map bv) (by rw [DX.out.len, DY.out.len])).below hgW9
      have r2 := ((R2.out.below G8).far (b := w.heap.size) (by omega) 0 (y.map bv)).below hgW9
      have b9 := Gr.to (below_setCells (b := w.heap.size) (Nat.le_refl _) (y.map bv) 0 w W8 (Gr.to B3.out G8)) hgW9
      have P1 := Lib.hid r1
      have P2 := Lib.hid r2
      have P3 := Lib.hid b9
      clear r1 r2 b9 hgW1 hgW5 hgW6 hgW8 hgW9 G8
      go_wp2_with fail
      first
        | exact ⟨⟨m + 1, by go_num, by omega, by rw [← HY.out]; exact P1.out, P2.out, P3.out⟩, by simp [intOf]; omega⟩
        | (go_roundw
           case rel => exact ⟨m + 1, by go_num, by omega, by rw [← HY.out]; exact P1.out, P2.out, P3.out⟩
           case measure => simp [intOf]; omega)
    · have hmn : m = n := by omega
      subst hmn
      have HDX := D16.of hx
      have HD := Lib.hid HDX
      have R1 := Lib.hid h1.range
      have T1 := Lib.hid (h2.there 0 (x.map bv).toArray.size (by rw [HDX.Z, z16_len]; omega))
      have B3 := Lib.hid h3
      have HE := Lib.hid hx
      clear h1 h2 h3 HDX hx hst K1 K2 K3
      rw [hk1]
      go_wp2_with (first | (with_reducible refine wpList_load_mid rfl 23 (.tmp 7) rfl w.heap.size 0 rfl (x.map bv) _ R1.out Tryd.underlying23 rfl HD.out.I ?_) | (with_reducible refine wpList_store_mid rfl 23 (.tmp 10) (.tmp 29) rfl (w.heap.size + 1) 0 (x.map bv).toArray rfl rfl T1.out HD.out.J HD.out.O ?_))
      have HRR := Lib.hid (World.rangeAt_setCells_same wr (w.heap.size + 1) 0 (x.map bv).toArray.toList (by simpa using T1.out))
      refine bodyPost_ret (results_cell_mid rfl _ _ _ (w.heap.size + 1) 0 (x.map bv) _ rfl HRR.out Tryd.underlying23 rfl HD.out.I) rfl ?_
      exact ⟨by rw [HXE.out], below_setCells (by omega) _ 0 _ _ B3.out⟩

set_option maxRecDepth 1000000 in
set_option maxHeartbeats 1000000 in
theorem join_any (l n : Int) (a b : List UInt8) (w : World) (ha : a.length = 16) (hb : b.length = 16) (hT : Tab w) (hl : 0 ≤ l ∧ l ≤ 1000) (hn : 0 ≤ n ∧ n ≤ 1000) :
    Calls Tryd.prog 48 #[.int .i64 l, .int .i64 n, .agg (a.map bv).toArray, .agg (b.map bv).toArray] w
      fun e w' => e = .returned (.agg ((Sg.node l n a b).map bv).toArray) ∧ Below w.heap.size w w' := by
  have HT := Lib.hid hT
  have HA := Lib.hid ha
  have HB := Lib.hid hb
  have hf : Fits [l, n] := Fits.two hl hn
  have hle := encIs_le3 _ hf (by simp)
  obtain ⟨E, hE⟩ : ∃ E, E = Wm.encIs [l, n] := ⟨_, rfl⟩
  have CI := Lib.hid (fun (A : Option Addr) (c : Nat) (W : World) (hl : Lies W A [iv l, iv n]) => ints_any [l, n] A 2 c W rfl hf hl (by omega) (by omega))
  have hst : Sg.node l n a b = Sg.of 5 [Wm.encIs [l, n], a, b] := rfl
  rw [← hE] at hst hle CI
  obtain ⟨y, hy⟩ : ∃ y, y = Sg.node l n a b := ⟨_, rfl⟩
  rw [← hy] at hst ⊢
  have COf := Lib.hid (fun (A : Option Addr) (c : Nat) (W : World) (hl : Lies W A [sv E, sv a, sv b]) (ht : Tab W) => hsOf_any 5 [E, a, b] A 3 c W rfl hl (Small.three (by omega) (by omega) (by omega)) ht)
  have hst2 : (Sha.sum Sha.consts (inOf 5 [E, a, b])).take 16 = y := hst.symm
  rw [hst2] at COf
  have hyl : y.length = 16 := by rw [hst]; exact Sg.of_len _ _
  have DA := Lib.hid (D16.of ha)
  have DB := Lib.hid (D16.of hb)
  have DY := Lib.hid (D16.of hyl)
  obtain ⟨q1, q2, q3, q4, q5⟩ := rows3 w (a.map bv).toArray (b.map bv).toArray z16 23 23 23
  obtain ⟨u, hu⟩ : ∃ x, x = ((w.alloc (.cells (a.map bv).toArray 23)).alloc (.cells (b.map bv).toArray 23)).alloc (.cells z16 23) := ⟨_, rfl⟩
  rw [← hu] at q1 q2 q3 q4
  have R1 : Hid (Row w.heap.size (a.map bv) u) := Lib.hid q1
  have R2 : Hid (Row (w.heap.size + 1) (b.map bv) u) := Lib.hid q2
  have R3 : Hid (Row (w.heap.size + 2) (fill16 []) u) := Lib.hid q3
  have B3 := Lib.hid q4
  have HU := Lib.hid hu
  clear q1 q2 q3 q4 q5 hu ha hb hT hf hE hst hst2 hyl hy hl hn
  go_enter Tryd.func48, Tryd.ntmps48
  go_upto_region 1 with fail
  rw [← HU.out]
  clear HU
  refine wpK_region (by kernel_rfl) ?_
  refine wpK_tk (i := 0) (some 9) rfl rfl (by kernel_rfl) (fun _ _ _ h => h) (.val (by rfl) (fun _ _ => rfl)) ?_
  simp only [Act.put, List.setIfInBounds_toArray, List.set_cons_zero, List.set_cons_succ]
  refine wpK_tk (i := 1) (some 10) rfl rfl (by kernel_rfl) (fun _ _ _ h => h) (.val (by rfl) (fun _ _ => rfl)) ?_
  simp only [Act.put, List.setIfInBounds_toArray, List.set_cons_zero, List.set_cons_succ]
  refine wpK_tk (i := 5) (some 14) rfl rfl (by kernel_rfl) (fun _ _ _ h => h) (.load_mid (by rfl) 23 (.tmp 6) rfl (w.heap.size) (0) rfl (a.map bv) _ (fun W hg => (R1.out.below hg.un).range) Tryd.underlying23 rfl DA.out.I) ?_
  simp only [Act.put, List.setIfInBounds_toArray, List.set_cons_zero, List.set_cons_succ]
  refine wpK_tk (i := 7) (some 16) rfl rfl (by kernel_rfl) (fun _ _ _ h => h) (.load_mid (by rfl) 23 (.tmp 7) rfl (w.heap.size + 1) (0) rfl (b.map bv) _ (fun W hg => (R2.out.below hg.un).range) Tryd.underlying23 rfl DB.out.I) ?_
  simp only [Act.put, List.setIfInBounds_toArray, List.set_cons_zero, List.set_cons_succ]
  refine wpK_val (i := 2) (some 11) rfl rfl (by kernel_rfl) (by rfl) (fun W1 hgW1 => ⟨.slice (some ⟨W1.heap.size, 0, none⟩) 2 2, W1.alloc (.cells #[iv l, iv n] 3), by (go_simp <;> rfl), Gr.al _ _, ?_⟩)
  simp only [Act.put, List.setIfInBounds_toArray, List.set_cons_zero, List.set_cons_succ]
  have l4 := Lies.fresh W1 [iv l, iv n] 3
  have g4 := Lib.hid (hgW1.un.trans (Gr.al W1 (.cells #[iv l, iv n] 3)))
  obtain ⟨W4, e4⟩ : ∃ z, z = W1.alloc (.cells #[iv l, iv n] 3) := ⟨_, rfl⟩
  change Lies (W1.alloc (.cells #[iv l, iv n] 3)) _ _ at l4
  rw [← e4] at l4 g4 ⊢
  have L4 := Lib.hid l4
  clear l4 e4
  refine wpK_call (i := 3) (some 12) 50 #[.slice (some ⟨W1.heap.size, 0, none⟩) 2 2] rfl rfl (by kernel_rfl) (by rfl) (fun W => by go_simp) (fun W5 hgW5 => ?_)
  refine (CI.out _ 2 W5 (L4.out.below hgW5)).mono ?_
  rintro e w5 ⟨v5, rfl, o5, b5⟩
  refine ⟨_, rfl, b5, ?_⟩
  simp only [Act.put, List.setIfInBounds_toArray, List.set_cons_zero, List.set_cons_succ]
  obtain ⟨A5, c5, rfl, _, _, l5⟩ := own_shape o5
  have L5 := Lib.hid l5
  have g5 := Lib.hid ((g4.out.trans hgW5).trans b5)
  have HA5 : Hid (A5 = none → E.length = 0) := Lib.hid (fun h => by have h2 := L5.out.none_ h; rw [h2]; rfl)
  clear o5 b5 l5
  refine wpK_tk (i := 4) (some 13) rfl rfl (by kernel_rfl) (fun _ _ _ h => h) (.conv (by rfl) (.tmp 12) 43 9 5 rfl Tryd.underlying43 Tryd.underlying5 Tryd.underlying9 A5 E.length c5 rfl E rfl HA5.out (fun W hg => L5.out.below hg)) ?_
  simp only [Act.put, List.setIfInBounds_toArray, List.set_cons_zero, List.set_cons_succ]
  refine wpK_tk (i := 6) (some 15) (v := .string (bstr a)) rfl rfl (by kernel_rfl) (fun _ _ _ h => h) (.call (f := 33) (args := #[.agg (a.map bv).toArray]) (by rfl) (fun W => by go_simp) (fun W hg => text_any a W HA.out)) ?_
  simp only [Act.put, List.setIfInBounds_toArray, List.set_cons_zero, List.set_cons_succ]
  refine wpK_tk (i := 8) (some 17) (v := .string (bstr b)) rfl rfl (by kernel_rfl) (fun _ _ _ h => h) (.call (f := 33) (args := #[.agg (b.map bv).toArray]) (by rfl) (fun W => by go_simp) (fun W hg => text_any b W HB.out)) ?_
  simp only [Act.put, List.setIfInBounds_toArray, List.set_cons_zero, List.set_cons_succ]
  refine wpK_val (i := 9) (some 18) rfl rfl (by kernel_rfl) (by rfl) (fun W6 hgW6 => ⟨.slice (some ⟨W6.heap.size, 0, none⟩) 3 3, W6.alloc (.cells #[sv E, sv a, sv b] 9), by (go_simp <;> rfl), Gr.al _ _, ?_⟩)
  simp only [Act.put, List.setIfInBounds_toArray, List.set_cons_zero, List.set_cons_succ]
  have l7 := Lies.fresh W6 [sv E, sv a, sv b] 9
  have g7 := Lib.hid ((g5.out.trans hgW6).trans (Gr.al W6 (.cells #[sv E, sv a, sv b] 9)))
  obtain ⟨W7, e7⟩ : ∃ z, z = W6.alloc (.cells #[sv E, sv a, sv b] 9) := ⟨_, rfl⟩
  change Lies (W6.alloc (.cells #[sv E, sv a, sv b] 9)) _ _ at l7
  rw [← e7] at l7 g7 ⊢
  have L7 := Lib.hid l7
  clear l7 e7
  refine wpK_tk (i := 10) (some 19) (v := .agg (y.map bv).toArray) rfl rfl (by kernel_rfl) (fun _ _ _ h => h) (.call (f := 37) (args := #[.int .i64 5, .slice (some ⟨W6.heap.size, 0, none⟩) 3 3]) (by rfl) (fun W => by go_simp) (fun W hg => COf.out _ 3 W (L7.out.below hg) (HT.out.below (Gr.to B3.out (g7.out.trans hg))))) ?_
  simp only [Act.put, List.setIfInBounds_toArray, List.set_cons_zero, List.set_cons_succ]
  refine wpK_store (i := 11) (none) rfl rfl (by kernel_rfl) (by rfl) (by rfl) (fun W8 hgW8 => ⟨_, run_store_mid 23 (.tmp 8) (.tmp 19) rfl (w.heap.size + 2) (0) ((y.map bv).toArray) rfl rfl ((R3.out.below (g7.out.trans hgW8)).there 0 _ (by rw [DY.out.Z, z16_len]; decide)) DY.out.J DY.out.O, ?_⟩)
  simp only [Act.put]
  refine wpK_done (by kernel_rfl) (fun W9 hgW9 => ?_) _
  have G8 := g7.out.trans hgW8
  have r1 := ((R3.out.below G8).over (D := y.map bv) (by rw [z16_len, DY.out.len])).below hgW9
  have b9 := Gr.to (below_setCells (b := w.heap.size + 2) (by omega) (y.map bv) 0 w W8 (Gr.to B3.out G8)) hgW9
  have P1 := Lib.hid r1.range
  have P3 := Lib.hid b9
  clear r1 b9 hgW1 hgW5 hgW6 hgW8 hgW9 G8
  go_wp2_with fail
  refine bodyPost_ret (results_cell_mid rfl _ _ _ (w.heap.size + 2) 0 (y.map bv) _ rfl P1.out Tryd.underlying23 rfl DY.out.I) rfl ?_
  exact ⟨rfl, P3.out⟩

set_option maxRecDepth 1000000 in
set_option maxHeartbeats 1000000 in
theorem rnode_any (l n : Int) (a b : List UInt8) (w : World) (ha : a.length = 16) (hb : b.length = 16) (hT : TabR w) (hl : 0 ≤ l ∧ l ≤ 1000) (hn : 0 ≤ n ∧ n ≤ 1000) :
    Calls Tryd.prog 46 #[.int .i64 l, .int .i64 n, .agg (a.map bv).toArray, .agg (b.map bv).toArray] w
      fun e w' => e = .returned (.agg ((Sg.node l n a b).map bv).toArray) ∧ Below w.heap.size w w' := by
  have HT := Lib.hid hT
  have HA := Lib.hid ha
  have HB := Lib.hid hb
  have hf : Fits [l, n] := Fits.two hl hn
  have hle := encIs_le3 _ hf (by simp)
  obtain ⟨E, hE⟩ : ∃ E, E = Wm.encIs [l, n] := ⟨_, rfl⟩
  have CI := Lib.hid (fun (A : Option Addr) (c : Nat) (W : World) (hl : Lies W A [iv l, iv n]) => refInts_any [l, n] A 2 c W rfl hf hl (by omega) (by omega))
  have hst : Sg.node l n a b = Sg.of 5 [Wm.encIs [l, n], a, b] := rfl
  rw [← hE] at hst hle CI
  obtain ⟨y, hy⟩ : ∃ y, y = Sg.node l n a b := ⟨_, rfl⟩
  rw [← hy] at hst ⊢
  have COf := Lib.hid (fun (A : Option Addr) (c : Nat) (W : World) (hl : Lies W A [sv E, sv a, sv b]) (ht : TabR W) => hrOf_any 5 [E, a, b] A 3 c W rfl hl (Small.three (by omega) (by omega) (by omega)) ht)
  have hst2 : (Sha.sum Sha.consts (inOf 5 [E, a, b])).take 16 = y := hst.symm
  rw [hst2] at COf
  have hyl : y.length = 16 := by rw [hst]; exact Sg.of_len _ _
  have DA := Lib.hid (D16.of ha)
  have DB := Lib.hid (D16.of hb)
  have DY := Lib.hid (D16.of hyl)
  obtain ⟨q1, q2, q3, q4, q5⟩ := rows3 w (a.map bv).toArray (b.map bv).toArray z16 23 23 23
  obtain ⟨u, hu⟩ : ∃ x, x = ((w.alloc (.cells (a.map bv).toArray 23)).alloc (.cells (b.map bv).toArray 23)).alloc (.cells z16 23) := ⟨_, rfl⟩
  rw [← hu] at q1 q2 q3 q4
  have R1 : Hid (Row w.heap.size (a.map bv) u) := Lib.hid q1
  have R2 : Hid (Row (w.heap.size + 1) (b.map bv) u) := Lib.hid q2
  have R3 : Hid (Row (w.heap.size + 2) (fill16 []) u) := Lib.hid q3
  have B3 := Lib.hid q4
  have HU := Lib.hid hu
  clear q1 q2 q3 q4 q5 hu ha hb hT hf hE hst hst2 hyl hy hl hn
  go_enter Tryd.func46, Tryd.ntmps46
  go_upto_region 1 with fail
  rw [← HU.out]
  clear HU
  refine wpK_region (by kernel_rfl) ?_
  refine wpK_tk (i := 0) (some 9) rfl rfl (by kernel_rfl) (fun _ _ _ h => h) (.val (by rfl) (fun _ _ => rfl)) ?_
  simp only [Act.put, List.setIfInBounds_toArray, List.set_cons_zero, List.set_cons_succ]
  refine wpK_tk (i := 1) (some 10) rfl rfl (by kernel_rfl) (fun _ _ _ h => h) (.val (by rfl) (fun _ _ => rfl)) ?_
  simp only [Act.put, List.setIfInBounds_toArray, List.set_cons_zero, List.set_cons_succ]
  refine wpK_tk (i := 5) (some 14) rfl rfl (by kernel_rfl) (fun _ _ _ h => h) (.load_mid (by rfl) 23 (.tmp 6) rfl (w.heap.size) (0) rfl (a.map bv) _ (fun W hg => (R1.out.below hg.un).range) Tryd.underlying23 rfl DA.out.I) ?_
  simp only [Act.put, List.setIfInBounds_toArray, List.set_cons_zero, List.set_cons_succ]
  refine wpK_tk (i := 7) (some 16) rfl rfl (by kernel_rfl) (fun _ _ _ h => h) (.load_mid (by rfl) 23 (.tmp 7) rfl (w.heap.size + 1) (0) rfl (b.map bv) _ (fun W hg => (R2.out.below hg.un).range) Tryd.underlying23 rfl DB.out.I) ?_
  simp only [Act.put, List.setIfInBounds_toArray, List.set_cons_zero, List.set_cons_succ]
  refine wpK_val (i := 2) (some 11) rfl rfl (by kernel_rfl) (by rfl) (fun W1 hgW1 => ⟨.slice (some ⟨W1.heap.size, 0, none⟩) 2 2, W1.alloc (.cells #[iv l, iv n] 3), by (go_simp <;> rfl), Gr.al _ _, ?_⟩)
  simp only [Act.put, List.setIfInBounds_toArray, List.set_cons_zero, List.set_cons_succ]
  have l4 := Lies.fresh W1 [iv l, iv n] 3
  have g4 := Lib.hid (hgW1.un.trans (Gr.al W1 (.cells #[iv l, iv n] 3)))
  obtain ⟨W4, e4⟩ : ∃ z, z = W1.alloc (.cells #[iv l, iv n] 3) := ⟨_, rfl⟩
  change Lies (W1.alloc (.cells #[iv l, iv n] 3)) _ _ at l4
  rw [← e4] at l4 g4 ⊢
  have L4 := Lib.hid l4
  clear l4 e4
  refine wpK_call (i := 3) (some 12) 53 #[.slice (some ⟨W1.heap.size, 0, none⟩) 2 2] rfl rfl (by kernel_rfl) (by rfl) (fun W => by go_simp) (fun W5 hgW5 => ?_)
  refine (CI.out _ 2 W5 (L4.out.below hgW5)).mono ?_
  rintro e w5 ⟨v5, rfl, o5, b5⟩
  refine ⟨_, rfl, b5, ?_⟩
  simp only [Act.put, List.setIfInBounds_toArray, List.set_cons_zero, List.set_cons_succ]
  obtain ⟨A5, c5, rfl, _, _, l5⟩ := own_shape o5
  have L5 := Lib.hid l5
  have g5 := Lib.hid ((g4.out.trans hgW5).trans b5)
  have HA5 : Hid (A5 = none → E.length = 0) := Lib.hid (fun h => by have h2 := L5.out.none_ h; rw [h2]; rfl)
  clear o5 b5 l5
  refine wpK_tk (i := 4) (some 13) rfl rfl (by kernel_rfl) (fun _ _ _ h => h) (.conv (by rfl) (.tmp 12) 43 9 5 rfl Tryd.underlying43 Tryd.underlying5 Tryd.underlying9 A5 E.length c5 rfl E rfl HA5.out (fun W hg => L5.out.below hg)) ?_
  simp only [Act.put, List.setIfInBounds_toArray, List.set_cons_zero, List.set_cons_succ]
  refine wpK_tk (i := 6) (some 15) (v := .string (bstr a)) rfl rfl (by kernel_rfl) (fun _ _ _ h => h) (.call (f := 36) (args := #[.agg (a.map bv).toArray]) (by rfl) (fun W => by go_simp) (fun W hg => hrText_any a W HA.out)) ?_
  simp only [Act.put, List.setIfInBounds_toArray, List.set_cons_zero, List.set_cons_succ]
  refine wpK_tk (i := 8) (some 17) (v := .string (bstr b)) rfl rfl (by kernel_rfl) (fun _ _ _ h => h) (.call (f := 36) (args := #[.agg (b.map bv).toArray]) (by rfl) (fun W => by go_simp) (fun W hg => hrText_any b W HB.out)) ?_
  simp only [Act.put, List.setIfInBounds_toArray, List.set_cons_zero, List.set_cons_succ]
  refine wpK_val (i := 9) (some 18) rfl rfl (by kernel_rfl) (by rfl) (fun W6 hgW6 => ⟨.slice (some ⟨W6.heap.size, 0, none⟩) 3 3, W6.alloc (.cells #[sv E, sv a, sv b] 9), by (go_simp <;> rfl), Gr.al _ _, ?_⟩)
  simp only [Act.put, List.setIfInBounds_toArray, List.set_cons_zero, List.set_cons_succ]
  have l7 := Lies.fresh W6 [sv E, sv a, sv b] 9
  have g7 := Lib.hid ((g5.out.trans hgW6).trans (Gr.al W6 (.cells #[sv E, sv a, sv b] 9)))
  obtain ⟨W7, e7⟩ : ∃ z, z = W6.alloc (.cells #[sv E, sv a, sv b] 9) := ⟨_, rfl⟩
  change Lies (W6.alloc (.cells #[sv E, sv a, sv b] 9)) _ _ at l7
  rw [← e7] at l7 g7 ⊢
  have L7 := Lib.hid l7
  clear l7 e7
  refine wpK_tk (i := 10) (some 19) (v := .agg (y.map bv).toArray) rfl rfl (by kernel_rfl) (fun _ _ _ h => h) (.call (f := 38) (args := #[.int .i64 5, .slice (some ⟨W6.heap.size, 0, none⟩) 3 3]) (by rfl) (fun W => by go_simp) (fun W hg => COf.out _ 3 W (L7.out.below hg) (HT.out.below (Gr.to B3.out (g7.out.trans hg))))) ?_
  simp only [Act.put, List.setIfInBounds_toArray, List.set_cons_zero, List.set_cons_succ]
  refine wpK_store (i := 11) (none) rfl rfl (by kernel_rfl) (by rfl) (by rfl) (fun W8 hgW8 => ⟨_, run_store_mid 23 (.tmp 8) (.tmp 19) rfl (w.heap.size + 2) (0) ((y.map bv).toArray) rfl rfl ((R3.out.below (g7.out.trans hgW8)).there 0 _ (by rw [DY.out.Z, z16_len]; decide)) DY.out.J DY.out.O, ?_⟩)
  simp only [Act.put]
  refine wpK_done (by kernel_rfl) (fun W9 hgW9 => ?_) _
  have G8 := g7.out.trans hgW8
  have r1 := ((R3.out.below G8).over (D := y.map bv) (by rw [z16_len, DY.out.len])).below hgW9
  have b9 := Gr.to (below_setCells (b := w.heap.size + 2) (by omega) (y.map bv) 0 w W8 (Gr.to B3.out G8)) hgW9
  have P1 := Lib.hid r1.range
  have P3 := Lib.hid b9
  clear r1 b9 hgW1 hgW5 hgW6 hgW8 hgW9 G8
  go_wp2_with fail
  refine bodyPost_ret (results_cell_mid rfl _ _ _ (w.heap.size + 2) 0 (y.map bv) _ rfl P1.out Tryd.underlying23 rfl DY.out.I) rfl ?_
  exact ⟨rfl, P3.out⟩

end Go.Proofs.YtdbdlhgkhnenfaaDoor
