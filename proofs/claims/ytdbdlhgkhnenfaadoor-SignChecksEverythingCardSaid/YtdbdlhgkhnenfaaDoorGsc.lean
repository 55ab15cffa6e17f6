/-
  Contracts of package sign: climbing a chain.
-/
import Derived.Test.YtdbdlhgkhnenfaaDoorGp
import Derived.Test.YtdbdlhgkhnenfaaDoorGl
import Derived.Test.YtdbdlhgkhnenfaaDoorGj
namespace Go.Proofs.YtdbdlhgkhnenfaaDoor
open Go.RowKit

set_option maxRecDepth 1000000 in
set_option maxHeartbeats 1000000 in
theorem climb_any (i : Int) (g0 : Nat) (j : Int) (v : List UInt8) (a n : Nat) (w : World) (hv : v.length = 16) (hc : w.cell? ⟨g0, 0, none⟩ = some (.int .i64 i)) (hT : Tab w)
    (hi : 0 ≤ i ∧ i ≤ 1000) (hj : 0 ≤ j ∧ j ≤ 1000) (hn : a + n ≤ 100) :
    Calls Tryd.prog 49 #[.int .i64 j, .agg (v.map bv).toArray, .int .i64 (a : Int), .int .i64 ((a + n : Nat) : Int), .pointer (some ⟨g0, 0, none⟩)] w
      fun e w' => e = .returned (.agg ((Sg.climb i j v a n).map bv).toArray) ∧ Below w.heap.size w w' := by
  have HT := Lib.hid hT
  have HC := Lib.hid (fun (W : World) (hb : Below w.heap.size w W) => (hb.cell (World.block_lt_of_cell? w _ hc)).trans hc)
  have HV := Lib.hid hv
  have HI := Lib.hid hi
  have HJ := Lib.hid hj
  have hn1 : ((a + n : Nat) : Int) = (a : Int) + (n : Int) := by omega
  rw [hn1]
  obtain ⟨q1, q2, q3, q4⟩ := two_rows w (v.map bv).toArray z16 23 23
  obtain ⟨u, hu⟩ : ∃ x, x = (w.alloc (.cells (v.map bv).toArray 23)).alloc (.cells z16 23) := ⟨_, rfl⟩
  rw [← hu] at q1 q2 q3
  have K1 : Hid (Row w.heap.size (v.map bv) u) := Lib.hid q1
  have K2 : Hid (Row (w.heap.size + 1) (fill16 []) u) := Lib.hid q2
  have K3 := Lib.hid q3
  have HU := Lib.hid hu
  clear q1 q2 q3 q4 hu hv hc hT hi hj hn1
  go_enter Tryd.func49, Tryd.ntmps49
  go_upto_region 1 with fail
  rw [← HU.out]
  clear HU
  go_wp2_with fail
  go_loopw [10] (fun i' wr => ∃ m : Nat, i' = .int .i64 ((a + m + 1 : Nat) : Int) ∧ m ≤ n ∧ Row w.heap.size ((Sg.climb i j v a m).map bv) wr ∧ Row (w.heap.size + 1) (fill16 []) wr ∧ Below w.heap.size w wr) (fun i' _ => a + n + 1 - (intOf i').toNat)
  case atStart => exact ⟨0, by go_num, by omega, K1.out, K2.out, K3.out⟩
  case round =>
    obtain ⟨m, rfl, hm, h1, h2, h3⟩ := hrel
    have hx : (Sg.climb i j v a m).length = 16 := Sg.climb_len HV.out a m
    have hst : Sg.climb i j v a (m + 1) = Sg.of 4 [Wm.encIs [i, j, ((a + m + 1 : Nat) : Int)], Sg.climb i j v a m] := rfl
    obtain ⟨x, hxe⟩ : ∃ x, x = Sg.climb i j v a m := ⟨_, rfl⟩
    rw [← hxe] at h1 hx hst
    have HXE := Lib.hid hxe
    clear hxe
    have hk1 : ((a + m + 1 : Nat) : Int) = (a : Int) + (m : Int) + 1 := by omega
    by_cases hlt : m < n
    · have hkb : 0 ≤ (a : Int) + (m : Int) + 1 ∧ (a : Int) + (m : Int) + 1 ≤ 1000 := by omega
      rw [hk1] at hst ⊢
      generalize (a : Int) + (m : Int) + 1 = k at hst hkb hk1 ⊢
      have hf : Fits [i, j, k] := Fits.three HI.out HJ.out hkb
      have hle := encIs_le3 _ hf (by simp)
      obtain ⟨E, hE⟩ : ∃ E, E = Wm.encIs [i, j, k] := ⟨_, rfl⟩
      have CI := Lib.hid (fun (A : Option Addr) (c : Nat) (W : World) (hl : Lies W A [iv i, iv j, iv k]) => ints_any [i, j, k] A 3 c W rfl hf hl (by omega) (by omega))
      rw [← hE] at hst hle CI
      obtain ⟨y, hy⟩ : ∃ y, y = Sg.climb i j v a (m + 1) := ⟨_, rfl⟩
      rw [← hy] at hst
      have COf := Lib.hid (fun (A : Option Addr) (c : Nat) (W : World) (hl : Lies W A [sv E, sv x]) (ht : Tab W) => hsOf_any 4 [E, x] A 2 c W rfl hl (Small.two (by omega) (by omega)) ht)
      have hst2 : (Sha.sum Sha.consts (inOf 4 [E, x])).take 16 = y := hst.symm
      rw [hst2] at COf
      have hyl : y.length = 16 := by rw [hst]; exact Sg.of_len _ _
      have DX := Lib.hid (D16.of hx)
      have DY := Lib.hid (D16.of hyl)
      have HX := Lib.hid hx
      have HY := Lib.hid hy
      have R1 := Lib.hid h1
      have R2 := Lib.hid h2
      have B3 := Lib.hid h3
      have hlt3 : k ≤ (a : Int) + (n : Int) := by omega
      clear h1 h2 h3 hst hst2 hx hf hyl hy hle hE K1 K2 K3
      go_wp2_with fail
      refine wpK_region (by kernel_rfl) ?_
      refine wpK_tk (i := 0) (some 18) (v := .int .i64 i) rfl rfl (by kernel_rfl) (fun _ _ _ h => h) (.val (by rfl) (fun W hg => by have hc := HC.out W (Gr.to B3.out hg.un); go_simp)) ?_
      simp only [Act.put, List.setIfInBounds_toArray, List.set_cons_zero, List.set_cons_succ]
      refine wpK_tk (i := 1) (some 19) rfl rfl (by kernel_rfl) (fun _ _ _ h => h) (.val (by rfl) (fun _ _ => rfl)) ?_
      simp only [Act.put, List.setIfInBounds_toArray, List.set_cons_zero, List.set_cons_succ]
      refine wpK_tk (i := 2) (some 20) rfl rfl (by kernel_rfl) (fun _ _ _ h => h) (.val (by rfl) (fun _ _ => rfl)) ?_
      simp only [Act.put, List.setIfInBounds_toArray, List.set_cons_zero, List.set_cons_succ]
      refine wpK_tk (i := 6) (some 24) rfl rfl (by kernel_rfl) (fun _ _ _ h => h) (.load_mid (by rfl) 23 (.tmp 6) rfl (w.heap.size) (0) rfl (x.map bv) _ (fun W hg => (R1.out.below hg.un).range) Tryd.underlying23 rfl DX.out.I) ?_
      simp only [Act.put, List.setIfInBounds_toArray, List.set_cons_zero, List.set_cons_succ]
      refine wpK_val (i := 3) (some 21) rfl rfl (by kernel_rfl) (by rfl) (fun W1 hgW1 => ⟨.slice (some ⟨W1.heap.size, 0, none⟩) 3 3, W1.alloc (.cells #[iv i, iv j, iv k] 3), by (go_simp <;> rfl), Gr.al _ _, ?_⟩)
      simp only [Act.put, List.setIfInBounds_toArray, List.set_cons_zero, List.set_cons_succ]
      have l4 := Lies.fresh W1 [iv i, iv j, iv k] 3
      have g4 := Lib.hid (hgW1.un.trans (Gr.al W1 (.cells #[iv i, iv j, iv k] 3)))
      obtain ⟨W4, e4⟩ : ∃ z, z = W1.alloc (.cells #[iv i, iv j, iv k] 3) := ⟨_, rfl⟩
      change Lies (W1.alloc (.cells #[iv i, iv j, iv k] 3)) _ _ at l4
      rw [← e4] at l4 g4 ⊢
      have L4 := Lib.hid l4
      clear l4 e4
      refine wpK_call (i := 4) (some 22) 50 #[.slice (some ⟨W1.heap.size, 0, none⟩) 3 3] rfl rfl (by kernel_rfl) (by rfl) (fun W => by go_simp) (fun W5 hgW5 => ?_)
      refine (CI.out _ 3 W5 (L4.out.below hgW5)).mono ?_
      rintro e w5 ⟨v5, rfl, o5, b5⟩
      refine ⟨_, rfl, b5, ?_⟩
      simp only [Act.put, List.setIfInBounds_toArray, List.set_cons_zero, List.set_cons_succ]
      obtain ⟨A5, c5, rfl, _, _, l5⟩ := own_shape o5
      have L5 := Lib.hid l5
      have g5 := Lib.hid ((g4.out.trans hgW5).trans b5)
      have HA5 : Hid (A5 = none → E.length = 0) := Lib.hid (fun h => by have h2 := L5.out.none_ h; rw [h2]; rfl)
      clear o5 b5 l5
      refine wpK_tk (i := 5) (some 23) rfl rfl (by kernel_rfl) (fun _ _ _ h => h) (.conv (by rfl) (.tmp 22) 43 9 5 rfl Tryd.underlying43 Tryd.underlying5 Tryd.underlying9 A5 E.length c5 rfl E rfl HA5.out (fun W hg => L5.out.below hg)) ?_
      simp only [Act.put, List.setIfInBounds_toArray, List.set_cons_zero, List.set_cons_succ]
      refine wpK_tk (i := 7) (some 25) (v := .string (bstr x)) rfl rfl (by kernel_rfl) (fun _ _ _ h => h) (.call (f := 33) (args := #[.agg (x.map bv).toArray]) (by rfl) (fun W => by go_simp) (fun W hg => text_any x W HX.out)) ?_
      simp only [Act.put, List.setIfInBounds_toArray, List.set_cons_zero, List.set_cons_succ]
      refine wpK_val (i := 8) (some 26) rfl rfl (by kernel_rfl) (by rfl) (fun W6 hgW6 => ⟨.slice (some ⟨W6.heap.size, 0, none⟩) 2 2, W6.alloc (.cells #[sv E, sv x] 9), by (go_simp <;> rfl), Gr.al _ _, ?_⟩)
      simp only [Act.put, List.setIfInBounds_toArray, List.set_cons_zero, List.set_cons_succ]
      have l7 := Lies.fresh W6 [sv E, sv x] 9
      have g7 := Lib.hid ((g5.out.trans hgW6).trans (Gr.al W6 (.cells #[sv E, sv x] 9)))
      obtain ⟨W7, e7⟩ : ∃ z, z = W6.alloc (.cells #[sv E, sv x] 9) := ⟨_, rfl⟩
      change Lies (W6.alloc (.cells #[sv E, sv x] 9)) _ _ at l7
      rw [← e7] at l7 g7 ⊢
      have L7 := Lib.hid l7
      clear l7 e7
      refine wpK_tk (i := 9) (some 27) (v := .agg (y.map bv).toArray) rfl rfl (by kernel_rfl) (fun _ _ _ h => h) (.call (f := 37) (args := #[.int .i64 4, .slice (some ⟨W6.heap.size, 0, none⟩) 2 2]) (by rfl) (fun W => by go_simp) (fun W hg => COf.out _ 2 W (L7.out.below hg) (HT.out.below (Gr.to B3.out (g7.out.trans hg))))) ?_
      simp only [Act.put, List.setIfInBounds_toArray, List.set_cons_zero, List.set_cons_succ]
      refine wpK_store (i := 10) (none) rfl rfl (by kernel_rfl) (by rfl) (by rfl) (fun W8 hgW8 => ⟨_, run_store_mid 23 (.tmp 6) (.tmp 27) rfl (w.heap.size) (0) ((y.map bv).toArray) rfl rfl ((R1.out.below (g7.out.trans hgW8)).there 0 _ (by rw [DY.out.Z, DX.out.len]; decide)) DY.out.J DY.out.O, ?_⟩)
      simp only [Act.put]
      refine wpK_done (by kernel_rfl) (fun W9 hgW9 => ?_) _
      have G8 := g7.out.trans hgW8
      have r1 := ((R1.out.below G8).over (D := y.map bv) (by rw [DX.out.len, DY.out.len])).below hgW9
      have r2 := ((R2.out.below G8).far (b := w.heap.size) (by omega) 0 (y.map bv)).below hgW9
      have b9 := Gr.to (below_setCells (b := w.heap.size) (Nat.le_refl _) (y.map bv) 0 w W8 (Gr.to B3.out G8)) hgW9
      have P1 := Lib.hid r1
      have P2 := Lib.hid r2
      have P3 := Lib.hid b9
      clear r1 r2 b9 hgW1 hgW5 hgW6 hgW8 hgW9 G8
      go_wp2_with fail
      first
        | exact ⟨⟨m + 1, by go_num, by omega, by rw [← HY.out]; exact P1.out, P2.out, P3.out⟩, by simp [intOf]; omega⟩
        | (go_roundw
           case rel => exact ⟨m + 1, by go_num, by omega, by rw [← HY.out]; exact P1.out, P2.out, P3.out⟩
           case measure => simp [intOf]; omega)
    · have hmn : m = n := by omega
      subst hmn
      have HDX := D16.of hx
      have HD := Lib.hid HDX
      have R1 := Lib.hid h1.range
      have T1 := Lib.hid (h2.there 0 (x.map bv).toArray.size (by rw [HDX.Z, z16_len]; omega))
      have B3 := Lib.hid h3
      have HE := Lib.hid hx
      clear h1 h2 h3 HDX hx hst K1 K2 K3
      rw [hk1]
      go_wp2_with (first | (with_reducible refine wpList_load_mid rfl 23 (.tmp 6) rfl w.heap.size 0 rfl (x.map bv) _ R1.out Tryd.underlying23 rfl HD.out.I ?_) | (with_reducible refine wpList_store_mid rfl 23 (.tmp 9) (.tmp 28) rfl (w.heap.size + 1) 0 (x.map bv).toArray rfl rfl T1.out HD.out.J HD.out.O ?_))
      have HRR := Lib.hid (World.rangeAt_setCells_same wr (w.heap.size + 1) 0 (x.map bv).toArray.toList (by simpa using T1.out))
      refine bodyPost_ret (results_cell_mid rfl _ _ _ (w.heap.size + 1) 0 (x.map bv) _ rfl HRR.out Tryd.underlying23 rfl HD.out.I) rfl ?_
      exact ⟨by rw [HXE.out], below_setCells (by omega) _ 0 _ _ B3.out⟩

end Go.Proofs.YtdbdlhgkhnenfaaDoor
/-
  Contracts of package sign and its specification: the values 0 of chains.
-/
namespace Go.Proofs.YtdbdlhgkhnenfaaDoor
open Go.RowKit

def z560 : Array Value := (List.replicate 560 (Value.int .u8 0)).toArray
theorem zero_560 (w : World) : (zeroValue 55).run Tryd.prog w = .ok (.agg z560) w := by kernel_rfl
theorem z560_fill : z560.toList = fillN 560 [] := rfl

/-- what one asks of the cells of 35 digests -/
structure D560 (D : List Value) : Prop where
  len : D.length = 560
  one : ∀ x ∈ D, x.oneCell' = true
theorem D560.of {l : List (List UInt8)} (h : Is16 l) (hl : l.length = 35) : D560 (dcells l) := ⟨by unfold dcells; rw [List.length_map, flatten_len h, hl], bvs_one _⟩
theorem D560.I {D : List Value} (h : D560 D) : (Tryd.prog.info? 55).map (·.size) = some D.length := by rw [h.len]; kernel_rfl
theorem D560.J {D : List Value} (h : D560 D) : (Tryd.prog.info? 55).map (·.size) = some D.toArray.size := by rw [List.size_toArray, h.len]; kernel_rfl
theorem D560.Z {D : List Value} (h : D560 D) : D.toArray.size = 560 := by rw [List.size_toArray, h.len]
theorem D560.O {D : List Value} (h : D560 D) : D.toArray.all (·.oneCell') = true := all_oneCell_toArray h.one

set_option maxRecDepth 1000000 in
theorem climber_any (i : Int) (w : World) :
    Calls Tryd.prog 31 #[.int .i64 i] w fun e w' => e = .returned (.func (.func 49) #[] #[.pointer (some ⟨w.heap.size, 0, none⟩)]) ∧ Row w.heap.size [.int .i64 i] w' ∧ Below w.heap.size w w' := by
  have hmf : ∀ (fn : Fn) (first cap : Array Value) (w : World), (Instr.makeFunc fn first cap).run Tryd.prog w = .ok (.func fn first cap) w := fun _ _ _ _ => rfl
  have B0 := (Below.refl w.heap.size w).alloc (Nat.le_refl _) (.cells #[.int .i64 i] 3)
  have R0 := Row.new w #[.int .i64 i] 3
  go_enter Tryd.func31, Tryd.ntmps31
  go_wp2_with fail
  go_ret
  exact ⟨rfl, R0, B0⟩

set_option maxRecDepth 1000000 in
set_option maxHeartbeats 400000 in
theorem secrets_any (seed : List UInt8) (i : Int) (w : World) (hs : seed.length ≤ 1000000) (hi : 0 ≤ i ∧ i ≤ 1000) (hT : Tab w) :
    Calls Tryd.prog 32 #[.string (bstr seed), .int .i64 i] w fun e w' => e = .returned (.agg (dcells (Sg.secs seed i 35)).toArray) ∧ Below w.heap.size w w' := by
  have hz := zero_560
  have HS := Lib.hid hs
  have HI := Lib.hid hi
  have HT := Lib.hid hT
  obtain ⟨q1, q2, q3, q4⟩ := two_rows w z560 z560 55 55
  obtain ⟨u, hu⟩ : ∃ x, x = (w.alloc (.cells z560 55)).alloc (.cells z560 55) := ⟨_, rfl⟩
  rw [← hu] at q1 q2 q3
  rw [z560_fill] at q1 q2
  have K1 := Lib.hid q1
  have K2 := Lib.hid q2
  have K3 := Lib.hid q3
  have HU := Lib.hid hu
  clear q1 q2 q3 q4 hu hs hi hT
  go_enter Tryd.func32, Tryd.ntmps32
  go_upto_region 2 with fail
  rw [← HU.out]
  clear HU hz
  go_wp2_with fail
  go_loopw [7] (fun i' wr => ∃ k : Nat, i' = .int .i64 (k : Int) ∧ k ≤ 35 ∧ Row (w.heap.size + 1) (fillN 560 (Sg.secs seed i k).flatten) wr ∧ Row w.heap.size (fillN 560 []) wr ∧ Below w.heap.size w wr) (fun i' _ => 35 - (intOf i').toNat)
  case atStart => exact ⟨0, rfl, by omega, K2.out, K1.out, K3.out⟩
  case round =>
    obtain ⟨k, rfl, hk, h1, h2, h3⟩ := hrel
    have hfl : (Sg.secs seed i k).flatten.length = k * 16 := by rw [flatten_len (Sg.secs_16 _ _ _), Sg.secs_length]
    by_cases hlt : k < 35
    · have hf : Fits [i, (k : Int)] := Fits.two HI.out (by omega)
      have hle := encIs_le3 _ hf (by simp)
      have hst : (Sg.secs seed i (k + 1)).flatten = (Sg.secs seed i k).flatten ++ Sg.start seed i (k : Int) := by rw [Sg.secs_succ, List.flatten_append]; simp
      obtain ⟨E, hE⟩ : ∃ E, E = Wm.encIs [i, (k : Int)] := ⟨_, rfl⟩
      have CI := Lib.hid (fun (A : Option Addr) (c : Nat) (W : World) (hl : Lies W A [iv i, iv (k : Int)]) => ints_any [i, (k : Int)] A 2 c W rfl hf hl (by omega) (by omega))
      have hss : Sg.start seed i (k : Int) = (Sha.mac Sha.consts seed E).take 16 := by rw [hE]; rfl
      rw [← hE] at hle CI
      have CM := Lib.hid (fun (W : World) (ht : Tab W) => hsMac_any seed E W HS.out (by omega) ht)
      have hml := Sha.mac_len Sha.consts seed E
      generalize Sha.mac Sha.consts seed E = M at hss CM hml
      have CD := Lib.hid (fun (W : World) => digest_any M W (by omega))
      rw [← hss] at CD
      have hdl := Sg.start_len seed i (k : Int)
      generalize Sg.start seed i (k : Int) = d at hst CD hdl
      generalize (Sg.secs seed i k).flatten = S at hst h1 hfl
      have HST := Lib.hid hst
      have R1 := Lib.hid h1
      have R2 := Lib.hid h2
      have B3 := Lib.hid h3
      have DD := Lib.hid (D16.of hdl)
      have HDL := Lib.hid hdl
      have HFL := Lib.hid hfl
      clear hst h1 h2 h3 hss hml hf hE hfl hdl K1 K2 K3
      have l4 := Lies.fresh wr [iv i, iv (k : Int)] 3
      have g4 := Gr.al wr (.cells [iv i, iv (k : Int)].toArray 3)
      obtain ⟨W4, e4⟩ : ∃ z, z = wr.alloc (.cells [iv i, iv (k : Int)].toArray 3) := ⟨_, rfl⟩
      rw [← e4] at l4 g4
      have L4 := Lib.hid l4
      have G4 := Lib.hid g4
      have E4 := Lib.hid (show W4 = wr.alloc (.cells #[.int .i64 i, .int .i64 (k : Int)] 3) from e4)
      clear l4 g4 e4
      go_wp2_with fail
      rw [← E4.out]
      refine (CI.out _ 2 W4 L4.out).mono ?_
      rintro e w5 ⟨v5, rfl, o5, b5⟩
      obtain ⟨A5, c5, rfl, _, _, l5⟩ := own_shape o5
      have L5 := Lib.hid l5
      have G5 := Lib.hid (G4.out.trans b5)
      have HA5 : Hid (A5 = none → E.length = 0) := Lib.hid (fun h => by have h2 := L5.out.none_ h; rw [h2]; rfl)
      clear o5 b5 l5 L4 G4 E4
      go_wp2_with (with_reducible refine wpList_convert_str w5 rfl (.tmp 15) 43 9 5 rfl Tryd.underlying43 Tryd.underlying5 Tryd.underlying9 A5 E.length c5 rfl E rfl HA5.out L5.out ?_)
      refine (CM.out w5 (HT.out.below (Gr.to B3.out G5.out))).mono ?_
      rintro e w6 ⟨rfl, b6⟩
      have G6 := Lib.hid (G5.out.trans b6)
      clear b6 G5 L5 HA5
      go_wp2_with fail
      refine (CD.out w6).mono ?_
      rintro e w7 ⟨rfl, b7⟩
      have G7 := Lib.hid (G6.out.trans b7)
      clear b7 G6
      have hfl := HFL.out
      have T7 := Lib.hid ((R1.out.below G7.out).there (k * 16) (d.map bv).toArray.size (by rw [DD.out.Z, fillN_len _ _ (by omega)]; omega))
      have r8 := (R1.out.below G7.out).digest HDL.out (by omega)
      rw [← HST.out, hfl] at r8
      have R8 := Lib.hid r8
      have S8 := Lib.hid ((R2.out.below G7.out).far (b := w.heap.size + 1) (by omega) (k * 16) (d.map bv))
      have B8 := Lib.hid (below_setCells (b := w.heap.size + 1) (by omega) (d.map bv) (k * 16) w w7 (Gr.to B3.out G7.out))
      clear r8 hfl
      go_wp2_with (with_reducible refine wpList_store_mid rfl 23 (.tmp 19) (.tmp 18) rfl (w.heap.size + 1) (k * 16) (d.map bv).toArray rfl rfl T7.out DD.out.J DD.out.O ?_)
      exact ⟨⟨k + 1, by go_num, by omega, R8.out, S8.out, B8.out⟩, by simp [intOf]; omega⟩
    · have hk35 : k = 35 := by omega
      subst hk35
      rw [fillN_full _ _ hfl] at h1
      have hd := D560.of (Sg.secs_16 seed i 35) (Sg.secs_length seed i 35)
      obtain ⟨D, hD⟩ : ∃ x, x = dcells (Sg.secs seed i 35) := ⟨_, rfl⟩
      change Row (w.heap.size + 1) (dcells (Sg.secs seed i 35)) wr at h1
      rw [← hD] at hd h1
      have HD := Lib.hid hd
      have HDE := Lib.hid hD
      have R2 := Lib.hid h1.range
      have B1 := Lib.hid h3
      have T1 := Lib.hid (h2.there 0 D.toArray.size (by rw [hd.Z, fillN_len _ _ (by simp)]; omega))
      clear h1 h2 h3 hd hD hfl K1 K2 K3
      go_wp2_with (first | (with_reducible refine wpList_load_mid rfl 55 (.tmp 5) rfl (w.heap.size + 1) 0 rfl D _ R2.out Tryd.underlying55 rfl HD.out.I ?_) | (with_reducible refine wpList_store_mid rfl 55 (.tmp 4) (.tmp 21) rfl w.heap.size 0 D.toArray rfl rfl T1.out HD.out.J HD.out.O ?_))
      have HRR := Lib.hid (World.rangeAt_setCells_same wr w.heap.size 0 D.toArray.toList (by simpa using T1.out))
      refine bodyPost_ret (results_cell_mid rfl _ _ _ w.heap.size 0 D _ rfl HRR.out Tryd.underlying55 rfl HD.out.I) rfl ?_
      exact ⟨by rw [HDE.out], below_setCells (Nat.le_refl _) _ 0 _ _ B1.out⟩

set_option maxRecDepth 1000000 in
set_option maxHeartbeats 400000 in
theorem rstart_any (seed : List UInt8) (i j : Int) (w : World) (hs : seed.length ≤ 1000000) (hi : 0 ≤ i ∧ i ≤ 1000) (hj : 0 ≤ j ∧ j ≤ 1000) (hR : TabR w) :
    Calls Tryd.prog 35 #[.string (bstr seed), .int .i64 i, .int .i64 j] w fun e w' => e = .returned (.agg ((Sg.start seed i j).map bv).toArray) ∧ Below w.heap.size w w' := by
  have hf : Fits [i, j] := Fits.two hi hj
  have hle := encIs_le3 _ hf (by simp)
  obtain ⟨E, hE⟩ : ∃ E, E = Wm.encIs [i, j] := ⟨_, rfl⟩
  have CI := Lib.hid (fun (A : Option Addr) (c : Nat) (W : World) (hl : Lies W A [iv i, iv j]) => refInts_any [i, j] A 2 c W rfl hf hl (by omega) (by omega))
  have hss : Sg.start seed i j = (Sha.mac Sha.consts seed E).take 16 := by rw [hE]; rfl
  rw [← hE] at hle CI
  have CM := Lib.hid (fun (W : World) (ht : TabR W) => hrMac_any seed E W hs (by omega) ht)
  have hml := Sha.mac_len Sha.consts seed E
  generalize Sha.mac Sha.consts seed E = M at hss CM hml
  have h16 : (M.take 16).length = 16 := by rw [List.length_take]; omega
  have CD := Lib.hid (fun (W : World) => rdigest_any (M.take 16) W (by omega) (by omega))
  have hres : (M.take 16).take 16 = Sg.start seed i j := by rw [List.take_take, Nat.min_self]; exact hss.symm
  rw [hres] at CD
  clear hres
  have hdl := Sg.start_len seed i j
  have HR := Lib.hid hR
  obtain ⟨D, hD⟩ : ∃ x, x = (Sg.start seed i j).map bv := ⟨_, rfl⟩
  have hd : D16 D := by rw [hD]; exact D16.of hdl
  rw [← hD] at CD ⊢
  have HD := Lib.hid hd
  have hmb : (bstr M).size = M.length := bstr_size M
  have K0 : Hid (Row w.heap.size (fill16 []) (w.alloc (.cells z16 23))) := Lib.hid (Row.new w z16 23)
  obtain ⟨u, hu⟩ : ∃ x, x = w.alloc (.cells z16 23) := ⟨_, rfl⟩
  have G0 := Lib.hid (Gr.al w (.cells z16 23))
  rw [← hu] at K0 G0
  have l4 := Lies.fresh u [iv i, iv j] 3
  have g4 := Gr.al u (.cells [iv i, iv j].toArray 3)
  obtain ⟨W4, e4⟩ : ∃ z, z = u.alloc (.cells [iv i, iv j].toArray 3) := ⟨_, rfl⟩
  rw [← e4] at l4 g4
  have L4 := Lib.hid l4
  have G4 := Lib.hid (G0.out.trans g4)
  have E4 := Lib.hid (show W4 = u.alloc (.cells #[.int .i64 i, .int .i64 j] 3) from e4)
  have HU := Lib.hid hu
  have hx16 : (bstr M).extract 0 16 = bstr (M.take 16) := by
    apply ByteArray.ext
    rw [ByteArray.data_extract]
    show M.toArray.extract 0 16 = (M.take 16).toArray
    simp
  clear hss h16 hdl hd hD hs hi hj hR hf hE l4 g4 e4 hu
  go_enter Tryd.func35, Tryd.ntmps35
  go_upto_region 1 with fail
  rw [← HU.out]
  clear HU
  go_wp2_with fail
  rw [← E4.out]
  refine (CI.out _ 2 W4 L4.out).mono ?_
  rintro e w5 ⟨v5, rfl, o5, b5⟩
  obtain ⟨A5, c5, rfl, _, _, l5⟩ := own_shape o5
  have L5 := Lib.hid l5
  have G5 := Lib.hid (G4.out.trans b5)
  have HA5 : Hid (A5 = none → E.length = 0) := Lib.hid (fun h => by have h2 := L5.out.none_ h; rw [h2]; rfl)
  have K5 := Lib.hid ((K0.out.below (Gr.trans (by rw [E4.out]; exact Gr.al _ _) b5)))
  clear o5 b5 l5 L4 G4 E4 K0 G0
  go_wp2_with (with_reducible refine wpList_convert_str w5 rfl (.tmp 11) 43 9 5 rfl Tryd.underlying43 Tryd.underlying5 Tryd.underlying9 A5 E.length c5 rfl E rfl HA5.out L5.out ?_)
  refine (CM.out w5 (HR.out.below G5.out)).mono ?_
  rintro e w6 ⟨rfl, b6⟩
  have G6 := Lib.hid (G5.out.trans b6)
  have K6 := Lib.hid (K5.out.below b6)
  clear b6 G5 L5 HA5 K5
  go_wp2_with fail
  refine (CD.out w6).mono ?_
  rintro e w7 ⟨rfl, b7⟩
  have G7 := Lib.hid (G6.out.trans b7)
  have T7 := Lib.hid ((K6.out.below b7).there 0 D.toArray.size (by rw [HD.out.Z, z16_len]; omega))
  clear b7 G6 K6
  go_wp2_with (with_reducible refine wpList_store_mid rfl 23 (.tmp 6) (.tmp 15) rfl w.heap.size 0 D.toArray rfl rfl T7.out HD.out.J HD.out.O ?_)
  have HRR := Lib.hid (World.rangeAt_setCells_same w7 w.heap.size 0 D.toArray.toList (by simpa using T7.out))
  refine bodyPost_ret (results_cell_mid rfl _ _ _ w.heap.size 0 D _ rfl HRR.out Tryd.underlying23 rfl HD.out.I) rfl ?_
  exact ⟨rfl, below_setCells (Nat.le_refl _) _ 0 _ _ G7.out⟩
end Go.Proofs.YtdbdlhgkhnenfaaDoor
