/-
  Contracts of the specification of package sign: the values of a tree, public keys.
-/
import Derived.Test.YtdbdlhgkhnenfaaDoorGsi
namespace Go.Proofs.YtdbdlhgkhnenfaaDoor
open Go.RowKit

theorem results_cell_tmp1 {fn : Func} {p u : Tmp} {ty : TypeId} (h : fn.results = #[.cell p ty, .tmp u]) (tmps : Array Value) (P : Program) (w : World) (b o : Nat) (cs : List Value) (d : TypeDesc)
    (hp : tmps.getD p undef = .pointer (some ⟨b, o, none⟩)) (hc : w.rangeAt b o cs) (hu : P.underlying ty = some d) (hd : d.isRow = true) (hi : (P.info? ty).map (·.size) = some cs.length) :
    (results fn tmps).run P w = .ok (.tuple #[.agg cs.toArray, tmps.getD u undef]) w := by
  have hp' : tmps[p]?.getD undef = .pointer (some ⟨b, o, none⟩) := by simpa using hp
  simp [results, h, hp', asAddr, Result.andThen, run_loadVar_mid w b o ty cs d hc hu hd hi]

set_option maxRecDepth 1000000 in
set_option maxHeartbeats 1000000 in
theorem rvalue0_any (seed : List UInt8) (n : Nat) (w : World) (hs : seed.length ≤ 1000000) (hn : n ≤ 1000) (hR : TabR w) :
    Calls Tryd.prog 30 #[.string (bstr seed), .int .i64 0, .int .i64 (n : Int)] w
      fun e w' => e = .returned (.agg ((Sg.value seed 0 n).map bv).toArray) ∧ Below w.heap.size w w' := by
  obtain ⟨i0, hi, hz0, hz1, hz2⟩ := info_parts Tryd.infoD3
  have HR := Lib.hid hR
  have HS := Lib.hid hs
  have K0 : Hid (Row w.heap.size (fill16 []) (w.alloc (.cells z16 23))) := Lib.hid (Row.new w z16 23)
  have g0 := Gr.al w (.cells z16 23)
  obtain ⟨u, hu⟩ : ∃ x, x = w.alloc (.cells z16 23) := ⟨_, rfl⟩
  have hus : u.heap.size = w.heap.size + 1 := by rw [hu]; simp
  rw [← hu] at K0 g0
  have B0 : Hid (Below w.heap.size w u) := Lib.hid g0
  have HU := Lib.hid hu
  have hv : Sg.value seed 0 n = Sg.leaf (Sg.tops (n : Int) (Sg.secs seed (n : Int) 35) Sg.zeros 35) := rfl
  have HV := Lib.hid hv
  clear hR hs g0 hu hv
  go_enter Tryd.func30, Tryd.ntmps30
  go_upto_region 1 with fail
  rw [← HU.out]
  clear HU
  go_wp2_with fail
  go_loopw [7, 8] (fun v i' wr => ∃ k : Nat, i' = .int .i64 (k : Int) ∧ k ≤ 35 ∧ wr.ownsRow (w.heap.size + 1) 23 16 v k (dcells (Sg.tops (n : Int) (Sg.secs seed (n : Int) 35) Sg.zeros k)) ∧ Row w.heap.size (fill16 []) wr ∧ w.heap.size + 1 ≤ wr.heap.size ∧ Below w.heap.size w wr) (fun _ i' _ => 35 - (intOf i').toNat)
  case atStart => exact ⟨0, rfl, by omega, World.ownsRow_nil _ _ _ _, K0.out, by omega, B0.out⟩
  case round =>
    obtain ⟨k, rfl, hk, hown, h1, hsz, h3⟩ := hrel
    by_cases hlt : k < 35
    · have hts := Sg.tops_succ (n : Int) (Sg.secs seed (n : Int) 35) Sg.zeros k
      rw [Sg.secs_get _ _ _ _ hlt, Sg.zeros_get] at hts
      have hsl := Sg.start_len seed (n : Int) (k : Int)
      have CS := Lib.hid (fun (W : World) (ht : TabR W) => rstart_any seed (n : Int) (k : Int) W HS.out (by omega) (by omega) ht)
      have CC := Lib.hid (fun (W : World) (ht : TabR W) => rclimb_any (n : Int) (k : Int) (Sg.start seed (n : Int) (k : Int)) 0 15 W hsl ht (by omega) (by omega) (by omega))
      have hdl : (Sg.climb (n : Int) (k : Int) (Sg.start seed (n : Int) (k : Int)) 0 15).length = 16 := Sg.climb_len hsl _ _
      change Sg.tops _ _ _ (k + 1) = _ ++ [Sg.climb (n : Int) (k : Int) (Sg.start seed (n : Int) (k : Int)) 0 15] at hts
      generalize Sg.climb (n : Int) (k : Int) (Sg.start seed (n : Int) (k : Int)) 0 15 = d at hts CC hdl
      generalize Sg.start seed (n : Int) (k : Int) = s at CS CC hsl
      change Hid (∀ (W : World), TabR W → Calls Tryd.prog 34 #[.int .i64 (n : Int), .int .i64 (k : Int), .agg (s.map bv).toArray, .int .i64 0, .int .i64 15] W _) at CC
      have HC := Lib.hid hts
      have HD := Lib.hid hdl
      have R1 := Lib.hid h1
      have B3 := Lib.hid h3
      clear hts hdl h1 h3 hsl
      go_wp2_with fail
      refine (CS.out wr (HR.out.below B3.out)).mono ?_
      rintro e w2 ⟨rfl, b2⟩
      have hown2 := own_below hown b2
      have R2 := Lib.hid (R1.out.below b2)
      have B2 := Lib.hid (Gr.to B3.out b2)
      have hsz2 := b2.size
      clear b2 hown R1 B3
      go_wp2_with fail
      refine (CC.out w2 (HR.out.below B2.out)).mono ?_
      rintro e w3 ⟨rfl, b3⟩
      have hown3 := own_below hown2 b3
      have R3 := Lib.hid (R2.out.below b3)
      have B3 := Lib.hid (Gr.to B2.out b3)
      have hsz3 := b3.size
      clear b3 hown2 R2 B2
      have hd16 := HD.out
      go_wp2_with (at_builtin; go_loud (refine wpList_append_wide w3 rfl _ _ 49 rfl (w.heap.size + 1) 23 i0 (.agg z16) 16 16 Tryd.underlying49 hi hz0 hz1 hz2 rfl _ _ _ hown3 (d.map bv) ?c3 (bvs_one d) w3.heap.size ?c4 _ ?c8 rfl rfl ?c5 ?c6 ?c7 ?_))
      case c3 => rw [List.length_map, HD.out]
      case c4 => rfl
      case c5 => unfold maxLen; omega
      case c6 => omega
      case c7 => omega
      case c8 => exact (foldl_set_zip (d.map bv) 0 _ (by rw [List.length_map, HD.out]; rfl)).trans (by simp)
      intro v' w4 ho4 hb4
      rw [← dcells_snoc, ← HC.out] at ho4
      have HO := Lib.hid ho4
      have R4 := Lib.hid (R3.out.low hb4 (by omega))
      have B4 := Lib.hid (B3.out.trans (hb4.mono (by omega)))
      have hsz4 := hb4.size
      clear ho4 hb4 hown3
      go_wp2_with fail
      first
        | exact ⟨⟨k + 1, by go_num, by omega, HO.out, R4.out, by omega, B4.out⟩, by simp [intOf]; omega⟩
        | (go_roundw
           case rel => exact ⟨k + 1, by go_num, by omega, HO.out, R4.out, by omega, B4.out⟩
           case measure => simp [intOf]; omega)
    · have hk35 : k = 35 := by omega
      subst hk35
      obtain ⟨A, c, rfl, _, _, hli⟩ := own_shape hown
      have h16 := Sg.tops_16 (i := (n : Int)) (ds := Sg.zeros) (k := 35) (Sg.secs_16 seed (n : Int) 35) (by rw [Sg.secs_length]; exact Nat.le_refl _)
      have htl := Sg.tops_length (n : Int) (Sg.secs seed (n : Int) 35) Sg.zeros 35
      have hvv := HV.out
      obtain ⟨y, hy⟩ : ∃ y, y = Sg.value seed 0 n := ⟨_, rfl⟩
      have hyl : y.length = 16 := by rw [hy]; exact Sg.value_len _ _ _
      generalize Sg.tops (n : Int) (Sg.secs seed (n : Int) 35) Sg.zeros 35 = T at hli h16 htl hvv
      have CL := Lib.hid (rleaf_any T A c wr htl h16 hli (HR.out.below h3))
      rw [← hvv, ← hy] at CL
      have DY := Lib.hid (D16.of hyl)
      have HY := Lib.hid hy
      have R1 := Lib.hid h1
      have B3 := Lib.hid h3
      clear hown hli h16 htl hvv hy hyl h1 h3 hk hlt HV
      go_wp2_with fail
      refine CL.out.mono ?_
      rintro e w8 ⟨rfl, b8⟩
      have T8 := Lib.hid ((R1.out.below b8).there 0 (y.map bv).toArray.size (by rw [DY.out.Z, z16_len]; decide))
      have B8 := Lib.hid (Gr.to B3.out b8)
      clear b8 CL R1 B3
      go_wp2_with (with_reducible refine wpList_store_mid rfl 23 (.tmp 6) (.tmp 42) rfl w.heap.size 0 (y.map bv).toArray rfl rfl T8.out DY.out.J DY.out.O ?_)
      have HRR := Lib.hid (World.rangeAt_setCells_same w8 w.heap.size 0 (y.map bv).toArray.toList (by simpa using T8.out))
      refine bodyPost_ret (results_cell_mid rfl _ _ _ w.heap.size 0 (y.map bv) _ rfl HRR.out Tryd.underlying23 rfl DY.out.I) rfl ?_
      exact ⟨by rw [HY.out], below_setCells (Nat.le_refl _) _ 0 _ _ B8.out⟩

set_option maxRecDepth 1000000 in
set_option maxHeartbeats 1000000 in
theorem rvalue_any (seed : List UInt8) (hs : seed.length ≤ 1000000) : ∀ (l n : Nat) (w : World), l ≤ 6 → (n + 1) * 2 ^ l ≤ 1000 → TabR w →
    Calls Tryd.prog 30 #[.string (bstr seed), .int .i64 (l : Int), .int .i64 (n : Int)] w
      fun e w' => e = .returned (.agg ((Sg.value seed l n).map bv).toArray) ∧ Below w.heap.size w w'
  | 0, n, w, _, hn, hR => rvalue0_any seed n w hs (by omega) hR
  | l + 1, n, w, hl, hn, hR => by
    have hp : (2 * n + 2) * 2 ^ l ≤ 1000 := by rw [Nat.pow_succ] at hn; rw [show (2 * n + 2) * 2 ^ l = (n + 1) * (2 ^ l * 2) by rw [show 2 * n + 2 = (n + 1) * 2 by omega, Nat.mul_assoc, Nat.mul_comm 2]]; exact hn
    have hpos : 1 ≤ 2 ^ l := Nat.one_le_two_pow
    have h1 : (2 * n + 1) * 2 ^ l ≤ 1000 := Nat.le_trans (Nat.mul_le_mul_right _ (by omega)) hp
    have hnb : n ≤ 1000 := by
      have : n * 1 ≤ (2 * n + 1) * 2 ^ l := Nat.mul_le_mul (by omega) hpos
      omega
    have C1 := Lib.hid (fun (W : World) (ht : TabR W) => rvalue_any seed hs l (2 * n) W (by omega) h1 ht)
    have C2 := Lib.hid (fun (W : World) (ht : TabR W) => rvalue_any seed hs l (2 * n + 1) W (by omega) (by rw [show 2 * n + 1 + 1 = 2 * n + 2 from rfl]; exact hp) ht)
    have hvl : Sg.value seed (l + 1) n = Sg.node ((l + 1 : Nat) : Int) (n : Int) (Sg.value seed l (2 * n)) (Sg.value seed l (2 * n + 1)) := rfl
    have CN := Lib.hid (fun (W : World) (ht : TabR W) => rnode_any ((l + 1 : Nat) : Int) (n : Int) (Sg.value seed l (2 * n)) (Sg.value seed l (2 * n + 1)) W (Sg.value_len _ _ _) (Sg.value_len _ _ _) ht (by omega) (by omega))
    obtain ⟨y, hy⟩ : ∃ y, y = Sg.value seed (l + 1) n := ⟨_, rfl⟩
    rw [← hvl, ← hy] at CN
    have hyl : y.length = 16 := by rw [hy]; exact Sg.value_len _ _ _
    have DY := Lib.hid (D16.of hyl)
    have HY := Lib.hid hy
    have e1 : ((l + 1 : Nat) : Int) = (l : Int) + 1 := by omega
    have e2 : ((2 * n : Nat) : Int) = 2 * (n : Int) := by omega
    have e3 : ((2 * n + 1 : Nat) : Int) = 2 * (n : Int) + 1 := by omega
    rw [e1] at CN ⊢
    rw [e2] at C1
    rw [e3] at C2
    generalize Sg.value seed l (2 * n) = a at C1 CN
    generalize Sg.value seed l (2 * n + 1) = b at C2 CN
    have HR := Lib.hid hR
    have K0 : Hid (Row w.heap.size (fill16 []) (w.alloc (.cells z16 23))) := Lib.hid (Row.new w z16 23)
    have g0 := Gr.al w (.cells z16 23)
    obtain ⟨u, hu⟩ : ∃ x, x = w.alloc (.cells z16 23) := ⟨_, rfl⟩
    rw [← hu] at K0 g0
    have B0 : Hid (Below w.heap.size w u) := Lib.hid g0
    have HU := Lib.hid hu
    have hgt : (0 : Int) < (l : Int) + 1 := by omega
    clear hR g0 hu hy hyl hvl e1 e2 e3 hp hpos h1 hn
    go_enter Tryd.func30, Tryd.ntmps30
    go_upto_region 1 with fail
    rw [← HU.out]
    clear HU
    go_wp2_with fail
    refine (C1.out u (HR.out.below B0.out)).mono ?_
    rintro e w2 ⟨rfl, b2⟩
    have K2 := Lib.hid (K0.out.below b2)
    have B2 := Lib.hid (Gr.to B0.out b2)
    clear b2 K0 B0 C1
    go_wp2_with fail
    refine (C2.out w2 (HR.out.below B2.out)).mono ?_
    rintro e w3 ⟨rfl, b3⟩
    have K3 := Lib.hid (K2.out.below b3)
    have B3 := Lib.hid (Gr.to B2.out b3)
    clear b3 K2 B2 C2
    go_wp2_with fail
    refine (CN.out w3 (HR.out.below B3.out)).mono ?_
    rintro e w8 ⟨rfl, b8⟩
    have T8 := Lib.hid ((K3.out.below b8).there 0 (y.map bv).toArray.size (by rw [DY.out.Z, z16_len]; decide))
    have B8 := Lib.hid (Gr.to B3.out b8)
    clear b8 CN K3 B3
    go_wp2_with (with_reducible refine wpList_store_mid rfl 23 (.tmp 6) (.tmp 26) rfl w.heap.size 0 (y.map bv).toArray rfl rfl T8.out DY.out.J DY.out.O ?_)
    have HRR := Lib.hid (World.rangeAt_setCells_same w8 w.heap.size 0 (y.map bv).toArray.toList (by simpa using T8.out))
    refine bodyPost_ret (results_cell_mid rfl _ _ _ w.heap.size 0 (y.map bv) _ rfl HRR.out Tryd.underlying23 rfl DY.out.I) rfl ?_
    exact ⟨by rw [HY.out], below_setCells (Nat.le_refl _) _ 0 _ _ B8.out⟩

/-- a public key, and the error -/
def pubD (seed : List UInt8) (h : Int) : List UInt8 := if 0 ≤ h ∧ h ≤ 6 then Sg.value seed h.toNat 0 else List.replicate 16 0
def pubE (h : Int) : Int := if 0 ≤ h ∧ h ≤ 6 then 0 else 1
theorem pubD_len (seed : List UInt8) (h : Int) : (pubD seed h).length = 16 := by
  unfold pubD; split
  · exact Sg.value_len _ _ _
  · rfl

set_option maxRecDepth 1000000 in
set_option maxHeartbeats 1000000 in
theorem rpublic_any (seed : List UInt8) (h : Int) (w : World) (hs : seed.length ≤ 1000000) (hR : TabR w) :
    Calls Tryd.prog 17 #[.string (bstr seed), .int .i64 h] w
      fun e w' => e = .returned (.tuple #[.agg ((pubD seed h).map bv).toArray, .int .i64 (pubE h)]) ∧ Below w.heap.size w w' := by
  have HR := Lib.hid hR
  have CC := Lib.hid (fun W => rcount_any h W)
  have hcp := cnt_pos h
  have hcb := cnt_bd h
  have K0 : Hid (Row w.heap.size (fill16 []) (w.alloc (.cells z16 23))) := Lib.hid (Row.new w z16 23)
  have g0 := Gr.al w (.cells z16 23)
  obtain ⟨u, hu⟩ : ∃ x, x = w.alloc (.cells z16 23) := ⟨_, rfl⟩
  rw [← hu] at K0 g0
  have B0 : Hid (Below w.heap.size w u) := Lib.hid g0
  have HU := Lib.hid hu
  have hyl := pubD_len seed h
  have DY := Lib.hid (D16.of hyl)
  obtain ⟨y, hy⟩ : ∃ y, y = pubD seed h := ⟨_, rfl⟩
  rw [← hy] at DY ⊢
  by_cases hh : 0 ≤ h ∧ h ≤ 6
  · have hc1 : (cnt h == 0) = false := by have := hcp.2 hh; simp; omega
    obtain ⟨l, rfl⟩ := Int.eq_ofNat_of_zero_le hh.1
    have hl6 : l ≤ 6 := by omega
    have hE : pubE (l : Int) = 0 := if_pos hh
    have hD : y = Sg.value seed l 0 := by rw [hy]; unfold pubD; rw [if_pos hh]; rfl
    have CV := Lib.hid (fun (W : World) (ht : TabR W) => rvalue_any seed hs l 0 W hl6 (by
      have : l = 0 ∨ l = 1 ∨ l = 2 ∨ l = 3 ∨ l = 4 ∨ l = 5 ∨ l = 6 := by omega
      rcases this with e | e | e | e | e | e | e <;> subst e <;> decide) ht)
    rw [← hD] at CV
    rw [hE]
    generalize cnt (l : Int) = c at *
    clear hR hs g0 hu hyl hy hcp hcb hE hD hh
    go_enter Tryd.func17, Tryd.ntmps17
    go_upto_region 1 with fail
    rw [← HU.out]
    clear HU
    go_wp2_with fail
    refine (CC.out u).mono ?_
    rintro e w1 ⟨rfl, rfl⟩
    go_wp2_with fail
    refine (CV.out w1 (HR.out.below B0.out)).mono ?_
    rintro e w8 ⟨rfl, b8⟩
    have T8 := Lib.hid ((K0.out.below b8).there 0 (y.map bv).toArray.size (by rw [DY.out.Z, z16_len]; decide))
    have B8 := Lib.hid (Gr.to B0.out b8)
    clear b8 CV CC K0 B0
    go_wp2_with (with_reducible refine wpList_store_mid rfl 23 (.tmp 4) (.tmp 12) rfl w.heap.size 0 (y.map bv).toArray rfl rfl T8.out DY.out.J DY.out.O ?_)
    have HRR := Lib.hid (World.rangeAt_setCells_same w8 w.heap.size 0 (y.map bv).toArray.toList (by simpa using T8.out))
    refine bodyPost_ret (results_cell_tmp1 rfl _ _ _ w.heap.size 0 (y.map bv) _ rfl HRR.out Tryd.underlying23 rfl DY.out.I) rfl ?_
    exact ⟨rfl, below_setCells (Nat.le_refl _) _ 0 _ _ B8.out⟩
  · have hc1 : cnt h = 0 := cnt_out hh
    have hE : pubE h = 1 := if_neg hh
    have hD : (y.map bv).toArray = z16 := by rw [hy]; unfold pubD; rw [if_neg hh]; rfl
    rw [hE, hD]
    rw [hc1] at CC
    have T8 := Lib.hid (K0.out.there 0 z16.size (by rw [z16_len]; decide))
    have JZ := Lib.hid (show (Tryd.prog.info? 23).map (·.size) = some z16.size by kernel_rfl)
    have OZ := Lib.hid (show z16.all (·.oneCell') = true by have h := DY.out.O; rw [hD] at h; exact h)
    clear hR hs g0 hu hyl hy hcp hcb hE hh hc1 hD K0 DY
    go_enter Tryd.func17, Tryd.ntmps17
    go_upto_region 1 with fail
    rw [← HU.out]
    clear HU
    go_wp2_with fail
    refine (CC.out u).mono ?_
    rintro e w1 ⟨rfl, rfl⟩
    go_wp2_with (with_reducible refine wpList_store_mid rfl 23 (.tmp 4) (.tmp 9) rfl w.heap.size 0 z16 rfl rfl T8.out JZ.out OZ.out ?_)
    have HRR := Lib.hid (World.rangeAt_setCells_same w1 w.heap.size 0 z16.toList (by simpa using T8.out))
    refine bodyPost_ret (results_cell_tmp1 rfl _ _ _ w.heap.size 0 z16.toList _ rfl HRR.out Tryd.underlying23 rfl JZ.out) rfl ?_
    exact ⟨rfl, below_setCells (Nat.le_refl _) _ 0 _ _ B0.out⟩
end Go.Proofs.YtdbdlhgkhnenfaaDoor
