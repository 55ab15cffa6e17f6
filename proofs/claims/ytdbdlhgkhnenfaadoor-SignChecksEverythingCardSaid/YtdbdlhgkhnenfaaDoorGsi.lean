/-
  Contracts of package sign and its specification: what is signed; leaves in the specification.
-/
import Derived.Test.YtdbdlhgkhnenfaaDoorGse
import Derived.Test.YtdbdlhgkhnenfaaDoorGq
namespace Go.Proofs.YtdbdlhgkhnenfaaDoor
open Go.RowKit

set_option maxRecDepth 1000000 in
set_option maxHeartbeats 1000000 in
theorem message_any (p : List UInt8) (i : Int) (m : List UInt8) (w : World) (hp : p.length = 16) (hi : -9223372036854775808 ≤ i ∧ i ≤ 9223372036854775807) (hm : m.length ≤ 1000) (hT : Tab w) :
    Calls Tryd.prog 20 #[.agg (p.map bv).toArray, .int .i64 i, .string (bstr m)] w
      fun e w' => e = .returned (.agg ((Sg.message p i m).map bv).toArray) ∧ Below w.heap.size w w' := by
  have HT := Lib.hid hT
  have HP := Lib.hid hp
  have DP := Lib.hid (D16.of hp)
  have hel := Wm.encI_len i hi.1 hi.2
  have CI := Lib.hid (fun (W : World) => int_any i W hi.1 hi.2)
  have hst : Sg.message p i m = Sg.of 6 [p, Wm.encI i, m] := rfl
  obtain ⟨y, hy⟩ : ∃ y, y = Sg.message p i m := ⟨_, rfl⟩
  rw [← hy] at hst ⊢
  generalize Wm.encI i = E at hst hel CI
  have hst2 : (Sha.sum Sha.consts (inOf 6 [p, E, m])).take 16 = y := hst.symm
  have COf := Lib.hid (fun (A : Option Addr) (c : Nat) (W : World) (hl : Lies W A [sv p, sv E, sv m]) (ht : Tab W) => hsOf_any 6 [p, E, m] A 3 c W rfl hl (Small.three (by omega) (by omega) hm) ht)
  rw [hst2] at COf
  have hyl : y.length = 16 := by rw [hst]; exact Sg.of_len _ _
  have DY := Lib.hid (D16.of hyl)
  obtain ⟨q1, q2, q3, q4⟩ := two_rows w (p.map bv).toArray z16 23 23
  obtain ⟨u, hu⟩ : ∃ x, x = (w.alloc (.cells (p.map bv).toArray 23)).alloc (.cells z16 23) := ⟨_, rfl⟩
  rw [← hu] at q1 q2 q3
  have R1 : Hid (Row w.heap.size (p.map bv) u) := Lib.hid q1
  have R2 : Hid (Row (w.heap.size + 1) (fill16 []) u) := Lib.hid q2
  have B2 := Lib.hid q3
  have HU := Lib.hid hu
  clear q1 q2 q3 q4 hu hp hi hm hT hst hst2 hyl hy
  go_enter Tryd.func20, Tryd.ntmps20
  go_upto_region 1 with fail
  rw [← HU.out]
  clear HU
  go_wp2_with (with_reducible refine wpList_load_mid rfl 23 (.tmp 3) rfl w.heap.size 0 rfl (p.map bv) _ R1.out.range Tryd.underlying23 rfl DP.out.I ?_)
  refine (text_any p u HP.out).mono ?_
  rintro e w1 ⟨rfl, b1⟩
  have G1 := Lib.hid (show Gr u w1 from b1)
  clear b1 R1
  go_wp2_with fail
  refine (CI.out w1).mono ?_
  rintro e w5 ⟨v5, rfl, o5, b5⟩
  obtain ⟨A5, c5, rfl, _, _, l5⟩ := own_shape o5
  have L5 := Lib.hid l5
  have G5 := Lib.hid (G1.out.trans (show Gr w1 w5 from b5))
  have HA5 : Hid (A5 = none → E.length = 0) := Lib.hid (fun h => by have h2 := L5.out.none_ h; rw [h2]; rfl)
  have l7 := Lies.fresh w5 [sv p, sv E, sv m] 9
  have g7 := Gr.al w5 (.cells [sv p, sv E, sv m].toArray 9)
  obtain ⟨W7, e7⟩ : ∃ z, z = w5.alloc (.cells [sv p, sv E, sv m].toArray 9) := ⟨_, rfl⟩
  rw [← e7] at l7 g7
  have L7 := Lib.hid l7
  have G7 := Lib.hid (G5.out.trans g7)
  have E7 := Lib.hid (show W7 = w5.alloc (.cells #[.string (bstr p), .string (bstr E), .string (bstr m)] 9) from e7)
  clear o5 b5 l5 l7 g7 e7
  go_wp2_with (with_reducible refine wpList_convert_str w5 rfl (.tmp 10) 43 9 5 rfl Tryd.underlying43 Tryd.underlying5 Tryd.underlying9 A5 E.length c5 rfl E rfl HA5.out L5.out ?_)
  rw [← E7.out]
  refine (COf.out _ 3 W7 L7.out (HT.out.below (Gr.to B2.out G7.out))).mono ?_
  rintro e w8 ⟨rfl, b8⟩
  have G8 := G7.out.trans (show Gr W7 w8 from b8)
  have T8 := Lib.hid ((R2.out.below G8).there 0 (y.map bv).toArray.size (by rw [DY.out.Z, z16_len]; decide))
  have B8 := Lib.hid (Gr.to B2.out G8)
  clear G8 b8 L5 L7 E7 HA5
  go_wp2_with (with_reducible refine wpList_store_mid rfl 23 (.tmp 6) (.tmp 14) rfl (w.heap.size + 1) 0 (y.map bv).toArray rfl rfl T8.out DY.out.J DY.out.O ?_)
  have HRR := Lib.hid (World.rangeAt_setCells_same w8 (w.heap.size + 1) 0 (y.map bv).toArray.toList (by simpa using T8.out))
  refine bodyPost_ret (results_cell_mid rfl _ _ _ (w.heap.size + 1) 0 (y.map bv) _ rfl HRR.out Tryd.underlying23 rfl DY.out.I) rfl ?_
  exact ⟨rfl, below_setCells (by omega) _ 0 _ _ B8.out⟩

set_option maxRecDepth 1000000 in
set_option maxHeartbeats 1000000 in
theorem rmessage_any (p : List UInt8) (i : Int) (m : List UInt8) (w : World) (hp : p.length = 16) (hi : -9223372036854775808 ≤ i ∧ i ≤ 9223372036854775807) (hm : m.length ≤ 1000) (hT : TabR w) :
    Calls Tryd.prog 21 #[.agg (p.map bv).toArray, .int .i64 i, .string (bstr m)] w
      fun e w' => e = .returned (.agg ((Sg.message p i m).map bv).toArray) ∧ Below w.heap.size w w' := by
  have HT := Lib.hid hT
  have HP := Lib.hid hp
  have DP := Lib.hid (D16.of hp)
  have hel := Wm.encI_len i hi.1 hi.2
  have CI := Lib.hid (fun (W : World) => refInt_any i W hi.1 hi.2)
  have hst : Sg.message p i m = Sg.of 6 [p, Wm.encI i, m] := rfl
  obtain ⟨y, hy⟩ : ∃ y, y = Sg.message p i m := ⟨_, rfl⟩
  rw [← hy] at hst ⊢
  generalize Wm.encI i = E at hst hel CI
  have hst2 : (Sha.sum Sha.consts (inOf 6 [p, E, m])).take 16 = y := hst.symm
  have COf := Lib.hid (fun (A : Option Addr) (c : Nat) (W : World) (hl : Lies W A [sv p, sv E, sv m]) (ht : TabR W) => hrOf_any 6 [p, E, m] A 3 c W rfl hl (Small.three (by omega) (by omega) hm) ht)
  rw [hst2] at COf
  have hyl : y.length = 16 := by rw [hst]; exact Sg.of_len _ _
  have DY := Lib.hid (D16.of hyl)
  obtain ⟨q1, q2, q3, q4⟩ := two_rows w (p.map bv).toArray z16 23 23
  obtain ⟨u, hu⟩ : ∃ x, x = (w.alloc (.cells (p.map bv).toArray 23)).alloc (.cells z16 23) := ⟨_, rfl⟩
  rw [← hu] at q1 q2 q3
  have R1 : Hid (Row w.heap.size (p.map bv) u) := Lib.hid q1
  have R2 : Hid (Row (w.heap.size + 1) (fill16 []) u) := Lib.hid q2
  have B2 := Lib.hid q3
  have HU := Lib.hid hu
  clear q1 q2 q3 q4 hu hp hi hm hT hst hst2 hyl hy
  go_enter Tryd.func21, Tryd.ntmps21
  go_upto_region 1 with fail
  rw [← HU.out]
  clear HU
  go_wp2_with (with_reducible refine wpList_load_mid rfl 23 (.tmp 3) rfl w.heap.size 0 rfl (p.map bv) _ R1.out.range Tryd.underlying23 rfl DP.out.I ?_)
  refine (hrText_any p u HP.out).mono ?_
  rintro e w1 ⟨rfl, b1⟩
  have G1 := Lib.hid (show Gr u w1 from b1)
  clear b1 R1
  go_wp2_with fail
  refine (CI.out w1).mono ?_
  rintro e w5 ⟨v5, rfl, o5, b5⟩
  obtain ⟨A5, c5, rfl, _, _, l5⟩ := own_shape o5
  have L5 := Lib.hid l5
  have G5 := Lib.hid (G1.out.trans (show Gr w1 w5 from b5))
  have HA5 : Hid (A5 = none → E.length = 0) := Lib.hid (fun h => by have h2 := L5.out.none_ h; rw [h2]; rfl)
  have l7 := Lies.fresh w5 [sv p, sv E, sv m] 9
  have g7 := Gr.al w5 (.cells [sv p, sv E, sv m].toArray 9)
  obtain ⟨W7, e7⟩ : ∃ z, z = w5.alloc (.cells [sv p, sv E, sv m].toArray 9) := ⟨_, rfl⟩
  rw [← e7] at l7 g7
  have L7 := Lib.hid l7
  have G7 := Lib.hid (G5.out.trans g7)
  have E7 := Lib.hid (show W7 = w5.alloc (.cells #[.string (bstr p), .string (bstr E), .string (bstr m)] 9) from e7)
  clear o5 b5 l5 l7 g7 e7
  go_wp2_with (with_reducible refine wpList_convert_str w5 rfl (.tmp 10) 43 9 5 rfl Tryd.underlying43 Tryd.underlying5 Tryd.underlying9 A5 E.length c5 rfl E rfl HA5.out L5.out ?_)
  rw [← E7.out]
  refine (COf.out _ 3 W7 L7.out (HT.out.below (Gr.to B2.out G7.out))).mono ?_
  rintro e w8 ⟨rfl, b8⟩
  have G8 := G7.out.trans (show Gr W7 w8 from b8)
  have T8 := Lib.hid ((R2.out.below G8).there 0 (y.map bv).toArray.size (by rw [DY.out.Z, z16_len]; decide))
  have B8 := Lib.hid (Gr.to B2.out G8)
  clear G8 b8 L5 L7 E7 HA5
  go_wp2_with (with_reducible refine wpList_store_mid rfl 23 (.tmp 6) (.tmp 14) rfl (w.heap.size + 1) 0 (y.map bv).toArray rfl rfl T8.out DY.out.J DY.out.O ?_)
  have HRR := Lib.hid (World.rangeAt_setCells_same w8 (w.heap.size + 1) 0 (y.map bv).toArray.toList (by simpa using T8.out))
  refine bodyPost_ret (results_cell_mid rfl _ _ _ (w.heap.size + 1) 0 (y.map bv) _ rfl HRR.out Tryd.underlying23 rfl DY.out.I) rfl ?_
  exact ⟨rfl, below_setCells (by omega) _ 0 _ _ B8.out⟩

set_option maxRecDepth 1000000 in
set_option maxHeartbeats 1000000 in
theorem rleaf_any (T : List (List UInt8)) (A : Option Addr) (c : Nat) (w : World) (hl : T.length = 35) (h16 : Is16 T) (hla : Lies w A (dcells T)) (hR : TabR w) :
    Calls Tryd.prog 45 #[.slice A 35 c] w fun e w' => e = .returned (.agg ((Sg.leaf T).map bv).toArray) ∧ Below w.heap.size w w' := by
  have HT := Lib.hid hR
  have hel : (Wm.encDs T).length ≤ 600 := by
    unfold Wm.encDs
    rw [List.length_append, flatten_len h16, hl]
    have := Wm.encI_len ((35 : Nat) : Int) (by omega) (by omega)
    omega
  have K0 : Hid (Row w.heap.size (fill16 []) (w.alloc (.cells z16 23))) := Lib.hid (Row.new w z16 23)
  have g0 := Gr.al w (.cells z16 23)
  obtain ⟨u, hu⟩ : ∃ x, x = w.alloc (.cells z16 23) := ⟨_, rfl⟩
  rw [← hu] at K0 g0
  have CI := Lib.hid (refDigests_any T A 35 c u hl h16 (hla.below g0) (by omega))
  have hlf : Sg.leaf T = Sg.of 4 [Wm.encDs T] := rfl
  obtain ⟨y, hy⟩ : ∃ y, y = Sg.leaf T := ⟨_, rfl⟩
  rw [← hy] at hlf ⊢
  generalize Wm.encDs T = E at hlf hel CI
  have hst2 : (Sha.sum Sha.consts (inOf 4 [E])).take 16 = y := hlf.symm
  have COf := Lib.hid (fun (A : Option Addr) (c : Nat) (W : World) (hl : Lies W A [sv E]) (ht : TabR W) => hrOf_any 4 [E] A 1 c W rfl hl (Small.one (by omega)) ht)
  rw [hst2] at COf
  have hyl : y.length = 16 := by rw [hlf]; exact Sg.of_len _ _
  have DY := Lib.hid (D16.of hyl)
  have HU := Lib.hid hu
  have B2 := Lib.hid g0
  clear hu hyl hst2 hlf hy hla h16 hl hR g0
  go_enter Tryd.func45, Tryd.ntmps45
  go_upto_region 1 with fail
  rw [← HU.out]
  clear HU
  go_wp2_with fail
  refine CI.out.mono ?_
  rintro e w5 ⟨v5, rfl, o5, b5⟩
  obtain ⟨A5, c5, rfl, _, _, l5⟩ := own_shape o5
  have L5 := Lib.hid l5
  have G5 := Lib.hid (show Gr u w5 from b5)
  have HA5 : Hid (A5 = none → E.length = 0) := Lib.hid (fun h => by have h2 := L5.out.none_ h; rw [h2]; rfl)
  have l7 := Lies.fresh w5 [sv E] 9
  have g7 := Gr.al w5 (.cells [sv E].toArray 9)
  obtain ⟨W7, e7⟩ : ∃ z, z = w5.alloc (.cells [sv E].toArray 9) := ⟨_, rfl⟩
  rw [← e7] at l7 g7
  have L7 := Lib.hid l7
  have G7 := Lib.hid (G5.out.trans g7)
  have E7 := Lib.hid (show W7 = w5.alloc (.cells #[.string (bstr E)] 9) from e7)
  clear o5 b5 l5 l7 g7 e7
  go_wp2_with (with_reducible refine wpList_convert_str w5 rfl (.tmp 4) 43 9 5 rfl Tryd.underlying43 Tryd.underlying5 Tryd.underlying9 A5 E.length c5 rfl E rfl HA5.out L5.out ?_)
  rw [← E7.out]
  refine (COf.out _ 1 W7 L7.out (HT.out.below (Gr.to B2.out G7.out))).mono ?_
  rintro e w8 ⟨rfl, b8⟩
  have G8 := G7.out.trans (show Gr W7 w8 from b8)
  have T8 := Lib.hid ((K0.out.below G8).there 0 (y.map bv).toArray.size (by rw [DY.out.Z, z16_len]; decide))
  have B8 := Lib.hid (Gr.to B2.out G8)
  clear G8 b8 L5 L7 E7 HA5
  go_wp2_with (with_reducible refine wpList_store_mid rfl 23 (.tmp 2) (.tmp 7) rfl w.heap.size 0 (y.map bv).toArray rfl rfl T8.out DY.out.J DY.out.O ?_)
  have HRR := Lib.hid (World.rangeAt_setCells_same w8 w.heap.size 0 (y.map bv).toArray.toList (by simpa using T8.out))
  refine bodyPost_ret (results_cell_mid rfl _ _ _ w.heap.size 0 (y.map bv) _ rfl HRR.out Tryd.underlying23 rfl DY.out.I) rfl ?_
  exact ⟨rfl, below_setCells (Nat.le_refl _) _ 0 _ _ B8.out⟩
end Go.Proofs.YtdbdlhgkhnenfaaDoor
/-
  Contracts of package sign: a byte string cut into digests.
-/
namespace Go.Proofs.YtdbdlhgkhnenfaaDoor
open Go.RowKit

theorem Tryd.infoD3 : (Tryd.prog.info? 23).map (fun i => (i.zero, i.size, i.bytes)) = some (some (.agg z16), 16, 16) := by kernel_rfl
theorem dcells_snoc (l : List (List UInt8)) (d : List UInt8) : dcells (l ++ [d]) = dcells l ++ d.map bv := by unfold dcells; simp

set_option maxRecDepth 1000000 in
set_option maxHeartbeats 1000000 in
theorem split_any (s : List UInt8) (n : Nat) (w : World) (hs : s.length = 16 * n) (hn : n ≤ 1000) :
    Calls Tryd.prog 40 #[.string (bstr s)] w fun e w' => ∃ v, e = .returned v ∧ w'.ownsRow w.heap.size 23 16 v n (dcells (Sg.cuts s n)) ∧ Below w.heap.size w w' := by
  obtain ⟨i0, hi, hz0, hz1, hz2⟩ := info_parts Tryd.infoD3
  have HS := Lib.hid hs
  clear hs
  go_enter Tryd.func40, Tryd.ntmps40
  go_wp2_with fail
  go_loopw [0, 3] (fun t v wr => ∃ k : Nat, t = .string (bstr (s.drop (16 * k))) ∧ k ≤ n ∧ wr.ownsRow w.heap.size 23 16 v k (dcells (Sg.cuts s k)) ∧ Below w.heap.size w wr) (fun t _ _ => strSz t)
  case atStart => exact ⟨0, by simp, by omega, World.ownsRow_nil _ _ _ _, Below.refl _ _⟩
  case round =>
    obtain ⟨k, rfl, hk, hown, hb⟩ := hrel
    have hl := HS.out
    have hdl : (s.drop (16 * k)).length = 16 * (n - k) := by rw [List.length_drop]; omega
    have hcs := Sg.cuts_succ s k
    have hdd : (s.drop (16 * k)).drop 16 = s.drop (16 * (k + 1)) := by rw [List.drop_drop]; congr 1
    generalize s.drop (16 * k) = t at hdl hcs hdd ⊢
    have ht : (bstr t).size = t.length := bstr_size t
    by_cases hlt : k < n
    · have h16 : 16 ≤ t.length := by omega
      have hd : (t.take 16).length = 16 := by rw [List.length_take]; omega
      have CD := Lib.hid (digest_any t wr h16)
      generalize t.take 16 = d at hd hcs CD
      have hx : (bstr t).extract 16 (bstr t).size = bstr (s.drop (16 * (k + 1))) := by
        rw [← hdd]
        apply ByteArray.ext
        have h2 := extract_toList (bstr t) 16
        apply Array.toList_inj.1
        rw [h2]; rfl
      rw [ht, hdl] at hx
      have hsz := hb.size
      have HC := Lib.hid hcs
      have HD := Lib.hid hd
      have DD := Lib.hid (D16.of hd)
      have HDD := Lib.hid hdd
      have HB := Lib.hid hb
      have hsize2 : (bstr (s.drop (16 * (k + 1)))).size < (bstr t).size := by rw [bstr_size, ← hdd, List.length_drop, ht]; omega
      clear hcs hd hdd hb hl
      go_wp2_with fail
      refine CD.out.mono ?_
      rintro e w3 ⟨rfl, hb3⟩
      have hsz3 := hb3.size
      have hd16 := HD.out
      have hown3 := own_below hown hb3
      clear hown
      go_wp2_with (at_builtin; go_loud (refine wpList_append_wide w3 rfl _ _ 49 rfl w.heap.size 23 i0 (.agg z16) 16 16 Tryd.underlying49 hi hz0 hz1 hz2 rfl _ _ _ hown3 (d.map bv) ?c3 (bvs_one d) w3.heap.size ?c4 _ ?c8 rfl rfl ?c5 ?c6 ?c7 ?_))
      case c3 => rw [List.length_map, HD.out]
      case c4 => rfl
      case c5 => unfold maxLen; omega
      case c6 => omega
      case c7 => omega
      case c8 => exact (foldl_set_zip (d.map bv) 0 _ (by rw [List.length_map, HD.out]; rfl)).trans (by simp)
      intro v' w4 ho4 hb4
      rw [← dcells_snoc, ← HC.out] at ho4
      have HO := Lib.hid ho4
      have HB4 := Lib.hid ((HB.out.trans (hb3.mono hsz)).trans hb4)
      clear ho4 hb3 hb4 hown3
      go_wp2_with fail
      first
        | exact ⟨⟨k + 1, rfl, by omega, HO.out, HB4.out⟩, by simp only [strSz]; omega⟩
        | (go_roundw
           case rel => exact ⟨k + 1, rfl, by omega, HO.out, HB4.out⟩
           case measure => simp only [strSz]; omega)
    · have hkn : k = n := by omega
      subst hkn
      have h0 : t.length = 0 := by omega
      have HO := Lib.hid hown
      have HB := Lib.hid hb
      clear hown hb hcs hdd
      go_wp2_with fail
      go_ret
      exact ⟨_, rfl, HO.out, HB.out⟩

end Go.Proofs.YtdbdlhgkhnenfaaDoor
