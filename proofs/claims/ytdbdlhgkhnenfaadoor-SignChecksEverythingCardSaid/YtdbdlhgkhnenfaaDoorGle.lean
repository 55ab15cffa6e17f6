/-
  voxellaw03.SignChecksEverything, its walk.
-/
import Derived.Test.YtdbdlhgkhnenfaaDoorGst
import Derived.Test.YtdbdlhgkhnenfaaDoorGld
import Derived.Test.YtdbdlhgkhnenfaaDoorGsw
namespace Go.Proofs.YtdbdlhgkhnenfaaDoor
open Go.RowKit

theorem bytesRow (w : World) (l : List UInt8) : Row w.heap.size (l.map bv) (Lib.bytesWorld w 5 (bstr l)) := by
  intro j v hj
  rw [List.getElem?_map] at hj
  obtain ⟨x, hx, rfl⟩ := Option.map_eq_some_iff.1 hj
  have hlt := (List.getElem?_eq_some_iff.1 hx).1
  refine ⟨?_, ?_⟩
  · rw [Lib.bytesWorld_cell _ _ _ _ (by rw [bstr_size]; exact hlt)]
    have h2 : (bstr l).data.toList.getD j 0 = x := by
      show l.getD j 0 = x
      rw [List.getD_eq_getElem?_getD, hx]; rfl
    rw [h2]; rfl
  · unfold World.frozen?
    rw [Lib.bytesWorld_at_new]
    have hs : l.length ≤ (Lib.bytesCells w 5 (bstr l)).size := by
      have h3 := bstr_size l
      unfold Lib.bytesCells
      simp
      have h4 : (bstr l).data.size = l.length := h3
      omega
    simp
    omega
theorem enc1 (k : Nat) (h : k < 4) : (Wm.encI (k : Int)).length = 1 := by
  have : k = 0 ∨ k = 1 ∨ k = 2 ∨ k = 3 := by omega
  rcases this with rfl | rfl | rfl | rfl <;> decide +kernel
theorem ver_root (p : List UInt8) (H i : Nat) (msg R : List UInt8) (hp : p.length = 16) (hH : H ≤ 6) (hi : i < 2 ^ H) (hR : R.length = 16 * (35 + H)) (hrl : (Sg.root p H i msg R).length = 16) :
    ∃ n c : Int, ∃ t : Bool, Sg.verify p (H : Int) msg (Wm.encI (i : Int) ++ R) = (n, c) ∧
      (∀ W, (Op.equalIn 10000 23 (.agg ((Sg.root p H i msg R).map bv).toArray) (.agg (p.map bv).toArray)).run Tryd.prog W = .ok t W) ∧ ((c = 0 ∧ t = true) ∨ (c = 8 ∧ t = false)) := by
  have h64 : 2 ^ H ≤ 64 := Nat.le_trans (Nat.pow_le_pow_right (by omega) hH) (by decide)
  have hg := Wm.getI_enc (i : Int) R (by omega) (by omega)
  have hc : cnt (H : Int) = ((2 ^ H : Nat) : Int) := by rw [cnt_in (by omega)]; norm_cast
  have hx : 0 ≤ (Wm.getI (Wm.encI (i : Int) ++ R)).1 ∧ (Wm.getI (Wm.encI (i : Int) ++ R)).1 < cnt (H : Int) := by
    rw [hg, hc]; exact ⟨Int.natCast_nonneg _, Int.ofNat_lt.2 hi⟩
  have hv := ver_f (p := p) (m := msg) (h := (H : Int)) (by omega) (by rw [hg]) hx (by rw [siz_in hx, hg, List.length_append, hR]; push_cast; omega)
  rw [hg] at hv
  simp only [Int.toNat_natCast, List.drop_left] at hv
  by_cases h : Sg.root p H i msg R = p
  · exact ⟨(i : Int), 0, true, by rw [hv, if_pos h], fun W => by rw [run_eq16 W _ _ hrl hp, decide_eq_true h], .inl ⟨rfl, rfl⟩⟩
  · exact ⟨0, 8, false, by rw [hv, if_neg h], fun W => by rw [run_eq16 W _ _ hrl hp, decide_eq_false h], .inr ⟨rfl, rfl⟩⟩

set_option maxRecDepth 1000000 in
set_option maxHeartbeats 8000000 in
theorem signChecks_law (seed : List UInt8) (a b : Nat) (m o : List UInt8) (c y : Nat) (w : World) (hT : Tab w) (hR : TabR w) (ha : a < 256) (hb : b < 256) (hc : c < 65536)
    (hs : seed.length ≤ 140737488351232) (hm : m.length ≤ 140737488351232) (ho : o.length ≤ 140737488351232) :
    Calls Tryd.prog 8 #[.string (bstr seed), .int .u8 (a : Int), .int .u8 (b : Int), .string (bstr m), .string (bstr o), .int .u16 (c : Int), .int .u8 (y : Int)] w
      fun e w' => e = .returned (.bool true) ∧ Below w.heap.size w w' := by
  have es : (bstr seed).size = seed.length := bstr_size seed
  have em : (bstr m).size = m.length := bstr_size m
  have eo : (bstr o).size = o.length := bstr_size o
  have C := Lib.hid (sanity_any w hT)
  have HT := Lib.hid hT
  have HR := Lib.hid hR
  clear hT hR
  by_cases h1 : seed.length ≤ 200
  case neg =>
    have b1 : decide ((200 : Int) < (seed.length : Int)) = true := decide_eq_true (by omega)
    go_enter Tryd.func8, Tryd.ntmps8
    go_wp2_with fail
    refine C.out.mono ?_
    rintro e w1 ⟨rfl, bb⟩
    have B1 := Lib.hid bb
    clear bb C
    go_wp2_with fail
    go_ret
    exact ⟨rfl, B1.out⟩
  by_cases h2 : m.length ≤ 200
  case neg =>
    have b1 : decide ((200 : Int) < (seed.length : Int)) = false := decide_eq_false (by omega)
    have b2 : decide ((200 : Int) < (m.length : Int)) = true := decide_eq_true (by omega)
    go_enter Tryd.func8, Tryd.ntmps8
    go_wp2_with fail
    refine C.out.mono ?_
    rintro e w1 ⟨rfl, bb⟩
    have B1 := Lib.hid bb
    clear bb C
    go_wp2_with fail
    go_ret
    exact ⟨rfl, B1.out⟩
  by_cases h3 : o.length ≤ 200
  case neg =>
    have b1 : decide ((200 : Int) < (seed.length : Int)) = false := decide_eq_false (by omega)
    have b2 : decide ((200 : Int) < (m.length : Int)) = false := decide_eq_false (by omega)
    have b3 : decide ((200 : Int) < (o.length : Int)) = true := decide_eq_true (by omega)
    go_enter Tryd.func8, Tryd.ntmps8
    go_wp2_with fail
    refine C.out.mono ?_
    rintro e w1 ⟨rfl, bb⟩
    have B1 := Lib.hid bb
    clear bb C
    go_wp2_with fail
    go_ret
    exact ⟨rfl, B1.out⟩
  have b1 : decide ((200 : Int) < (seed.length : Int)) = false := decide_eq_false (by omega)
  have b2 : decide ((200 : Int) < (m.length : Int)) = false := decide_eq_false (by omega)
  have b3 : decide ((200 : Int) < (o.length : Int)) = false := decide_eq_false (by omega)
  obtain ⟨H, hH⟩ : ∃ H, H = a % 3 := ⟨_, rfl⟩
  have hH3 : H < 3 := by omega
  have hHi : (a : Int) % 3 = (H : Int) := by omega
  obtain ⟨hcn, hN4⟩ := len_cases H hH3
  obtain ⟨N, hN⟩ : ∃ N, N = 2 ^ H := ⟨_, rfl⟩
  rw [← hN] at hcn hN4
  have hNp : 0 < N := by rw [hN]; exact Nat.two_pow_pos _
  obtain ⟨i, hI⟩ : ∃ i, i = b % N := ⟨_, rfl⟩
  have hiN : i < N := by rw [hI]; exact Nat.mod_lt _ hNp
  have hIi : (b : Int) % (N : Int) = (i : Int) := by rw [hI]; norm_cast
  have hi2 : i < 2 ^ H := by rw [← hN]; exact hiN
  obtain ⟨kk, hK⟩ : ∃ kk, kk = (i + 1) % N := ⟨_, rfl⟩
  have hkN : kk < N := by rw [hK]; exact Nat.mod_lt _ hNp
  have hKi : ((i : Int) + 1) % (N : Int) = (kk : Int) := by rw [hK]; norm_cast
  have hk2 : kk < 2 ^ H := by rw [← hN]; exact hkN
  have CC := Lib.hid (fun W => rcount_any (H : Int) W)
  rw [hcn] at CC
  have hx : 0 ≤ (i : Int) ∧ (i : Int) < cnt (H : Int) := ⟨Int.natCast_nonneg _, by rw [hcn]; exact Int.ofNat_lt.2 hiN⟩
  have hh : 0 ≤ (H : Int) ∧ (H : Int) ≤ 6 := by omega
  have CP0 := fun (W : World) (ht : Tab W) => public_any seed (H : Int) W (by omega) ht
  rw [show pubD seed (H : Int) = Sg.value seed H 0 from by unfold pubD; rw [if_pos hh]; rfl, show pubE (H : Int) = 0 from if_pos hh] at CP0
  have CS0 := fun (W : World) (ht : Tab W) => sign_any seed (H : Int) (i : Int) m W (by omega) (by omega) ht
  rw [(sgn_c (seed := seed) (m := m) hh hx).1, (sgn_c (seed := seed) (m := m) hh hx).2, Int.toNat_natCast, Int.toNat_natCast] at CS0
  have hpl := Sg.value_len seed H 0
  have hil := enc1 i (by omega)
  have hkl := enc1 kk (by omega)
  obtain ⟨R, hSR⟩ : ∃ R, Sg.sign seed H i m = Wm.encI (i : Int) ++ R := ⟨_, by unfold Sg.sign; rw [List.append_assoc]⟩
  have hsl := Sg.sign_len seed H i m
  have hRl : R.length = 16 * (35 + H) := by rw [hSR, List.length_append] at hsl; omega
  generalize Sg.sign seed H i m = S at CS0 hSR hsl
  generalize Sg.value seed H 0 = P at CP0 hpl
  have hSl : S.length = 1 + 16 * (35 + H) := by omega
  obtain ⟨x0, hx0⟩ : ∃ x0, Wm.encI (i : Int) = [x0] := List.length_eq_one_iff.1 hil
  have eS : (bstr S).size = S.length := bstr_size S
  obtain ⟨n, hn⟩ : ∃ n, n = c % (S.length - 1) := ⟨_, rfl⟩
  have hnS : n < R.length := by rw [hn, hRl]; exact Nat.lt_of_lt_of_le (Nat.mod_lt _ (by omega)) (by omega)
  have hni : (1 : Int) + (c : Int) % ((S.length : Int) - 1) = ((1 + n : Nat) : Int) := by
    have h5 : (S.length : Int) - 1 = ((S.length - 1 : Nat) : Int) := by omega
    rw [h5, hn]; push_cast; rfl
  obtain ⟨z, hz⟩ : ∃ z, z = R.getD n 0 := ⟨_, rfl⟩
  have hzS : S[1 + n]? = some z := by
    rw [hSR, hx0, Nat.add_comm]
    show (R)[n]? = some z
    rw [hz, List.getD_eq_getElem?_getD, List.getElem?_eq_getElem hnS]; rfl
  obtain ⟨v, hv⟩ : ∃ v : UInt8, v = UInt8.ofNat (z.toNat + y) := ⟨_, rfl⟩
  have hvw : IntKind.u8.wrap ((z.toNat : Int) + (y : Int)) = (v.toNat : Int) := by
    have hzl := z.toNat_lt
    have h6 : v.toNat = (z.toNat + y) % 256 := by rw [hv]; simp
    rw [h6]
    simp [IntKind.wrap, IntKind.bits, IntKind.signed]
  obtain ⟨R2, hR2⟩ : ∃ R2, R2 = R.set n v := ⟨_, rfl⟩
  obtain ⟨S2, hS2⟩ : ∃ S2, S2 = S.set (1 + n) v := ⟨_, rfl⟩
  have hSR2 : S2 = Wm.encI (i : Int) ++ R2 := by
    rw [hS2, hSR, hx0, hR2, Nat.add_comm]; rfl
  have hR2l : R2.length = 16 * (35 + H) := by rw [hR2, List.length_set, hRl]
  have hS2l : S2.length = S.length := by rw [hS2, List.length_set]
  have q1 := Sg.root_len P H i o R
  have q2 := Sg.root_len P H kk m R
  have q3 := Sg.root_len P H i m R2
  obtain ⟨n1, c1, t1, hv1, he1, ht1⟩ := ver_root P H i o R hpl (by omega) hi2 hRl q1
  obtain ⟨n2, c2, t2, hv2, he2, ht2⟩ := ver_root P H kk m R hpl (by omega) hk2 hRl q2
  obtain ⟨n3, c3, t3, hv3, he3, ht3⟩ := ver_root P H i m R2 hpl (by omega) hi2 hR2l q3
  rw [← hSR] at hv1
  rw [← hSR2] at hv3
  have CV1 := fun (W : World) (ht : Tab W) => verify_any P (H : Int) o S W hpl (by omega) (by omega) ht
  rw [hv1] at CV1
  have CV2 := fun (W : World) (ht : Tab W) => verify_any P (H : Int) m (Wm.encI (kk : Int) ++ R) W hpl (by omega) (by rw [List.length_append]; omega) ht
  rw [hv2] at CV2
  have CV3 := fun (W : World) (ht : Tab W) => verify_any P (H : Int) m S2 W hpl (by omega) (by omega) ht
  rw [hv3] at CV3
  unfold verV at CV1 CV2 CV3
  have CR1 := fun (W : World) (ht : TabR W) => rroot_any P H i o R W hpl (by omega) (by omega) (by omega) (by omega) (by omega) ht
  have CR2 := fun (W : World) (ht : TabR W) => rroot_any P H kk m R W hpl (by omega) (by omega) (by omega) (by omega) (by omega) ht
  have CR3 := fun (W : World) (ht : TabR W) => rroot_any P H i m R2 W hpl (by omega) (by omega) (by omega) (by omega) (by omega) ht
  generalize Sg.root P H i o R = RT1 at he1 CR1
  generalize Sg.root P H kk m R = RT2 at he2 CR2
  generalize Sg.root P H i m R2 = RT3 at he3 CR3
  have CRT1 := Lib.hid CR1
  have CRT2 := Lib.hid CR2
  have CRT3 := Lib.hid CR3
  have ERT1 := Lib.hid he1
  have ERT2 := Lib.hid he2
  have ERT3 := Lib.hid he3
  have CI0 := fun (W : World) => refInt_any (kk : Int) W (by omega) (by omega)
  have hsx : (bstr S).extract 1 S.length = bstr R := by rw [bstr_from S 1 S.length rfl, hSR, hx0]; rfl
  have hsx2 : (bstr S2).extract 1 S2.length = bstr R2 := by rw [bstr_from S2 1 S2.length rfl, hSR2, hx0]; rfl
  generalize Wm.encI (kk : Int) = E at hkl CI0 CV2
  have CI := Lib.hid CI0
  have HCAT := Lib.hid (bstr_cat E R)
  have HEL := Lib.hid (show (bstr E).size = 1 by rw [bstr_size, hkl])
  have HRL := Lib.hid (show (bstr R).size = R.length from bstr_size R)
  have CP := Lib.hid CP0
  have CS := Lib.hid CS0
  have CV1 := Lib.hid CV1
  have CV2 := Lib.hid CV2
  have CV3 := Lib.hid CV3
  have HSF := Lib.hid hsx
  have HSF2 := Lib.hid hsx2
  have HLEN := Lib.hid (show 17 ≤ S.length by omega)
  have HLEN2 := Lib.hid (show 17 ≤ S2.length by omega)
  have HS0 := Lib.hid (show ¬ S = [] from fun e => by rw [e] at hSl; simp at hSl; omega)
  have HS20 := Lib.hid (show ¬ S2 = [] from fun e => by rw [e] at hS2l; simp at hS2l; omega)
  have eS2 : (bstr S2).size = S2.length := bstr_size S2
  have HLN := Lib.hid hS2l
  have DP := Lib.hid (D16.of hpl)
  have HHI := Lib.hid hHi
  have HII := Lib.hid hIi
  have HKI := Lib.hid hKi
  have HNI := Lib.hid hni
  have HZS := Lib.hid hzS
  have HS2 := Lib.hid hS2
  have HVW := Lib.hid hvw
  have HT1 := Lib.hid ht1
  have HT2 := Lib.hid ht2
  have HT3 := Lib.hid ht3
  have hnS1 : 1 + n < S.length := by omega
  have d17 : decide ((S.length : Int) < 17) = false := decide_eq_false (by omega)
  have hSL1 : S.length ≤ 1000 := by omega
  have hRL1 : R.length ≤ 1000 := by omega
  have hSL2 : 17 ≤ S.length := by omega
  have dNz : ¬ ((N : Int) = 0) := by omega
  clear hs hm ho h1 h2 h3 hH hcn hN hI hi2 hK hk2 hx hh CP0 CS0 hil hsl hSR hRl hSl hx0 hn hni hz hzS hv hvw hR2 hS2 hSR2 hR2l hS2l q1 q2 q3 hv1 hv2 hv3 he1 he2 he3 ht1 ht2 ht3 CR1 CR2 CR3 CI0 hsx hsx2 hkl hpl hHi hIi hKi
  go_enter Tryd.func8, Tryd.ntmps8
  go_wp2_with fail
  refine C.out.mono ?_
  rintro e w1 ⟨rfl, bb⟩
  have B1 := Lib.hid bb
  clear bb C
  go_upto_region 5 with fail
  rw [HHI.out]
  go_wp2_with fail
  refine (CC.out w1).mono ?_
  rintro e w1b ⟨rfl, rfl⟩
  go_upto_region 6 with fail
  rw [HII.out]
  go_wp2_with fail
  refine (CC.out w1b).mono ?_
  rintro e w1c ⟨rfl, rfl⟩
  go_upto_region 7 with fail
  rw [HKI.out]
  go_wp2_with fail
  refine (CP.out w1c (HT.out.below B1.out)).mono ?_
  rintro e w2 ⟨rfl, b2⟩
  go_upto_region 8 with (with_reducible refine wpList_store_new w2 rfl 23 (.tmp 19) (.tmp 67) rfl _ (P.map bv).toArray rfl rfl DP.out.J (Eq.trans (b := 16) (by kernel_rfl) DP.out.Z.symm) DP.out.O ?_)
  have rd := Row.newl w2 (P.map bv) 23
  have gv := Gr.trans (show Gr w1c w2 from b2) (Gr.al w2 (.cells (P.map bv).toArray 23))
  obtain ⟨gp, hgd⟩ : ∃ x, x = w2.heap.size := ⟨_, rfl⟩
  obtain ⟨w3, hV⟩ : ∃ x, x = w2.alloc (.cells (P.map bv).toArray 23) := ⟨_, rfl⟩
  rw [← hV] at rd gv ⊢
  rw [← hgd] at rd ⊢
  have Y1 := Lib.hid rd
  have B2 := Lib.hid (Gr.to B1.out gv)
  clear rd gv hgd hV b2 B1 CP CC
  go_wp2_with fail
  refine (CS.out w3 (HT.out.below B2.out)).mono ?_
  rintro e w4 ⟨rfl, bb⟩
  have Y2 := Lib.hid (Y1.out.below bb)
  have B3 := Lib.hid (Gr.to B2.out (show Gr w3 w4 from bb))
  clear bb B2 Y1 CS
  go_wp2_with (with_reducible refine wpList_load_mid rfl 23 (.tmp 19) rfl gp 0 rfl (P.map bv) _ Y2.out.range Tryd.underlying23 rfl DP.out.I ?_)
  refine (CV1.out w4 (HT.out.below B3.out)).mono ?_
  rintro e w5 ⟨rfl, bb⟩
  have Y3 := Lib.hid (Y2.out.below bb)
  have B4 := Lib.hid (Gr.to B3.out (show Gr w4 w5 from bb))
  clear bb B3 Y2 CV1
  go_wp2_with fail
  refine wpK_region (by kernel_rfl) ?_
  refine wpK_ta (i := 0) (some 92) rfl rfl (by kernel_rfl) (fun _ _ _ h => h) (Or.inl ⟨rfl, fun _ => rfl⟩) ?_
  simp only [Act.put, List.setIfInBounds_toArray, List.set_cons_zero, List.set_cons_succ]
  refine wpK_ta (i := 3) (some 95) rfl rfl (by kernel_rfl) (fun _ _ _ h => h) (Or.inl ⟨rfl, fun _ => rfl⟩) ?_
  simp only [Act.put, List.setIfInBounds_toArray, List.set_cons_zero, List.set_cons_succ]
  refine wpK_tk (i := 4) (some 96) (v := .string (bstr R)) rfl rfl (by kernel_rfl) (fun _ _ _ h => h) (.val (by rfl) (fun W hg => by (have hc := HSF.out; have hl := HLEN.out; go_simp <;> (intro h; exact absurd h (by first | exact HS0.out | omega))))) ?_
  simp only [Act.put, List.setIfInBounds_toArray, List.set_cons_zero, List.set_cons_succ]
  refine wpK_call (i := 1) (some 93) 24 #[.int .i64 (kk : Int)] rfl rfl (by kernel_rfl) (by rfl) (fun W => by go_simp) (fun W5 hgW5 => ?_)
  refine (CI.out W5).mono ?_
  rintro e w9 ⟨v5, rfl, o5, b5⟩
  refine ⟨_, rfl, b5, ?_⟩
  simp only [Act.put, List.setIfInBounds_toArray, List.set_cons_zero, List.set_cons_succ]
  obtain ⟨A5, c5, rfl, _, _, l5⟩ := own_shape o5
  have L5 := Lib.hid l5
  have g5 := Lib.hid (hgW5.un.trans (show Gr W5 w9 from b5))
  have HA5 : Hid (A5 = none → E.length = 0) := Lib.hid (fun h => by have h2 := L5.out.none_ h; rw [h2]; rfl)
  clear o5 b5 l5
  refine wpK_tk (i := 2) (some 94) rfl rfl (by kernel_rfl) (fun _ _ _ h => h) (.conv (by rfl) (.tmp 93) 43 9 5 rfl Tryd.underlying43 Tryd.underlying5 Tryd.underlying9 A5 E.length c5 rfl E rfl HA5.out (fun W hg => L5.out.below hg)) ?_
  simp only [Act.put, List.setIfInBounds_toArray, List.set_cons_zero, List.set_cons_succ]
  refine wpK_tk (i := 5) (some 97) (v := .string (bstr (E ++ R))) rfl rfl (by kernel_rfl) (fun _ _ _ h => h) (.val (by rfl) (fun W hg => by (have hc := HCAT.out; have h1 := HEL.out; have h2 := HRL.out; go_simp; omega))) ?_
  simp only [Act.put, List.setIfInBounds_toArray, List.set_cons_zero, List.set_cons_succ]
  refine wpK_ta (i := 6) (some 25) (v := .string (bstr (E ++ R))) rfl rfl (by kernel_rfl) (fun _ _ _ h => h) (Or.inl ⟨by rfl, fun W => by go_simp⟩) ?_
  simp only [Act.put, List.setIfInBounds_toArray, List.set_cons_zero, List.set_cons_succ]
  refine wpK_done (by kernel_rfl) (fun W9 hgW9 => ?_) _
  have g9 := g5.out.trans hgW9
  have Y4 := Lib.hid (Y3.out.below g9)
  have B5 := Lib.hid (Gr.to B4.out g9)
  clear g9 g5 hgW9 hgW5 L5 HA5 Y3 B4
  go_wp2_with (with_reducible refine wpList_load_mid rfl 23 (.tmp 19) rfl gp 0 rfl (P.map bv) _ Y4.out.range Tryd.underlying23 rfl DP.out.I ?_)
  refine (CV2.out W9 (HT.out.below B5.out)).mono ?_
  rintro e w6 ⟨rfl, bb⟩
  have Y5 := Lib.hid (Y4.out.below bb)
  have B5 := Lib.hid (Gr.to B5.out (show Gr W9 w6 from bb))
  clear bb Y4 CV2 CI
  have kc := conv_bytes
  go_upto_region 15 with fail
  have rg := bytesRow w6 S
  have gV := bytesWorld_below w6 (bstr S)
  obtain ⟨g, hg⟩ : ∃ x, x = w6.heap.size := ⟨_, rfl⟩
  obtain ⟨V, hV⟩ : ∃ x, x = Lib.bytesWorld w6 5 (bstr S) := ⟨_, rfl⟩
  rw [← hV] at rg gV ⊢
  generalize grownCap w6 S.length 0 5 = cap
  have hzc := rg (1 + n) (bv z) (by rw [List.getElem?_map, HZS.out]; rfl)
  rw [← hg] at rg hzc ⊢
  have hz1 : V.cell? ⟨g, 1 + n, none⟩ = some (.int .u8 (z.toNat : Int)) := hzc.1
  have hz2 := hzc.2
  have r2 : Row g (S2.map bv) (V.setCell ⟨g, 1 + n, none⟩ (bv v)) := by
    have h7 := rg.set (1 + n) (bv v) (by rw [List.length_map]; exact hnS1)
    rwa [← List.map_set, ← HS2.out] at h7
  have gV2 : Gr w6 (V.setCell ⟨g, 1 + n, none⟩ (bv v)) := below_setCells (b := g) (by omega) [bv v] (1 + n) w6 V gV
  have RG0 := Lib.hid r2
  have GV2 := Lib.hid gV2
  clear kc hzc rg gV r2 gV2 hV hg
  go_upto_region 16 with fail
  rw [HNI.out]
  rw [show wrap64 ((1 + n : Nat) : Int) = ((1 + n : Nat) : Int) from by first | (simp [wrap64]; omega) | (unfold wrap64; omega)]
  have hvw := HVW.out
  have hnt : (((1 + n : Nat) : Int)).toNat = 1 + n := Int.toNat_natCast _
  generalize hk1 : 1 + n = nn at *
  go_upto_region 17 with fail
  change Code.wp _ _ _ _ (V.setCell ⟨g, nn, none⟩ (bv v))
  generalize V.setCell ⟨g, nn, none⟩ (bv v) = V2 at *
  have RG1 := RG0
  have Y6' := Lib.hid (Y5.out.below GV2.out)
  have B6' := Lib.hid (Gr.to B5.out GV2.out)
  clear hz1 hz2 RG0 GV2 Y5 B5 hvw hnt
  go_wp2_with (first | (with_reducible refine wpList_load_mid rfl 23 (.tmp 19) rfl gp 0 rfl (P.map bv) _ Y6'.out.range Tryd.underlying23 rfl DP.out.I ?_) | (with_reducible refine wpList_convert_str V2 rfl (.tmp 128) 43 9 5 rfl Tryd.underlying43 Tryd.underlying5 Tryd.underlying9 (some ⟨g, 0, none⟩) S.length cap rfl S2 HLN.out (fun h => by cases h) RG1.out.lies ?_))
  refine (CV3.out V2 (HT.out.below B6'.out)).mono ?_
  rintro e w7 ⟨rfl, bb⟩
  have Y6 := Lib.hid (Y6'.out.below bb)
  have RG := Lib.hid (RG1.out.below bb)
  have B6 := Lib.hid (Gr.to B6'.out (show Gr V2 w7 from bb))
  clear bb Y6' B6' RG1 CV3
  go_wp2_with fail
  refine wpK_region (by kernel_rfl) ?_
  refine wpK_ta (i := 1) (some 134) rfl rfl (by kernel_rfl) (fun _ _ _ h => h) (Or.inl ⟨rfl, fun _ => rfl⟩) ?_
  simp only [Act.put, List.setIfInBounds_toArray, List.set_cons_zero, List.set_cons_succ]
  refine wpK_ta (i := 2) (some 135) rfl rfl (by kernel_rfl) (fun _ _ _ h => h) (Or.inl ⟨rfl, fun _ => rfl⟩) ?_
  simp only [Act.put, List.setIfInBounds_toArray, List.set_cons_zero, List.set_cons_succ]
  refine wpK_ta (i := 3) (some 136) rfl rfl (by kernel_rfl) (fun _ _ _ h => h) (Or.inl ⟨rfl, fun _ => rfl⟩) ?_
  simp only [Act.put, List.setIfInBounds_toArray, List.set_cons_zero, List.set_cons_succ]
  refine wpK_ta (i := 4) (some 137) rfl rfl (by kernel_rfl) (fun _ _ _ h => h) (Or.inl ⟨rfl, fun _ => rfl⟩) ?_
  simp only [Act.put, List.setIfInBounds_toArray, List.set_cons_zero, List.set_cons_succ]
  refine wpK_tk (i := 0) (some 133) rfl rfl (by kernel_rfl) (fun _ _ _ h => h) (.load_mid (by rfl) 23 (.tmp 19) rfl (gp) (0) rfl (P.map bv) _ (fun W hg => (Y6.out.below hg.un).range) Tryd.underlying23 rfl DP.out.I) ?_
  simp only [Act.put, List.setIfInBounds_toArray, List.set_cons_zero, List.set_cons_succ]
  refine wpK_tk (i := 5) (some 138) (v := .string (bstr R)) rfl rfl (by kernel_rfl) (fun _ _ _ h => h) (.val (by rfl) (fun W hg => by (have hc := HSF.out; have hl := HLEN.out; go_simp <;> (intro h; exact absurd h (by first | exact HS0.out | omega))))) ?_
  simp only [Act.put, List.setIfInBounds_toArray, List.set_cons_zero, List.set_cons_succ]
  refine wpK_tk (i := 6) (some 139) (v := .agg (RT1.map bv).toArray) rfl rfl (by kernel_rfl) (fun _ _ _ h => h) (.call (f := 25) (args := #[.agg (P.map bv).toArray, .int .i64 (H : Int), .int .i64 (i : Int), .string (bstr o), .string (bstr R)]) (by rfl) (fun W => by go_simp) (fun W hg => CRT1.out W (HR.out.below (Gr.to B6.out hg.un)))) ?_
  simp only [Act.put, List.setIfInBounds_toArray, List.set_cons_zero, List.set_cons_succ]
  refine wpK_tk (i := 7) (some 140) rfl rfl (by kernel_rfl) (fun _ _ _ h => h) (.load_mid (by rfl) 23 (.tmp 19) rfl (gp) (0) rfl (P.map bv) _ (fun W hg => (Y6.out.below hg.un).range) Tryd.underlying23 rfl DP.out.I) ?_
  simp only [Act.put, List.setIfInBounds_toArray, List.set_cons_zero, List.set_cons_succ]
  refine wpK_ta (i := 8) (some 141) (v := .bool t1) rfl rfl (by kernel_rfl) (fun _ _ _ h => h) (Or.inl ⟨by rfl, fun W => by (have hc := ERT1.out W; go_simp)⟩) ?_
  simp only [Act.put, List.setIfInBounds_toArray, List.set_cons_zero, List.set_cons_succ]
  refine wpK_ta (i := 9) (some 32) (v := .bool t1) rfl rfl (by kernel_rfl) (fun _ _ _ h => h) (Or.inl ⟨by rfl, fun W => by go_simp⟩) ?_
  simp only [Act.put, List.setIfInBounds_toArray, List.set_cons_zero, List.set_cons_succ]
  refine wpK_done (by kernel_rfl) (fun W10 hgW10 => ?_) _
  have Y7 := Lib.hid (Y6.out.below hgW10.un)
  have RG := Lib.hid (RG.out.below hgW10.un)
  have B7 := Lib.hid (Gr.to B6.out hgW10.un)
  clear hgW10 Y6 B6
  go_wp2_with fail
  refine wpK_region (by kernel_rfl) ?_
  refine wpK_ta (i := 1) (some 143) rfl rfl (by kernel_rfl) (fun _ _ _ h => h) (Or.inl ⟨rfl, fun _ => rfl⟩) ?_
  simp only [Act.put, List.setIfInBounds_toArray, List.set_cons_zero, List.set_cons_succ]
  refine wpK_ta (i := 2) (some 144) rfl rfl (by kernel_rfl) (fun _ _ _ h => h) (Or.inl ⟨rfl, fun _ => rfl⟩) ?_
  simp only [Act.put, List.setIfInBounds_toArray, List.set_cons_zero, List.set_cons_succ]
  refine wpK_ta (i := 3) (some 145) rfl rfl (by kernel_rfl) (fun _ _ _ h => h) (Or.inl ⟨rfl, fun _ => rfl⟩) ?_
  simp only [Act.put, List.setIfInBounds_toArray, List.set_cons_zero, List.set_cons_succ]
  refine wpK_ta (i := 4) (some 146) rfl rfl (by kernel_rfl) (fun _ _ _ h => h) (Or.inl ⟨rfl, fun _ => rfl⟩) ?_
  simp only [Act.put, List.setIfInBounds_toArray, List.set_cons_zero, List.set_cons_succ]
  refine wpK_tk (i := 0) (some 142) rfl rfl (by kernel_rfl) (fun _ _ _ h => h) (.load_mid (by rfl) 23 (.tmp 19) rfl (gp) (0) rfl (P.map bv) _ (fun W hg => (Y7.out.below hg.un).range) Tryd.underlying23 rfl DP.out.I) ?_
  simp only [Act.put, List.setIfInBounds_toArray, List.set_cons_zero, List.set_cons_succ]
  refine wpK_tk (i := 5) (some 147) (v := .string (bstr R)) rfl rfl (by kernel_rfl) (fun _ _ _ h => h) (.val (by rfl) (fun W hg => by (have hc := HSF.out; have hl := HLEN.out; go_simp <;> (intro h; exact absurd h (by first | exact HS0.out | omega))))) ?_
  simp only [Act.put, List.setIfInBounds_toArray, List.set_cons_zero, List.set_cons_succ]
  refine wpK_tk (i := 6) (some 148) (v := .agg (RT2.map bv).toArray) rfl rfl (by kernel_rfl) (fun _ _ _ h => h) (.call (f := 25) (args := #[.agg (P.map bv).toArray, .int .i64 (H : Int), .int .i64 (kk : Int), .string (bstr m), .string (bstr R)]) (by rfl) (fun W => by go_simp) (fun W hg => CRT2.out W (HR.out.below (Gr.to B7.out hg.un)))) ?_
  simp only [Act.put, List.setIfInBounds_toArray, List.set_cons_zero, List.set_cons_succ]
  refine wpK_tk (i := 7) (some 149) rfl rfl (by kernel_rfl) (fun _ _ _ h => h) (.load_mid (by rfl) 23 (.tmp 19) rfl (gp) (0) rfl (P.map bv) _ (fun W hg => (Y7.out.below hg.un).range) Tryd.underlying23 rfl DP.out.I) ?_
  simp only [Act.put, List.setIfInBounds_toArray, List.set_cons_zero, List.set_cons_succ]
  refine wpK_ta (i := 8) (some 150) (v := .bool t2) rfl rfl (by kernel_rfl) (fun _ _ _ h => h) (Or.inl ⟨by rfl, fun W => by (have hc := ERT2.out W; go_simp)⟩) ?_
  simp only [Act.put, List.setIfInBounds_toArray, List.set_cons_zero, List.set_cons_succ]
  refine wpK_ta (i := 9) (some 33) (v := .bool t2) rfl rfl (by kernel_rfl) (fun _ _ _ h => h) (Or.inl ⟨by rfl, fun W => by go_simp⟩) ?_
  simp only [Act.put, List.setIfInBounds_toArray, List.set_cons_zero, List.set_cons_succ]
  refine wpK_done (by kernel_rfl) (fun W11 hgW11 => ?_) _
  have Y8 := Lib.hid (Y7.out.below hgW11.un)
  have RG := Lib.hid (RG.out.below hgW11.un)
  have B8 := Lib.hid (Gr.to B7.out hgW11.un)
  clear hgW11 Y7 B7
  go_wp2_with fail
  refine wpK_region (by kernel_rfl) ?_
  refine wpK_ta (i := 1) (some 152) rfl rfl (by kernel_rfl) (fun _ _ _ h => h) (Or.inl ⟨rfl, fun _ => rfl⟩) ?_
  simp only [Act.put, List.setIfInBounds_toArray, List.set_cons_zero, List.set_cons_succ]
  refine wpK_ta (i := 2) (some 153) rfl rfl (by kernel_rfl) (fun _ _ _ h => h) (Or.inl ⟨rfl, fun _ => rfl⟩) ?_
  simp only [Act.put, List.setIfInBounds_toArray, List.set_cons_zero, List.set_cons_succ]
  refine wpK_ta (i := 3) (some 154) rfl rfl (by kernel_rfl) (fun _ _ _ h => h) (Or.inl ⟨rfl, fun _ => rfl⟩) ?_
  simp only [Act.put, List.setIfInBounds_toArray, List.set_cons_zero, List.set_cons_succ]
  refine wpK_ta (i := 4) (some 155) rfl rfl (by kernel_rfl) (fun _ _ _ h => h) (Or.inl ⟨rfl, fun _ => rfl⟩) ?_
  simp only [Act.put, List.setIfInBounds_toArray, List.set_cons_zero, List.set_cons_succ]
  refine wpK_tk (i := 0) (some 151) rfl rfl (by kernel_rfl) (fun _ _ _ h => h) (.load_mid (by rfl) 23 (.tmp 19) rfl (gp) (0) rfl (P.map bv) _ (fun W hg => (Y8.out.below hg.un).range) Tryd.underlying23 rfl DP.out.I) ?_
  simp only [Act.put, List.setIfInBounds_toArray, List.set_cons_zero, List.set_cons_succ]
  refine wpK_tk (i := 5) (some 156) rfl rfl (by kernel_rfl) (fun _ _ _ h => h) (.conv (by rfl) (.tmp 155) 43 9 5 rfl Tryd.underlying43 Tryd.underlying5 Tryd.underlying9 (some ⟨g, 0, none⟩) S.length cap rfl S2 HLN.out (fun h => by cases h) (fun W hg => (RG.out.below hg.un).lies)) ?_
  simp only [Act.put, List.setIfInBounds_toArray, List.set_cons_zero, List.set_cons_succ]
  refine wpK_tk (i := 6) (some 157) (v := .string (bstr R2)) rfl rfl (by kernel_rfl) (fun _ _ _ h => h) (.val (by rfl) (fun W hg => by (have hc := HSF2.out; have hl := HLEN2.out; go_simp <;> (intro h; exact absurd h (by first | exact HS20.out | omega))))) ?_
  simp only [Act.put, List.setIfInBounds_toArray, List.set_cons_zero, List.set_cons_succ]
  refine wpK_tk (i := 7) (some 158) (v := .agg (RT3.map bv).toArray) rfl rfl (by kernel_rfl) (fun _ _ _ h => h) (.call (f := 25) (args := #[.agg (P.map bv).toArray, .int .i64 (H : Int), .int .i64 (i : Int), .string (bstr m), .string (bstr R2)]) (by rfl) (fun W => by go_simp) (fun W hg => CRT3.out W (HR.out.below (Gr.to B8.out hg.un)))) ?_
  simp only [Act.put, List.setIfInBounds_toArray, List.set_cons_zero, List.set_cons_succ]
  refine wpK_tk (i := 8) (some 159) rfl rfl (by kernel_rfl) (fun _ _ _ h => h) (.load_mid (by rfl) 23 (.tmp 19) rfl (gp) (0) rfl (P.map bv) _ (fun W hg => (Y8.out.below hg.un).range) Tryd.underlying23 rfl DP.out.I) ?_
  simp only [Act.put, List.setIfInBounds_toArray, List.set_cons_zero, List.set_cons_succ]
  refine wpK_ta (i := 9) (some 160) (v := .bool t3) rfl rfl (by kernel_rfl) (fun _ _ _ h => h) (Or.inl ⟨by rfl, fun W => by (have hc := ERT3.out W; go_simp)⟩) ?_
  simp only [Act.put, List.setIfInBounds_toArray, List.set_cons_zero, List.set_cons_succ]
  refine wpK_ta (i := 10) (some 34) (v := .bool t3) rfl rfl (by kernel_rfl) (fun _ _ _ h => h) (Or.inl ⟨by rfl, fun W => by go_simp⟩) ?_
  simp only [Act.put, List.setIfInBounds_toArray, List.set_cons_zero, List.set_cons_succ]
  refine wpK_done (by kernel_rfl) (fun W12 hgW12 => ?_) _
  have B9 := Lib.hid (Gr.to B8.out hgW12.un)
  clear hgW12 Y8 B8
  rcases HT1.out with ⟨rfl, rfl⟩ | ⟨rfl, rfl⟩ <;> rcases HT2.out with ⟨rfl, rfl⟩ | ⟨rfl, rfl⟩ <;> rcases HT3.out with ⟨rfl, rfl⟩ | ⟨rfl, rfl⟩ <;>
  · go_wp2_with fail
    go_ret
    exact ⟨rfl, B9.out⟩
end Go.Proofs.YtdbdlhgkhnenfaaDoor
