/-
  voxellaw03.SignIsAccepted, its walk.
-/
import Derived.Test.YtdbdlhgkhnenfaaDoorGst
namespace Go.Proofs.YtdbdlhgkhnenfaaDoor
open Go.RowKit

theorem bstr_take (l : List UInt8) (k : Nat) : (bstr l).extract 0 k = bstr (l.take k) := by
  apply ByteArray.ext
  show ((bstr l).extract 0 k).data = (bstr (l.take k)).data
  apply Array.toList_inj.1
  simp [bstr, ByteArray.data_extract]

theorem len_cases (H : Nat) (h : H < 3) : cnt (H : Int) = ((2 ^ H : Nat) : Int) ∧ 2 ^ H ≤ 4 := by
  have : H = 0 ∨ H = 1 ∨ H = 2 := by omega
  rcases this with rfl | rfl | rfl <;> exact ⟨by decide +kernel, by decide⟩

set_option maxRecDepth 1000000 in
set_option maxHeartbeats 4000000 in
theorem signAccepted_law (seed : List UInt8) (a b : Nat) (m : List UInt8) (c : Nat) (more : List UInt8) (w : World) (hT : Tab w) (ha : a < 256) (hb : b < 256) (hc : c < 65536)
    (hs : seed.length ≤ 140737488351232) (hm : m.length ≤ 140737488351232) (ho : more.length ≤ 140737488351232) :
    Calls Tryd.prog 6 #[.string (bstr seed), .int .u8 (a : Int), .int .u8 (b : Int), .string (bstr m), .int .u16 (c : Int), .string (bstr more)] w
      fun e w' => e = .returned (.bool true) ∧ Below w.heap.size w w' := by
  have es : (bstr seed).size = seed.length := bstr_size seed
  have em : (bstr m).size = m.length := bstr_size m
  have eo : (bstr more).size = more.length := bstr_size more
  have C := Lib.hid (sanity_any w hT)
  have HT := Lib.hid hT
  clear hT
  by_cases h1 : seed.length ≤ 200
  case neg =>
    have b1 : decide ((200 : Int) < (seed.length : Int)) = true := decide_eq_true (by omega)
    go_enter Tryd.func6, Tryd.ntmps6
    go_wp2_with fail
    refine C.out.mono ?_
    rintro e w1 ⟨rfl, bb⟩
    have B1 := Lib.hid bb
    clear bb C
    go_wp2_with fail
    go_ret
    exact ⟨rfl, B1.out⟩
  by_cases h2 : m.length ≤ 200
  case neg =>
    have b1 : decide ((200 : Int) < (seed.length : Int)) = false := decide_eq_false (by omega)
    have b2 : decide ((200 : Int) < (m.length : Int)) = true := decide_eq_true (by omega)
    go_enter Tryd.func6, Tryd.ntmps6
    go_wp2_with fail
    refine C.out.mono ?_
    rintro e w1 ⟨rfl, bb⟩
    have B1 := Lib.hid bb
    clear bb C
    go_wp2_with fail
    go_ret
    exact ⟨rfl, B1.out⟩
  by_cases h3 : more.length ≤ 50
  case neg =>
    have b1 : decide ((200 : Int) < (seed.length : Int)) = false := decide_eq_false (by omega)
    have b2 : decide ((200 : Int) < (m.length : Int)) = false := decide_eq_false (by omega)
    have b3 : decide ((50 : Int) < (more.length : Int)) = true := decide_eq_true (by omega)
    go_enter Tryd.func6, Tryd.ntmps6
    go_wp2_with fail
    refine C.out.mono ?_
    rintro e w1 ⟨rfl, bb⟩
    have B1 := Lib.hid bb
    clear bb C
    go_wp2_with fail
    go_ret
    exact ⟨rfl, B1.out⟩
  have b1 : decide ((200 : Int) < (seed.length : Int)) = false := decide_eq_false (by omega)
  have b2 : decide ((200 : Int) < (m.length : Int)) = false := decide_eq_false (by omega)
  have b3 : decide ((50 : Int) < (more.length : Int)) = false := decide_eq_false (by omega)
  obtain ⟨H, hH⟩ : ∃ H, H = a % 3 := ⟨_, rfl⟩
  have hH3 : H < 3 := by omega
  have hHi : (a : Int) % 3 = (H : Int) := by omega
  obtain ⟨hcn, hN4⟩ := len_cases H hH3
  obtain ⟨N, hN⟩ : ∃ N, N = 2 ^ H := ⟨_, rfl⟩
  rw [← hN] at hcn hN4
  have hNp : 0 < N := by rw [hN]; exact Nat.two_pow_pos _
  obtain ⟨i, hI⟩ : ∃ i, i = b % N := ⟨_, rfl⟩
  have hiN : i < N := by rw [hI]; exact Nat.mod_lt _ hNp
  have hIi : (b : Int) % (N : Int) = (i : Int) := by rw [hI]; norm_cast
  have hi2 : i < 2 ^ H := by rw [← hN]; exact hiN
  have CC := Lib.hid (fun W => rcount_any (H : Int) W)
  rw [hcn] at CC
  have hx : 0 ≤ (i : Int) ∧ (i : Int) < cnt (H : Int) := ⟨Int.natCast_nonneg _, by rw [hcn]; exact Int.ofNat_lt.2 hiN⟩
  have hh : 0 ≤ (H : Int) ∧ (H : Int) ≤ 6 := by omega
  have CP0 := fun (W : World) (ht : Tab W) => public_any seed (H : Int) W (by omega) ht
  rw [show pubD seed (H : Int) = Sg.value seed H 0 from by unfold pubD; rw [if_pos hh]; rfl, show pubE (H : Int) = 0 from if_pos hh] at CP0
  have CS0 := fun (W : World) (ht : Tab W) => sign_any seed (H : Int) (i : Int) m W (by omega) (by omega) ht
  rw [(sgn_c (seed := seed) (m := m) hh hx).1, (sgn_c (seed := seed) (m := m) hh hx).2, Int.toNat_natCast, Int.toNat_natCast] at CS0
  have hpl := Sg.value_len seed H 0
  have hil := Wm.encI_len (i : Int) (by omega) (by omega)
  have hsl := Sg.sign_len seed H i m
  have hSL : (Sg.sign seed H i m).length ≤ 10000 ∧ 0 < (Sg.sign seed H i m).length := by omega
  have v1 := verify_sign seed H i m (by omega) hi2
  have CZ := fun W => size_any (H : Int) (i : Int) W (by omega)
  rw [siz_in hx, show ((Wm.encI (i : Int)).length : Int) + 16 * (35 + (H : Int)) = ((Sg.sign seed H i m).length : Int) from by rw [hsl]; push_cast; omega] at CZ
  have v2 := fun (k : Nat) (hk : k < (Sg.sign seed H i m).length) => verify_cut seed H i k m (Sg.value seed H 0) (by omega) hi2 hk
  have v3 := fun (t : List UInt8) (ht : 0 < t.length) => verify_more seed H i m t (Sg.value seed H 0) (by omega) hi2 ht
  generalize Sg.sign seed H i m = S at CS0 hSL v1 CZ v2 v3
  generalize Sg.value seed H 0 = P at CP0 hpl v1 v2 v3
  have eS : (bstr S).size = S.length := bstr_size S
  obtain ⟨K, hK⟩ : ∃ K, K = c % S.length := ⟨_, rfl⟩
  have hKS : K < S.length := by rw [hK]; exact Nat.mod_lt _ hSL.2
  have hKi : (c : Int) % (S.length : Int) = (K : Int) := by rw [hK]; norm_cast
  have w1 := v2 K hKS
  have CV := fun (W : World) (ht : Tab W) => verify_any P (H : Int) m S W hpl (by omega) (by omega) ht
  rw [v1] at CV
  have CV2 := fun (W : World) (ht : Tab W) => verify_any P (H : Int) m (S.take K) W hpl (by omega) (by rw [List.length_take]; omega) ht
  rw [w1] at CV2
  obtain ⟨n3, e3, hv3, hcase⟩ : ∃ n3 e3 : Int, Sg.verify P (H : Int) m (S ++ more) = (n3, e3) ∧ (decide (e3 = 6) = decide ((0 : Int) < (more.length : Int))) := by
    by_cases hmo : 0 < more.length
    · exact ⟨0, 6, v3 more hmo, by rw [decide_eq_true (show (6 : Int) = 6 from rfl), decide_eq_true (by omega)]⟩
    · have hnil : more = [] := List.length_eq_zero_iff.1 (by omega)
      refine ⟨(i : Int), 0, by rw [hnil, List.append_nil]; exact v1, ?_⟩
      rw [decide_eq_false (show ¬ (0 : Int) = 6 by omega), decide_eq_false (by omega)]
  have CV3 := fun (W : World) (ht : Tab W) => verify_any P (H : Int) m (S ++ more) W hpl (by omega) (by rw [List.length_append]; omega) ht
  rw [hv3] at CV3
  unfold verV at CV CV2 CV3
  have hcat : bstr S ++ bstr more = bstr (S ++ more) := bstr_cat S more
  have HCAT := Lib.hid hcat
  have CP := Lib.hid CP0
  have CS := Lib.hid CS0
  have CV := Lib.hid CV
  have CV2 := Lib.hid CV2
  have CV3 := Lib.hid CV3
  have CZ := Lib.hid CZ
  have HCASE := Lib.hid hcase
  have HSL := Lib.hid (bstr_take S K)
  have HCW := Lib.hid (show IntKind.i64.wrap (c : Int) = (c : Int) by simp [IntKind.wrap, IntKind.bits, IntKind.signed]; omega)
  have HS0 := Lib.hid (show ¬ S = [] from fun e => by rw [e] at hKS; exact absurd hKS (Nat.not_lt_zero _))
  have HTM := Lib.hid (show (c : Int).tmod (S.length : Int) = (K : Int) by rw [Int.tmod_eq_emod_of_nonneg (Int.natCast_nonneg _)]; exact hKi)
  have HKN := Lib.hid (show ¬ S.length < K by omega)
  have DP := Lib.hid (D16.of hpl)
  have HHI := Lib.hid hHi
  have HII := Lib.hid hIi
  have hSL1 := hSL.1
  have hSL2 := hSL.2
  have d0 : decide (S.length = 0) = false := decide_eq_false (by omega)
  have dNz : ¬ ((N : Int) = 0) := by omega
  have dSz : ¬ ((S.length : Int) = 0) := by omega
  clear hs hm ho h1 h2 hH hcn hN hI hi2 hx hh CP0 CS0 hil hsl v1 v2 v3 hK w1 hv3 hcase hcat hpl hHi hIi hSL
  go_enter Tryd.func6, Tryd.ntmps6
  go_wp2_with fail
  refine C.out.mono ?_
  rintro e w1 ⟨rfl, bb⟩
  have B1 := Lib.hid bb
  clear bb C
  go_upto_region 5 with fail
  rw [HHI.out]
  go_wp2_with fail
  refine (CC.out w1).mono ?_
  rintro e w1b ⟨rfl, rfl⟩
  go_upto_region 6 with fail
  rw [HII.out]
  go_wp2_with fail
  refine (CP.out w1b (HT.out.below B1.out)).mono ?_
  rintro e w2 ⟨rfl, b2⟩
  go_upto_region 7 with (with_reducible refine wpList_store_new w2 rfl 23 (.tmp 16) (.tmp 53) rfl _ (P.map bv).toArray rfl rfl DP.out.J (Eq.trans (b := 16) (by kernel_rfl) DP.out.Z.symm) DP.out.O ?_)
  have rd := Row.newl w2 (P.map bv) 23
  have gv := Gr.trans (show Gr w1b w2 from b2) (Gr.al w2 (.cells (P.map bv).toArray 23))
  obtain ⟨gp, hgd⟩ : ∃ x, x = w2.heap.size := ⟨_, rfl⟩
  obtain ⟨w3, hV⟩ : ∃ x, x = w2.alloc (.cells (P.map bv).toArray 23) := ⟨_, rfl⟩
  rw [← hV] at rd gv ⊢
  rw [← hgd] at rd ⊢
  have Y1 := Lib.hid rd
  have B2 := Lib.hid (Gr.to B1.out gv)
  clear rd gv hgd hV b2 B1 CP
  go_wp2_with fail
  refine (CS.out w3 (HT.out.below B2.out)).mono ?_
  rintro e w4 ⟨rfl, bb⟩
  have Y2 := Lib.hid (Y1.out.below bb)
  have B3 := Lib.hid (Gr.to B2.out (show Gr w3 w4 from bb))
  clear bb B2 Y1 CS
  go_wp2_with (with_reducible refine wpList_load_mid rfl 23 (.tmp 16) rfl gp 0 rfl (P.map bv) _ Y2.out.range Tryd.underlying23 rfl DP.out.I ?_)
  refine (CV.out w4 (HT.out.below B3.out)).mono ?_
  rintro e w5 ⟨rfl, bb⟩
  have Y3 := Lib.hid (Y2.out.below bb)
  have B3b := Lib.hid (Gr.to B3.out (show Gr w4 w5 from bb))
  clear bb B3 Y2 CV
  go_wp2_with fail
  refine (CZ.out w5).mono ?_
  rintro e w6 ⟨rfl, bb⟩
  have Y4 := Lib.hid (Y3.out.below bb)
  have B4 := Lib.hid (Gr.to B3b.out (show Gr w5 w6 from bb))
  clear bb B3b Y3 CZ
  go_wp2_with fail
  refine wpK_region (by kernel_rfl) ?_
  refine wpK_ta (i := 1) (some 101) rfl rfl (by kernel_rfl) (fun _ _ _ h => h) (Or.inl ⟨rfl, fun _ => rfl⟩) ?_
  simp only [Act.put, List.setIfInBounds_toArray, List.set_cons_zero, List.set_cons_succ]
  refine wpK_ta (i := 2) (some 102) rfl rfl (by kernel_rfl) (fun _ _ _ h => h) (Or.inl ⟨rfl, fun _ => rfl⟩) ?_
  simp only [Act.put, List.setIfInBounds_toArray, List.set_cons_zero, List.set_cons_succ]
  refine wpK_ta (i := 3) (some 103) rfl rfl (by kernel_rfl) (fun _ _ _ h => h) (Or.inl ⟨rfl, fun _ => rfl⟩) ?_
  simp only [Act.put, List.setIfInBounds_toArray, List.set_cons_zero, List.set_cons_succ]
  refine wpK_ta (i := 4) (some 104) rfl rfl (by kernel_rfl) (fun _ _ _ h => h) (Or.inl ⟨rfl, fun _ => rfl⟩) ?_
  simp only [Act.put, List.setIfInBounds_toArray, List.set_cons_zero, List.set_cons_succ]
  refine wpK_ta (i := 6) (some 106) rfl rfl (by kernel_rfl) (fun _ _ _ h => h) (Or.inl ⟨rfl, fun _ => rfl⟩) ?_
  simp only [Act.put, List.setIfInBounds_toArray, List.set_cons_zero, List.set_cons_succ]
  refine wpK_tk (i := 0) (some 100) rfl rfl (by kernel_rfl) (fun _ _ _ h => h) (.load_mid (by rfl) 23 (.tmp 16) rfl (gp) (0) rfl (P.map bv) _ (fun W hg => (Y4.out.below hg.un).range) Tryd.underlying23 rfl DP.out.I) ?_
  simp only [Act.put, List.setIfInBounds_toArray, List.set_cons_zero, List.set_cons_succ]
  refine wpK_ta (i := 5) (some 105) (v := .int .i64 (c : Int)) rfl rfl (by kernel_rfl) (fun _ _ _ h => h) (Or.inl ⟨by rfl, fun W => by (go_simp; exact HCW.out)⟩) ?_
  simp only [Act.put, List.setIfInBounds_toArray, List.set_cons_zero, List.set_cons_succ]
  refine wpK_ta (i := 7) (some 107) (v := .int .i64 (S.length : Int)) rfl rfl (by kernel_rfl) (fun _ _ _ h => h) (Or.inl ⟨by rfl, fun W => by go_simp⟩) ?_
  simp only [Act.put, List.setIfInBounds_toArray, List.set_cons_zero, List.set_cons_succ]
  refine wpK_tk (i := 8) (some 108) (v := .int .i64 (K : Int)) rfl rfl (by kernel_rfl) (fun _ _ _ h => h) (.val (by rfl) (fun W hg => by (go_simp; rw [if_neg HS0.out, HTM.out]))) ?_
  simp only [Act.put, List.setIfInBounds_toArray, List.set_cons_zero, List.set_cons_succ]
  refine wpK_tk (i := 9) (some 109) (v := .string (bstr (S.take K))) rfl rfl (by kernel_rfl) (fun _ _ _ h => h) (.val (by rfl) (fun W hg => by (have hc := HSL.out; go_simp; exact fun h => absurd h HKN.out))) ?_
  simp only [Act.put, List.setIfInBounds_toArray, List.set_cons_zero, List.set_cons_succ]
  refine wpK_tk (i := 10) (some 110) (v := .tuple #[.int .i64 0, .int .i64 5]) rfl rfl (by kernel_rfl) (fun _ _ _ h => h) (.call (f := 22) (args := #[.agg (P.map bv).toArray, .int .i64 (H : Int), .string (bstr m), .string (bstr (S.take K))]) (by rfl) (fun W => by go_simp) (fun W hg => CV2.out W (HT.out.below (Gr.to B4.out hg.un)))) ?_
  simp only [Act.put, List.setIfInBounds_toArray, List.set_cons_zero, List.set_cons_succ]
  refine wpK_ta (i := 11) (some 99) rfl rfl (by kernel_rfl) (fun _ _ _ h => h) (Or.inl ⟨rfl, fun _ => rfl⟩) ?_
  simp only [Act.put, List.setIfInBounds_toArray, List.set_cons_zero, List.set_cons_succ]
  refine wpK_ta (i := 12) (some 111) (v := .int .i64 0) rfl rfl (by kernel_rfl) (fun _ _ _ h => h) (Or.inl ⟨by rfl, fun W => by go_simp⟩) ?_
  simp only [Act.put, List.setIfInBounds_toArray, List.set_cons_zero, List.set_cons_succ]
  refine wpK_ta (i := 13) (some 112) (v := .int .i64 5) rfl rfl (by kernel_rfl) (fun _ _ _ h => h) (Or.inl ⟨by rfl, fun W => by go_simp⟩) ?_
  simp only [Act.put, List.setIfInBounds_toArray, List.set_cons_zero, List.set_cons_succ]
  refine wpK_ta (i := 14) (some 22) (v := .int .i64 0) rfl rfl (by kernel_rfl) (fun _ _ _ h => h) (Or.inl ⟨by rfl, fun W => by go_simp⟩) ?_
  simp only [Act.put, List.setIfInBounds_toArray, List.set_cons_zero, List.set_cons_succ]
  refine wpK_ta (i := 15) (some 23) (v := .int .i64 5) rfl rfl (by kernel_rfl) (fun _ _ _ h => h) (Or.inl ⟨by rfl, fun W => by go_simp⟩) ?_
  simp only [Act.put, List.setIfInBounds_toArray, List.set_cons_zero, List.set_cons_succ]
  refine wpK_done (by kernel_rfl) (fun W9 hgW9 => ?_) _
  have Y5 := Lib.hid (Y4.out.below hgW9.un)
  have B5 := Lib.hid (Gr.to B4.out hgW9.un)
  clear hgW9 Y4 B4
  go_wp2_with (with_reducible refine wpList_load_mid rfl 23 (.tmp 16) rfl gp 0 rfl (P.map bv) _ Y5.out.range Tryd.underlying23 rfl DP.out.I ?_)
  rw [HCAT.out]
  refine (CV3.out W9 (HT.out.below B5.out)).mono ?_
  rintro e w8 ⟨rfl, bb⟩
  have B6 := Lib.hid (Gr.to B5.out (show Gr W9 w8 from bb))
  clear bb B5 Y5
  have hz := HCASE.out
  by_cases hmo : (0 : Int) < (more.length : Int)
  · rw [decide_eq_true hmo] at hz
    have hz2 : e3 = 6 := of_decide_eq_true hz
    subst hz2
    have c1 : decide (0 < more.length) = true := decide_eq_true (by omega)
    clear hz
    go_wp2_with fail
    go_ret
    exact ⟨rfl, B6.out⟩
  · rw [decide_eq_false hmo] at hz
    have hz2 : ¬ e3 = 6 := of_decide_eq_false hz
    have c1 : decide (0 < more.length) = false := decide_eq_false (by omega)
    have c2 : (e3 == 6) = false := by simpa using hz2
    go_wp2_with fail
    go_ret
    exact ⟨rfl, B6.out⟩
end Go.Proofs.YtdbdlhgkhnenfaaDoor
