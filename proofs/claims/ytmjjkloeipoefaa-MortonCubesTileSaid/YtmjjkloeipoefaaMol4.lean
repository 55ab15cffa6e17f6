/-
  voxellaw05.MortonCubesTile, its main walk.
-/
import Derived.Test.YtmjjkloeipoefaaMol4a
import Derived.Handy
namespace Go.Proofs.Ytmjjkloeipoefaa
open Go.RowKit
open List (setIfInBounds_toArray set_cons_zero set_cons_succ)
set_option linter.unusedVariables false
set_option maxRecDepth 1000000 in
set_option maxHeartbeats 40000000 in
theorem law4_m (b1 b2 b3 b4 b5 b6 p q r : Int) (w : World) (hsm : Mo.smallB b1 b2 b3 b4 b5 b6 = true) (hev : Mo.cubesE b1 b2 b3 b4 b5 b6 = 0) :
    Calls Try.prog 6 #[.agg #[.int .i64 b1, .int .i64 b2, .int .i64 b3, .int .i64 b4, .int .i64 b5, .int .i64 b6], .agg #[.int .i64 p, .int .i64 q, .int .i64 r]] w fun e w' => e = .returned (.bool true) ∧ Below w.heap.size w w' := by
  obtain ⟨cl, hcl⟩ : ∃ l, l = Mo.cubesA b1 b2 b3 b4 b5 b6 := ⟨_, rfl⟩
  obtain ⟨rl, hrl⟩ : ∃ l, l = Mo.runsA b1 b2 b3 b4 b5 b6 := ⟨_, rfl⟩
  obtain ⟨n, hn⟩ : ∃ n, n = cl.length := ⟨_, rfl⟩
  obtain ⟨m, hm⟩ : ∃ n, n = rl.length := ⟨_, rfl⟩
  have hn4 : n ≤ 4096 := by rw [hn, hcl]; exact Mo.cubesA_len _ _ _ _ _ _
  have hm4 : m ≤ 4096 := by
    have h := Mo.runsF_len (Mo.cubesA b1 b2 b3 b4 b5 b6) _ (Nat.le_refl _)
    rw [List.take_length] at h
    have h2 := Mo.cubesA_len b1 b2 b3 b4 b5 b6
    rw [hm, hrl]; unfold Mo.runsA; omega
  have HSM := Lib.hid hsm
  have HEV := Lib.hid hev
  have HCL := Lib.hid hcl
  have HRL := Lib.hid hrl
  have HN := Lib.hid hn
  have HM := Lib.hid hm
  have HCLL := Lib.hid (hcl.trans (Mo.cubesA_eq hev))
  have HOKM := Lib.hid (show ∀ c ∈ cl, Mo.okM b1 b2 b3 b4 b5 b6 c from fun c hc => (Mo.cubes_okM (hcl ▸ hc)).1)
  have HCHN := Lib.hid (show Mo.chn 4398046511104 0 cl from by rw [HCLL.out]; exact Mo.cubes_chn)
  have HGD := Lib.hid (show Mo.gd rl from by rw [hrl]; exact (Mo.runs_all hev).1)
  have HRB := Lib.hid (show ∀ r ∈ rl, -1 ≤ r.2 ∧ r.2 ≤ 8796093022208 from by
    have h := Mo.runsF_take_bd (cl := cl) (fun c hc => Mo.cubesA_ok (hcl ▸ hc)) cl.length
    rw [List.take_length, hcl] at h
    rw [hrl]; exact h)
  clear hsm hev hcl hrl hn hm
  obtain ⟨u, hu, r0, r1, g0⟩ := rows2 w [.int .i64 b1, .int .i64 b2, .int .i64 b3, .int .i64 b4, .int .i64 b5, .int .i64 b6] 37 [.int .i64 p, .int .i64 q, .int .i64 r] 23
  have R0 := Lib.hid r0
  have R1 := Lib.hid r1
  have G0 := Lib.hid g0
  have HU := Lib.hid hu
  clear hu g0 r0 r1
  go_enter Try.func6, Try.ntmps6
  go_upto_region 1 with fail
  rw [← HU.out]
  refine wpG_region ?_
  refine @wpG_tk _ _ _ _ _ (some 19) (.agg #[.int .i64 b1, .int .i64 b2, .int .i64 b3, .int .i64 b4, .int .i64 b5, .int .i64 b6]) _ _ rfl (.load_mid (by rfl) 37 (.tmp 2) rfl (w.heap.size) 0 rfl [.int .i64 b1, .int .i64 b2, .int .i64 b3, .int .i64 b4, .int .i64 b5, .int .i64 b6] _ (fun W hg => (R0.out.below hg).range) Try.underlying37 rfl (by kernel_rfl)) ?_
  simp only [Act.put, setIfInBounds_toArray, set_cons_zero, set_cons_succ]
  refine @wpG_tk _ _ _ _ _ (some 20) (.bool true) _ _ rfl (.call (f := 31) (args := #[.agg #[.int .i64 b1, .int .i64 b2, .int .i64 b3, .int .i64 b4, .int .i64 b5, .int .i64 b6]]) (by rfl) (fun W => by go_simp) (fun W hg => (HSM.out ▸ small_any b1 b2 b3 b4 b5 b6 W))) ?_
  simp only [Act.put, setIfInBounds_toArray, set_cons_zero, set_cons_succ]
  refine @wpG_tk _ _ _ _ _ (some 5) (.bool true) _ _ rfl (.val (by rfl) (fun _ _ => rfl)) ?_
  simp only [Act.put, setIfInBounds_toArray, set_cons_zero, set_cons_succ]
  refine wpG_done (fun V1 hv2 => ?_)
  have GC3 := Lib.hid hv2
  clear hv2
  go_upto_region 2 with fail
  refine wpG_region ?_
  refine @wpG_tk _ _ _ _ _ (some 22) (.agg #[.int .i64 b1, .int .i64 b2, .int .i64 b3, .int .i64 b4, .int .i64 b5, .int .i64 b6]) _ _ rfl (.load_mid (by rfl) 37 (.tmp 2) rfl (w.heap.size) 0 rfl [.int .i64 b1, .int .i64 b2, .int .i64 b3, .int .i64 b4, .int .i64 b5, .int .i64 b6] _ (fun W hg => (R0.out.below (GC3.out.trans hg)).range) Try.underlying37 rfl (by kernel_rfl)) ?_
  simp only [Act.put, setIfInBounds_toArray, set_cons_zero, set_cons_succ]
  refine wpG_call (some 23) 22 #[.agg #[.int .i64 b1, .int .i64 b2, .int .i64 b3, .int .i64 b4, .int .i64 b5, .int .i64 b6]] rfl (by rfl) (fun W => by go_simp) (fun W4 hg5 => ?_)
  refine (cubes_any b1 b2 b3 b4 b5 b6 W4).mono ?_
  rintro e w6 ⟨A1, n1, c1, rfl, hn, own, bel⟩
  refine ⟨_, rfl, ?_⟩
  rw [← HCL.out] at hn own
  rw [HEV.out]
  have hnn : n = n1 := by rw [hn, HN.out]
  subst hnn
  have hGW := Gr.to G0.out (GC3.out.trans hg5)
  have R8 := Lib.hid ((R0.out.below (GC3.out.trans hg5)).below bel)
  have R9 := Lib.hid ((R1.out.below (GC3.out.trans hg5)).below bel)
  have OW10 := Lib.hid (own_mono own hGW.size)
  have G7 := Lib.hid (hGW.trans (bel.mono hGW.size))
  clear own bel hGW hn hg5
  simp only [Act.put, setIfInBounds_toArray, set_cons_zero, set_cons_succ]
  refine @wpG_tk _ _ _ _ _ (some 21) (.tuple #[.slice A1 n c1, .int .i64 0]) _ _ rfl (.val (by rfl) (fun _ _ => rfl)) ?_
  simp only [Act.put, setIfInBounds_toArray, set_cons_zero, set_cons_succ]
  refine @wpG_tk _ _ _ _ _ (some 24) (.slice A1 n c1) _ _ rfl (.val (by rfl) (fun W hg => by go_simp)) ?_
  simp only [Act.put, setIfInBounds_toArray, set_cons_zero, set_cons_succ]
  refine @wpG_tk _ _ _ _ _ (some 25) (.int .i64 0) _ _ rfl (.val (by rfl) (fun W hg => by go_simp)) ?_
  simp only [Act.put, setIfInBounds_toArray, set_cons_zero, set_cons_succ]
  refine @wpG_tk _ _ _ _ _ (some 6) (.slice A1 n c1) _ _ rfl (.val (by rfl) (fun _ _ => rfl)) ?_
  simp only [Act.put, setIfInBounds_toArray, set_cons_zero, set_cons_succ]
  refine @wpG_tk _ _ _ _ _ (some 7) (.int .i64 0) _ _ rfl (.val (by rfl) (fun _ _ => rfl)) ?_
  simp only [Act.put, setIfInBounds_toArray, set_cons_zero, set_cons_succ]
  refine wpG_done (fun V11 hv12 => ?_)
  have GC13 := Lib.hid hv12
  clear hv12
  go_upto_region 3 with fail
  refine wpG_region ?_
  refine @wpG_tk _ _ _ _ _ (some 27) (.agg #[.int .i64 b1, .int .i64 b2, .int .i64 b3, .int .i64 b4, .int .i64 b5, .int .i64 b6]) _ _ rfl (.load_mid (by rfl) 37 (.tmp 2) rfl (w.heap.size) 0 rfl [.int .i64 b1, .int .i64 b2, .int .i64 b3, .int .i64 b4, .int .i64 b5, .int .i64 b6] _ (fun W hg => (R8.out.below (GC13.out.trans hg)).range) Try.underlying37 rfl (by kernel_rfl)) ?_
  simp only [Act.put, setIfInBounds_toArray, set_cons_zero, set_cons_succ]
  refine wpG_call (some 28) 24 #[.agg #[.int .i64 b1, .int .i64 b2, .int .i64 b3, .int .i64 b4, .int .i64 b5, .int .i64 b6]] rfl (by rfl) (fun W => by go_simp) (fun W14 hg15 => ?_)
  refine (runs_any b1 b2 b3 b4 b5 b6 W14).mono ?_
  rintro e w16 ⟨A3, n3, c3, rfl, hn, own, bel⟩
  refine ⟨_, rfl, ?_⟩
  rw [← HRL.out] at hn own
  rw [HEV.out]
  have hnn : m = n3 := by rw [hn, HM.out]
  subst hnn
  have hGW := Gr.to G7.out (GC13.out.trans hg15)
  have R18 := Lib.hid ((R8.out.below (GC13.out.trans hg15)).below bel)
  have R19 := Lib.hid ((R9.out.below (GC13.out.trans hg15)).below bel)
  have OW20 := Lib.hid (own_gr (own_gr OW10.out (GC13.out.trans hg15)) bel)
  have OW21 := Lib.hid (own_mono own hGW.size)
  have G17 := Lib.hid (hGW.trans (bel.mono hGW.size))
  clear own bel hGW hn hg15
  simp only [Act.put, setIfInBounds_toArray, set_cons_zero, set_cons_succ]
  refine @wpG_tk _ _ _ _ _ (some 26) (.tuple #[.slice A3 m c3, .int .i64 0]) _ _ rfl (.val (by rfl) (fun _ _ => rfl)) ?_
  simp only [Act.put, setIfInBounds_toArray, set_cons_zero, set_cons_succ]
  refine @wpG_tk _ _ _ _ _ (some 29) (.slice A3 m c3) _ _ rfl (.val (by rfl) (fun W hg => by go_simp)) ?_
  simp only [Act.put, setIfInBounds_toArray, set_cons_zero, set_cons_succ]
  refine @wpG_tk _ _ _ _ _ (some 30) (.int .i64 0) _ _ rfl (.val (by rfl) (fun W hg => by go_simp)) ?_
  simp only [Act.put, setIfInBounds_toArray, set_cons_zero, set_cons_succ]
  refine @wpG_tk _ _ _ _ _ (some 8) (.slice A3 m c3) _ _ rfl (.val (by rfl) (fun _ _ => rfl)) ?_
  simp only [Act.put, setIfInBounds_toArray, set_cons_zero, set_cons_succ]
  refine @wpG_tk _ _ _ _ _ (some 9) (.int .i64 0) _ _ rfl (.val (by rfl) (fun _ _ => rfl)) ?_
  simp only [Act.put, setIfInBounds_toArray, set_cons_zero, set_cons_succ]
  refine wpG_done (fun V22 hv23 => ?_)
  have GC24 := Lib.hid hv23
  clear hv23
  go_upto_region 4 with fail
  refine wpG_region ?_
  refine @wpG_tk _ _ _ _ _ (some 31) (.bool true) _ _ rfl (.val (by rfl) (fun _ _ => rfl)) ?_
  simp only [Act.put, setIfInBounds_toArray, set_cons_zero, set_cons_succ]
  refine @wpG_tk _ _ _ _ _ (some 32) (.bool false) _ _ rfl (.val (by rfl) (fun W hg => by go_simp)) ?_
  simp only [Act.put, setIfInBounds_toArray, set_cons_zero, set_cons_succ]
  refine @wpG_tk _ _ _ _ _ (some 33) (.bool false) _ _ rfl (.val (by rfl) (fun _ _ => rfl)) ?_
  simp only [Act.put, setIfInBounds_toArray, set_cons_zero, set_cons_succ]
  refine @wpG_tk _ _ _ _ _ (some 34) (.int .i64 0) _ _ rfl (.val (by rfl) (fun _ _ => rfl)) ?_
  simp only [Act.put, setIfInBounds_toArray, set_cons_zero, set_cons_succ]
  refine @wpG_tk _ _ _ _ _ (some 35) (.bool false) _ _ rfl (.val (by rfl) (fun W hg => by have hq : ¬ (0 ≠ 0) := (by omega); first | (go_simp; done) | (go_simp <;> omega))) ?_
  simp only [Act.put, setIfInBounds_toArray, set_cons_zero, set_cons_succ]
  refine @wpG_tk _ _ _ _ _ (some 36) (.bool false) _ _ rfl (.val (by rfl) (fun W hg => by go_simp)) ?_
  simp only [Act.put, setIfInBounds_toArray, set_cons_zero, set_cons_succ]
  refine @wpG_tk _ _ _ _ _ (some 37) (.bool false) _ _ rfl (.val (by rfl) (fun _ _ => rfl)) ?_
  simp only [Act.put, setIfInBounds_toArray, set_cons_zero, set_cons_succ]
  refine @wpG_tk _ _ _ _ _ (some 38) (.int .i64 0) _ _ rfl (.val (by rfl) (fun _ _ => rfl)) ?_
  simp only [Act.put, setIfInBounds_toArray, set_cons_zero, set_cons_succ]
  refine @wpG_tk _ _ _ _ _ (some 39) (.bool false) _ _ rfl (.val (by rfl) (fun W hg => by have hq : ¬ (0 ≠ 0) := (by omega); first | (go_simp; done) | (go_simp <;> omega))) ?_
  simp only [Act.put, setIfInBounds_toArray, set_cons_zero, set_cons_succ]
  refine @wpG_tk _ _ _ _ _ (some 40) (.bool false) _ _ rfl (.val (by rfl) (fun W hg => by go_simp)) ?_
  simp only [Act.put, setIfInBounds_toArray, set_cons_zero, set_cons_succ]
  refine wpG_done (fun V25 hv26 => ?_)
  have GC27 := Lib.hid (GC24.out.trans hv26)
  clear hv26
  go_upto_region 6 with fail
  refine wpG_region ?_
  refine @wpG_tk _ _ _ _ _ (some 10) (.int .i64 0) _ _ rfl (.val (by rfl) (fun _ _ => rfl)) ?_
  simp only [Act.put, setIfInBounds_toArray, set_cons_zero, set_cons_succ]
  refine wpG_done (fun V28 hv29 => ?_)
  have GC30 := Lib.hid (GC27.out.trans hv29)
  clear hv29
  go_upto_region 7 with fail
  refine wpG_region ?_
  refine @wpG_tk _ _ _ _ _ (some 11) (.int .i64 0) _ _ rfl (.val (by rfl) (fun _ _ => rfl)) ?_
  simp only [Act.put, setIfInBounds_toArray, set_cons_zero, set_cons_succ]
  refine wpG_done (fun V31 hv32 => ?_)
  have GC33 := Lib.hid (GC30.out.trans hv32)
  clear hv32
  go_wp2_with fail
  go_loopw [11, 10] (fun i v wr => ∃ k c : Nat, i = .int .i64 (k : Int) ∧ v = .int .i64 (c : Int) ∧ k ≤ n ∧ c = (cl.take k).countP (Mo.inQ p q r) ∧ TSt w [.int .i64 b1, .int .i64 b2, .int .i64 b3, .int .i64 b4, .int .i64 b5, .int .i64 b6] [.int .i64 p, .int .i64 q, .int .i64 r] A1 A3 n m c1 c3 cl rl (w.heap.size + 1) wr) (fun i _ _ => n - (intOf i).toNat)
  case atStart => exact ⟨0, 0, rfl, rfl, by omega, rfl, ⟨R18.out.below GC33.out, R19.out.below GC33.out, own_gr OW20.out GC33.out, own_gr OW21.out GC33.out, Gr.to G17.out GC33.out⟩⟩
  case round =>
    obtain ⟨k, c, rfl, rfl, hk, hc, hst⟩ := hrel
    have HB1 := Lib.hid hst.rb
    have HP1 := Lib.hid hst.rp
    have HOA1 := Lib.hid hst.o1
    have HOC1 := Lib.hid hst.o3
    have HG1 := Lib.hid hst.bel
    clear hst
    have hck : c ≤ k := by rw [hc]; exact Nat.le_trans List.countP_le_length (by rw [List.length_take]; omega)
    by_cases hlt : k < n
    rotate_left
    · have hkn : n = k := by omega
      have hc1 : c = cl.countP (Mo.inQ p q r) := by rw [hc, ← hkn, HN.out, List.take_length]
      have hcc : c = if Mo.cellB b1 b2 b3 b4 b5 b6 p q r then 1 else 0 := by rw [hc1, Mo.cnt_points HOKM.out, HCLL.out, Mo.cnt_point]
      have HCC := Lib.hid hcc
      clear hc hc1 hcc hlt hk
      obtain rfl := hkn
      go_upto_region 8 with fail
      refine wpG_region ?_
      refine @wpG_tk _ _ _ _ _ (some 51) (.int .i64 (n : Int)) _ _ rfl (.val (by rfl) (fun _ _ => rfl)) ?_
      simp only [Act.put, setIfInBounds_toArray, set_cons_zero, set_cons_succ]
      refine @wpG_tk _ _ _ _ _ (some 52) (.slice A1 n c1) _ _ rfl (.val (by rfl) (fun _ _ => rfl)) ?_
      simp only [Act.put, setIfInBounds_toArray, set_cons_zero, set_cons_succ]
      refine @wpG_tk _ _ _ _ _ (some 53) (.int .i64 (n : Int)) _ _ rfl (.val (by rfl) (fun W hg => by go_simp)) ?_
      simp only [Act.put, setIfInBounds_toArray, set_cons_zero, set_cons_succ]
      refine @wpG_tk _ _ _ _ _ (some 54) (.bool false) _ _ rfl (.val (by rfl) (fun W hg => by have hq : ¬ ((n : Int) < (n : Int)) := (by omega); first | (go_simp; done) | (go_simp <;> omega))) ?_
      simp only [Act.put, setIfInBounds_toArray, set_cons_zero, set_cons_succ]
      refine wpG_done (fun V34 hv35 => ?_)
      have GC36 := Lib.hid hv35
      clear hv35
      go_upto_region 20 with fail
      refine wpG_region ?_
      refine @wpG_tk _ _ _ _ _ (some 14) (.int .i64 0) _ _ rfl (.val (by rfl) (fun _ _ => rfl)) ?_
      simp only [Act.put, setIfInBounds_toArray, set_cons_zero, set_cons_succ]
      refine wpG_done (fun V37 hv38 => ?_)
      have GC39 := Lib.hid (GC36.out.trans hv38)
      clear hv38
      obtain ⟨xp, hxp⟩ : ∃ x, x = Mo.enc p q r := ⟨_, rfl⟩
      have HXP := Lib.hid hxp
      have hxb : -1 ≤ xp ∧ xp < 4398046511104 := by rw [hxp]; exact Mo.enc_bd _ _ _
      clear hxp
      go_upto_region 21 with fail
      refine wpG_region ?_
      refine @wpG_tk _ _ _ _ _ (some 229) (.agg #[.int .i64 p, .int .i64 q, .int .i64 r]) _ _ rfl (.load_mid (by rfl) 23 (.tmp 3) rfl (w.heap.size + 1) 0 rfl [.int .i64 p, .int .i64 q, .int .i64 r] _ (fun W hg => (HP1.out.below (GC39.out.trans hg)).range) Try.underlying23 rfl (by kernel_rfl)) ?_
      simp only [Act.put, setIfInBounds_toArray, set_cons_zero, set_cons_succ]
      refine @wpG_tk _ _ _ _ _ (some 230) (.int .i64 xp) _ _ rfl (.call (f := 13) (args := #[.agg #[.int .i64 p, .int .i64 q, .int .i64 r]]) (by rfl) (fun W => by go_simp) (fun W hg => (HXP.out ▸ encode_any p q r W))) ?_
      simp only [Act.put, setIfInBounds_toArray, set_cons_zero, set_cons_succ]
      refine @wpG_tk _ _ _ _ _ (some 15) (.int .i64 xp) _ _ rfl (.val (by rfl) (fun _ _ => rfl)) ?_
      simp only [Act.put, setIfInBounds_toArray, set_cons_zero, set_cons_succ]
      refine wpG_done (fun V40 hv41 => ?_)
      have GC42 := Lib.hid (GC39.out.trans hv41)
      clear hv41
      go_upto_region 22 with fail
      refine wpG_region ?_
      refine @wpG_tk _ _ _ _ _ (some 16) (.int .i64 0) _ _ rfl (.val (by rfl) (fun _ _ => rfl)) ?_
      simp only [Act.put, setIfInBounds_toArray, set_cons_zero, set_cons_succ]
      refine wpG_done (fun V43 hv44 => ?_)
      have GC45 := Lib.hid (GC42.out.trans hv44)
      clear hv44
      go_wp2_with fail
      go_loopw [16, 14] (fun i v wr => ∃ k d : Nat, i = .int .i64 (k : Int) ∧ v = .int .i64 (d : Int) ∧ k ≤ m ∧ d = (rl.take k).countP (Mo.inR xp) ∧ TSt w [.int .i64 b1, .int .i64 b2, .int .i64 b3, .int .i64 b4, .int .i64 b5, .int .i64 b6] [.int .i64 p, .int .i64 q, .int .i64 r] A1 A3 n m c1 c3 cl rl (w.heap.size + 1) wr) (fun i _ _ => m - (intOf i).toNat)
      case atStart => exact ⟨0, 0, rfl, rfl, by omega, rfl, ⟨HB1.out.below GC45.out, HP1.out.below GC45.out, own_gr HOA1.out GC45.out, own_gr HOC1.out GC45.out, Gr.to HG1.out GC45.out⟩⟩
      case round =>
        obtain ⟨k2, d, rfl, rfl, hk, hd, hst⟩ := hrel
        have HB2 := Lib.hid hst.rb
        have HP2 := Lib.hid hst.rp
        have HOA2 := Lib.hid hst.o1
        have HOC2 := Lib.hid hst.o3
        have HG2 := Lib.hid hst.bel
        clear hst
        have hdk : d ≤ k2 := by rw [hd]; exact Nat.le_trans List.countP_le_length (by rw [List.length_take]; omega)
        by_cases hlt : k2 < m
        rotate_left
        · have hkm : k2 = m := by omega
          have hdd : d = if Mo.cellB b1 b2 b3 b4 b5 b6 p q r then 1 else 0 := by rw [hd, hkm, HM.out, List.take_length, HRL.out, (Mo.runs_all HEV.out).2, HXP.out, Mo.cnt_point]
          have HDD := Lib.hid hdd
          clear hd hdd hkm
          cases hce : Mo.cellB b1 b2 b3 b4 b5 b6 p q r with
          | true => as_aux_lemma =>
              have e1 : 1 = c := by rw [HCC.out, hce]; rfl
              have e2 : 1 = d := by rw [HDD.out, hce]; rfl
              have HCE := Lib.hid hce
              clear hce HCC HDD hdk
              obtain rfl := e1
              obtain rfl := e2
              go_upto_region 23 with fail
              refine wpG_region ?_
              refine @wpG_tk _ _ _ _ _ (some 231) (.int .i64 (k2 : Int)) _ _ rfl (.val (by rfl) (fun _ _ => rfl)) ?_
              simp only [Act.put, setIfInBounds_toArray, set_cons_zero, set_cons_succ]
              refine @wpG_tk _ _ _ _ _ (some 232) (.slice A3 m c3) _ _ rfl (.val (by rfl) (fun _ _ => rfl)) ?_
              simp only [Act.put, setIfInBounds_toArray, set_cons_zero, set_cons_succ]
              refine @wpG_tk _ _ _ _ _ (some 233) (.int .i64 (m : Int)) _ _ rfl (.val (by rfl) (fun W hg => by go_simp)) ?_
              simp only [Act.put, setIfInBounds_toArray, set_cons_zero, set_cons_succ]
              refine @wpG_tk _ _ _ _ _ (some 234) (.bool false) _ _ rfl (.val (by rfl) (fun W hg => by have hq : ¬ ((k2 : Int) < (m : Int)) := (by omega); first | (go_simp; done) | (go_simp <;> omega))) ?_
              simp only [Act.put, setIfInBounds_toArray, set_cons_zero, set_cons_succ]
              refine wpG_done (fun V46 hv47 => ?_)
              have GC48 := Lib.hid hv47
              clear hv47
              go_upto_region 29 with fail
              refine wpG_region ?_
              refine @wpG_tk _ _ _ _ _ (some 17) (.int .i64 0) _ _ rfl (.val (by rfl) (fun _ _ => rfl)) ?_
              simp only [Act.put, setIfInBounds_toArray, set_cons_zero, set_cons_succ]
              refine wpG_done (fun V49 hv50 => ?_)
              have GC51 := Lib.hid (GC48.out.trans hv50)
              clear hv50
              go_upto_region 30 with fail
              refine wpG_region ?_
              refine @wpG_tk _ _ _ _ _ (some 285) (.agg #[.int .i64 b1, .int .i64 b2, .int .i64 b3, .int .i64 b4, .int .i64 b5, .int .i64 b6]) _ _ rfl (.load_mid (by rfl) 37 (.tmp 2) rfl (w.heap.size) 0 rfl [.int .i64 b1, .int .i64 b2, .int .i64 b3, .int .i64 b4, .int .i64 b5, .int .i64 b6] _ (fun W hg => (HB2.out.below (GC51.out.trans hg)).range) Try.underlying37 rfl (by kernel_rfl)) ?_
              simp only [Act.put, setIfInBounds_toArray, set_cons_zero, set_cons_succ]
              refine @wpG_tk _ _ _ _ _ (some 286) (.agg #[.int .i64 p, .int .i64 q, .int .i64 r]) _ _ rfl (.load_mid (by rfl) 23 (.tmp 3) rfl (w.heap.size + 1) 0 rfl [.int .i64 p, .int .i64 q, .int .i64 r] _ (fun W hg => (HP2.out.below (GC51.out.trans hg)).range) Try.underlying23 rfl (by kernel_rfl)) ?_
              simp only [Act.put, setIfInBounds_toArray, set_cons_zero, set_cons_succ]
              refine @wpG_tk _ _ _ _ _ (some 287) (.bool true) _ _ rfl (.call (f := 33) (args := #[.agg #[.int .i64 b1, .int .i64 b2, .int .i64 b3, .int .i64 b4, .int .i64 b5, .int .i64 b6], .agg #[.int .i64 p, .int .i64 q, .int .i64 r]]) (by rfl) (fun W => by go_simp) (fun W hg => (HCE.out ▸ cell_any b1 b2 b3 b4 b5 b6 p q r W))) ?_
              simp only [Act.put, setIfInBounds_toArray, set_cons_zero, set_cons_succ]
              refine @wpG_tk _ _ _ _ _ (some 18) (.bool true) _ _ rfl (.val (by rfl) (fun _ _ => rfl)) ?_
              simp only [Act.put, setIfInBounds_toArray, set_cons_zero, set_cons_succ]
              refine wpG_done (fun V52 hv53 => ?_)
              have GC54 := Lib.hid (GC51.out.trans hv53)
              clear hv53
              go_upto_region 31 with fail
              refine wpG_region ?_
              refine @wpG_tk _ _ _ _ _ (some 288) (.bool true) _ _ rfl (.val (by rfl) (fun _ _ => rfl)) ?_
              simp only [Act.put, setIfInBounds_toArray, set_cons_zero, set_cons_succ]
              refine wpG_done (fun V55 hv56 => ?_)
              have GC57 := Lib.hid (GC54.out.trans hv56)
              clear hv56
              go_upto_region 32 with fail
              refine wpG_region ?_
              refine @wpG_tk _ _ _ _ _ (some 17) (.int .i64 1) _ _ rfl (.val (by rfl) (fun _ _ => rfl)) ?_
              simp only [Act.put, setIfInBounds_toArray, set_cons_zero, set_cons_succ]
              refine wpG_done (fun V58 hv59 => ?_)
              have GC60 := Lib.hid (GC57.out.trans hv59)
              clear hv59
              go_upto_region 33 with fail
              refine wpG_region ?_
              refine @wpG_tk _ _ _ _ _ (some 289) (.bool true) _ _ rfl (.call (f := 21) (args := #[]) (by rfl) (fun W => by go_simp) (fun W hg => sanity_any W)) ?_
              simp only [Act.put, setIfInBounds_toArray, set_cons_zero, set_cons_succ]
              refine @wpG_tk _ _ _ _ _ (some 290) (.bool true) _ _ rfl (.val (by rfl) (fun _ _ => rfl)) ?_
              simp only [Act.put, setIfInBounds_toArray, set_cons_zero, set_cons_succ]
              refine @wpG_tk _ _ _ _ _ (some 291) (.int .i64 1) _ _ rfl (.val (by rfl) (fun _ _ => rfl)) ?_
              simp only [Act.put, setIfInBounds_toArray, set_cons_zero, set_cons_succ]
              refine @wpG_tk _ _ _ _ _ (some 292) (.int .i64 1) _ _ rfl (.val (by rfl) (fun _ _ => rfl)) ?_
              simp only [Act.put, setIfInBounds_toArray, set_cons_zero, set_cons_succ]
              refine @wpG_tk _ _ _ _ _ (some 293) (.bool true) _ _ rfl (.val (by rfl) (fun W hg => by go_simp)) ?_
              simp only [Act.put, setIfInBounds_toArray, set_cons_zero, set_cons_succ]
              refine @wpG_tk _ _ _ _ _ (some 294) (.bool true) _ _ rfl (.val (by rfl) (fun W hg => by go_simp)) ?_
              simp only [Act.put, setIfInBounds_toArray, set_cons_zero, set_cons_succ]
              refine @wpG_tk _ _ _ _ _ (some 295) (.bool true) _ _ rfl (.val (by rfl) (fun _ _ => rfl)) ?_
              simp only [Act.put, setIfInBounds_toArray, set_cons_zero, set_cons_succ]
              refine @wpG_tk _ _ _ _ _ (some 296) (.int .i64 1) _ _ rfl (.val (by rfl) (fun _ _ => rfl)) ?_
              simp only [Act.put, setIfInBounds_toArray, set_cons_zero, set_cons_succ]
              refine @wpG_tk _ _ _ _ _ (some 297) (.int .i64 1) _ _ rfl (.val (by rfl) (fun _ _ => rfl)) ?_
              simp only [Act.put, setIfInBounds_toArray, set_cons_zero, set_cons_succ]
              refine @wpG_tk _ _ _ _ _ (some 298) (.bool true) _ _ rfl (.val (by rfl) (fun W hg => by go_simp)) ?_
              simp only [Act.put, setIfInBounds_toArray, set_cons_zero, set_cons_succ]
              refine @wpG_tk _ _ _ _ _ (some 299) (.bool true) _ _ rfl (.val (by rfl) (fun W hg => by go_simp)) ?_
              simp only [Act.put, setIfInBounds_toArray, set_cons_zero, set_cons_succ]
              refine @wpG_tk _ _ _ _ _ (some 4) (.bool true) _ _ rfl (.val (by rfl) (fun _ _ => rfl)) ?_
              simp only [Act.put, setIfInBounds_toArray, set_cons_zero, set_cons_succ]
              refine wpG_done (fun V61 hv62 => ?_)
              have GC63 := Lib.hid (GC60.out.trans hv62)
              clear hv62
              go_wp2_with fail
              go_ret
              exact ⟨rfl, Gr.to HG2.out GC63.out⟩
          | false => as_aux_lemma =>
              have e1 : 0 = c := by rw [HCC.out, hce]; rfl
              have e2 : 0 = d := by rw [HDD.out, hce]; rfl
              have HCE := Lib.hid hce
              clear hce HCC HDD hdk
              obtain rfl := e1
              obtain rfl := e2
              go_upto_region 23 with fail
              refine wpG_region ?_
              refine @wpG_tk _ _ _ _ _ (some 231) (.int .i64 (k2 : Int)) _ _ rfl (.val (by rfl) (fun _ _ => rfl)) ?_
              simp only [Act.put, setIfInBounds_toArray, set_cons_zero, set_cons_succ]
              refine @wpG_tk _ _ _ _ _ (some 232) (.slice A3 m c3) _ _ rfl (.val (by rfl) (fun _ _ => rfl)) ?_
              simp only [Act.put, setIfInBounds_toArray, set_cons_zero, set_cons_succ]
              refine @wpG_tk _ _ _ _ _ (some 233) (.int .i64 (m : Int)) _ _ rfl (.val (by rfl) (fun W hg => by go_simp)) ?_
              simp only [Act.put, setIfInBounds_toArray, set_cons_zero, set_cons_succ]
              refine @wpG_tk _ _ _ _ _ (some 234) (.bool false) _ _ rfl (.val (by rfl) (fun W hg => by have hq : ¬ ((k2 : Int) < (m : Int)) := (by omega); first | (go_simp; done) | (go_simp <;> omega))) ?_
              simp only [Act.put, setIfInBounds_toArray, set_cons_zero, set_cons_succ]
              refine wpG_done (fun V64 hv65 => ?_)
              have GC66 := Lib.hid hv65
              clear hv65
              go_upto_region 29 with fail
              refine wpG_region ?_
              refine @wpG_tk _ _ _ _ _ (some 17) (.int .i64 0) _ _ rfl (.val (by rfl) (fun _ _ => rfl)) ?_
              simp only [Act.put, setIfInBounds_toArray, set_cons_zero, set_cons_succ]
              refine wpG_done (fun V67 hv68 => ?_)
              have GC69 := Lib.hid (GC66.out.trans hv68)
              clear hv68
              go_upto_region 30 with fail
              refine wpG_region ?_
              refine @wpG_tk _ _ _ _ _ (some 285) (.agg #[.int .i64 b1, .int .i64 b2, .int .i64 b3, .int .i64 b4, .int .i64 b5, .int .i64 b6]) _ _ rfl (.load_mid (by rfl) 37 (.tmp 2) rfl (w.heap.size) 0 rfl [.int .i64 b1, .int .i64 b2, .int .i64 b3, .int .i64 b4, .int .i64 b5, .int .i64 b6] _ (fun W hg => (HB2.out.below (GC69.out.trans hg)).range) Try.underlying37 rfl (by kernel_rfl)) ?_
              simp only [Act.put, setIfInBounds_toArray, set_cons_zero, set_cons_succ]
              refine @wpG_tk _ _ _ _ _ (some 286) (.agg #[.int .i64 p, .int .i64 q, .int .i64 r]) _ _ rfl (.load_mid (by rfl) 23 (.tmp 3) rfl (w.heap.size + 1) 0 rfl [.int .i64 p, .int .i64 q, .int .i64 r] _ (fun W hg => (HP2.out.below (GC69.out.trans hg)).range) Try.underlying23 rfl (by kernel_rfl)) ?_
              simp only [Act.put, setIfInBounds_toArray, set_cons_zero, set_cons_succ]
              refine @wpG_tk _ _ _ _ _ (some 287) (.bool false) _ _ rfl (.call (f := 33) (args := #[.agg #[.int .i64 b1, .int .i64 b2, .int .i64 b3, .int .i64 b4, .int .i64 b5, .int .i64 b6], .agg #[.int .i64 p, .int .i64 q, .int .i64 r]]) (by rfl) (fun W => by go_simp) (fun W hg => (HCE.out ▸ cell_any b1 b2 b3 b4 b5 b6 p q r W))) ?_
              simp only [Act.put, setIfInBounds_toArray, set_cons_zero, set_cons_succ]
              refine @wpG_tk _ _ _ _ _ (some 18) (.bool false) _ _ rfl (.val (by rfl) (fun _ _ => rfl)) ?_
              simp only [Act.put, setIfInBounds_toArray, set_cons_zero, set_cons_succ]
              refine wpG_done (fun V70 hv71 => ?_)
              have GC72 := Lib.hid (GC69.out.trans hv71)
              clear hv71
              go_upto_region 31 with fail
              refine wpG_region ?_
              refine @wpG_tk _ _ _ _ _ (some 288) (.bool false) _ _ rfl (.val (by rfl) (fun _ _ => rfl)) ?_
              simp only [Act.put, setIfInBounds_toArray, set_cons_zero, set_cons_succ]
              refine wpG_done (fun V73 hv74 => ?_)
              have GC75 := Lib.hid (GC72.out.trans hv74)
              clear hv74
              go_upto_region 33 with fail
              refine wpG_region ?_
              refine @wpG_tk _ _ _ _ _ (some 289) (.bool true) _ _ rfl (.call (f := 21) (args := #[]) (by rfl) (fun W => by go_simp) (fun W hg => sanity_any W)) ?_
              simp only [Act.put, setIfInBounds_toArray, set_cons_zero, set_cons_succ]
              refine @wpG_tk _ _ _ _ _ (some 290) (.bool true) _ _ rfl (.val (by rfl) (fun _ _ => rfl)) ?_
              simp only [Act.put, setIfInBounds_toArray, set_cons_zero, set_cons_succ]
              refine @wpG_tk _ _ _ _ _ (some 291) (.int .i64 0) _ _ rfl (.val (by rfl) (fun _ _ => rfl)) ?_
              simp only [Act.put, setIfInBounds_toArray, set_cons_zero, set_cons_succ]
              refine @wpG_tk _ _ _ _ _ (some 292) (.int .i64 0) _ _ rfl (.val (by rfl) (fun _ _ => rfl)) ?_
              simp only [Act.put, setIfInBounds_toArray, set_cons_zero, set_cons_succ]
              refine @wpG_tk _ _ _ _ _ (some 293) (.bool true) _ _ rfl (.val (by rfl) (fun W hg => by go_simp)) ?_
              simp only [Act.put, setIfInBounds_toArray, set_cons_zero, set_cons_succ]
              refine @wpG_tk _ _ _ _ _ (some 294) (.bool true) _ _ rfl (.val (by rfl) (fun W hg => by go_simp)) ?_
              simp only [Act.put, setIfInBounds_toArray, set_cons_zero, set_cons_succ]
              refine @wpG_tk _ _ _ _ _ (some 295) (.bool true) _ _ rfl (.val (by rfl) (fun _ _ => rfl)) ?_
              simp only [Act.put, setIfInBounds_toArray, set_cons_zero, set_cons_succ]
              refine @wpG_tk _ _ _ _ _ (some 296) (.int .i64 0) _ _ rfl (.val (by rfl) (fun _ _ => rfl)) ?_
              simp only [Act.put, setIfInBounds_toArray, set_cons_zero, set_cons_succ]
              refine @wpG_tk _ _ _ _ _ (some 297) (.int .i64 0) _ _ rfl (.val (by rfl) (fun _ _ => rfl)) ?_
              simp only [Act.put, setIfInBounds_toArray, set_cons_zero, set_cons_succ]
              refine @wpG_tk _ _ _ _ _ (some 298) (.bool true) _ _ rfl (.val (by rfl) (fun W hg => by go_simp)) ?_
              simp only [Act.put, setIfInBounds_toArray, set_cons_zero, set_cons_succ]
              refine @wpG_tk _ _ _ _ _ (some 299) (.bool true) _ _ rfl (.val (by rfl) (fun W hg => by go_simp)) ?_
              simp only [Act.put, setIfInBounds_toArray, set_cons_zero, set_cons_succ]
              refine @wpG_tk _ _ _ _ _ (some 4) (.bool true) _ _ rfl (.val (by rfl) (fun _ _ => rfl)) ?_
              simp only [Act.put, setIfInBounds_toArray, set_cons_zero, set_cons_succ]
              refine wpG_done (fun V76 hv77 => ?_)
              have GC78 := Lib.hid (GC75.out.trans hv77)
              clear hv77
              go_wp2_with fail
              go_ret
              exact ⟨rfl, Gr.to HG2.out GC78.out⟩
        · obtain ⟨e, he⟩ : ∃ e, rl[k2]? = some e := ⟨_, List.getElem?_eq_getElem (by rw [← HM.out]; exact hlt)⟩
          have hgd := HGD.out
          have hft := hgd.1 k2 e he
          have hcs := Mo.countP_succ (Mo.inR xp) he
          rw [← hd] at hcs
          have HCS := Lib.hid hcs
          have HE := Lib.hid he
          have hrb : -1 ≤ e.2 ∧ e.2 ≤ 8796093022208 := HRB.out e (List.mem_of_getElem? he)
          obtain ⟨e0, he0⟩ : ∃ e0, 0 < k2 → rl[k2 - 1]? = some e0 := by
            by_cases h : 0 < k2
            · have h1 : k2 - 1 < rl.length := by rw [← HM.out]; omega
              exact ⟨rl[k2 - 1], fun _ => List.getElem?_eq_getElem h1⟩
            · exact ⟨e, fun h2 => absurd h2 h⟩
          have hgap : 0 < k2 → e0.2 + 1 < e.1 := fun h => hgd.2 (k2 - 1) e0 e (he0 h) (by rw [show k2 - 1 + 1 = k2 by omega]; exact he)
          have hrb0 : 0 < k2 → -1 ≤ e0.2 ∧ e0.2 ≤ 8796093022208 := fun h => HRB.out e0 (List.mem_of_getElem? (he0 h))
          have HE0 := Lib.hid he0
          clear he hcs hd hgd he0
          obtain ⟨g3, rfl⟩ := own_addr HOC2.out (by omega)
          go_upto_region 23 with fail
          refine wpG_region ?_
          refine @wpG_tk _ _ _ _ _ (some 231) (.int .i64 (k2 : Int)) _ _ rfl (.val (by rfl) (fun _ _ => rfl)) ?_
          simp only [Act.put, setIfInBounds_toArray, set_cons_zero, set_cons_succ]
          refine @wpG_tk _ _ _ _ _ (some 232) (.slice (some ⟨g3, 0, none⟩) m c3) _ _ rfl (.val (by rfl) (fun _ _ => rfl)) ?_
          simp only [Act.put, setIfInBounds_toArray, set_cons_zero, set_cons_succ]
          refine @wpG_tk _ _ _ _ _ (some 233) (.int .i64 (m : Int)) _ _ rfl (.val (by rfl) (fun W hg => by go_simp)) ?_
          simp only [Act.put, setIfInBounds_toArray, set_cons_zero, set_cons_succ]
          refine @wpG_tk _ _ _ _ _ (some 234) (.bool true) _ _ rfl (.val (by rfl) (fun W hg => by have hq : ((k2 : Int) < (m : Int)) := (by omega); first | (go_simp; done) | (go_simp <;> omega))) ?_
          simp only [Act.put, setIfInBounds_toArray, set_cons_zero, set_cons_succ]
          refine wpG_done (fun V79 hv80 => ?_)
          have GC81 := Lib.hid hv80
          clear hv80
          go_upto_region 25 with fail
          refine wpG_region ?_
          refine @wpG_tk _ _ _ _ _ (some 237) (.int .i64 xp) _ _ rfl (.val (by rfl) (fun _ _ => rfl)) ?_
          simp only [Act.put, setIfInBounds_toArray, set_cons_zero, set_cons_succ]
          refine @wpG_tk _ _ _ _ _ (some 238) (.slice (some ⟨g3, 0, none⟩) m c3) _ _ rfl (.val (by rfl) (fun _ _ => rfl)) ?_
          simp only [Act.put, setIfInBounds_toArray, set_cons_zero, set_cons_succ]
          refine @wpG_tk _ _ _ _ _ (some 239) (.int .i64 (k2 : Int)) _ _ rfl (.val (by rfl) (fun _ _ => rfl)) ?_
          simp only [Act.put, setIfInBounds_toArray, set_cons_zero, set_cons_succ]
          refine @wpG_tk _ _ _ _ _ (some 240) (.pointer (some ⟨g3, k2 * 2, none⟩)) _ _ rfl (.val (by rfl) (fun W hg => by go_simp <;> first | rfl | omega | (simp; omega))) ?_
          simp only [Act.put, setIfInBounds_toArray, set_cons_zero, set_cons_succ]
          refine @wpG_tk _ _ _ _ _ (some 241) (.pointer (some ⟨g3, k2 * 2, none⟩)) _ _ rfl (.val (by rfl) (fun W hg => by go_simp)) ?_
          simp only [Act.put, setIfInBounds_toArray, set_cons_zero, set_cons_succ]
          refine @wpG_tk _ _ _ _ _ (some 242) (.int .i64 e.1) _ _ rfl (.val (by rfl) (fun W hg => by have c := (run_c0 ((own_lies HOC2.out).below (GC81.out.trans hg)) HE.out); go_simp)) ?_
          simp only [Act.put, setIfInBounds_toArray, set_cons_zero, set_cons_succ]
          refine @wpG_tk _ _ _ _ _ (some 243) (.bool (decide (xp ≥ e.1))) _ _ rfl (.val (by rfl) (fun W hg => by go_simp)) ?_
          simp only [Act.put, setIfInBounds_toArray, set_cons_zero, set_cons_succ]
          obtain ⟨c82, hc82⟩ : ∃ b, b = (decide (xp ≥ e.1)) := ⟨_, rfl⟩
          rw [← hc82]
          have Hc82 := Lib.hid hc82
          clear hc82
          refine @wpG_tk _ _ _ _ _ (some 244) (.bool c82) _ _ rfl (.val (by rfl) (fun _ _ => rfl)) ?_
          simp only [Act.put, setIfInBounds_toArray, set_cons_zero, set_cons_succ]
          refine @wpG_tk _ _ _ _ _ (some 245) ((bif c82 then .int .i64 xp else undef)) _ _ rfl (by cases c82 with | false => exact .no (by rfl) | true => exact (.val (by rfl) (fun _ _ => rfl))) ?_
          simp only [Act.put, setIfInBounds_toArray, set_cons_zero, set_cons_succ]
          refine @wpG_tk _ _ _ _ _ (some 246) ((bif c82 then .slice (some ⟨g3, 0, none⟩) m c3 else undef)) _ _ rfl (by cases c82 with | false => exact .no (by rfl) | true => exact (.val (by rfl) (fun _ _ => rfl))) ?_
          simp only [Act.put, setIfInBounds_toArray, set_cons_zero, set_cons_succ]
          refine @wpG_tk _ _ _ _ _ (some 247) ((bif c82 then .int .i64 (k2 : Int) else undef)) _ _ rfl (by cases c82 with | false => exact .no (by rfl) | true => exact (.val (by rfl) (fun _ _ => rfl))) ?_
          simp only [Act.put, setIfInBounds_toArray, set_cons_zero, set_cons_succ]
          refine @wpG_tk _ _ _ _ _ (some 248) ((bif c82 then .pointer (some ⟨g3, k2 * 2, none⟩) else undef)) _ _ rfl (by cases c82 with | false => exact .no (by rfl) | true => exact (.val (by rfl) (fun W hg => by go_simp <;> first | rfl | omega | (simp; omega)))) ?_
          simp only [Act.put, setIfInBounds_toArray, set_cons_zero, set_cons_succ]
          refine @wpG_tk _ _ _ _ _ (some 249) ((bif c82 then .pointer (some ⟨g3, k2 * 2 + 1, none⟩) else undef)) _ _ rfl (by cases c82 with | false => exact .no (by rfl) | true => exact (.val (by rfl) (fun W hg => by go_simp))) ?_
          simp only [Act.put, setIfInBounds_toArray, set_cons_zero, set_cons_succ]
          refine @wpG_tk _ _ _ _ _ (some 250) ((bif c82 then .int .i64 e.2 else undef)) _ _ rfl (by cases c82 with | false => exact .no (by rfl) | true => exact (.val (by rfl) (fun W hg => by have c := (run_c1 ((own_lies HOC2.out).below (GC81.out.trans hg)) HE.out); go_simp))) ?_
          simp only [Act.put, setIfInBounds_toArray, set_cons_zero, set_cons_succ]
          refine @wpG_tk _ _ _ _ _ (some 251) ((bif c82 then .bool (decide (xp ≤ e.2)) else undef)) _ _ rfl (by cases c82 with | false => exact .no (by rfl) | true => exact (.val (by rfl) (fun W hg => by go_simp))) ?_
          simp only [Act.put, setIfInBounds_toArray, set_cons_zero, set_cons_succ]
          refine @wpG_tk _ _ _ _ _ (some 252) (.bool (c82 && (decide (xp ≤ e.2)))) _ _ rfl (.val (by rfl) (fun W hg => by cases c82 <;> go_simp)) ?_
          simp only [Act.put, setIfInBounds_toArray, set_cons_zero, set_cons_succ]
          obtain ⟨c83, hc83⟩ : ∃ b, b = (c82 && (decide (xp ≤ e.2))) := ⟨_, rfl⟩
          rw [← hc83]
          have Hc83 := Lib.hid hc83
          clear hc83
          refine wpG_done (fun V84 hv85 => ?_)
          have GC86 := Lib.hid (GC81.out.trans hv85)
          clear hv85
          have hin : c83 = Mo.inR xp e := by rw [Hc83.out, Hc82.out]; rfl
          rw [hin]
          cases hv : Mo.inR xp e with
          | true => as_aux_lemma =>
              have hcs := HCS.out
              rw [hv] at hcs
              have HCT := Lib.hid hcs
              clear hcs hv hin
              go_upto_region 26 with fail
              refine wpG_region ?_
              refine @wpG_tk _ _ _ _ _ (some 253) (.int .i64 (d : Int)) _ _ rfl (.val (by rfl) (fun _ _ => rfl)) ?_
              simp only [Act.put, setIfInBounds_toArray, set_cons_zero, set_cons_succ]
              refine @wpG_tk _ _ _ _ _ (some 254) (.int .i64 ((d : Int) + 1)) _ _ rfl (.val (by rfl) (fun W hg => by (first | (go_simp; done) | (go_simp; rw [IntWalk.i64_in _ (by omega)])))) ?_
              simp only [Act.put, setIfInBounds_toArray, set_cons_zero, set_cons_succ]
              refine @wpG_tk _ _ _ _ _ (some 14) (.int .i64 ((d : Int) + 1)) _ _ rfl (.val (by rfl) (fun _ _ => rfl)) ?_
              simp only [Act.put, setIfInBounds_toArray, set_cons_zero, set_cons_succ]
              refine wpG_done (fun V87 hv88 => ?_)
              have GC89 := Lib.hid (GC86.out.trans hv88)
              clear hv88
              by_cases hk0 : 0 < k2
              · skip
                have hg1 := hgap hk0
                have hg2 := hrb0 hk0
                clear hgap hrb0
                go_upto_region 27 with fail
                refine wpK_region (by kernel_rfl) ?_
                refine wpK_ta (i := 0) (some 255) (v := .slice (some ⟨g3, 0, none⟩) m c3) rfl rfl (by kernel_rfl) (fun _ _ _ h => h) (Or.inl ⟨rfl, fun _ => rfl⟩) ?_
                simp only [Act.put, setIfInBounds_toArray, set_cons_zero, set_cons_succ]
                refine wpK_ta (i := 1) (some 256) (v := .int .i64 (k2 : Int)) rfl rfl (by kernel_rfl) (fun _ _ _ h => h) (Or.inl ⟨rfl, fun _ => rfl⟩) ?_
                simp only [Act.put, setIfInBounds_toArray, set_cons_zero, set_cons_succ]
                refine wpK_ta (i := 2) (some 257) (v := .pointer (some ⟨g3, k2 * 2, none⟩)) rfl rfl (by kernel_rfl) (fun _ _ _ h => h) (Or.inl ⟨by rfl, fun W => by go_simp <;> first | rfl | omega | (simp; omega)⟩) ?_
                simp only [Act.put, setIfInBounds_toArray, set_cons_zero, set_cons_succ]
                refine wpK_ta (i := 3) (some 258) (v := .pointer (some ⟨g3, k2 * 2, none⟩)) rfl rfl (by kernel_rfl) (fun _ _ _ h => h) (Or.inl ⟨by rfl, fun W => by go_simp⟩) ?_
                simp only [Act.put, setIfInBounds_toArray, set_cons_zero, set_cons_succ]
                refine wpK_tk (i := 4) (some 259) (v := .int .i64 e.1) rfl rfl (by kernel_rfl) (fun _ _ _ h => h) (.val (by rfl) (fun W hg => by have c := (run_c0 ((own_lies HOC2.out).below (GC89.out.trans (Gr.un hg))) HE.out); go_simp)) ?_
                simp only [Act.put, setIfInBounds_toArray, set_cons_zero, set_cons_succ]
                refine wpK_ta (i := 5) (some 260) (v := .slice (some ⟨g3, 0, none⟩) m c3) rfl rfl (by kernel_rfl) (fun _ _ _ h => h) (Or.inl ⟨rfl, fun _ => rfl⟩) ?_
                simp only [Act.put, setIfInBounds_toArray, set_cons_zero, set_cons_succ]
                refine wpK_ta (i := 6) (some 261) (v := .int .i64 (k2 : Int)) rfl rfl (by kernel_rfl) (fun _ _ _ h => h) (Or.inl ⟨rfl, fun _ => rfl⟩) ?_
                simp only [Act.put, setIfInBounds_toArray, set_cons_zero, set_cons_succ]
                refine wpK_ta (i := 7) (some 262) (v := .pointer (some ⟨g3, k2 * 2, none⟩)) rfl rfl (by kernel_rfl) (fun _ _ _ h => h) (Or.inl ⟨by rfl, fun W => by go_simp <;> first | rfl | omega | (simp; omega)⟩) ?_
                simp only [Act.put, setIfInBounds_toArray, set_cons_zero, set_cons_succ]
                refine wpK_ta (i := 8) (some 263) (v := .pointer (some ⟨g3, k2 * 2 + 1, none⟩)) rfl rfl (by kernel_rfl) (fun _ _ _ h => h) (Or.inl ⟨by rfl, fun W => by go_simp⟩) ?_
                simp only [Act.put, setIfInBounds_toArray, set_cons_zero, set_cons_succ]
                refine wpK_tk (i := 9) (some 264) (v := .int .i64 e.2) rfl rfl (by kernel_rfl) (fun _ _ _ h => h) (.val (by rfl) (fun W hg => by have c := (run_c1 ((own_lies HOC2.out).below (GC89.out.trans (Gr.un hg))) HE.out); go_simp)) ?_
                simp only [Act.put, setIfInBounds_toArray, set_cons_zero, set_cons_succ]
                refine wpK_ta (i := 10) (some 265) (v := .bool false) rfl rfl (by kernel_rfl) (fun _ _ _ h => h) (Or.inl ⟨by rfl, fun W => by have hq : ¬ (e.1 > e.2) := (by omega); first | (go_simp; done) | (go_simp <;> omega)⟩) ?_
                simp only [Act.put, setIfInBounds_toArray, set_cons_zero, set_cons_succ]
                refine wpK_ta (i := 11) (some 266) (v := .bool false) rfl rfl (by kernel_rfl) (fun _ _ _ h => h) (Or.inl ⟨rfl, fun _ => rfl⟩) ?_
                simp only [Act.put, setIfInBounds_toArray, set_cons_zero, set_cons_succ]
                refine wpK_ta (i := 12) (some 267) (v := .int .i64 (k2 : Int)) rfl rfl (by kernel_rfl) (fun _ _ _ h => h) (Or.inl ⟨rfl, fun _ => rfl⟩) ?_
                simp only [Act.put, setIfInBounds_toArray, set_cons_zero, set_cons_succ]
                refine wpK_ta (i := 13) (some 268) (v := .bool true) rfl rfl (by kernel_rfl) (fun _ _ _ h => h) (Or.inl ⟨by rfl, fun W => by have hq : ((k2 : Int) > 0) := (by omega); first | (go_simp; done) | (go_simp <;> omega)⟩) ?_
                simp only [Act.put, setIfInBounds_toArray, set_cons_zero, set_cons_succ]
                refine wpK_ta (i := 14) (some 269) (v := .bool true) rfl rfl (by kernel_rfl) (fun _ _ _ h => h) (Or.inl ⟨rfl, fun _ => rfl⟩) ?_
                simp only [Act.put, setIfInBounds_toArray, set_cons_zero, set_cons_succ]
                refine wpK_ta (i := 15) (some 270) (v := .slice (some ⟨g3, 0, none⟩) m c3) rfl rfl (by kernel_rfl) (fun _ _ _ h => h) (Or.inl ⟨rfl, fun _ => rfl⟩) ?_
                simp only [Act.put, setIfInBounds_toArray, set_cons_zero, set_cons_succ]
                refine wpK_ta (i := 16) (some 271) (v := .int .i64 (k2 : Int)) rfl rfl (by kernel_rfl) (fun _ _ _ h => h) (Or.inl ⟨rfl, fun _ => rfl⟩) ?_
                simp only [Act.put, setIfInBounds_toArray, set_cons_zero, set_cons_succ]
                refine wpK_ta (i := 17) (some 272) (v := .int .i64 ((k2 : Int) - 1)) rfl rfl (by kernel_rfl) (fun _ _ _ h => h) (Or.inl ⟨by rfl, fun W => by (first | (go_simp; done) | (go_simp; rw [IntWalk.i64_in _ (by omega)]))⟩) ?_
                simp only [Act.put, setIfInBounds_toArray, set_cons_zero, set_cons_succ]
                refine wpK_ta (i := 18) (some 273) (v := .pointer (some ⟨g3, (k2 - 1) * 2, none⟩)) rfl rfl (by kernel_rfl) (fun _ _ _ h => h) (Or.inl ⟨by rfl, fun W => by go_simp <;> first | rfl | omega | (simp; omega)⟩) ?_
                simp only [Act.put, setIfInBounds_toArray, set_cons_zero, set_cons_succ]
                refine wpK_ta (i := 19) (some 274) (v := .pointer (some ⟨g3, (k2 - 1) * 2 + 1, none⟩)) rfl rfl (by kernel_rfl) (fun _ _ _ h => h) (Or.inl ⟨by rfl, fun W => by go_simp⟩) ?_
                simp only [Act.put, setIfInBounds_toArray, set_cons_zero, set_cons_succ]
                refine wpK_tk (i := 20) (some 275) (v := .int .i64 e0.2) rfl rfl (by kernel_rfl) (fun _ _ _ h => h) (.val (by rfl) (fun W hg => by have c := (run_c1 ((own_lies HOC2.out).below (GC89.out.trans (Gr.un hg))) (HE0.out hk0)); go_simp)) ?_
                simp only [Act.put, setIfInBounds_toArray, set_cons_zero, set_cons_succ]
                refine wpK_ta (i := 21) (some 276) (v := .int .i64 (e0.2 + 1)) rfl rfl (by kernel_rfl) (fun _ _ _ h => h) (Or.inl ⟨by rfl, fun W => by (first | (go_simp; done) | (go_simp; rw [IntWalk.i64_in _ (by omega)]))⟩) ?_
                simp only [Act.put, setIfInBounds_toArray, set_cons_zero, set_cons_succ]
                refine wpK_ta (i := 22) (some 277) (v := .slice (some ⟨g3, 0, none⟩) m c3) rfl rfl (by kernel_rfl) (fun _ _ _ h => h) (Or.inl ⟨rfl, fun _ => rfl⟩) ?_
                simp only [Act.put, setIfInBounds_toArray, set_cons_zero, set_cons_succ]
                refine wpK_ta (i := 23) (some 278) (v := .int .i64 (k2 : Int)) rfl rfl (by kernel_rfl) (fun _ _ _ h => h) (Or.inl ⟨rfl, fun _ => rfl⟩) ?_
                simp only [Act.put, setIfInBounds_toArray, set_cons_zero, set_cons_succ]
                refine wpK_ta (i := 24) (some 279) (v := .pointer (some ⟨g3, k2 * 2, none⟩)) rfl rfl (by kernel_rfl) (fun _ _ _ h => h) (Or.inl ⟨by rfl, fun W => by go_simp <;> first | rfl | omega | (simp; omega)⟩) ?_
                simp only [Act.put, setIfInBounds_toArray, set_cons_zero, set_cons_succ]
                refine wpK_ta (i := 25) (some 280) (v := .pointer (some ⟨g3, k2 * 2, none⟩)) rfl rfl (by kernel_rfl) (fun _ _ _ h => h) (Or.inl ⟨by rfl, fun W => by go_simp⟩) ?_
                simp only [Act.put, setIfInBounds_toArray, set_cons_zero, set_cons_succ]
                refine wpK_tk (i := 26) (some 281) (v := .int .i64 e.1) rfl rfl (by kernel_rfl) (fun _ _ _ h => h) (.val (by rfl) (fun W hg => by have c := (run_c0 ((own_lies HOC2.out).below (GC89.out.trans (Gr.un hg))) HE.out); go_simp)) ?_
                simp only [Act.put, setIfInBounds_toArray, set_cons_zero, set_cons_succ]
                refine wpK_ta (i := 27) (some 282) (v := .bool false) rfl rfl (by kernel_rfl) (fun _ _ _ h => h) (Or.inl ⟨by rfl, fun W => by have hq : ¬ (e0.2 + 1 ≥ e.1) := (by omega); first | (go_simp; done) | (go_simp <;> omega)⟩) ?_
                simp only [Act.put, setIfInBounds_toArray, set_cons_zero, set_cons_succ]
                refine wpK_ta (i := 28) (some 283) (v := .bool false) rfl rfl (by kernel_rfl) (fun _ _ _ h => h) (Or.inl ⟨by rfl, fun W => by go_simp⟩) ?_
                simp only [Act.put, setIfInBounds_toArray, set_cons_zero, set_cons_succ]
                refine wpK_ta (i := 29) (some 284) (v := .bool false) rfl rfl (by kernel_rfl) (fun _ _ _ h => h) (Or.inl ⟨by rfl, fun W => by go_simp⟩) ?_
                simp only [Act.put, setIfInBounds_toArray, set_cons_zero, set_cons_succ]
                refine wpK_done (by kernel_rfl) (fun V90 hv91 => ?_) _
                have GC92 := Lib.hid (GC89.out.trans (Gr.un hv91))
                clear hv91
                go_upto_region 24 with fail
                refine wpG_region ?_
                refine @wpG_tk _ _ _ _ _ (some 235) (.int .i64 (k2 : Int)) _ _ rfl (.val (by rfl) (fun _ _ => rfl)) ?_
                simp only [Act.put, setIfInBounds_toArray, set_cons_zero, set_cons_succ]
                refine @wpG_tk _ _ _ _ _ (some 236) (.int .i64 ((k2 : Int) + 1)) _ _ rfl (.val (by rfl) (fun W hg => by (first | (go_simp; done) | (go_simp; rw [IntWalk.i64_in _ (by omega)])))) ?_
                simp only [Act.put, setIfInBounds_toArray, set_cons_zero, set_cons_succ]
                refine @wpG_tk _ _ _ _ _ (some 16) (.int .i64 ((k2 : Int) + 1)) _ _ rfl (.val (by rfl) (fun _ _ => rfl)) ?_
                simp only [Act.put, setIfInBounds_toArray, set_cons_zero, set_cons_succ]
                refine wpG_done (fun V93 hv94 => ?_)
                have GC95 := Lib.hid (GC92.out.trans hv94)
                clear hv94
                go_wp2_with fail
                go_roundw
                case rel => exact ⟨k2 + 1, d + 1, by go_num, rfl, by omega, HCT.out.symm, ⟨HB2.out.below GC95.out, HP2.out.below GC95.out, own_gr HOA2.out GC95.out, own_gr HOC2.out GC95.out, Gr.to HG2.out GC95.out⟩⟩
                case measure => first | (simp [intOf]; done) | (simp [intOf]; omega)
              · skip
                clear hgap hrb0
                go_upto_region 27 with fail
                refine wpK_region (by kernel_rfl) ?_
                refine wpK_ta (i := 0) (some 255) (v := .slice (some ⟨g3, 0, none⟩) m c3) rfl rfl (by kernel_rfl) (fun _ _ _ h => h) (Or.inl ⟨rfl, fun _ => rfl⟩) ?_
                simp only [Act.put, setIfInBounds_toArray, set_cons_zero, set_cons_succ]
                refine wpK_ta (i := 1) (some 256) (v := .int .i64 (k2 : Int)) rfl rfl (by kernel_rfl) (fun _ _ _ h => h) (Or.inl ⟨rfl, fun _ => rfl⟩) ?_
                simp only [Act.put, setIfInBounds_toArray, set_cons_zero, set_cons_succ]
                refine wpK_ta (i := 2) (some 257) (v := .pointer (some ⟨g3, k2 * 2, none⟩)) rfl rfl (by kernel_rfl) (fun _ _ _ h => h) (Or.inl ⟨by rfl, fun W => by go_simp <;> first | rfl | omega | (simp; omega)⟩) ?_
                simp only [Act.put, setIfInBounds_toArray, set_cons_zero, set_cons_succ]
                refine wpK_ta (i := 3) (some 258) (v := .pointer (some ⟨g3, k2 * 2, none⟩)) rfl rfl (by kernel_rfl) (fun _ _ _ h => h) (Or.inl ⟨by rfl, fun W => by go_simp⟩) ?_
                simp only [Act.put, setIfInBounds_toArray, set_cons_zero, set_cons_succ]
                refine wpK_tk (i := 4) (some 259) (v := .int .i64 e.1) rfl rfl (by kernel_rfl) (fun _ _ _ h => h) (.val (by rfl) (fun W hg => by have c := (run_c0 ((own_lies HOC2.out).below (GC89.out.trans (Gr.un hg))) HE.out); go_simp)) ?_
                simp only [Act.put, setIfInBounds_toArray, set_cons_zero, set_cons_succ]
                refine wpK_ta (i := 5) (some 260) (v := .slice (some ⟨g3, 0, none⟩) m c3) rfl rfl (by kernel_rfl) (fun _ _ _ h => h) (Or.inl ⟨rfl, fun _ => rfl⟩) ?_
                simp only [Act.put, setIfInBounds_toArray, set_cons_zero, set_cons_succ]
                refine wpK_ta (i := 6) (some 261) (v := .int .i64 (k2 : Int)) rfl rfl (by kernel_rfl) (fun _ _ _ h => h) (Or.inl ⟨rfl, fun _ => rfl⟩) ?_
                simp only [Act.put, setIfInBounds_toArray, set_cons_zero, set_cons_succ]
                refine wpK_ta (i := 7) (some 262) (v := .pointer (some ⟨g3, k2 * 2, none⟩)) rfl rfl (by kernel_rfl) (fun _ _ _ h => h) (Or.inl ⟨by rfl, fun W => by go_simp <;> first | rfl | omega | (simp; omega)⟩) ?_
                simp only [Act.put, setIfInBounds_toArray, set_cons_zero, set_cons_succ]
                refine wpK_ta (i := 8) (some 263) (v := .pointer (some ⟨g3, k2 * 2 + 1, none⟩)) rfl rfl (by kernel_rfl) (fun _ _ _ h => h) (Or.inl ⟨by rfl, fun W => by go_simp⟩) ?_
                simp only [Act.put, setIfInBounds_toArray, set_cons_zero, set_cons_succ]
                refine wpK_tk (i := 9) (some 264) (v := .int .i64 e.2) rfl rfl (by kernel_rfl) (fun _ _ _ h => h) (.val (by rfl) (fun W hg => by have c := (run_c1 ((own_lies HOC2.out).below (GC89.out.trans (Gr.un hg))) HE.out); go_simp)) ?_
                simp only [Act.put, setIfInBounds_toArray, set_cons_zero, set_cons_succ]
                refine wpK_ta (i := 10) (some 265) (v := .bool false) rfl rfl (by kernel_rfl) (fun _ _ _ h => h) (Or.inl ⟨by rfl, fun W => by have hq : ¬ (e.1 > e.2) := (by omega); first | (go_simp; done) | (go_simp <;> omega)⟩) ?_
                simp only [Act.put, setIfInBounds_toArray, set_cons_zero, set_cons_succ]
                refine wpK_ta (i := 11) (some 266) (v := .bool false) rfl rfl (by kernel_rfl) (fun _ _ _ h => h) (Or.inl ⟨rfl, fun _ => rfl⟩) ?_
                simp only [Act.put, setIfInBounds_toArray, set_cons_zero, set_cons_succ]
                refine wpK_ta (i := 12) (some 267) (v := .int .i64 (k2 : Int)) rfl rfl (by kernel_rfl) (fun _ _ _ h => h) (Or.inl ⟨rfl, fun _ => rfl⟩) ?_
                simp only [Act.put, setIfInBounds_toArray, set_cons_zero, set_cons_succ]
                refine wpK_ta (i := 13) (some 268) (v := .bool false) rfl rfl (by kernel_rfl) (fun _ _ _ h => h) (Or.inl ⟨by rfl, fun W => by have hq : ¬ ((k2 : Int) > 0) := (by omega); first | (go_simp; done) | (go_simp <;> omega)⟩) ?_
                simp only [Act.put, setIfInBounds_toArray, set_cons_zero, set_cons_succ]
                refine wpK_ta (i := 14) (some 269) (v := .bool false) rfl rfl (by kernel_rfl) (fun _ _ _ h => h) (Or.inl ⟨rfl, fun _ => rfl⟩) ?_
                simp only [Act.put, setIfInBounds_toArray, set_cons_zero, set_cons_succ]
                refine wpK_ta (i := 15) (some 270) (v := undef) rfl rfl (by kernel_rfl) (fun _ _ _ h => h) (Or.inr ⟨by rfl, rfl⟩) ?_
                simp only [Act.put, setIfInBounds_toArray, set_cons_zero, set_cons_succ]
                refine wpK_ta (i := 16) (some 271) (v := undef) rfl rfl (by kernel_rfl) (fun _ _ _ h => h) (Or.inr ⟨by rfl, rfl⟩) ?_
                simp only [Act.put, setIfInBounds_toArray, set_cons_zero, set_cons_succ]
                refine wpK_ta (i := 17) (some 272) (v := undef) rfl rfl (by kernel_rfl) (fun _ _ _ h => h) (Or.inr ⟨by rfl, rfl⟩) ?_
                simp only [Act.put, setIfInBounds_toArray, set_cons_zero, set_cons_succ]
                refine wpK_ta (i := 18) (some 273) (v := undef) rfl rfl (by kernel_rfl) (fun _ _ _ h => h) (Or.inr ⟨by rfl, rfl⟩) ?_
                simp only [Act.put, setIfInBounds_toArray, set_cons_zero, set_cons_succ]
                refine wpK_ta (i := 19) (some 274) (v := undef) rfl rfl (by kernel_rfl) (fun _ _ _ h => h) (Or.inr ⟨by rfl, rfl⟩) ?_
                simp only [Act.put, setIfInBounds_toArray, set_cons_zero, set_cons_succ]
                refine wpK_ta (i := 20) (some 275) (v := undef) rfl rfl (by kernel_rfl) (fun _ _ _ h => h) (Or.inr ⟨by rfl, rfl⟩) ?_
                simp only [Act.put, setIfInBounds_toArray, set_cons_zero, set_cons_succ]
                refine wpK_ta (i := 21) (some 276) (v := undef) rfl rfl (by kernel_rfl) (fun _ _ _ h => h) (Or.inr ⟨by rfl, rfl⟩) ?_
                simp only [Act.put, setIfInBounds_toArray, set_cons_zero, set_cons_succ]
                refine wpK_ta (i := 22) (some 277) (v := undef) rfl rfl (by kernel_rfl) (fun _ _ _ h => h) (Or.inr ⟨by rfl, rfl⟩) ?_
                simp only [Act.put, setIfInBounds_toArray, set_cons_zero, set_cons_succ]
                refine wpK_ta (i := 23) (some 278) (v := undef) rfl rfl (by kernel_rfl) (fun _ _ _ h => h) (Or.inr ⟨by rfl, rfl⟩) ?_
                simp only [Act.put, setIfInBounds_toArray, set_cons_zero, set_cons_succ]
                refine wpK_ta (i := 24) (some 279) (v := undef) rfl rfl (by kernel_rfl) (fun _ _ _ h => h) (Or.inr ⟨by rfl, rfl⟩) ?_
                simp only [Act.put, setIfInBounds_toArray, set_cons_zero, set_cons_succ]
                refine wpK_ta (i := 25) (some 280) (v := undef) rfl rfl (by kernel_rfl) (fun _ _ _ h => h) (Or.inr ⟨by rfl, rfl⟩) ?_
                simp only [Act.put, setIfInBounds_toArray, set_cons_zero, set_cons_succ]
                refine wpK_ta (i := 26) (some 281) (v := undef) rfl rfl (by kernel_rfl) (fun _ _ _ h => h) (Or.inr ⟨by rfl, rfl⟩) ?_
                simp only [Act.put, setIfInBounds_toArray, set_cons_zero, set_cons_succ]
                refine wpK_ta (i := 27) (some 282) (v := undef) rfl rfl (by kernel_rfl) (fun _ _ _ h => h) (Or.inr ⟨by rfl, rfl⟩) ?_
                simp only [Act.put, setIfInBounds_toArray, set_cons_zero, set_cons_succ]
                refine wpK_ta (i := 28) (some 283) (v := .bool false) rfl rfl (by kernel_rfl) (fun _ _ _ h => h) (Or.inl ⟨by rfl, fun W => by go_simp⟩) ?_
                simp only [Act.put, setIfInBounds_toArray, set_cons_zero, set_cons_succ]
                refine wpK_ta (i := 29) (some 284) (v := .bool false) rfl rfl (by kernel_rfl) (fun _ _ _ h => h) (Or.inl ⟨by rfl, fun W => by go_simp⟩) ?_
                simp only [Act.put, setIfInBounds_toArray, set_cons_zero, set_cons_succ]
                refine wpK_done (by kernel_rfl) (fun V96 hv97 => ?_) _
                have GC98 := Lib.hid (GC89.out.trans (Gr.un hv97))
                clear hv97
                go_upto_region 24 with fail
                refine wpG_region ?_
                refine @wpG_tk _ _ _ _ _ (some 235) (.int .i64 (k2 : Int)) _ _ rfl (.val (by rfl) (fun _ _ => rfl)) ?_
                simp only [Act.put, setIfInBounds_toArray, set_cons_zero, set_cons_succ]
                refine @wpG_tk _ _ _ _ _ (some 236) (.int .i64 ((k2 : Int) + 1)) _ _ rfl (.val (by rfl) (fun W hg => by (first | (go_simp; done) | (go_simp; rw [IntWalk.i64_in _ (by omega)])))) ?_
                simp only [Act.put, setIfInBounds_toArray, set_cons_zero, set_cons_succ]
                refine @wpG_tk _ _ _ _ _ (some 16) (.int .i64 ((k2 : Int) + 1)) _ _ rfl (.val (by rfl) (fun _ _ => rfl)) ?_
                simp only [Act.put, setIfInBounds_toArray, set_cons_zero, set_cons_succ]
                refine wpG_done (fun V99 hv100 => ?_)
                have GC101 := Lib.hid (GC98.out.trans hv100)
                clear hv100
                go_wp2_with fail
                go_roundw
                case rel => exact ⟨k2 + 1, d + 1, by go_num, rfl, by omega, HCT.out.symm, ⟨HB2.out.below GC101.out, HP2.out.below GC101.out, own_gr HOA2.out GC101.out, own_gr HOC2.out GC101.out, Gr.to HG2.out GC101.out⟩⟩
                case measure => first | (simp [intOf]; done) | (simp [intOf]; omega)
          | false => as_aux_lemma =>
              have hcs := HCS.out
              rw [hv] at hcs
              have HCT := Lib.hid hcs
              clear hcs hv hin
              by_cases hk0 : 0 < k2
              · skip
                have hg1 := hgap hk0
                have hg2 := hrb0 hk0
                clear hgap hrb0
                go_upto_region 27 with fail
                refine wpK_region (by kernel_rfl) ?_
                refine wpK_ta (i := 0) (some 255) (v := .slice (some ⟨g3, 0, none⟩) m c3) rfl rfl (by kernel_rfl) (fun _ _ _ h => h) (Or.inl ⟨rfl, fun _ => rfl⟩) ?_
                simp only [Act.put, setIfInBounds_toArray, set_cons_zero, set_cons_succ]
                refine wpK_ta (i := 1) (some 256) (v := .int .i64 (k2 : Int)) rfl rfl (by kernel_rfl) (fun _ _ _ h => h) (Or.inl ⟨rfl, fun _ => rfl⟩) ?_
                simp only [Act.put, setIfInBounds_toArray, set_cons_zero, set_cons_succ]
                refine wpK_ta (i := 2) (some 257) (v := .pointer (some ⟨g3, k2 * 2, none⟩)) rfl rfl (by kernel_rfl) (fun _ _ _ h => h) (Or.inl ⟨by rfl, fun W => by go_simp <;> first | rfl | omega | (simp; omega)⟩) ?_
                simp only [Act.put, setIfInBounds_toArray, set_cons_zero, set_cons_succ]
                refine wpK_ta (i := 3) (some 258) (v := .pointer (some ⟨g3, k2 * 2, none⟩)) rfl rfl (by kernel_rfl) (fun _ _ _ h => h) (Or.inl ⟨by rfl, fun W => by go_simp⟩) ?_
                simp only [Act.put, setIfInBounds_toArray, set_cons_zero, set_cons_succ]
                refine wpK_tk (i := 4) (some 259) (v := .int .i64 e.1) rfl rfl (by kernel_rfl) (fun _ _ _ h => h) (.val (by rfl) (fun W hg => by have c := (run_c0 ((own_lies HOC2.out).below (GC86.out.trans (Gr.un hg))) HE.out); go_simp)) ?_
                simp only [Act.put, setIfInBounds_toArray, set_cons_zero, set_cons_succ]
                refine wpK_ta (i := 5) (some 260) (v := .slice (some ⟨g3, 0, none⟩) m c3) rfl rfl (by kernel_rfl) (fun _ _ _ h => h) (Or.inl ⟨rfl, fun _ => rfl⟩) ?_
                simp only [Act.put, setIfInBounds_toArray, set_cons_zero, set_cons_succ]
                refine wpK_ta (i := 6) (some 261) (v := .int .i64 (k2 : Int)) rfl rfl (by kernel_rfl) (fun _ _ _ h => h) (Or.inl ⟨rfl, fun _ => rfl⟩) ?_
                simp only [Act.put, setIfInBounds_toArray, set_cons_zero, set_cons_succ]
                refine wpK_ta (i := 7) (some 262) (v := .pointer (some ⟨g3, k2 * 2, none⟩)) rfl rfl (by kernel_rfl) (fun _ _ _ h => h) (Or.inl ⟨by rfl, fun W => by go_simp <;> first | rfl | omega | (simp; omega)⟩) ?_
                simp only [Act.put, setIfInBounds_toArray, set_cons_zero, set_cons_succ]
                refine wpK_ta (i := 8) (some 263) (v := .pointer (some ⟨g3, k2 * 2 + 1, none⟩)) rfl rfl (by kernel_rfl) (fun _ _ _ h => h) (Or.inl ⟨by rfl, fun W => by go_simp⟩) ?_
                simp only [Act.put, setIfInBounds_toArray, set_cons_zero, set_cons_succ]
                refine wpK_tk (i := 9) (some 264) (v := .int .i64 e.2) rfl rfl (by kernel_rfl) (fun _ _ _ h => h) (.val (by rfl) (fun W hg => by have c := (run_c1 ((own_lies HOC2.out).below (GC86.out.trans (Gr.un hg))) HE.out); go_simp)) ?_
                simp only [Act.put, setIfInBounds_toArray, set_cons_zero, set_cons_succ]
                refine wpK_ta (i := 10) (some 265) (v := .bool false) rfl rfl (by kernel_rfl) (fun _ _ _ h => h) (Or.inl ⟨by rfl, fun W => by have hq : ¬ (e.1 > e.2) := (by omega); first | (go_simp; done) | (go_simp <;> omega)⟩) ?_
                simp only [Act.put, setIfInBounds_toArray, set_cons_zero, set_cons_succ]
                refine wpK_ta (i := 11) (some 266) (v := .bool false) rfl rfl (by kernel_rfl) (fun _ _ _ h => h) (Or.inl ⟨rfl, fun _ => rfl⟩) ?_
                simp only [Act.put, setIfInBounds_toArray, set_cons_zero, set_cons_succ]
                refine wpK_ta (i := 12) (some 267) (v := .int .i64 (k2 : Int)) rfl rfl (by kernel_rfl) (fun _ _ _ h => h) (Or.inl ⟨rfl, fun _ => rfl⟩) ?_
                simp only [Act.put, setIfInBounds_toArray, set_cons_zero, set_cons_succ]
                refine wpK_ta (i := 13) (some 268) (v := .bool true) rfl rfl (by kernel_rfl) (fun _ _ _ h => h) (Or.inl ⟨by rfl, fun W => by have hq : ((k2 : Int) > 0) := (by omega); first | (go_simp; done) | (go_simp <;> omega)⟩) ?_
                simp only [Act.put, setIfInBounds_toArray, set_cons_zero, set_cons_succ]
                refine wpK_ta (i := 14) (some 269) (v := .bool true) rfl rfl (by kernel_rfl) (fun _ _ _ h => h) (Or.inl ⟨rfl, fun _ => rfl⟩) ?_
                simp only [Act.put, setIfInBounds_toArray, set_cons_zero, set_cons_succ]
                refine wpK_ta (i := 15) (some 270) (v := .slice (some ⟨g3, 0, none⟩) m c3) rfl rfl (by kernel_rfl) (fun _ _ _ h => h) (Or.inl ⟨rfl, fun _ => rfl⟩) ?_
                simp only [Act.put, setIfInBounds_toArray, set_cons_zero, set_cons_succ]
                refine wpK_ta (i := 16) (some 271) (v := .int .i64 (k2 : Int)) rfl rfl (by kernel_rfl) (fun _ _ _ h => h) (Or.inl ⟨rfl, fun _ => rfl⟩) ?_
                simp only [Act.put, setIfInBounds_toArray, set_cons_zero, set_cons_succ]
                refine wpK_ta (i := 17) (some 272) (v := .int .i64 ((k2 : Int) - 1)) rfl rfl (by kernel_rfl) (fun _ _ _ h => h) (Or.inl ⟨by rfl, fun W => by (first | (go_simp; done) | (go_simp; rw [IntWalk.i64_in _ (by omega)]))⟩) ?_
                simp only [Act.put, setIfInBounds_toArray, set_cons_zero, set_cons_succ]
                refine wpK_ta (i := 18) (some 273) (v := .pointer (some ⟨g3, (k2 - 1) * 2, none⟩)) rfl rfl (by kernel_rfl) (fun _ _ _ h => h) (Or.inl ⟨by rfl, fun W => by go_simp <;> first | rfl | omega | (simp; omega)⟩) ?_
                simp only [Act.put, setIfInBounds_toArray, set_cons_zero, set_cons_succ]
                refine wpK_ta (i := 19) (some 274) (v := .pointer (some ⟨g3, (k2 - 1) * 2 + 1, none⟩)) rfl rfl (by kernel_rfl) (fun _ _ _ h => h) (Or.inl ⟨by rfl, fun W => by go_simp⟩) ?_
                simp only [Act.put, setIfInBounds_toArray, set_cons_zero, set_cons_succ]
                refine wpK_tk (i := 20) (some 275) (v := .int .i64 e0.2) rfl rfl (by kernel_rfl) (fun _ _ _ h => h) (.val (by rfl) (fun W hg => by have c := (run_c1 ((own_lies HOC2.out).below (GC86.out.trans (Gr.un hg))) (HE0.out hk0)); go_simp)) ?_
                simp only [Act.put, setIfInBounds_toArray, set_cons_zero, set_cons_succ]
                refine wpK_ta (i := 21) (some 276) (v := .int .i64 (e0.2 + 1)) rfl rfl (by kernel_rfl) (fun _ _ _ h => h) (Or.inl ⟨by rfl, fun W => by (first | (go_simp; done) | (go_simp; rw [IntWalk.i64_in _ (by omega)]))⟩) ?_
                simp only [Act.put, setIfInBounds_toArray, set_cons_zero, set_cons_succ]
                refine wpK_ta (i := 22) (some 277) (v := .slice (some ⟨g3, 0, none⟩) m c3) rfl rfl (by kernel_rfl) (fun _ _ _ h => h) (Or.inl ⟨rfl, fun _ => rfl⟩) ?_
                simp only [Act.put, setIfInBounds_toArray, set_cons_zero, set_cons_succ]
                refine wpK_ta (i := 23) (some 278) (v := .int .i64 (k2 : Int)) rfl rfl (by kernel_rfl) (fun _ _ _ h => h) (Or.inl ⟨rfl, fun _ => rfl⟩) ?_
                simp only [Act.put, setIfInBounds_toArray, set_cons_zero, set_cons_succ]
                refine wpK_ta (i := 24) (some 279) (v := .pointer (some ⟨g3, k2 * 2, none⟩)) rfl rfl (by kernel_rfl) (fun _ _ _ h => h) (Or.inl ⟨by rfl, fun W => by go_simp <;> first | rfl | omega | (simp; omega)⟩) ?_
                simp only [Act.put, setIfInBounds_toArray, set_cons_zero, set_cons_succ]
                refine wpK_ta (i := 25) (some 280) (v := .pointer (some ⟨g3, k2 * 2, none⟩)) rfl rfl (by kernel_rfl) (fun _ _ _ h => h) (Or.inl ⟨by rfl, fun W => by go_simp⟩) ?_
                simp only [Act.put, setIfInBounds_toArray, set_cons_zero, set_cons_succ]
                refine wpK_tk (i := 26) (some 281) (v := .int .i64 e.1) rfl rfl (by kernel_rfl) (fun _ _ _ h => h) (.val (by rfl) (fun W hg => by have c := (run_c0 ((own_lies HOC2.out).below (GC86.out.trans (Gr.un hg))) HE.out); go_simp)) ?_
                simp only [Act.put, setIfInBounds_toArray, set_cons_zero, set_cons_succ]
                refine wpK_ta (i := 27) (some 282) (v := .bool false) rfl rfl (by kernel_rfl) (fun _ _ _ h => h) (Or.inl ⟨by rfl, fun W => by have hq : ¬ (e0.2 + 1 ≥ e.1) := (by omega); first | (go_simp; done) | (go_simp <;> omega)⟩) ?_
                simp only [Act.put, setIfInBounds_toArray, set_cons_zero, set_cons_succ]
                refine wpK_ta (i := 28) (some 283) (v := .bool false) rfl rfl (by kernel_rfl) (fun _ _ _ h => h) (Or.inl ⟨by rfl, fun W => by go_simp⟩) ?_
                simp only [Act.put, setIfInBounds_toArray, set_cons_zero, set_cons_succ]
                refine wpK_ta (i := 29) (some 284) (v := .bool false) rfl rfl (by kernel_rfl) (fun _ _ _ h => h) (Or.inl ⟨by rfl, fun W => by go_simp⟩) ?_
                simp only [Act.put, setIfInBounds_toArray, set_cons_zero, set_cons_succ]
                refine wpK_done (by kernel_rfl) (fun V102 hv103 => ?_) _
                have GC104 := Lib.hid (GC86.out.trans (Gr.un hv103))
                clear hv103
                go_upto_region 24 with fail
                refine wpG_region ?_
                refine @wpG_tk _ _ _ _ _ (some 235) (.int .i64 (k2 : Int)) _ _ rfl (.val (by rfl) (fun _ _ => rfl)) ?_
                simp only [Act.put, setIfInBounds_toArray, set_cons_zero, set_cons_succ]
                refine @wpG_tk _ _ _ _ _ (some 236) (.int .i64 ((k2 : Int) + 1)) _ _ rfl (.val (by rfl) (fun W hg => by (first | (go_simp; done) | (go_simp; rw [IntWalk.i64_in _ (by omega)])))) ?_
                simp only [Act.put, setIfInBounds_toArray, set_cons_zero, set_cons_succ]
                refine @wpG_tk _ _ _ _ _ (some 16) (.int .i64 ((k2 : Int) + 1)) _ _ rfl (.val (by rfl) (fun _ _ => rfl)) ?_
                simp only [Act.put, setIfInBounds_toArray, set_cons_zero, set_cons_succ]
                refine wpG_done (fun V105 hv106 => ?_)
                have GC107 := Lib.hid (GC104.out.trans hv106)
                clear hv106
                go_wp2_with fail
                go_roundw
                case rel => exact ⟨k2 + 1, d, by go_num, rfl, by omega, HCT.out.symm, ⟨HB2.out.below GC107.out, HP2.out.below GC107.out, own_gr HOA2.out GC107.out, own_gr HOC2.out GC107.out, Gr.to HG2.out GC107.out⟩⟩
                case measure => first | (simp [intOf]; done) | (simp [intOf]; omega)
              · skip
                clear hgap hrb0
                go_upto_region 27 with fail
                refine wpK_region (by kernel_rfl) ?_
                refine wpK_ta (i := 0) (some 255) (v := .slice (some ⟨g3, 0, none⟩) m c3) rfl rfl (by kernel_rfl) (fun _ _ _ h => h) (Or.inl ⟨rfl, fun _ => rfl⟩) ?_
                simp only [Act.put, setIfInBounds_toArray, set_cons_zero, set_cons_succ]
                refine wpK_ta (i := 1) (some 256) (v := .int .i64 (k2 : Int)) rfl rfl (by kernel_rfl) (fun _ _ _ h => h) (Or.inl ⟨rfl, fun _ => rfl⟩) ?_
                simp only [Act.put, setIfInBounds_toArray, set_cons_zero, set_cons_succ]
                refine wpK_ta (i := 2) (some 257) (v := .pointer (some ⟨g3, k2 * 2, none⟩)) rfl rfl (by kernel_rfl) (fun _ _ _ h => h) (Or.inl ⟨by rfl, fun W => by go_simp <;> first | rfl | omega | (simp; omega)⟩) ?_
                simp only [Act.put, setIfInBounds_toArray, set_cons_zero, set_cons_succ]
                refine wpK_ta (i := 3) (some 258) (v := .pointer (some ⟨g3, k2 * 2, none⟩)) rfl rfl (by kernel_rfl) (fun _ _ _ h => h) (Or.inl ⟨by rfl, fun W => by go_simp⟩) ?_
                simp only [Act.put, setIfInBounds_toArray, set_cons_zero, set_cons_succ]
                refine wpK_tk (i := 4) (some 259) (v := .int .i64 e.1) rfl rfl (by kernel_rfl) (fun _ _ _ h => h) (.val (by rfl) (fun W hg => by have c := (run_c0 ((own_lies HOC2.out).below (GC86.out.trans (Gr.un hg))) HE.out); go_simp)) ?_
                simp only [Act.put, setIfInBounds_toArray, set_cons_zero, set_cons_succ]
                refine wpK_ta (i := 5) (some 260) (v := .slice (some ⟨g3, 0, none⟩) m c3) rfl rfl (by kernel_rfl) (fun _ _ _ h => h) (Or.inl ⟨rfl, fun _ => rfl⟩) ?_
                simp only [Act.put, setIfInBounds_toArray, set_cons_zero, set_cons_succ]
                refine wpK_ta (i := 6) (some 261) (v := .int .i64 (k2 : Int)) rfl rfl (by kernel_rfl) (fun _ _ _ h => h) (Or.inl ⟨rfl, fun _ => rfl⟩) ?_
                simp only [Act.put, setIfInBounds_toArray, set_cons_zero, set_cons_succ]
                refine wpK_ta (i := 7) (some 262) (v := .pointer (some ⟨g3, k2 * 2, none⟩)) rfl rfl (by kernel_rfl) (fun _ _ _ h => h) (Or.inl ⟨by rfl, fun W => by go_simp <;> first | rfl | omega | (simp; omega)⟩) ?_
                simp only [Act.put, setIfInBounds_toArray, set_cons_zero, set_cons_succ]
                refine wpK_ta (i := 8) (some 263) (v := .pointer (some ⟨g3, k2 * 2 + 1, none⟩)) rfl rfl (by kernel_rfl) (fun _ _ _ h => h) (Or.inl ⟨by rfl, fun W => by go_simp⟩) ?_
                simp only [Act.put, setIfInBounds_toArray, set_cons_zero, set_cons_succ]
                refine wpK_tk (i := 9) (some 264) (v := .int .i64 e.2) rfl rfl (by kernel_rfl) (fun _ _ _ h => h) (.val (by rfl) (fun W hg => by have c := (run_c1 ((own_lies HOC2.out).below (GC86.out.trans (Gr.un hg))) HE.out); go_simp)) ?_
                simp only [Act.put, setIfInBounds_toArray, set_cons_zero, set_cons_succ]
                refine wpK_ta (i := 10) (some 265) (v := .bool false) rfl rfl (by kernel_rfl) (fun _ _ _ h => h) (Or.inl ⟨by rfl, fun W => by have hq : ¬ (e.1 > e.2) := (by omega); first | (go_simp; done) | (go_simp <;> omega)⟩) ?_
                simp only [Act.put, setIfInBounds_toArray, set_cons_zero, set_cons_succ]
                refine wpK_ta (i := 11) (some 266) (v := .bool false) rfl rfl (by kernel_rfl) (fun _ _ _ h => h) (Or.inl ⟨rfl, fun _ => rfl⟩) ?_
                simp only [Act.put, setIfInBounds_toArray, set_cons_zero, set_cons_succ]
                refine wpK_ta (i := 12) (some 267) (v := .int .i64 (k2 : Int)) rfl rfl (by kernel_rfl) (fun _ _ _ h => h) (Or.inl ⟨rfl, fun _ => rfl⟩) ?_
                simp only [Act.put, setIfInBounds_toArray, set_cons_zero, set_cons_succ]
                refine wpK_ta (i := 13) (some 268) (v := .bool false) rfl rfl (by kernel_rfl) (fun _ _ _ h => h) (Or.inl ⟨by rfl, fun W => by have hq : ¬ ((k2 : Int) > 0) := (by omega); first | (go_simp; done) | (go_simp <;> omega)⟩) ?_
                simp only [Act.put, setIfInBounds_toArray, set_cons_zero, set_cons_succ]
                refine wpK_ta (i := 14) (some 269) (v := .bool false) rfl rfl (by kernel_rfl) (fun _ _ _ h => h) (Or.inl ⟨rfl, fun _ => rfl⟩) ?_
                simp only [Act.put, setIfInBounds_toArray, set_cons_zero, set_cons_succ]
                refine wpK_ta (i := 15) (some 270) (v := undef) rfl rfl (by kernel_rfl) (fun _ _ _ h => h) (Or.inr ⟨by rfl, rfl⟩) ?_
                simp only [Act.put, setIfInBounds_toArray, set_cons_zero, set_cons_succ]
                refine wpK_ta (i := 16) (some 271) (v := undef) rfl rfl (by kernel_rfl) (fun _ _ _ h => h) (Or.inr ⟨by rfl, rfl⟩) ?_
                simp only [Act.put, setIfInBounds_toArray, set_cons_zero, set_cons_succ]
                refine wpK_ta (i := 17) (some 272) (v := undef) rfl rfl (by kernel_rfl) (fun _ _ _ h => h) (Or.inr ⟨by rfl, rfl⟩) ?_
                simp only [Act.put, setIfInBounds_toArray, set_cons_zero, set_cons_succ]
                refine wpK_ta (i := 18) (some 273) (v := undef) rfl rfl (by kernel_rfl) (fun _ _ _ h => h) (Or.inr ⟨by rfl, rfl⟩) ?_
                simp only [Act.put, setIfInBounds_toArray, set_cons_zero, set_cons_succ]
                refine wpK_ta (i := 19) (some 274) (v := undef) rfl rfl (by kernel_rfl) (fun _ _ _ h => h) (Or.inr ⟨by rfl, rfl⟩) ?_
                simp only [Act.put, setIfInBounds_toArray, set_cons_zero, set_cons_succ]
                refine wpK_ta (i := 20) (some 275) (v := undef) rfl rfl (by kernel_rfl) (fun _ _ _ h => h) (Or.inr ⟨by rfl, rfl⟩) ?_
                simp only [Act.put, setIfInBounds_toArray, set_cons_zero, set_cons_succ]
                refine wpK_ta (i := 21) (some 276) (v := undef) rfl rfl (by kernel_rfl) (fun _ _ _ h => h) (Or.inr ⟨by rfl, rfl⟩) ?_
                simp only [Act.put, setIfInBounds_toArray, set_cons_zero, set_cons_succ]
                refine wpK_ta (i := 22) (some 277) (v := undef) rfl rfl (by kernel_rfl) (fun _ _ _ h => h) (Or.inr ⟨by rfl, rfl⟩) ?_
                simp only [Act.put, setIfInBounds_toArray, set_cons_zero, set_cons_succ]
                refine wpK_ta (i := 23) (some 278) (v := undef) rfl rfl (by kernel_rfl) (fun _ _ _ h => h) (Or.inr ⟨by rfl, rfl⟩) ?_
                simp only [Act.put, setIfInBounds_toArray, set_cons_zero, set_cons_succ]
                refine wpK_ta (i := 24) (some 279) (v := undef) rfl rfl (by kernel_rfl) (fun _ _ _ h => h) (Or.inr ⟨by rfl, rfl⟩) ?_
                simp only [Act.put, setIfInBounds_toArray, set_cons_zero, set_cons_succ]
                refine wpK_ta (i := 25) (some 280) (v := undef) rfl rfl (by kernel_rfl) (fun _ _ _ h => h) (Or.inr ⟨by rfl, rfl⟩) ?_
                simp only [Act.put, setIfInBounds_toArray, set_cons_zero, set_cons_succ]
                refine wpK_ta (i := 26) (some 281) (v := undef) rfl rfl (by kernel_rfl) (fun _ _ _ h => h) (Or.inr ⟨by rfl, rfl⟩) ?_
                simp only [Act.put, setIfInBounds_toArray, set_cons_zero, set_cons_succ]
                refine wpK_ta (i := 27) (some 282) (v := undef) rfl rfl (by kernel_rfl) (fun _ _ _ h => h) (Or.inr ⟨by rfl, rfl⟩) ?_
                simp only [Act.put, setIfInBounds_toArray, set_cons_zero, set_cons_succ]
                refine wpK_ta (i := 28) (some 283) (v := .bool false) rfl rfl (by kernel_rfl) (fun _ _ _ h => h) (Or.inl ⟨by rfl, fun W => by go_simp⟩) ?_
                simp only [Act.put, setIfInBounds_toArray, set_cons_zero, set_cons_succ]
                refine wpK_ta (i := 29) (some 284) (v := .bool false) rfl rfl (by kernel_rfl) (fun _ _ _ h => h) (Or.inl ⟨by rfl, fun W => by go_simp⟩) ?_
                simp only [Act.put, setIfInBounds_toArray, set_cons_zero, set_cons_succ]
                refine wpK_done (by kernel_rfl) (fun V108 hv109 => ?_) _
                have GC110 := Lib.hid (GC86.out.trans (Gr.un hv109))
                clear hv109
                go_upto_region 24 with fail
                refine wpG_region ?_
                refine @wpG_tk _ _ _ _ _ (some 235) (.int .i64 (k2 : Int)) _ _ rfl (.val (by rfl) (fun _ _ => rfl)) ?_
                simp only [Act.put, setIfInBounds_toArray, set_cons_zero, set_cons_succ]
                refine @wpG_tk _ _ _ _ _ (some 236) (.int .i64 ((k2 : Int) + 1)) _ _ rfl (.val (by rfl) (fun W hg => by (first | (go_simp; done) | (go_simp; rw [IntWalk.i64_in _ (by omega)])))) ?_
                simp only [Act.put, setIfInBounds_toArray, set_cons_zero, set_cons_succ]
                refine @wpG_tk _ _ _ _ _ (some 16) (.int .i64 ((k2 : Int) + 1)) _ _ rfl (.val (by rfl) (fun _ _ => rfl)) ?_
                simp only [Act.put, setIfInBounds_toArray, set_cons_zero, set_cons_succ]
                refine wpG_done (fun V111 hv112 => ?_)
                have GC113 := Lib.hid (GC110.out.trans hv112)
                clear hv112
                go_wp2_with fail
                go_roundw
                case rel => exact ⟨k2 + 1, d, by go_num, rfl, by omega, HCT.out.symm, ⟨HB2.out.below GC113.out, HP2.out.below GC113.out, own_gr HOA2.out GC113.out, own_gr HOC2.out GC113.out, Gr.to HG2.out GC113.out⟩⟩
                case measure => first | (simp [intOf]; done) | (simp [intOf]; omega)
    · obtain ⟨e, he⟩ : ∃ e, cl[k]? = some e := ⟨_, List.getElem?_eq_getElem (by rw [← HN.out]; exact hlt)⟩
      obtain ⟨lv, hl, ha, hwi⟩ := HOKM.out e (List.mem_of_getElem? he)
      have hs := Mo.al_sits ha
      unfold Mo.sits at hs
      have hmod := al_mod ha
      obtain ⟨s, hss⟩ : ∃ s, s = Mo.pw lv := ⟨_, rfl⟩
      have hs1 := Mo.pw_pos lv
      rw [← hss] at hs hs1 hmod
      have hlv : lv ≤ 14 := hs.2.2.2
      have hs2 : s ≤ 16384 := by omega
      have hs0 : ¬ s = 0 := by omega
      have hs20 : ¬ 2 * s = 0 := by omega
      have hiq : Mo.inQ p q r e = (decide (p ≥ e.1) && decide (p < e.1 + s) && decide (q ≥ e.2.1) && decide (q < e.2.1 + s) && decide (r ≥ e.2.2.1) && decide (r < e.2.2.1 + s)) := by unfold Mo.inQ; rw [hl, Int.toNat_natCast, ← hss]
      have hcs := Mo.countP_succ (Mo.inQ p q r) he
      rw [← hc] at hcs
      obtain ⟨e0, he0⟩ : ∃ e0, 0 < k → cl[k - 1]? = some e0 := by
        by_cases h : 0 < k
        · have h1 : k - 1 < cl.length := by rw [← HN.out]; omega
          exact ⟨cl[k - 1], fun _ => List.getElem?_eq_getElem h1⟩
        · exact ⟨e, fun h2 => absurd h2 h⟩
      have hcp : 0 < k → Mo.cmpI (Mo.enc e0.1 e0.2.1 e0.2.2.1) (Mo.enc e.1 e.2.1 e.2.2.1) = -1 := fun h => Mo.cmp_lt (by
        have h1 := Mo.chn_next HCHN.out (he0 h) (by rw [show k - 1 + 1 = k by omega]; exact he)
        obtain ⟨l0, hl0, ha0, _⟩ := HOKM.out e0 (List.mem_of_getElem? (he0 h))
        have hp := Mo.pw_pos (3 * l0)
        unfold Mo.ct Mo.cf at h1
        rw [hl0, Int.toNat_natCast] at h1
        omega)
      have he7 : k + 7 < n → ∃ e7, cl[k + 7]? = some e7 ∧ ∃ l7 : Nat, e7.2.2.2 = (l7 : Int) ∧ l7 ≤ 14 ∧ (0 ≤ e7.1 ∧ 0 ≤ e7.2.1 ∧ 0 ≤ e7.2.2.1) ∧ (e7.1 = e.1 + s ∧ e7.2.1 = e.2.1 + s ∧ e7.2.2.1 = e.2.2.1 + s → ∀ b, b = (((decide ((l7 : Int) = (lv : Int)) && decide (e.1 % (2 * s) = 0)) && decide (e.2.1 % (2 * s) = 0)) && decide (e.2.2.1 % (2 * s) = 0)) → b = false) := by
        intro h
        obtain ⟨e7, h7⟩ : ∃ e7, cl[k + 7]? = some e7 := ⟨_, List.getElem?_eq_getElem (by rw [← HN.out]; exact h)⟩
        obtain ⟨l7, hl7, ha7, _⟩ := HOKM.out e7 (List.mem_of_getElem? h7)
        have hs7 := Mo.al_sits ha7
        unfold Mo.sits at hs7
        refine ⟨e7, h7, l7, hl7, hs7.2.2.2, ⟨hs7.1.1, hs7.2.1.1, hs7.2.2.1.1⟩, fun hat b hb => ?_⟩
        cases hbb : b with
        | false => rfl
        | true =>
          exfalso
          rw [hb] at hbb
          simp only [Bool.and_eq_true, decide_eq_true_eq] at hbb
          rw [hss] at hbb hat
          refine Mo.no_eight (HCLL.out ▸ List.mem_of_getElem? he) (HCLL.out ▸ List.mem_of_getElem? h7) hl (by rw [hl7, hbb.1.1.1]) ⟨hbb.1.1.2, hbb.1.2, hbb.2⟩ hat
      have HE := Lib.hid he
      have HL := Lib.hid hl
      have HSS := Lib.hid hss
      have HIQ := Lib.hid hiq
      have HCS := Lib.hid hcs
      have HE0 := Lib.hid he0
      have HCPX := Lib.hid hcp
      have HE7 := Lib.hid he7
      have HMX := Lib.hid hmod.1
      have HMY := Lib.hid hmod.2.1
      have HMZ := Lib.hid hmod.2.2
      clear he hl ha hwi hss hiq hcs he0 hcp he7 hmod hc
      obtain ⟨g, rfl⟩ := own_addr HOA1.out (by omega)
      go_upto_region 8 with fail
      refine wpG_region ?_
      refine @wpG_tk _ _ _ _ _ (some 51) (.int .i64 (k : Int)) _ _ rfl (.val (by rfl) (fun _ _ => rfl)) ?_
      simp only [Act.put, setIfInBounds_toArray, set_cons_zero, set_cons_succ]
      refine @wpG_tk _ _ _ _ _ (some 52) (.slice (some ⟨g, 0, none⟩) n c1) _ _ rfl (.val (by rfl) (fun _ _ => rfl)) ?_
      simp only [Act.put, setIfInBounds_toArray, set_cons_zero, set_cons_succ]
      refine @wpG_tk _ _ _ _ _ (some 53) (.int .i64 (n : Int)) _ _ rfl (.val (by rfl) (fun W hg => by go_simp)) ?_
      simp only [Act.put, setIfInBounds_toArray, set_cons_zero, set_cons_succ]
      refine @wpG_tk _ _ _ _ _ (some 54) (.bool true) _ _ rfl (.val (by rfl) (fun W hg => by have hq : ((k : Int) < (n : Int)) := (by omega); first | (go_simp; done) | (go_simp <;> omega))) ?_
      simp only [Act.put, setIfInBounds_toArray, set_cons_zero, set_cons_succ]
      refine wpG_done (fun V114 hv115 => ?_)
      have GC116 := Lib.hid hv115
      clear hv115
      go_upto_region 10 with fail
      refine wpG_region ?_
      refine @wpG_tk _ _ _ _ _ (some 57) (.slice (some ⟨g, 0, none⟩) n c1) _ _ rfl (.val (by rfl) (fun _ _ => rfl)) ?_
      simp only [Act.put, setIfInBounds_toArray, set_cons_zero, set_cons_succ]
      refine @wpG_tk _ _ _ _ _ (some 58) (.int .i64 (k : Int)) _ _ rfl (.val (by rfl) (fun _ _ => rfl)) ?_
      simp only [Act.put, setIfInBounds_toArray, set_cons_zero, set_cons_succ]
      refine @wpG_tk _ _ _ _ _ (some 59) (.pointer (some ⟨g, k * 4, none⟩)) _ _ rfl (.val (by rfl) (fun W hg => by go_simp <;> first | rfl | omega | (simp; omega))) ?_
      simp only [Act.put, setIfInBounds_toArray, set_cons_zero, set_cons_succ]
      refine @wpG_tk _ _ _ _ _ (some 60) (.pointer (some ⟨g, k * 4 + 3, none⟩)) _ _ rfl (.val (by rfl) (fun W hg => by go_simp)) ?_
      simp only [Act.put, setIfInBounds_toArray, set_cons_zero, set_cons_succ]
      refine @wpG_tk _ _ _ _ _ (some 61) (.int .i64 (lv : Int)) _ _ rfl (.val (by rfl) (fun W hg => by have c := (cube_lv ((own_lies HOA1.out).below (GC116.out.trans hg)) HE.out HL.out); go_simp)) ?_
      simp only [Act.put, setIfInBounds_toArray, set_cons_zero, set_cons_succ]
      refine @wpG_tk _ _ _ _ _ (some 62) (.int .i64 s) _ _ rfl (.val (by rfl) (fun W hg => by go_simp; rw [HSS.out]; exact wrap_pw lv (by omega))) ?_
      simp only [Act.put, setIfInBounds_toArray, set_cons_zero, set_cons_succ]
      refine @wpG_tk _ _ _ _ _ (some 12) (.int .i64 s) _ _ rfl (.val (by rfl) (fun _ _ => rfl)) ?_
      simp only [Act.put, setIfInBounds_toArray, set_cons_zero, set_cons_succ]
      refine wpG_done (fun V117 hv118 => ?_)
      have GC119 := Lib.hid (GC116.out.trans hv118)
      clear hv118
      go_upto_region 11 with fail
      refine wpG_region ?_
      refine @wpG_tk _ _ _ _ _ (some 63) (.slice (some ⟨g, 0, none⟩) n c1) _ _ rfl (.val (by rfl) (fun _ _ => rfl)) ?_
      simp only [Act.put, setIfInBounds_toArray, set_cons_zero, set_cons_succ]
      refine @wpG_tk _ _ _ _ _ (some 64) (.int .i64 (k : Int)) _ _ rfl (.val (by rfl) (fun _ _ => rfl)) ?_
      simp only [Act.put, setIfInBounds_toArray, set_cons_zero, set_cons_succ]
      refine @wpG_tk _ _ _ _ _ (some 65) (.pointer (some ⟨g, k * 4, none⟩)) _ _ rfl (.val (by rfl) (fun W hg => by go_simp <;> first | rfl | omega | (simp; omega))) ?_
      simp only [Act.put, setIfInBounds_toArray, set_cons_zero, set_cons_succ]
      refine @wpG_tk _ _ _ _ _ (some 66) (.pointer (some ⟨g, k * 4, none⟩)) _ _ rfl (.val (by rfl) (fun W hg => by go_simp)) ?_
      simp only [Act.put, setIfInBounds_toArray, set_cons_zero, set_cons_succ]
      refine @wpG_tk _ _ _ _ _ (some 67) (.agg #[.int .i64 e.1, .int .i64 e.2.1, .int .i64 e.2.2.1]) _ _ rfl (.load_mid (by rfl) 23 (.tmp 66) rfl g (k * 4) rfl [.int .i64 e.1, .int .i64 e.2.1, .int .i64 e.2.2.1] _ (fun W hg => cube_pt ((own_lies HOA1.out).below (GC119.out.trans hg)) HE.out) Try.underlying23 rfl (by kernel_rfl)) ?_
      simp only [Act.put, setIfInBounds_toArray, set_cons_zero, set_cons_succ]
      refine wpG_val (some 13) rfl (by rfl) (fun W120 hg121 => ⟨.pointer (some ⟨W120.heap.size, 0, none⟩), W120.alloc (.cells #[.int .i64 0, .int .i64 0, .int .i64 0] 23), by (go_simp <;> rfl), ?_⟩)
      simp only [Act.put, setIfInBounds_toArray, set_cons_zero, set_cons_succ]
      refine wpG_store (none) rfl (by rfl) (fun W122 hg123 => ⟨_, run_store_mid 23 (.tmp 13) (.tmp 67) rfl (W120.heap.size) 0 #[.int .i64 e.1, .int .i64 e.2.1, .int .i64 e.2.2.1] rfl rfl (Row.room hg123 3 rfl) (by kernel_rfl) (by kernel_rfl), ?_⟩)
      simp only [Act.put]
      refine wpG_done (fun V124 hv125 => ?_)
      have l127 : w.heap.size < W120.heap.size := (HB1.out.below (GC119.out.trans hg121)).lt
      have l128 : w.heap.size + 1 < W120.heap.size := (HP1.out.below (GC119.out.trans hg121)).lt
      have l129 : w.heap.size ≤ W120.heap.size := (Gr.to HG1.out (GC119.out.trans hg121)).size
      have R130 := Lib.hid ((HB1.out.below (GC119.out.trans hg121)).past hg123 hv125)
      have R131 := Lib.hid ((HP1.out.below (GC119.out.trans hg121)).past hg123 hv125)
      have R132 := Lib.hid (Row.made (zs := [.int .i64 0, .int .i64 0, .int .i64 0]) (ds := [.int .i64 e.1, .int .i64 e.2.1, .int .i64 e.2.2.1]) rfl hg123 hv125)
      have G126 := Lib.hid (Gr.to (Gr.to HG1.out (GC119.out.trans hg121)) (Gr.past hg123 hv125))
      have OW133 := Lib.hid (own_gr HOA1.out ((GC119.out.trans hg121).trans (Gr.past hg123 hv125)))
      have OW134 := Lib.hid (own_gr HOC1.out ((GC119.out.trans hg121).trans (Gr.past hg123 hv125)))
      clear hg123 hv125 
      go_upto_region 12 with fail
      refine wpG_region ?_
      refine @wpG_tk _ _ _ _ _ (some 68) (.slice (some ⟨g, 0, none⟩) n c1) _ _ rfl (.val (by rfl) (fun _ _ => rfl)) ?_
      simp only [Act.put, setIfInBounds_toArray, set_cons_zero, set_cons_succ]
      refine @wpG_tk _ _ _ _ _ (some 69) (.int .i64 (k : Int)) _ _ rfl (.val (by rfl) (fun _ _ => rfl)) ?_
      simp only [Act.put, setIfInBounds_toArray, set_cons_zero, set_cons_succ]
      refine @wpG_tk _ _ _ _ _ (some 70) (.pointer (some ⟨g, k * 4, none⟩)) _ _ rfl (.val (by rfl) (fun W hg => by go_simp <;> first | rfl | omega | (simp; omega))) ?_
      simp only [Act.put, setIfInBounds_toArray, set_cons_zero, set_cons_succ]
      refine @wpG_tk _ _ _ _ _ (some 71) (.pointer (some ⟨g, k * 4 + 3, none⟩)) _ _ rfl (.val (by rfl) (fun W hg => by go_simp)) ?_
      simp only [Act.put, setIfInBounds_toArray, set_cons_zero, set_cons_succ]
      refine @wpG_tk _ _ _ _ _ (some 72) (.int .i64 (lv : Int)) _ _ rfl (.val (by rfl) (fun W hg => by have c := (cube_lv ((own_lies OW133.out).below hg) HE.out HL.out); go_simp)) ?_
      simp only [Act.put, setIfInBounds_toArray, set_cons_zero, set_cons_succ]
      refine @wpG_tk _ _ _ _ _ (some 73) (.bool false) _ _ rfl (.val (by rfl) (fun W hg => by have hq : ¬ ((lv : Int) < 0) := (by omega); first | (go_simp; done) | (go_simp <;> omega))) ?_
      simp only [Act.put, setIfInBounds_toArray, set_cons_zero, set_cons_succ]
      refine @wpG_tk _ _ _ _ _ (some 74) (.bool false) _ _ rfl (.val (by rfl) (fun _ _ => rfl)) ?_
      simp only [Act.put, setIfInBounds_toArray, set_cons_zero, set_cons_succ]
      refine @wpG_tk _ _ _ _ _ (some 75) (.slice (some ⟨g, 0, none⟩) n c1) _ _ rfl (.val (by rfl) (fun _ _ => rfl)) ?_
      simp only [Act.put, setIfInBounds_toArray, set_cons_zero, set_cons_succ]
      refine @wpG_tk _ _ _ _ _ (some 76) (.int .i64 (k : Int)) _ _ rfl (.val (by rfl) (fun _ _ => rfl)) ?_
      simp only [Act.put, setIfInBounds_toArray, set_cons_zero, set_cons_succ]
      refine @wpG_tk _ _ _ _ _ (some 77) (.pointer (some ⟨g, k * 4, none⟩)) _ _ rfl (.val (by rfl) (fun W hg => by go_simp <;> first | rfl | omega | (simp; omega))) ?_
      simp only [Act.put, setIfInBounds_toArray, set_cons_zero, set_cons_succ]
      refine @wpG_tk _ _ _ _ _ (some 78) (.pointer (some ⟨g, k * 4 + 3, none⟩)) _ _ rfl (.val (by rfl) (fun W hg => by go_simp)) ?_
      simp only [Act.put, setIfInBounds_toArray, set_cons_zero, set_cons_succ]
      refine @wpG_tk _ _ _ _ _ (some 79) (.int .i64 (lv : Int)) _ _ rfl (.val (by rfl) (fun W hg => by have c := (cube_lv ((own_lies OW133.out).below hg) HE.out HL.out); go_simp)) ?_
      simp only [Act.put, setIfInBounds_toArray, set_cons_zero, set_cons_succ]
      refine @wpG_tk _ _ _ _ _ (some 80) (.bool false) _ _ rfl (.val (by rfl) (fun W hg => by have hq : ¬ ((lv : Int) > 14) := (by omega); first | (go_simp; done) | (go_simp <;> omega))) ?_
      simp only [Act.put, setIfInBounds_toArray, set_cons_zero, set_cons_succ]
      refine @wpG_tk _ _ _ _ _ (some 81) (.bool false) _ _ rfl (.val (by rfl) (fun W hg => by go_simp)) ?_
      simp only [Act.put, setIfInBounds_toArray, set_cons_zero, set_cons_succ]
      refine @wpG_tk _ _ _ _ _ (some 82) (.bool false) _ _ rfl (.val (by rfl) (fun _ _ => rfl)) ?_
      simp only [Act.put, setIfInBounds_toArray, set_cons_zero, set_cons_succ]
      refine @wpG_tk _ _ _ _ _ (some 83) (.pointer (some ⟨W120.heap.size, 0, none⟩)) _ _ rfl (.val (by rfl) (fun W hg => by go_simp)) ?_
      simp only [Act.put, setIfInBounds_toArray, set_cons_zero, set_cons_succ]
      refine @wpG_tk _ _ _ _ _ (some 84) (.int .i64 e.1) _ _ rfl (.val (by rfl) (fun W hg => by have c := (R132.out.below hg 0 _ rfl).1; go_simp)) ?_
      simp only [Act.put, setIfInBounds_toArray, set_cons_zero, set_cons_succ]
      refine @wpG_tk _ _ _ _ _ (some 85) (.int .i64 s) _ _ rfl (.val (by rfl) (fun _ _ => rfl)) ?_
      simp only [Act.put, setIfInBounds_toArray, set_cons_zero, set_cons_succ]
      refine @wpG_tk _ _ _ _ _ (some 86) (.int .i64 0) _ _ rfl (.val (by rfl) (fun W hg => by first | (go_simp; rw [HMX.out]; done) | (go_simp; rw [HMX.out]; rfl) | (go_simp; rw [Int.tmod_eq_emod_of_nonneg (by omega), HMX.out]; first | done | rfl))) ?_
      simp only [Act.put, setIfInBounds_toArray, set_cons_zero, set_cons_succ]
      refine @wpG_tk _ _ _ _ _ (some 87) (.bool false) _ _ rfl (.val (by rfl) (fun W hg => by have hq : ¬ (0 ≠ 0) := (by omega); first | (go_simp; done) | (go_simp <;> omega))) ?_
      simp only [Act.put, setIfInBounds_toArray, set_cons_zero, set_cons_succ]
      refine @wpG_tk _ _ _ _ _ (some 88) (.bool false) _ _ rfl (.val (by rfl) (fun W hg => by go_simp)) ?_
      simp only [Act.put, setIfInBounds_toArray, set_cons_zero, set_cons_succ]
      refine @wpG_tk _ _ _ _ _ (some 89) (.bool false) _ _ rfl (.val (by rfl) (fun _ _ => rfl)) ?_
      simp only [Act.put, setIfInBounds_toArray, set_cons_zero, set_cons_succ]
      refine @wpG_tk _ _ _ _ _ (some 90) (.pointer (some ⟨W120.heap.size, 1, none⟩)) _ _ rfl (.val (by rfl) (fun W hg => by go_simp)) ?_
      simp only [Act.put, setIfInBounds_toArray, set_cons_zero, set_cons_succ]
      refine @wpG_tk _ _ _ _ _ (some 91) (.int .i64 e.2.1) _ _ rfl (.val (by rfl) (fun W hg => by have c := (R132.out.below hg 1 _ rfl).1; go_simp)) ?_
      simp only [Act.put, setIfInBounds_toArray, set_cons_zero, set_cons_succ]
      refine @wpG_tk _ _ _ _ _ (some 92) (.int .i64 s) _ _ rfl (.val (by rfl) (fun _ _ => rfl)) ?_
      simp only [Act.put, setIfInBounds_toArray, set_cons_zero, set_cons_succ]
      refine @wpG_tk _ _ _ _ _ (some 93) (.int .i64 0) _ _ rfl (.val (by rfl) (fun W hg => by first | (go_simp; rw [HMY.out]; done) | (go_simp; rw [HMY.out]; rfl) | (go_simp; rw [Int.tmod_eq_emod_of_nonneg (by omega), HMY.out]; first | done | rfl))) ?_
      simp only [Act.put, setIfInBounds_toArray, set_cons_zero, set_cons_succ]
      refine @wpG_tk _ _ _ _ _ (some 94) (.bool false) _ _ rfl (.val (by rfl) (fun W hg => by have hq : ¬ (0 ≠ 0) := (by omega); first | (go_simp; done) | (go_simp <;> omega))) ?_
      simp only [Act.put, setIfInBounds_toArray, set_cons_zero, set_cons_succ]
      refine @wpG_tk _ _ _ _ _ (some 95) (.bool false) _ _ rfl (.val (by rfl) (fun W hg => by go_simp)) ?_
      simp only [Act.put, setIfInBounds_toArray, set_cons_zero, set_cons_succ]
      refine @wpG_tk _ _ _ _ _ (some 96) (.bool false) _ _ rfl (.val (by rfl) (fun _ _ => rfl)) ?_
      simp only [Act.put, setIfInBounds_toArray, set_cons_zero, set_cons_succ]
      refine @wpG_tk _ _ _ _ _ (some 97) (.pointer (some ⟨W120.heap.size, 2, none⟩)) _ _ rfl (.val (by rfl) (fun W hg => by go_simp)) ?_
      simp only [Act.put, setIfInBounds_toArray, set_cons_zero, set_cons_succ]
      refine @wpG_tk _ _ _ _ _ (some 98) (.int .i64 e.2.2.1) _ _ rfl (.val (by rfl) (fun W hg => by have c := (R132.out.below hg 2 _ rfl).1; go_simp)) ?_
      simp only [Act.put, setIfInBounds_toArray, set_cons_zero, set_cons_succ]
      refine @wpG_tk _ _ _ _ _ (some 99) (.int .i64 s) _ _ rfl (.val (by rfl) (fun _ _ => rfl)) ?_
      simp only [Act.put, setIfInBounds_toArray, set_cons_zero, set_cons_succ]
      refine @wpG_tk _ _ _ _ _ (some 100) (.int .i64 0) _ _ rfl (.val (by rfl) (fun W hg => by first | (go_simp; rw [HMZ.out]; done) | (go_simp; rw [HMZ.out]; rfl) | (go_simp; rw [Int.tmod_eq_emod_of_nonneg (by omega), HMZ.out]; first | done | rfl))) ?_
      simp only [Act.put, setIfInBounds_toArray, set_cons_zero, set_cons_succ]
      refine @wpG_tk _ _ _ _ _ (some 101) (.bool false) _ _ rfl (.val (by rfl) (fun W hg => by have hq : ¬ (0 ≠ 0) := (by omega); first | (go_simp; done) | (go_simp <;> omega))) ?_
      simp only [Act.put, setIfInBounds_toArray, set_cons_zero, set_cons_succ]
      refine @wpG_tk _ _ _ _ _ (some 102) (.bool false) _ _ rfl (.val (by rfl) (fun W hg => by go_simp)) ?_
      simp only [Act.put, setIfInBounds_toArray, set_cons_zero, set_cons_succ]
      refine wpG_done (fun V135 hv136 => ?_)
      have GC137 := Lib.hid hv136
      clear hv136
      go_upto_region 14 with fail
      refine wpG_region ?_
      refine @wpG_tk _ _ _ _ _ (some 103) (.pointer (some ⟨w.heap.size + 1, 0, none⟩)) _ _ rfl (.val (by rfl) (fun W hg => by go_simp)) ?_
      simp only [Act.put, setIfInBounds_toArray, set_cons_zero, set_cons_succ]
      refine @wpG_tk _ _ _ _ _ (some 104) (.int .i64 p) _ _ rfl (.val (by rfl) (fun W hg => by have c := (R131.out.below (GC137.out.trans hg) 0 _ rfl).1; go_simp)) ?_
      simp only [Act.put, setIfInBounds_toArray, set_cons_zero, set_cons_succ]
      refine @wpG_tk _ _ _ _ _ (some 105) (.pointer (some ⟨W120.heap.size, 0, none⟩)) _ _ rfl (.val (by rfl) (fun W hg => by go_simp)) ?_
      simp only [Act.put, setIfInBounds_toArray, set_cons_zero, set_cons_succ]
      refine @wpG_tk _ _ _ _ _ (some 106) (.int .i64 e.1) _ _ rfl (.val (by rfl) (fun W hg => by have c := (R132.out.below (GC137.out.trans hg) 0 _ rfl).1; go_simp)) ?_
      simp only [Act.put, setIfInBounds_toArray, set_cons_zero, set_cons_succ]
      refine @wpG_tk _ _ _ _ _ (some 107) (.bool (decide (p ≥ e.1))) _ _ rfl (.val (by rfl) (fun W hg => by go_simp)) ?_
      simp only [Act.put, setIfInBounds_toArray, set_cons_zero, set_cons_succ]
      obtain ⟨c138, hc138⟩ : ∃ b, b = (decide (p ≥ e.1)) := ⟨_, rfl⟩
      rw [← hc138]
      have Hc138 := Lib.hid hc138
      clear hc138
      refine @wpG_tk _ _ _ _ _ (some 108) (.bool c138) _ _ rfl (.val (by rfl) (fun _ _ => rfl)) ?_
      simp only [Act.put, setIfInBounds_toArray, set_cons_zero, set_cons_succ]
      refine @wpG_tk _ _ _ _ _ (some 109) ((bif c138 then .pointer (some ⟨w.heap.size + 1, 0, none⟩) else undef)) _ _ rfl (by cases c138 with | false => exact .no (by rfl) | true => exact (.val (by rfl) (fun W hg => by go_simp))) ?_
      simp only [Act.put, setIfInBounds_toArray, set_cons_zero, set_cons_succ]
      refine @wpG_tk _ _ _ _ _ (some 110) ((bif c138 then .int .i64 p else undef)) _ _ rfl (by cases c138 with | false => exact .no (by rfl) | true => exact (.val (by rfl) (fun W hg => by have c := (R131.out.below (GC137.out.trans hg) 0 _ rfl).1; go_simp))) ?_
      simp only [Act.put, setIfInBounds_toArray, set_cons_zero, set_cons_succ]
      refine @wpG_tk _ _ _ _ _ (some 111) ((bif c138 then .pointer (some ⟨W120.heap.size, 0, none⟩) else undef)) _ _ rfl (by cases c138 with | false => exact .no (by rfl) | true => exact (.val (by rfl) (fun W hg => by go_simp))) ?_
      simp only [Act.put, setIfInBounds_toArray, set_cons_zero, set_cons_succ]
      refine @wpG_tk _ _ _ _ _ (some 112) ((bif c138 then .int .i64 e.1 else undef)) _ _ rfl (by cases c138 with | false => exact .no (by rfl) | true => exact (.val (by rfl) (fun W hg => by have c := (R132.out.below (GC137.out.trans hg) 0 _ rfl).1; go_simp))) ?_
      simp only [Act.put, setIfInBounds_toArray, set_cons_zero, set_cons_succ]
      refine @wpG_tk _ _ _ _ _ (some 113) ((bif c138 then .int .i64 s else undef)) _ _ rfl (by cases c138 with | false => exact .no (by rfl) | true => exact (.val (by rfl) (fun _ _ => rfl))) ?_
      simp only [Act.put, setIfInBounds_toArray, set_cons_zero, set_cons_succ]
      refine @wpG_tk _ _ _ _ _ (some 114) ((bif c138 then .int .i64 (e.1 + s) else undef)) _ _ rfl (by cases c138 with | false => exact .no (by rfl) | true => exact (.val (by rfl) (fun W hg => by (first | (go_simp; done) | (go_simp; rw [IntWalk.i64_in _ (by omega)]))))) ?_
      simp only [Act.put, setIfInBounds_toArray, set_cons_zero, set_cons_succ]
      refine @wpG_tk _ _ _ _ _ (some 115) ((bif c138 then .bool (decide (p < e.1 + s)) else undef)) _ _ rfl (by cases c138 with | false => exact .no (by rfl) | true => exact (.val (by rfl) (fun W hg => by go_simp))) ?_
      simp only [Act.put, setIfInBounds_toArray, set_cons_zero, set_cons_succ]
      refine @wpG_tk _ _ _ _ _ (some 116) (.bool (c138 && (decide (p < e.1 + s)))) _ _ rfl (.val (by rfl) (fun W hg => by cases c138 <;> go_simp)) ?_
      simp only [Act.put, setIfInBounds_toArray, set_cons_zero, set_cons_succ]
      obtain ⟨c139, hc139⟩ : ∃ b, b = (c138 && (decide (p < e.1 + s))) := ⟨_, rfl⟩
      rw [← hc139]
      have Hc139 := Lib.hid hc139
      clear hc139
      refine @wpG_tk _ _ _ _ _ (some 117) (.bool c139) _ _ rfl (.val (by rfl) (fun _ _ => rfl)) ?_
      simp only [Act.put, setIfInBounds_toArray, set_cons_zero, set_cons_succ]
      refine @wpG_tk _ _ _ _ _ (some 118) ((bif c139 then .pointer (some ⟨w.heap.size + 1, 1, none⟩) else undef)) _ _ rfl (by cases c139 with | false => exact .no (by rfl) | true => exact (.val (by rfl) (fun W hg => by go_simp))) ?_
      simp only [Act.put, setIfInBounds_toArray, set_cons_zero, set_cons_succ]
      refine @wpG_tk _ _ _ _ _ (some 119) ((bif c139 then .int .i64 q else undef)) _ _ rfl (by cases c139 with | false => exact .no (by rfl) | true => exact (.val (by rfl) (fun W hg => by have c := (R131.out.below (GC137.out.trans hg) 1 _ rfl).1; go_simp))) ?_
      simp only [Act.put, setIfInBounds_toArray, set_cons_zero, set_cons_succ]
      refine @wpG_tk _ _ _ _ _ (some 120) ((bif c139 then .pointer (some ⟨W120.heap.size, 1, none⟩) else undef)) _ _ rfl (by cases c139 with | false => exact .no (by rfl) | true => exact (.val (by rfl) (fun W hg => by go_simp))) ?_
      simp only [Act.put, setIfInBounds_toArray, set_cons_zero, set_cons_succ]
      refine @wpG_tk _ _ _ _ _ (some 121) ((bif c139 then .int .i64 e.2.1 else undef)) _ _ rfl (by cases c139 with | false => exact .no (by rfl) | true => exact (.val (by rfl) (fun W hg => by have c := (R132.out.below (GC137.out.trans hg) 1 _ rfl).1; go_simp))) ?_
      simp only [Act.put, setIfInBounds_toArray, set_cons_zero, set_cons_succ]
      refine @wpG_tk _ _ _ _ _ (some 122) ((bif c139 then .bool (decide (q ≥ e.2.1)) else undef)) _ _ rfl (by cases c139 with | false => exact .no (by rfl) | true => exact (.val (by rfl) (fun W hg => by go_simp))) ?_
      simp only [Act.put, setIfInBounds_toArray, set_cons_zero, set_cons_succ]
      refine @wpG_tk _ _ _ _ _ (some 123) (.bool (c139 && (decide (q ≥ e.2.1)))) _ _ rfl (.val (by rfl) (fun W hg => by cases c139 <;> go_simp)) ?_
      simp only [Act.put, setIfInBounds_toArray, set_cons_zero, set_cons_succ]
      obtain ⟨c140, hc140⟩ : ∃ b, b = (c139 && (decide (q ≥ e.2.1))) := ⟨_, rfl⟩
      rw [← hc140]
      have Hc140 := Lib.hid hc140
      clear hc140
      refine @wpG_tk _ _ _ _ _ (some 124) (.bool c140) _ _ rfl (.val (by rfl) (fun _ _ => rfl)) ?_
      simp only [Act.put, setIfInBounds_toArray, set_cons_zero, set_cons_succ]
      refine @wpG_tk _ _ _ _ _ (some 125) ((bif c140 then .pointer (some ⟨w.heap.size + 1, 1, none⟩) else undef)) _ _ rfl (by cases c140 with | false => exact .no (by rfl) | true => exact (.val (by rfl) (fun W hg => by go_simp))) ?_
      simp only [Act.put, setIfInBounds_toArray, set_cons_zero, set_cons_succ]
      refine @wpG_tk _ _ _ _ _ (some 126) ((bif c140 then .int .i64 q else undef)) _ _ rfl (by cases c140 with | false => exact .no (by rfl) | true => exact (.val (by rfl) (fun W hg => by have c := (R131.out.below (GC137.out.trans hg) 1 _ rfl).1; go_simp))) ?_
      simp only [Act.put, setIfInBounds_toArray, set_cons_zero, set_cons_succ]
      refine @wpG_tk _ _ _ _ _ (some 127) ((bif c140 then .pointer (some ⟨W120.heap.size, 1, none⟩) else undef)) _ _ rfl (by cases c140 with | false => exact .no (by rfl) | true => exact (.val (by rfl) (fun W hg => by go_simp))) ?_
      simp only [Act.put, setIfInBounds_toArray, set_cons_zero, set_cons_succ]
      refine @wpG_tk _ _ _ _ _ (some 128) ((bif c140 then .int .i64 e.2.1 else undef)) _ _ rfl (by cases c140 with | false => exact .no (by rfl) | true => exact (.val (by rfl) (fun W hg => by have c := (R132.out.below (GC137.out.trans hg) 1 _ rfl).1; go_simp))) ?_
      simp only [Act.put, setIfInBounds_toArray, set_cons_zero, set_cons_succ]
      refine @wpG_tk _ _ _ _ _ (some 129) ((bif c140 then .int .i64 s else undef)) _ _ rfl (by cases c140 with | false => exact .no (by rfl) | true => exact (.val (by rfl) (fun _ _ => rfl))) ?_
      simp only [Act.put, setIfInBounds_toArray, set_cons_zero, set_cons_succ]
      refine @wpG_tk _ _ _ _ _ (some 130) ((bif c140 then .int .i64 (e.2.1 + s) else undef)) _ _ rfl (by cases c140 with | false => exact .no (by rfl) | true => exact (.val (by rfl) (fun W hg => by (first | (go_simp; done) | (go_simp; rw [IntWalk.i64_in _ (by omega)]))))) ?_
      simp only [Act.put, setIfInBounds_toArray, set_cons_zero, set_cons_succ]
      refine @wpG_tk _ _ _ _ _ (some 131) ((bif c140 then .bool (decide (q < e.2.1 + s)) else undef)) _ _ rfl (by cases c140 with | false => exact .no (by rfl) | true => exact (.val (by rfl) (fun W hg => by go_simp))) ?_
      simp only [Act.put, setIfInBounds_toArray, set_cons_zero, set_cons_succ]
      refine @wpG_tk _ _ _ _ _ (some 132) (.bool (c140 && (decide (q < e.2.1 + s)))) _ _ rfl (.val (by rfl) (fun W hg => by cases c140 <;> go_simp)) ?_
      simp only [Act.put, setIfInBounds_toArray, set_cons_zero, set_cons_succ]
      obtain ⟨c141, hc141⟩ : ∃ b, b = (c140 && (decide (q < e.2.1 + s))) := ⟨_, rfl⟩
      rw [← hc141]
      have Hc141 := Lib.hid hc141
      clear hc141
      refine @wpG_tk _ _ _ _ _ (some 133) (.bool c141) _ _ rfl (.val (by rfl) (fun _ _ => rfl)) ?_
      simp only [Act.put, setIfInBounds_toArray, set_cons_zero, set_cons_succ]
      refine @wpG_tk _ _ _ _ _ (some 134) ((bif c141 then .pointer (some ⟨w.heap.size + 1, 2, none⟩) else undef)) _ _ rfl (by cases c141 with | false => exact .no (by rfl) | true => exact (.val (by rfl) (fun W hg => by go_simp))) ?_
      simp only [Act.put, setIfInBounds_toArray, set_cons_zero, set_cons_succ]
      refine @wpG_tk _ _ _ _ _ (some 135) ((bif c141 then .int .i64 r else undef)) _ _ rfl (by cases c141 with | false => exact .no (by rfl) | true => exact (.val (by rfl) (fun W hg => by have c := (R131.out.below (GC137.out.trans hg) 2 _ rfl).1; go_simp))) ?_
      simp only [Act.put, setIfInBounds_toArray, set_cons_zero, set_cons_succ]
      refine @wpG_tk _ _ _ _ _ (some 136) ((bif c141 then .pointer (some ⟨W120.heap.size, 2, none⟩) else undef)) _ _ rfl (by cases c141 with | false => exact .no (by rfl) | true => exact (.val (by rfl) (fun W hg => by go_simp))) ?_
      simp only [Act.put, setIfInBounds_toArray, set_cons_zero, set_cons_succ]
      refine @wpG_tk _ _ _ _ _ (some 137) ((bif c141 then .int .i64 e.2.2.1 else undef)) _ _ rfl (by cases c141 with | false => exact .no (by rfl) | true => exact (.val (by rfl) (fun W hg => by have c := (R132.out.below (GC137.out.trans hg) 2 _ rfl).1; go_simp))) ?_
      simp only [Act.put, setIfInBounds_toArray, set_cons_zero, set_cons_succ]
      refine @wpG_tk _ _ _ _ _ (some 138) ((bif c141 then .bool (decide (r ≥ e.2.2.1)) else undef)) _ _ rfl (by cases c141 with | false => exact .no (by rfl) | true => exact (.val (by rfl) (fun W hg => by go_simp))) ?_
      simp only [Act.put, setIfInBounds_toArray, set_cons_zero, set_cons_succ]
      refine @wpG_tk _ _ _ _ _ (some 139) (.bool (c141 && (decide (r ≥ e.2.2.1)))) _ _ rfl (.val (by rfl) (fun W hg => by cases c141 <;> go_simp)) ?_
      simp only [Act.put, setIfInBounds_toArray, set_cons_zero, set_cons_succ]
      obtain ⟨c142, hc142⟩ : ∃ b, b = (c141 && (decide (r ≥ e.2.2.1))) := ⟨_, rfl⟩
      rw [← hc142]
      have Hc142 := Lib.hid hc142
      clear hc142
      refine @wpG_tk _ _ _ _ _ (some 140) (.bool c142) _ _ rfl (.val (by rfl) (fun _ _ => rfl)) ?_
      simp only [Act.put, setIfInBounds_toArray, set_cons_zero, set_cons_succ]
      refine @wpG_tk _ _ _ _ _ (some 141) ((bif c142 then .pointer (some ⟨w.heap.size + 1, 2, none⟩) else undef)) _ _ rfl (by cases c142 with | false => exact .no (by rfl) | true => exact (.val (by rfl) (fun W hg => by go_simp))) ?_
      simp only [Act.put, setIfInBounds_toArray, set_cons_zero, set_cons_succ]
      refine @wpG_tk _ _ _ _ _ (some 142) ((bif c142 then .int .i64 r else undef)) _ _ rfl (by cases c142 with | false => exact .no (by rfl) | true => exact (.val (by rfl) (fun W hg => by have c := (R131.out.below (GC137.out.trans hg) 2 _ rfl).1; go_simp))) ?_
      simp only [Act.put, setIfInBounds_toArray, set_cons_zero, set_cons_succ]
      refine @wpG_tk _ _ _ _ _ (some 143) ((bif c142 then .pointer (some ⟨W120.heap.size, 2, none⟩) else undef)) _ _ rfl (by cases c142 with | false => exact .no (by rfl) | true => exact (.val (by rfl) (fun W hg => by go_simp))) ?_
      simp only [Act.put, setIfInBounds_toArray, set_cons_zero, set_cons_succ]
      refine @wpG_tk _ _ _ _ _ (some 144) ((bif c142 then .int .i64 e.2.2.1 else undef)) _ _ rfl (by cases c142 with | false => exact .no (by rfl) | true => exact (.val (by rfl) (fun W hg => by have c := (R132.out.below (GC137.out.trans hg) 2 _ rfl).1; go_simp))) ?_
      simp only [Act.put, setIfInBounds_toArray, set_cons_zero, set_cons_succ]
      refine @wpG_tk _ _ _ _ _ (some 145) ((bif c142 then .int .i64 s else undef)) _ _ rfl (by cases c142 with | false => exact .no (by rfl) | true => exact (.val (by rfl) (fun _ _ => rfl))) ?_
      simp only [Act.put, setIfInBounds_toArray, set_cons_zero, set_cons_succ]
      refine @wpG_tk _ _ _ _ _ (some 146) ((bif c142 then .int .i64 (e.2.2.1 + s) else undef)) _ _ rfl (by cases c142 with | false => exact .no (by rfl) | true => exact (.val (by rfl) (fun W hg => by (first | (go_simp; done) | (go_simp; rw [IntWalk.i64_in _ (by omega)]))))) ?_
      simp only [Act.put, setIfInBounds_toArray, set_cons_zero, set_cons_succ]
      refine @wpG_tk _ _ _ _ _ (some 147) ((bif c142 then .bool (decide (r < e.2.2.1 + s)) else undef)) _ _ rfl (by cases c142 with | false => exact .no (by rfl) | true => exact (.val (by rfl) (fun W hg => by go_simp))) ?_
      simp only [Act.put, setIfInBounds_toArray, set_cons_zero, set_cons_succ]
      refine @wpG_tk _ _ _ _ _ (some 148) (.bool (c142 && (decide (r < e.2.2.1 + s)))) _ _ rfl (.val (by rfl) (fun W hg => by cases c142 <;> go_simp)) ?_
      simp only [Act.put, setIfInBounds_toArray, set_cons_zero, set_cons_succ]
      obtain ⟨c143, hc143⟩ : ∃ b, b = (c142 && (decide (r < e.2.2.1 + s))) := ⟨_, rfl⟩
      rw [← hc143]
      have Hc143 := Lib.hid hc143
      clear hc143
      refine wpG_done (fun V144 hv145 => ?_)
      have GC146 := Lib.hid (GC137.out.trans hv145)
      clear hv145
      have hin : c143 = Mo.inQ p q r e := by rw [HIQ.out, Hc143.out, Hc142.out, Hc141.out, Hc140.out, Hc139.out, Hc138.out]
      rw [hin]
      cases hv : Mo.inQ p q r e with
      | true => as_aux_lemma =>
          have hcs := HCS.out
          rw [hv] at hcs
          have HCT := Lib.hid hcs
          clear hcs hv hin
          go_upto_region 15 with fail
          refine wpG_region ?_
          refine @wpG_tk _ _ _ _ _ (some 149) (.int .i64 (c : Int)) _ _ rfl (.val (by rfl) (fun _ _ => rfl)) ?_
          simp only [Act.put, setIfInBounds_toArray, set_cons_zero, set_cons_succ]
          refine @wpG_tk _ _ _ _ _ (some 150) (.int .i64 ((c : Int) + 1)) _ _ rfl (.val (by rfl) (fun W hg => by (first | (go_simp; done) | (go_simp; rw [IntWalk.i64_in _ (by omega)])))) ?_
          simp only [Act.put, setIfInBounds_toArray, set_cons_zero, set_cons_succ]
          refine @wpG_tk _ _ _ _ _ (some 10) (.int .i64 ((c : Int) + 1)) _ _ rfl (.val (by rfl) (fun _ _ => rfl)) ?_
          simp only [Act.put, setIfInBounds_toArray, set_cons_zero, set_cons_succ]
          refine wpG_done (fun V147 hv148 => ?_)
          have GC149 := Lib.hid (GC146.out.trans hv148)
          clear hv148
          by_cases h7 : k + 7 < n
          rotate_left
          · as_aux_lemma =>
              go_upto_region 16 with fail
              simp only [List.append]
              refine wpK_region (by kernel_rfl) ?_
              refine wpK_ta (i := 0) (some 151) (v := .int .i64 (k : Int)) rfl rfl (by kernel_rfl) (fun _ _ _ h => h) (Or.inl ⟨rfl, fun _ => rfl⟩) ?_
              simp only [Act.put, setIfInBounds_toArray, set_cons_zero, set_cons_succ]
              refine wpK_ta (i := 1) (some 152) (v := .int .i64 ((k : Int) + 7)) rfl rfl (by kernel_rfl) (fun _ _ _ h => h) (Or.inl ⟨by rfl, fun W => by (first | (go_simp; done) | (go_simp; rw [IntWalk.i64_in _ (by omega)]))⟩) ?_
              simp only [Act.put, setIfInBounds_toArray, set_cons_zero, set_cons_succ]
              refine wpK_ta (i := 2) (some 153) (v := .slice (some ⟨g, 0, none⟩) n c1) rfl rfl (by kernel_rfl) (fun _ _ _ h => h) (Or.inl ⟨rfl, fun _ => rfl⟩) ?_
              simp only [Act.put, setIfInBounds_toArray, set_cons_zero, set_cons_succ]
              refine wpK_ta (i := 3) (some 154) (v := .int .i64 (n : Int)) rfl rfl (by kernel_rfl) (fun _ _ _ h => h) (Or.inl ⟨by rfl, fun W => by go_simp⟩) ?_
              simp only [Act.put, setIfInBounds_toArray, set_cons_zero, set_cons_succ]
              refine wpK_ta (i := 4) (some 155) (v := .bool false) rfl rfl (by kernel_rfl) (fun _ _ _ h => h) (Or.inl ⟨by rfl, fun W => by have hq : ¬ ((k : Int) + 7 < (n : Int)) := (by omega); first | (go_simp; done) | (go_simp <;> omega)⟩) ?_
              simp only [Act.put, setIfInBounds_toArray, set_cons_zero, set_cons_succ]
              refine wpK_ta (i := 5) (some 156) (v := .bool false) rfl rfl (by kernel_rfl) (fun _ _ _ h => h) (Or.inl ⟨rfl, fun _ => rfl⟩) ?_
              simp only [Act.put, setIfInBounds_toArray, set_cons_zero, set_cons_succ]
              refine wpK_ta (i := 6) (some 157) (v := undef) rfl rfl (by kernel_rfl) (fun _ _ _ h => h) (Or.inr ⟨by rfl, rfl⟩) ?_
              simp only [Act.put, setIfInBounds_toArray, set_cons_zero, set_cons_succ]
              refine wpK_ta (i := 7) (some 158) (v := undef) rfl rfl (by kernel_rfl) (fun _ _ _ h => h) (Or.inr ⟨by rfl, rfl⟩) ?_
              simp only [Act.put, setIfInBounds_toArray, set_cons_zero, set_cons_succ]
              refine wpK_ta (i := 8) (some 159) (v := undef) rfl rfl (by kernel_rfl) (fun _ _ _ h => h) (Or.inr ⟨by rfl, rfl⟩) ?_
              simp only [Act.put, setIfInBounds_toArray, set_cons_zero, set_cons_succ]
              refine wpK_ta (i := 9) (some 160) (v := undef) rfl rfl (by kernel_rfl) (fun _ _ _ h => h) (Or.inr ⟨by rfl, rfl⟩) ?_
              simp only [Act.put, setIfInBounds_toArray, set_cons_zero, set_cons_succ]
              refine wpK_ta (i := 10) (some 161) (v := undef) rfl rfl (by kernel_rfl) (fun _ _ _ h => h) (Or.inr ⟨by rfl, rfl⟩) ?_
              simp only [Act.put, setIfInBounds_toArray, set_cons_zero, set_cons_succ]
              refine wpK_ta (i := 11) (some 162) (v := undef) rfl rfl (by kernel_rfl) (fun _ _ _ h => h) (Or.inr ⟨by rfl, rfl⟩) ?_
              simp only [Act.put, setIfInBounds_toArray, set_cons_zero, set_cons_succ]
              refine wpK_ta (i := 12) (some 163) (v := undef) rfl rfl (by kernel_rfl) (fun _ _ _ h => h) (Or.inr ⟨by rfl, rfl⟩) ?_
              simp only [Act.put, setIfInBounds_toArray, set_cons_zero, set_cons_succ]
              refine wpK_ta (i := 13) (some 164) (v := undef) rfl rfl (by kernel_rfl) (fun _ _ _ h => h) (Or.inr ⟨by rfl, rfl⟩) ?_
              simp only [Act.put, setIfInBounds_toArray, set_cons_zero, set_cons_succ]
              refine wpK_ta (i := 14) (some 165) (v := undef) rfl rfl (by kernel_rfl) (fun _ _ _ h => h) (Or.inr ⟨by rfl, rfl⟩) ?_
              simp only [Act.put, setIfInBounds_toArray, set_cons_zero, set_cons_succ]
              refine wpK_ta (i := 15) (some 166) (v := undef) rfl rfl (by kernel_rfl) (fun _ _ _ h => h) (Or.inr ⟨by rfl, rfl⟩) ?_
              simp only [Act.put, setIfInBounds_toArray, set_cons_zero, set_cons_succ]
              refine wpK_ta (i := 16) (some 167) (v := undef) rfl rfl (by kernel_rfl) (fun _ _ _ h => h) (Or.inr ⟨by rfl, rfl⟩) ?_
              simp only [Act.put, setIfInBounds_toArray, set_cons_zero, set_cons_succ]
              refine wpK_ta (i := 17) (some 168) (v := undef) rfl rfl (by kernel_rfl) (fun _ _ _ h => h) (Or.inr ⟨by rfl, rfl⟩) ?_
              simp only [Act.put, setIfInBounds_toArray, set_cons_zero, set_cons_succ]
              refine wpK_ta (i := 18) (some 169) (v := .bool false) rfl rfl (by kernel_rfl) (fun _ _ _ h => h) (Or.inl ⟨by rfl, fun W => by go_simp⟩) ?_
              simp only [Act.put, setIfInBounds_toArray, set_cons_zero, set_cons_succ]
              refine wpK_ta (i := 19) (some 170) (v := .bool false) rfl rfl (by kernel_rfl) (fun _ _ _ h => h) (Or.inl ⟨rfl, fun _ => rfl⟩) ?_
              simp only [Act.put, setIfInBounds_toArray, set_cons_zero, set_cons_succ]
              refine wpK_ta (i := 20) (some 171) (v := undef) rfl rfl (by kernel_rfl) (fun _ _ _ h => h) (Or.inr ⟨by rfl, rfl⟩) ?_
              simp only [Act.put, setIfInBounds_toArray, set_cons_zero, set_cons_succ]
              refine wpK_ta (i := 21) (some 172) (v := undef) rfl rfl (by kernel_rfl) (fun _ _ _ h => h) (Or.inr ⟨by rfl, rfl⟩) ?_
              simp only [Act.put, setIfInBounds_toArray, set_cons_zero, set_cons_succ]
              refine wpK_ta (i := 22) (some 173) (v := undef) rfl rfl (by kernel_rfl) (fun _ _ _ h => h) (Or.inr ⟨by rfl, rfl⟩) ?_
              simp only [Act.put, setIfInBounds_toArray, set_cons_zero, set_cons_succ]
              refine wpK_ta (i := 23) (some 174) (v := undef) rfl rfl (by kernel_rfl) (fun _ _ _ h => h) (Or.inr ⟨by rfl, rfl⟩) ?_
              simp only [Act.put, setIfInBounds_toArray, set_cons_zero, set_cons_succ]
              refine wpK_ta (i := 24) (some 175) (v := undef) rfl rfl (by kernel_rfl) (fun _ _ _ h => h) (Or.inr ⟨by rfl, rfl⟩) ?_
              simp only [Act.put, setIfInBounds_toArray, set_cons_zero, set_cons_succ]
              refine wpK_ta (i := 25) (some 176) (v := undef) rfl rfl (by kernel_rfl) (fun _ _ _ h => h) (Or.inr ⟨by rfl, rfl⟩) ?_
              simp only [Act.put, setIfInBounds_toArray, set_cons_zero, set_cons_succ]
              refine wpK_ta (i := 26) (some 177) (v := .bool false) rfl rfl (by kernel_rfl) (fun _ _ _ h => h) (Or.inl ⟨by rfl, fun W => by go_simp⟩) ?_
              simp only [Act.put, setIfInBounds_toArray, set_cons_zero, set_cons_succ]
              refine wpK_ta (i := 27) (some 178) (v := .bool false) rfl rfl (by kernel_rfl) (fun _ _ _ h => h) (Or.inl ⟨rfl, fun _ => rfl⟩) ?_
              simp only [Act.put, setIfInBounds_toArray, set_cons_zero, set_cons_succ]
              refine wpK_ta (i := 28) (some 179) (v := undef) rfl rfl (by kernel_rfl) (fun _ _ _ h => h) (Or.inr ⟨by rfl, rfl⟩) ?_
              simp only [Act.put, setIfInBounds_toArray, set_cons_zero, set_cons_succ]
              refine wpK_ta (i := 29) (some 180) (v := undef) rfl rfl (by kernel_rfl) (fun _ _ _ h => h) (Or.inr ⟨by rfl, rfl⟩) ?_
              simp only [Act.put, setIfInBounds_toArray, set_cons_zero, set_cons_succ]
              refine wpK_ta (i := 30) (some 181) (v := undef) rfl rfl (by kernel_rfl) (fun _ _ _ h => h) (Or.inr ⟨by rfl, rfl⟩) ?_
              simp only [Act.put, setIfInBounds_toArray, set_cons_zero, set_cons_succ]
              refine wpK_ta (i := 31) (some 182) (v := undef) rfl rfl (by kernel_rfl) (fun _ _ _ h => h) (Or.inr ⟨by rfl, rfl⟩) ?_
              simp only [Act.put, setIfInBounds_toArray, set_cons_zero, set_cons_succ]
              refine wpK_ta (i := 32) (some 183) (v := undef) rfl rfl (by kernel_rfl) (fun _ _ _ h => h) (Or.inr ⟨by rfl, rfl⟩) ?_
              simp only [Act.put, setIfInBounds_toArray, set_cons_zero, set_cons_succ]
              refine wpK_ta (i := 33) (some 184) (v := undef) rfl rfl (by kernel_rfl) (fun _ _ _ h => h) (Or.inr ⟨by rfl, rfl⟩) ?_
              simp only [Act.put, setIfInBounds_toArray, set_cons_zero, set_cons_succ]
              refine wpK_ta (i := 34) (some 185) (v := .bool false) rfl rfl (by kernel_rfl) (fun _ _ _ h => h) (Or.inl ⟨by rfl, fun W => by go_simp⟩) ?_
              simp only [Act.put, setIfInBounds_toArray, set_cons_zero, set_cons_succ]
              refine wpK_ta (i := 35) (some 186) (v := .bool false) rfl rfl (by kernel_rfl) (fun _ _ _ h => h) (Or.inl ⟨rfl, fun _ => rfl⟩) ?_
              simp only [Act.put, setIfInBounds_toArray, set_cons_zero, set_cons_succ]
              refine wpK_ta (i := 36) (some 187) (v := undef) rfl rfl (by kernel_rfl) (fun _ _ _ h => h) (Or.inr ⟨by rfl, rfl⟩) ?_
              simp only [Act.put, setIfInBounds_toArray, set_cons_zero, set_cons_succ]
              refine wpK_ta (i := 37) (some 188) (v := undef) rfl rfl (by kernel_rfl) (fun _ _ _ h => h) (Or.inr ⟨by rfl, rfl⟩) ?_
              simp only [Act.put, setIfInBounds_toArray, set_cons_zero, set_cons_succ]
              refine wpK_ta (i := 38) (some 189) (v := undef) rfl rfl (by kernel_rfl) (fun _ _ _ h => h) (Or.inr ⟨by rfl, rfl⟩) ?_
              simp only [Act.put, setIfInBounds_toArray, set_cons_zero, set_cons_succ]
              refine wpK_ta (i := 39) (some 190) (v := undef) rfl rfl (by kernel_rfl) (fun _ _ _ h => h) (Or.inr ⟨by rfl, rfl⟩) ?_
              simp only [Act.put, setIfInBounds_toArray, set_cons_zero, set_cons_succ]
              refine wpK_ta (i := 40) (some 191) (v := undef) rfl rfl (by kernel_rfl) (fun _ _ _ h => h) (Or.inr ⟨by rfl, rfl⟩) ?_
              simp only [Act.put, setIfInBounds_toArray, set_cons_zero, set_cons_succ]
              refine wpK_ta (i := 41) (some 192) (v := undef) rfl rfl (by kernel_rfl) (fun _ _ _ h => h) (Or.inr ⟨by rfl, rfl⟩) ?_
              simp only [Act.put, setIfInBounds_toArray, set_cons_zero, set_cons_succ]
              refine wpK_ta (i := 42) (some 193) (v := .bool false) rfl rfl (by kernel_rfl) (fun _ _ _ h => h) (Or.inl ⟨by rfl, fun W => by go_simp⟩) ?_
              simp only [Act.put, setIfInBounds_toArray, set_cons_zero, set_cons_succ]
              refine wpK_ta (i := 43) (some 194) (v := .bool false) rfl rfl (by kernel_rfl) (fun _ _ _ h => h) (Or.inl ⟨rfl, fun _ => rfl⟩) ?_
              simp only [Act.put, setIfInBounds_toArray, set_cons_zero, set_cons_succ]
              refine wpK_ta (i := 44) (some 195) (v := undef) rfl rfl (by kernel_rfl) (fun _ _ _ h => h) (Or.inr ⟨by rfl, rfl⟩) ?_
              simp only [Act.put, setIfInBounds_toArray, set_cons_zero, set_cons_succ]
              refine wpK_ta (i := 45) (some 196) (v := undef) rfl rfl (by kernel_rfl) (fun _ _ _ h => h) (Or.inr ⟨by rfl, rfl⟩) ?_
              simp only [Act.put, setIfInBounds_toArray, set_cons_zero, set_cons_succ]
              refine wpK_ta (i := 46) (some 197) (v := undef) rfl rfl (by kernel_rfl) (fun _ _ _ h => h) (Or.inr ⟨by rfl, rfl⟩) ?_
              simp only [Act.put, setIfInBounds_toArray, set_cons_zero, set_cons_succ]
              refine wpK_ta (i := 47) (some 198) (v := undef) rfl rfl (by kernel_rfl) (fun _ _ _ h => h) (Or.inr ⟨by rfl, rfl⟩) ?_
              simp only [Act.put, setIfInBounds_toArray, set_cons_zero, set_cons_succ]
              refine wpK_ta (i := 48) (some 199) (v := undef) rfl rfl (by kernel_rfl) (fun _ _ _ h => h) (Or.inr ⟨by rfl, rfl⟩) ?_
              simp only [Act.put, setIfInBounds_toArray, set_cons_zero, set_cons_succ]
              refine wpK_ta (i := 49) (some 200) (v := undef) rfl rfl (by kernel_rfl) (fun _ _ _ h => h) (Or.inr ⟨by rfl, rfl⟩) ?_
              simp only [Act.put, setIfInBounds_toArray, set_cons_zero, set_cons_succ]
              refine wpK_ta (i := 50) (some 201) (v := undef) rfl rfl (by kernel_rfl) (fun _ _ _ h => h) (Or.inr ⟨by rfl, rfl⟩) ?_
              simp only [Act.put, setIfInBounds_toArray, set_cons_zero, set_cons_succ]
              refine wpK_ta (i := 51) (some 202) (v := undef) rfl rfl (by kernel_rfl) (fun _ _ _ h => h) (Or.inr ⟨by rfl, rfl⟩) ?_
              simp only [Act.put, setIfInBounds_toArray, set_cons_zero, set_cons_succ]
              refine wpK_ta (i := 52) (some 203) (v := undef) rfl rfl (by kernel_rfl) (fun _ _ _ h => h) (Or.inr ⟨by rfl, rfl⟩) ?_
              simp only [Act.put, setIfInBounds_toArray, set_cons_zero, set_cons_succ]
              refine wpK_ta (i := 53) (some 204) (v := undef) rfl rfl (by kernel_rfl) (fun _ _ _ h => h) (Or.inr ⟨by rfl, rfl⟩) ?_
              simp only [Act.put, setIfInBounds_toArray, set_cons_zero, set_cons_succ]
              refine wpK_ta (i := 54) (some 205) (v := undef) rfl rfl (by kernel_rfl) (fun _ _ _ h => h) (Or.inr ⟨by rfl, rfl⟩) ?_
              simp only [Act.put, setIfInBounds_toArray, set_cons_zero, set_cons_succ]
              refine wpK_ta (i := 55) (some 206) (v := undef) rfl rfl (by kernel_rfl) (fun _ _ _ h => h) (Or.inr ⟨by rfl, rfl⟩) ?_
              simp only [Act.put, setIfInBounds_toArray, set_cons_zero, set_cons_succ]
              refine wpK_ta (i := 56) (some 207) (v := undef) rfl rfl (by kernel_rfl) (fun _ _ _ h => h) (Or.inr ⟨by rfl, rfl⟩) ?_
              simp only [Act.put, setIfInBounds_toArray, set_cons_zero, set_cons_succ]
              refine wpK_ta (i := 57) (some 208) (v := undef) rfl rfl (by kernel_rfl) (fun _ _ _ h => h) (Or.inr ⟨by rfl, rfl⟩) ?_
              simp only [Act.put, setIfInBounds_toArray, set_cons_zero, set_cons_succ]
              refine wpK_ta (i := 58) (some 209) (v := undef) rfl rfl (by kernel_rfl) (fun _ _ _ h => h) (Or.inr ⟨by rfl, rfl⟩) ?_
              simp only [Act.put, setIfInBounds_toArray, set_cons_zero, set_cons_succ]
              refine wpK_ta (i := 59) (some 210) (v := undef) rfl rfl (by kernel_rfl) (fun _ _ _ h => h) (Or.inr ⟨by rfl, rfl⟩) ?_
              simp only [Act.put, setIfInBounds_toArray, set_cons_zero, set_cons_succ]
              refine wpK_ta (i := 60) (some 211) (v := undef) rfl rfl (by kernel_rfl) (fun _ _ _ h => h) (Or.inr ⟨by rfl, rfl⟩) ?_
              simp only [Act.put, setIfInBounds_toArray, set_cons_zero, set_cons_succ]
              refine wpK_ta (i := 61) (some 212) (v := undef) rfl rfl (by kernel_rfl) (fun _ _ _ h => h) (Or.inr ⟨by rfl, rfl⟩) ?_
              simp only [Act.put, setIfInBounds_toArray, set_cons_zero, set_cons_succ]
              refine wpK_ta (i := 62) (some 213) (v := undef) rfl rfl (by kernel_rfl) (fun _ _ _ h => h) (Or.inr ⟨by rfl, rfl⟩) ?_
              simp only [Act.put, setIfInBounds_toArray, set_cons_zero, set_cons_succ]
              refine wpK_ta (i := 63) (some 214) (v := undef) rfl rfl (by kernel_rfl) (fun _ _ _ h => h) (Or.inr ⟨by rfl, rfl⟩) ?_
              simp only [Act.put, setIfInBounds_toArray, set_cons_zero, set_cons_succ]
              refine wpK_ta (i := 64) (some 215) (v := .bool false) rfl rfl (by kernel_rfl) (fun _ _ _ h => h) (Or.inl ⟨by rfl, fun W => by go_simp⟩) ?_
              simp only [Act.put, setIfInBounds_toArray, set_cons_zero, set_cons_succ]
              refine wpK_done (by kernel_rfl) (fun V150 hv151 => ?_) _
              have GC152 := Lib.hid (GC149.out.trans (Gr.un hv151))
              clear hv151
              by_cases hk0 : 0 < k
              · skip
                have HCP := Lib.hid (HCPX.out hk0)
                go_upto_region 18 with fail
                refine wpK_region (by kernel_rfl) ?_
                refine wpK_ta (i := 0) (some 216) (v := .int .i64 (k : Int)) rfl rfl (by kernel_rfl) (fun _ _ _ h => h) (Or.inl ⟨rfl, fun _ => rfl⟩) ?_
                simp only [Act.put, setIfInBounds_toArray, set_cons_zero, set_cons_succ]
                refine wpK_ta (i := 1) (some 217) (v := .bool true) rfl rfl (by kernel_rfl) (fun _ _ _ h => h) (Or.inl ⟨by rfl, fun W => by have hq : ((k : Int) > 0) := (by omega); first | (go_simp; done) | (go_simp <;> omega)⟩) ?_
                simp only [Act.put, setIfInBounds_toArray, set_cons_zero, set_cons_succ]
                refine wpK_ta (i := 2) (some 218) (v := .bool true) rfl rfl (by kernel_rfl) (fun _ _ _ h => h) (Or.inl ⟨rfl, fun _ => rfl⟩) ?_
                simp only [Act.put, setIfInBounds_toArray, set_cons_zero, set_cons_succ]
                refine wpK_ta (i := 3) (some 219) (v := .slice (some ⟨g, 0, none⟩) n c1) rfl rfl (by kernel_rfl) (fun _ _ _ h => h) (Or.inl ⟨rfl, fun _ => rfl⟩) ?_
                simp only [Act.put, setIfInBounds_toArray, set_cons_zero, set_cons_succ]
                refine wpK_ta (i := 4) (some 220) (v := .int .i64 (k : Int)) rfl rfl (by kernel_rfl) (fun _ _ _ h => h) (Or.inl ⟨rfl, fun _ => rfl⟩) ?_
                simp only [Act.put, setIfInBounds_toArray, set_cons_zero, set_cons_succ]
                refine wpK_ta (i := 5) (some 221) (v := .int .i64 ((k : Int) - 1)) rfl rfl (by kernel_rfl) (fun _ _ _ h => h) (Or.inl ⟨by rfl, fun W => by (first | (go_simp; done) | (go_simp; rw [IntWalk.i64_in _ (by omega)]))⟩) ?_
                simp only [Act.put, setIfInBounds_toArray, set_cons_zero, set_cons_succ]
                refine wpK_ta (i := 6) (some 222) (v := .pointer (some ⟨g, (k - 1) * 4, none⟩)) rfl rfl (by kernel_rfl) (fun _ _ _ h => h) (Or.inl ⟨by rfl, fun W => by go_simp <;> first | rfl | omega | (simp; omega)⟩) ?_
                simp only [Act.put, setIfInBounds_toArray, set_cons_zero, set_cons_succ]
                refine wpK_ta (i := 7) (some 223) (v := .pointer (some ⟨g, (k - 1) * 4, none⟩)) rfl rfl (by kernel_rfl) (fun _ _ _ h => h) (Or.inl ⟨by rfl, fun W => by go_simp⟩) ?_
                simp only [Act.put, setIfInBounds_toArray, set_cons_zero, set_cons_succ]
                refine wpK_tk (i := 8) (some 224) (v := .agg #[.int .i64 e0.1, .int .i64 e0.2.1, .int .i64 e0.2.2.1]) rfl rfl (by kernel_rfl) (fun _ _ _ h => h) (.load_mid (by rfl) 23 (.tmp 223) rfl g ((k - 1) * 4) rfl [.int .i64 e0.1, .int .i64 e0.2.1, .int .i64 e0.2.2.1] _ (fun W hg => cube_pt ((own_lies OW133.out).below (GC152.out.trans (Gr.un hg))) (HE0.out hk0)) Try.underlying23 rfl (by kernel_rfl)) ?_
                simp only [Act.put, setIfInBounds_toArray, set_cons_zero, set_cons_succ]
                refine wpK_tk (i := 9) (some 225) (v := .agg #[.int .i64 e.1, .int .i64 e.2.1, .int .i64 e.2.2.1]) rfl rfl (by kernel_rfl) (fun _ _ _ h => h) (.load_mid (by rfl) 23 (.tmp 13) rfl (W120.heap.size) 0 rfl [.int .i64 e.1, .int .i64 e.2.1, .int .i64 e.2.2.1] _ (fun W hg => (R132.out.below (GC152.out.trans (Gr.un hg))).range) Try.underlying23 rfl (by kernel_rfl)) ?_
                simp only [Act.put, setIfInBounds_toArray, set_cons_zero, set_cons_succ]
                refine wpK_tk (i := 10) (some 226) (v := .int .i64 (-1)) rfl rfl (by kernel_rfl) (fun _ _ _ h => h) (.call (f := 15) (args := #[.agg #[.int .i64 e0.1, .int .i64 e0.2.1, .int .i64 e0.2.2.1], .agg #[.int .i64 e.1, .int .i64 e.2.1, .int .i64 e.2.2.1]]) (by rfl) (fun W => by go_simp) (fun W hg => rename (compare_any e0.1 e0.2.1 e0.2.2.1 e.1 e.2.1 e.2.2.1 W) (by rw [HCP.out]))) ?_
                simp only [Act.put, setIfInBounds_toArray, set_cons_zero, set_cons_succ]
                refine wpK_ta (i := 11) (some 227) (v := .bool false) rfl rfl (by kernel_rfl) (fun _ _ _ h => h) (Or.inl ⟨by rfl, fun W => by have hq : ¬ ((-1) ≥ 0) := (by omega); first | (go_simp; done) | (go_simp <;> omega)⟩) ?_
                simp only [Act.put, setIfInBounds_toArray, set_cons_zero, set_cons_succ]
                refine wpK_ta (i := 12) (some 228) (v := .bool false) rfl rfl (by kernel_rfl) (fun _ _ _ h => h) (Or.inl ⟨by rfl, fun W => by go_simp⟩) ?_
                simp only [Act.put, setIfInBounds_toArray, set_cons_zero, set_cons_succ]
                refine wpK_done (by kernel_rfl) (fun V153 hv154 => ?_) _
                have GC155 := Lib.hid (GC152.out.trans (Gr.un hv154))
                clear hv154
                go_upto_region 9 with fail
                refine wpG_region ?_
                refine @wpG_tk _ _ _ _ _ (some 55) (.int .i64 (k : Int)) _ _ rfl (.val (by rfl) (fun _ _ => rfl)) ?_
                simp only [Act.put, setIfInBounds_toArray, set_cons_zero, set_cons_succ]
                refine @wpG_tk _ _ _ _ _ (some 56) (.int .i64 ((k : Int) + 1)) _ _ rfl (.val (by rfl) (fun W hg => by (first | (go_simp; done) | (go_simp; rw [IntWalk.i64_in _ (by omega)])))) ?_
                simp only [Act.put, setIfInBounds_toArray, set_cons_zero, set_cons_succ]
                refine @wpG_tk _ _ _ _ _ (some 11) (.int .i64 ((k : Int) + 1)) _ _ rfl (.val (by rfl) (fun _ _ => rfl)) ?_
                simp only [Act.put, setIfInBounds_toArray, set_cons_zero, set_cons_succ]
                refine wpG_done (fun V156 hv157 => ?_)
                have GC158 := Lib.hid (GC155.out.trans hv157)
                clear hv157
                go_wp2_with fail
                go_roundw
                case rel => exact ⟨k + 1, c + 1, by go_num, rfl, by omega, HCT.out.symm, ⟨R130.out.below GC158.out, R131.out.below GC158.out, own_gr OW133.out GC158.out, own_gr OW134.out GC158.out, Gr.to G126.out GC158.out⟩⟩
                case measure => first | (simp [intOf]; done) | (simp [intOf]; omega)
              · skip
                go_upto_region 18 with fail
                refine wpK_region (by kernel_rfl) ?_
                refine wpK_ta (i := 0) (some 216) (v := .int .i64 (k : Int)) rfl rfl (by kernel_rfl) (fun _ _ _ h => h) (Or.inl ⟨rfl, fun _ => rfl⟩) ?_
                simp only [Act.put, setIfInBounds_toArray, set_cons_zero, set_cons_succ]
                refine wpK_ta (i := 1) (some 217) (v := .bool false) rfl rfl (by kernel_rfl) (fun _ _ _ h => h) (Or.inl ⟨by rfl, fun W => by have hq : ¬ ((k : Int) > 0) := (by omega); first | (go_simp; done) | (go_simp <;> omega)⟩) ?_
                simp only [Act.put, setIfInBounds_toArray, set_cons_zero, set_cons_succ]
                refine wpK_ta (i := 2) (some 218) (v := .bool false) rfl rfl (by kernel_rfl) (fun _ _ _ h => h) (Or.inl ⟨rfl, fun _ => rfl⟩) ?_
                simp only [Act.put, setIfInBounds_toArray, set_cons_zero, set_cons_succ]
                refine wpK_ta (i := 3) (some 219) (v := undef) rfl rfl (by kernel_rfl) (fun _ _ _ h => h) (Or.inr ⟨by rfl, rfl⟩) ?_
                simp only [Act.put, setIfInBounds_toArray, set_cons_zero, set_cons_succ]
                refine wpK_ta (i := 4) (some 220) (v := undef) rfl rfl (by kernel_rfl) (fun _ _ _ h => h) (Or.inr ⟨by rfl, rfl⟩) ?_
                simp only [Act.put, setIfInBounds_toArray, set_cons_zero, set_cons_succ]
                refine wpK_ta (i := 5) (some 221) (v := undef) rfl rfl (by kernel_rfl) (fun _ _ _ h => h) (Or.inr ⟨by rfl, rfl⟩) ?_
                simp only [Act.put, setIfInBounds_toArray, set_cons_zero, set_cons_succ]
                refine wpK_ta (i := 6) (some 222) (v := undef) rfl rfl (by kernel_rfl) (fun _ _ _ h => h) (Or.inr ⟨by rfl, rfl⟩) ?_
                simp only [Act.put, setIfInBounds_toArray, set_cons_zero, set_cons_succ]
                refine wpK_ta (i := 7) (some 223) (v := undef) rfl rfl (by kernel_rfl) (fun _ _ _ h => h) (Or.inr ⟨by rfl, rfl⟩) ?_
                simp only [Act.put, setIfInBounds_toArray, set_cons_zero, set_cons_succ]
                refine wpK_ta (i := 8) (some 224) (v := undef) rfl rfl (by kernel_rfl) (fun _ _ _ h => h) (Or.inr ⟨by rfl, rfl⟩) ?_
                simp only [Act.put, setIfInBounds_toArray, set_cons_zero, set_cons_succ]
                refine wpK_ta (i := 9) (some 225) (v := undef) rfl rfl (by kernel_rfl) (fun _ _ _ h => h) (Or.inr ⟨by rfl, rfl⟩) ?_
                simp only [Act.put, setIfInBounds_toArray, set_cons_zero, set_cons_succ]
                refine wpK_ta (i := 10) (some 226) (v := undef) rfl rfl (by kernel_rfl) (fun _ _ _ h => h) (Or.inr ⟨by rfl, rfl⟩) ?_
                simp only [Act.put, setIfInBounds_toArray, set_cons_zero, set_cons_succ]
                refine wpK_ta (i := 11) (some 227) (v := undef) rfl rfl (by kernel_rfl) (fun _ _ _ h => h) (Or.inr ⟨by rfl, rfl⟩) ?_
                simp only [Act.put, setIfInBounds_toArray, set_cons_zero, set_cons_succ]
                refine wpK_ta (i := 12) (some 228) (v := .bool false) rfl rfl (by kernel_rfl) (fun _ _ _ h => h) (Or.inl ⟨by rfl, fun W => by go_simp⟩) ?_
                simp only [Act.put, setIfInBounds_toArray, set_cons_zero, set_cons_succ]
                refine wpK_done (by kernel_rfl) (fun V159 hv160 => ?_) _
                have GC161 := Lib.hid (GC152.out.trans (Gr.un hv160))
                clear hv160
                go_upto_region 9 with fail
                refine wpG_region ?_
                refine @wpG_tk _ _ _ _ _ (some 55) (.int .i64 (k : Int)) _ _ rfl (.val (by rfl) (fun _ _ => rfl)) ?_
                simp only [Act.put, setIfInBounds_toArray, set_cons_zero, set_cons_succ]
                refine @wpG_tk _ _ _ _ _ (some 56) (.int .i64 ((k : Int) + 1)) _ _ rfl (.val (by rfl) (fun W hg => by (first | (go_simp; done) | (go_simp; rw [IntWalk.i64_in _ (by omega)])))) ?_
                simp only [Act.put, setIfInBounds_toArray, set_cons_zero, set_cons_succ]
                refine @wpG_tk _ _ _ _ _ (some 11) (.int .i64 ((k : Int) + 1)) _ _ rfl (.val (by rfl) (fun _ _ => rfl)) ?_
                simp only [Act.put, setIfInBounds_toArray, set_cons_zero, set_cons_succ]
                refine wpG_done (fun V162 hv163 => ?_)
                have GC164 := Lib.hid (GC161.out.trans hv163)
                clear hv163
                go_wp2_with fail
                go_roundw
                case rel => exact ⟨k + 1, c + 1, by go_num, rfl, by omega, HCT.out.symm, ⟨R130.out.below GC164.out, R131.out.below GC164.out, own_gr OW133.out GC164.out, own_gr OW134.out GC164.out, Gr.to G126.out GC164.out⟩⟩
                case measure => first | (simp [intOf]; done) | (simp [intOf]; omega)
          · obtain ⟨e7, h71, l7, h72, h73, h75, h74⟩ := HE7.out h7
            have HE71 := Lib.hid h71
            have HL7 := Lib.hid h72
            have H74 := Lib.hid h74
            obtain ⟨rx, hrx⟩ : ∃ x, x = e.1 % (2 * s) := ⟨_, rfl⟩
            have Hrx := Lib.hid hrx
            clear hrx
            obtain ⟨ry, hry⟩ : ∃ x, x = e.2.1 % (2 * s) := ⟨_, rfl⟩
            have Hry := Lib.hid hry
            clear hry
            obtain ⟨rz, hrz⟩ : ∃ x, x = e.2.2.1 % (2 * s) := ⟨_, rfl⟩
            have Hrz := Lib.hid hrz
            clear hrz
            clear h71 h72 h74
            by_cases hat : e7.1 = e.1 + s ∧ e7.2.1 = e.2.1 + s ∧ e7.2.2.1 = e.2.2.1 + s
            · as_aux_lemma =>
                go_upto_region 16 with fail
                simp only [List.append]
                refine wpK_region (by kernel_rfl) ?_
                refine wpK_ta (i := 0) (some 151) (v := .int .i64 (k : Int)) rfl rfl (by kernel_rfl) (fun _ _ _ h => h) (Or.inl ⟨rfl, fun _ => rfl⟩) ?_
                simp only [Act.put, setIfInBounds_toArray, set_cons_zero, set_cons_succ]
                refine wpK_ta (i := 1) (some 152) (v := .int .i64 ((k : Int) + 7)) rfl rfl (by kernel_rfl) (fun _ _ _ h => h) (Or.inl ⟨by rfl, fun W => by (first | (go_simp; done) | (go_simp; rw [IntWalk.i64_in _ (by omega)]))⟩) ?_
                simp only [Act.put, setIfInBounds_toArray, set_cons_zero, set_cons_succ]
                refine wpK_ta (i := 2) (some 153) (v := .slice (some ⟨g, 0, none⟩) n c1) rfl rfl (by kernel_rfl) (fun _ _ _ h => h) (Or.inl ⟨rfl, fun _ => rfl⟩) ?_
                simp only [Act.put, setIfInBounds_toArray, set_cons_zero, set_cons_succ]
                refine wpK_ta (i := 3) (some 154) (v := .int .i64 (n : Int)) rfl rfl (by kernel_rfl) (fun _ _ _ h => h) (Or.inl ⟨by rfl, fun W => by go_simp⟩) ?_
                simp only [Act.put, setIfInBounds_toArray, set_cons_zero, set_cons_succ]
                refine wpK_ta (i := 4) (some 155) (v := .bool true) rfl rfl (by kernel_rfl) (fun _ _ _ h => h) (Or.inl ⟨by rfl, fun W => by have hq : ((k : Int) + 7 < (n : Int)) := (by omega); first | (go_simp; done) | (go_simp <;> omega)⟩) ?_
                simp only [Act.put, setIfInBounds_toArray, set_cons_zero, set_cons_succ]
                refine wpK_ta (i := 5) (some 156) (v := .bool true) rfl rfl (by kernel_rfl) (fun _ _ _ h => h) (Or.inl ⟨rfl, fun _ => rfl⟩) ?_
                simp only [Act.put, setIfInBounds_toArray, set_cons_zero, set_cons_succ]
                refine wpK_ta (i := 6) (some 157) (v := .slice (some ⟨g, 0, none⟩) n c1) rfl rfl (by kernel_rfl) (fun _ _ _ h => h) (Or.inl ⟨rfl, fun _ => rfl⟩) ?_
                simp only [Act.put, setIfInBounds_toArray, set_cons_zero, set_cons_succ]
                refine wpK_ta (i := 7) (some 158) (v := .int .i64 (k : Int)) rfl rfl (by kernel_rfl) (fun _ _ _ h => h) (Or.inl ⟨rfl, fun _ => rfl⟩) ?_
                simp only [Act.put, setIfInBounds_toArray, set_cons_zero, set_cons_succ]
                refine wpK_ta (i := 8) (some 159) (v := .int .i64 ((k : Int) + 7)) rfl rfl (by kernel_rfl) (fun _ _ _ h => h) (Or.inl ⟨by rfl, fun W => by (first | (go_simp; done) | (go_simp; rw [IntWalk.i64_in _ (by omega)]))⟩) ?_
                simp only [Act.put, setIfInBounds_toArray, set_cons_zero, set_cons_succ]
                refine wpK_ta (i := 9) (some 160) (v := .pointer (some ⟨g, (k + 7) * 4, none⟩)) rfl rfl (by kernel_rfl) (fun _ _ _ h => h) (Or.inl ⟨by rfl, fun W => by go_simp; rw [if_pos (by constructor <;> omega), show ((k : Int) + 7).toNat = k + 7 by omega]⟩) ?_
                simp only [Act.put, setIfInBounds_toArray, set_cons_zero, set_cons_succ]
                refine wpK_ta (i := 10) (some 161) (v := .pointer (some ⟨g, (k + 7) * 4 + 3, none⟩)) rfl rfl (by kernel_rfl) (fun _ _ _ h => h) (Or.inl ⟨by rfl, fun W => by go_simp⟩) ?_
                simp only [Act.put, setIfInBounds_toArray, set_cons_zero, set_cons_succ]
                refine wpK_tk (i := 11) (some 162) (v := .int .i64 (l7 : Int)) rfl rfl (by kernel_rfl) (fun _ _ _ h => h) (.val (by rfl) (fun W hg => by have c := (cube_lv ((own_lies OW133.out).below (GC149.out.trans (Gr.un hg))) HE71.out HL7.out); go_simp)) ?_
                simp only [Act.put, setIfInBounds_toArray, set_cons_zero, set_cons_succ]
                refine wpK_ta (i := 12) (some 163) (v := .slice (some ⟨g, 0, none⟩) n c1) rfl rfl (by kernel_rfl) (fun _ _ _ h => h) (Or.inl ⟨rfl, fun _ => rfl⟩) ?_
                simp only [Act.put, setIfInBounds_toArray, set_cons_zero, set_cons_succ]
                refine wpK_ta (i := 13) (some 164) (v := .int .i64 (k : Int)) rfl rfl (by kernel_rfl) (fun _ _ _ h => h) (Or.inl ⟨rfl, fun _ => rfl⟩) ?_
                simp only [Act.put, setIfInBounds_toArray, set_cons_zero, set_cons_succ]
                refine wpK_ta (i := 14) (some 165) (v := .pointer (some ⟨g, k * 4, none⟩)) rfl rfl (by kernel_rfl) (fun _ _ _ h => h) (Or.inl ⟨by rfl, fun W => by go_simp <;> first | rfl | omega | (simp; omega)⟩) ?_
                simp only [Act.put, setIfInBounds_toArray, set_cons_zero, set_cons_succ]
                refine wpK_ta (i := 15) (some 166) (v := .pointer (some ⟨g, k * 4 + 3, none⟩)) rfl rfl (by kernel_rfl) (fun _ _ _ h => h) (Or.inl ⟨by rfl, fun W => by go_simp⟩) ?_
                simp only [Act.put, setIfInBounds_toArray, set_cons_zero, set_cons_succ]
                refine wpK_tk (i := 16) (some 167) (v := .int .i64 (lv : Int)) rfl rfl (by kernel_rfl) (fun _ _ _ h => h) (.val (by rfl) (fun W hg => by have c := (cube_lv ((own_lies OW133.out).below (GC149.out.trans (Gr.un hg))) HE.out HL.out); go_simp)) ?_
                simp only [Act.put, setIfInBounds_toArray, set_cons_zero, set_cons_succ]
                refine wpK_ta (i := 17) (some 168) (v := .bool (decide ((l7 : Int) = (lv : Int)))) rfl rfl (by kernel_rfl) (fun _ _ _ h => h) (Or.inl ⟨by rfl, fun W => by go_simp <;> rfl⟩) ?_
                simp only [Act.put, setIfInBounds_toArray, set_cons_zero, set_cons_succ]
                obtain ⟨c165, hc165⟩ : ∃ b, b = (decide ((l7 : Int) = (lv : Int))) := ⟨_, rfl⟩
                rw [← hc165]
                have Hc165 := Lib.hid hc165
                clear hc165
                refine wpK_ta (i := 18) (some 169) (v := .bool c165) rfl rfl (by kernel_rfl) (fun _ _ _ h => h) (Or.inl ⟨by rfl, fun W => by go_simp⟩) ?_
                simp only [Act.put, setIfInBounds_toArray, set_cons_zero, set_cons_succ]
                refine wpK_ta (i := 19) (some 170) (v := .bool c165) rfl rfl (by kernel_rfl) (fun _ _ _ h => h) (Or.inl ⟨rfl, fun _ => rfl⟩) ?_
                simp only [Act.put, setIfInBounds_toArray, set_cons_zero, set_cons_succ]
                refine wpK_ta (i := 20) (some 171) (v := (bif c165 then .pointer (some ⟨W120.heap.size, 0, none⟩) else undef)) rfl rfl (by kernel_rfl) (fun _ _ _ h => h) (by cases c165 with | false => exact Or.inr ⟨by rfl, rfl⟩ | true => exact (Or.inl ⟨by rfl, fun W => by go_simp⟩)) ?_
                simp only [Act.put, setIfInBounds_toArray, set_cons_zero, set_cons_succ]
                refine wpK_tk (i := 21) (some 172) (v := (bif c165 then .int .i64 e.1 else undef)) rfl rfl (by kernel_rfl) (fun _ _ _ h => h) (by cases c165 with | false => exact .no (by rfl) | true => exact (.val (by rfl) (fun W hg => by have c := (R132.out.below (GC149.out.trans (Gr.un hg)) 0 _ rfl).1; go_simp))) ?_
                simp only [Act.put, setIfInBounds_toArray, set_cons_zero, set_cons_succ]
                refine wpK_ta (i := 22) (some 173) (v := (bif c165 then .int .i64 s else undef)) rfl rfl (by kernel_rfl) (fun _ _ _ h => h) (by cases c165 with | false => exact Or.inr ⟨by rfl, rfl⟩ | true => exact (Or.inl ⟨rfl, fun _ => rfl⟩)) ?_
                simp only [Act.put, setIfInBounds_toArray, set_cons_zero, set_cons_succ]
                refine wpK_ta (i := 23) (some 174) (v := (bif c165 then .int .i64 (2 * s) else undef)) rfl rfl (by kernel_rfl) (fun _ _ _ h => h) (by cases c165 with | false => exact Or.inr ⟨by rfl, rfl⟩ | true => exact (Or.inl ⟨by rfl, fun W => by (first | (go_simp; done) | (go_simp; rw [IntWalk.i64_in _ (by omega)]))⟩)) ?_
                simp only [Act.put, setIfInBounds_toArray, set_cons_zero, set_cons_succ]
                refine wpK_ta (i := 24) (some 175) (v := (bif c165 then .int .i64 rx else undef)) rfl rfl (by kernel_rfl) (fun _ _ _ h => h) (by cases c165 with | false => exact Or.inr ⟨by rfl, rfl⟩ | true => exact (Or.inl ⟨by rfl, fun W => by first | (go_simp; rw [Hrx.out]; done) | (go_simp; rw [Hrx.out]; exact IntWalk.i64_in _ (by omega)) | (go_simp; rw [Int.tmod_eq_emod_of_nonneg (by omega), Hrx.out]; done) | (go_simp; rw [Int.tmod_eq_emod_of_nonneg (by omega), ← Hrx.out]; exact IntWalk.i64_in _ (by omega))⟩)) ?_
                simp only [Act.put, setIfInBounds_toArray, set_cons_zero, set_cons_succ]
                refine wpK_ta (i := 25) (some 176) (v := (bif c165 then .bool (decide (rx = 0)) else undef)) rfl rfl (by kernel_rfl) (fun _ _ _ h => h) (by cases c165 with | false => exact Or.inr ⟨by rfl, rfl⟩ | true => exact (Or.inl ⟨by rfl, fun W => by go_simp <;> rfl⟩)) ?_
                simp only [Act.put, setIfInBounds_toArray, set_cons_zero, set_cons_succ]
                refine wpK_ta (i := 26) (some 177) (v := .bool (c165 && (decide (rx = 0)))) rfl rfl (by kernel_rfl) (fun _ _ _ h => h) (Or.inl ⟨by rfl, fun W => by cases c165 <;> go_simp⟩) ?_
                simp only [Act.put, setIfInBounds_toArray, set_cons_zero, set_cons_succ]
                obtain ⟨c166, hc166⟩ : ∃ b, b = (c165 && (decide (rx = 0))) := ⟨_, rfl⟩
                rw [← hc166]
                have Hc166 := Lib.hid hc166
                clear hc166
                refine wpK_ta (i := 27) (some 178) (v := .bool c166) rfl rfl (by kernel_rfl) (fun _ _ _ h => h) (Or.inl ⟨rfl, fun _ => rfl⟩) ?_
                simp only [Act.put, setIfInBounds_toArray, set_cons_zero, set_cons_succ]
                refine wpK_ta (i := 28) (some 179) (v := (bif c166 then .pointer (some ⟨W120.heap.size, 1, none⟩) else undef)) rfl rfl (by kernel_rfl) (fun _ _ _ h => h) (by cases c166 with | false => exact Or.inr ⟨by rfl, rfl⟩ | true => exact (Or.inl ⟨by rfl, fun W => by go_simp⟩)) ?_
                simp only [Act.put, setIfInBounds_toArray, set_cons_zero, set_cons_succ]
                refine wpK_tk (i := 29) (some 180) (v := (bif c166 then .int .i64 e.2.1 else undef)) rfl rfl (by kernel_rfl) (fun _ _ _ h => h) (by cases c166 with | false => exact .no (by rfl) | true => exact (.val (by rfl) (fun W hg => by have c := (R132.out.below (GC149.out.trans (Gr.un hg)) 1 _ rfl).1; go_simp))) ?_
                simp only [Act.put, setIfInBounds_toArray, set_cons_zero, set_cons_succ]
                refine wpK_ta (i := 30) (some 181) (v := (bif c166 then .int .i64 s else undef)) rfl rfl (by kernel_rfl) (fun _ _ _ h => h) (by cases c166 with | false => exact Or.inr ⟨by rfl, rfl⟩ | true => exact (Or.inl ⟨rfl, fun _ => rfl⟩)) ?_
                simp only [Act.put, setIfInBounds_toArray, set_cons_zero, set_cons_succ]
                refine wpK_ta (i := 31) (some 182) (v := (bif c166 then .int .i64 (2 * s) else undef)) rfl rfl (by kernel_rfl) (fun _ _ _ h => h) (by cases c166 with | false => exact Or.inr ⟨by rfl, rfl⟩ | true => exact (Or.inl ⟨by rfl, fun W => by (first | (go_simp; done) | (go_simp; rw [IntWalk.i64_in _ (by omega)]))⟩)) ?_
                simp only [Act.put, setIfInBounds_toArray, set_cons_zero, set_cons_succ]
                refine wpK_ta (i := 32) (some 183) (v := (bif c166 then .int .i64 ry else undef)) rfl rfl (by kernel_rfl) (fun _ _ _ h => h) (by cases c166 with | false => exact Or.inr ⟨by rfl, rfl⟩ | true => exact (Or.inl ⟨by rfl, fun W => by first | (go_simp; rw [Hry.out]; done) | (go_simp; rw [Hry.out]; exact IntWalk.i64_in _ (by omega)) | (go_simp; rw [Int.tmod_eq_emod_of_nonneg (by omega), Hry.out]; done) | (go_simp; rw [Int.tmod_eq_emod_of_nonneg (by omega), ← Hry.out]; exact IntWalk.i64_in _ (by omega))⟩)) ?_
                simp only [Act.put, setIfInBounds_toArray, set_cons_zero, set_cons_succ]
                refine wpK_ta (i := 33) (some 184) (v := (bif c166 then .bool (decide (ry = 0)) else undef)) rfl rfl (by kernel_rfl) (fun _ _ _ h => h) (by cases c166 with | false => exact Or.inr ⟨by rfl, rfl⟩ | true => exact (Or.inl ⟨by rfl, fun W => by go_simp <;> rfl⟩)) ?_
                simp only [Act.put, setIfInBounds_toArray, set_cons_zero, set_cons_succ]
                refine wpK_ta (i := 34) (some 185) (v := .bool (c166 && (decide (ry = 0)))) rfl rfl (by kernel_rfl) (fun _ _ _ h => h) (Or.inl ⟨by rfl, fun W => by cases c166 <;> go_simp⟩) ?_
                simp only [Act.put, setIfInBounds_toArray, set_cons_zero, set_cons_succ]
                obtain ⟨c167, hc167⟩ : ∃ b, b = (c166 && (decide (ry = 0))) := ⟨_, rfl⟩
                rw [← hc167]
                have Hc167 := Lib.hid hc167
                clear hc167
                refine wpK_ta (i := 35) (some 186) (v := .bool c167) rfl rfl (by kernel_rfl) (fun _ _ _ h => h) (Or.inl ⟨rfl, fun _ => rfl⟩) ?_
                simp only [Act.put, setIfInBounds_toArray, set_cons_zero, set_cons_succ]
                refine wpK_ta (i := 36) (some 187) (v := (bif c167 then .pointer (some ⟨W120.heap.size, 2, none⟩) else undef)) rfl rfl (by kernel_rfl) (fun _ _ _ h => h) (by cases c167 with | false => exact Or.inr ⟨by rfl, rfl⟩ | true => exact (Or.inl ⟨by rfl, fun W => by go_simp⟩)) ?_
                simp only [Act.put, setIfInBounds_toArray, set_cons_zero, set_cons_succ]
                refine wpK_tk (i := 37) (some 188) (v := (bif c167 then .int .i64 e.2.2.1 else undef)) rfl rfl (by kernel_rfl) (fun _ _ _ h => h) (by cases c167 with | false => exact .no (by rfl) | true => exact (.val (by rfl) (fun W hg => by have c := (R132.out.below (GC149.out.trans (Gr.un hg)) 2 _ rfl).1; go_simp))) ?_
                simp only [Act.put, setIfInBounds_toArray, set_cons_zero, set_cons_succ]
                refine wpK_ta (i := 38) (some 189) (v := (bif c167 then .int .i64 s else undef)) rfl rfl (by kernel_rfl) (fun _ _ _ h => h) (by cases c167 with | false => exact Or.inr ⟨by rfl, rfl⟩ | true => exact (Or.inl ⟨rfl, fun _ => rfl⟩)) ?_
                simp only [Act.put, setIfInBounds_toArray, set_cons_zero, set_cons_succ]
                refine wpK_ta (i := 39) (some 190) (v := (bif c167 then .int .i64 (2 * s) else undef)) rfl rfl (by kernel_rfl) (fun _ _ _ h => h) (by cases c167 with | false => exact Or.inr ⟨by rfl, rfl⟩ | true => exact (Or.inl ⟨by rfl, fun W => by (first | (go_simp; done) | (go_simp; rw [IntWalk.i64_in _ (by omega)]))⟩)) ?_
                simp only [Act.put, setIfInBounds_toArray, set_cons_zero, set_cons_succ]
                refine wpK_ta (i := 40) (some 191) (v := (bif c167 then .int .i64 rz else undef)) rfl rfl (by kernel_rfl) (fun _ _ _ h => h) (by cases c167 with | false => exact Or.inr ⟨by rfl, rfl⟩ | true => exact (Or.inl ⟨by rfl, fun W => by first | (go_simp; rw [Hrz.out]; done) | (go_simp; rw [Hrz.out]; exact IntWalk.i64_in _ (by omega)) | (go_simp; rw [Int.tmod_eq_emod_of_nonneg (by omega), Hrz.out]; done) | (go_simp; rw [Int.tmod_eq_emod_of_nonneg (by omega), ← Hrz.out]; exact IntWalk.i64_in _ (by omega))⟩)) ?_
                simp only [Act.put, setIfInBounds_toArray, set_cons_zero, set_cons_succ]
                refine wpK_ta (i := 41) (some 192) (v := (bif c167 then .bool (decide (rz = 0)) else undef)) rfl rfl (by kernel_rfl) (fun _ _ _ h => h) (by cases c167 with | false => exact Or.inr ⟨by rfl, rfl⟩ | true => exact (Or.inl ⟨by rfl, fun W => by go_simp <;> rfl⟩)) ?_
                simp only [Act.put, setIfInBounds_toArray, set_cons_zero, set_cons_succ]
                refine wpK_ta (i := 42) (some 193) (v := .bool (c167 && (decide (rz = 0)))) rfl rfl (by kernel_rfl) (fun _ _ _ h => h) (Or.inl ⟨by rfl, fun W => by cases c167 <;> go_simp⟩) ?_
                simp only [Act.put, setIfInBounds_toArray, set_cons_zero, set_cons_succ]
                obtain ⟨c168, hc168⟩ : ∃ b, b = (c167 && (decide (rz = 0))) := ⟨_, rfl⟩
                rw [← hc168]
                have Hc168 := Lib.hid hc168
                clear hc168
                have hc4 : c168 = false := H74.out hat _ (by rw [Hc168.out, Hc167.out, Hc166.out, Hc165.out, Hrx.out, Hry.out, Hrz.out])
                rw [hc4]
                refine wpK_ta (i := 43) (some 194) (v := .bool false) rfl rfl (by kernel_rfl) (fun _ _ _ h => h) (Or.inl ⟨rfl, fun _ => rfl⟩) ?_
                simp only [Act.put, setIfInBounds_toArray, set_cons_zero, set_cons_succ]
                refine wpK_ta (i := 44) (some 195) (v := undef) rfl rfl (by kernel_rfl) (fun _ _ _ h => h) (Or.inr ⟨by rfl, rfl⟩) ?_
                simp only [Act.put, setIfInBounds_toArray, set_cons_zero, set_cons_succ]
                refine wpK_ta (i := 45) (some 196) (v := undef) rfl rfl (by kernel_rfl) (fun _ _ _ h => h) (Or.inr ⟨by rfl, rfl⟩) ?_
                simp only [Act.put, setIfInBounds_toArray, set_cons_zero, set_cons_succ]
                refine wpK_ta (i := 46) (some 197) (v := undef) rfl rfl (by kernel_rfl) (fun _ _ _ h => h) (Or.inr ⟨by rfl, rfl⟩) ?_
                simp only [Act.put, setIfInBounds_toArray, set_cons_zero, set_cons_succ]
                refine wpK_ta (i := 47) (some 198) (v := undef) rfl rfl (by kernel_rfl) (fun _ _ _ h => h) (Or.inr ⟨by rfl, rfl⟩) ?_
                simp only [Act.put, setIfInBounds_toArray, set_cons_zero, set_cons_succ]
                refine wpK_ta (i := 48) (some 199) (v := undef) rfl rfl (by kernel_rfl) (fun _ _ _ h => h) (Or.inr ⟨by rfl, rfl⟩) ?_
                simp only [Act.put, setIfInBounds_toArray, set_cons_zero, set_cons_succ]
                refine wpK_ta (i := 49) (some 200) (v := undef) rfl rfl (by kernel_rfl) (fun _ _ _ h => h) (Or.inr ⟨by rfl, rfl⟩) ?_
                simp only [Act.put, setIfInBounds_toArray, set_cons_zero, set_cons_succ]
                refine wpK_ta (i := 50) (some 201) (v := undef) rfl rfl (by kernel_rfl) (fun _ _ _ h => h) (Or.inr ⟨by rfl, rfl⟩) ?_
                simp only [Act.put, setIfInBounds_toArray, set_cons_zero, set_cons_succ]
                refine wpK_ta (i := 51) (some 202) (v := undef) rfl rfl (by kernel_rfl) (fun _ _ _ h => h) (Or.inr ⟨by rfl, rfl⟩) ?_
                simp only [Act.put, setIfInBounds_toArray, set_cons_zero, set_cons_succ]
                refine wpK_ta (i := 52) (some 203) (v := undef) rfl rfl (by kernel_rfl) (fun _ _ _ h => h) (Or.inr ⟨by rfl, rfl⟩) ?_
                simp only [Act.put, setIfInBounds_toArray, set_cons_zero, set_cons_succ]
                refine wpK_ta (i := 53) (some 204) (v := undef) rfl rfl (by kernel_rfl) (fun _ _ _ h => h) (Or.inr ⟨by rfl, rfl⟩) ?_
                simp only [Act.put, setIfInBounds_toArray, set_cons_zero, set_cons_succ]
                refine wpK_ta (i := 54) (some 205) (v := undef) rfl rfl (by kernel_rfl) (fun _ _ _ h => h) (Or.inr ⟨by rfl, rfl⟩) ?_
                simp only [Act.put, setIfInBounds_toArray, set_cons_zero, set_cons_succ]
                refine wpK_ta (i := 55) (some 206) (v := undef) rfl rfl (by kernel_rfl) (fun _ _ _ h => h) (Or.inr ⟨by rfl, rfl⟩) ?_
                simp only [Act.put, setIfInBounds_toArray, set_cons_zero, set_cons_succ]
                refine wpK_ta (i := 56) (some 207) (v := undef) rfl rfl (by kernel_rfl) (fun _ _ _ h => h) (Or.inr ⟨by rfl, rfl⟩) ?_
                simp only [Act.put, setIfInBounds_toArray, set_cons_zero, set_cons_succ]
                refine wpK_ta (i := 57) (some 208) (v := undef) rfl rfl (by kernel_rfl) (fun _ _ _ h => h) (Or.inr ⟨by rfl, rfl⟩) ?_
                simp only [Act.put, setIfInBounds_toArray, set_cons_zero, set_cons_succ]
                refine wpK_ta (i := 58) (some 209) (v := undef) rfl rfl (by kernel_rfl) (fun _ _ _ h => h) (Or.inr ⟨by rfl, rfl⟩) ?_
                simp only [Act.put, setIfInBounds_toArray, set_cons_zero, set_cons_succ]
                refine wpK_ta (i := 59) (some 210) (v := undef) rfl rfl (by kernel_rfl) (fun _ _ _ h => h) (Or.inr ⟨by rfl, rfl⟩) ?_
                simp only [Act.put, setIfInBounds_toArray, set_cons_zero, set_cons_succ]
                refine wpK_ta (i := 60) (some 211) (v := undef) rfl rfl (by kernel_rfl) (fun _ _ _ h => h) (Or.inr ⟨by rfl, rfl⟩) ?_
                simp only [Act.put, setIfInBounds_toArray, set_cons_zero, set_cons_succ]
                refine wpK_ta (i := 61) (some 212) (v := undef) rfl rfl (by kernel_rfl) (fun _ _ _ h => h) (Or.inr ⟨by rfl, rfl⟩) ?_
                simp only [Act.put, setIfInBounds_toArray, set_cons_zero, set_cons_succ]
                refine wpK_ta (i := 62) (some 213) (v := undef) rfl rfl (by kernel_rfl) (fun _ _ _ h => h) (Or.inr ⟨by rfl, rfl⟩) ?_
                simp only [Act.put, setIfInBounds_toArray, set_cons_zero, set_cons_succ]
                refine wpK_ta (i := 63) (some 214) (v := undef) rfl rfl (by kernel_rfl) (fun _ _ _ h => h) (Or.inr ⟨by rfl, rfl⟩) ?_
                simp only [Act.put, setIfInBounds_toArray, set_cons_zero, set_cons_succ]
                refine wpK_ta (i := 64) (some 215) (v := .bool false) rfl rfl (by kernel_rfl) (fun _ _ _ h => h) (Or.inl ⟨by rfl, fun W => by go_simp⟩) ?_
                simp only [Act.put, setIfInBounds_toArray, set_cons_zero, set_cons_succ]
                refine wpK_done (by kernel_rfl) (fun V169 hv170 => ?_) _
                have GC171 := Lib.hid (GC149.out.trans (Gr.un hv170))
                clear hv170
                by_cases hk0 : 0 < k
                · skip
                  have HCP := Lib.hid (HCPX.out hk0)
                  go_upto_region 18 with fail
                  refine wpK_region (by kernel_rfl) ?_
                  refine wpK_ta (i := 0) (some 216) (v := .int .i64 (k : Int)) rfl rfl (by kernel_rfl) (fun _ _ _ h => h) (Or.inl ⟨rfl, fun _ => rfl⟩) ?_
                  simp only [Act.put, setIfInBounds_toArray, set_cons_zero, set_cons_succ]
                  refine wpK_ta (i := 1) (some 217) (v := .bool true) rfl rfl (by kernel_rfl) (fun _ _ _ h => h) (Or.inl ⟨by rfl, fun W => by have hq : ((k : Int) > 0) := (by omega); first | (go_simp; done) | (go_simp <;> omega)⟩) ?_
                  simp only [Act.put, setIfInBounds_toArray, set_cons_zero, set_cons_succ]
                  refine wpK_ta (i := 2) (some 218) (v := .bool true) rfl rfl (by kernel_rfl) (fun _ _ _ h => h) (Or.inl ⟨rfl, fun _ => rfl⟩) ?_
                  simp only [Act.put, setIfInBounds_toArray, set_cons_zero, set_cons_succ]
                  refine wpK_ta (i := 3) (some 219) (v := .slice (some ⟨g, 0, none⟩) n c1) rfl rfl (by kernel_rfl) (fun _ _ _ h => h) (Or.inl ⟨rfl, fun _ => rfl⟩) ?_
                  simp only [Act.put, setIfInBounds_toArray, set_cons_zero, set_cons_succ]
                  refine wpK_ta (i := 4) (some 220) (v := .int .i64 (k : Int)) rfl rfl (by kernel_rfl) (fun _ _ _ h => h) (Or.inl ⟨rfl, fun _ => rfl⟩) ?_
                  simp only [Act.put, setIfInBounds_toArray, set_cons_zero, set_cons_succ]
                  refine wpK_ta (i := 5) (some 221) (v := .int .i64 ((k : Int) - 1)) rfl rfl (by kernel_rfl) (fun _ _ _ h => h) (Or.inl ⟨by rfl, fun W => by (first | (go_simp; done) | (go_simp; rw [IntWalk.i64_in _ (by omega)]))⟩) ?_
                  simp only [Act.put, setIfInBounds_toArray, set_cons_zero, set_cons_succ]
                  refine wpK_ta (i := 6) (some 222) (v := .pointer (some ⟨g, (k - 1) * 4, none⟩)) rfl rfl (by kernel_rfl) (fun _ _ _ h => h) (Or.inl ⟨by rfl, fun W => by go_simp <;> first | rfl | omega | (simp; omega)⟩) ?_
                  simp only [Act.put, setIfInBounds_toArray, set_cons_zero, set_cons_succ]
                  refine wpK_ta (i := 7) (some 223) (v := .pointer (some ⟨g, (k - 1) * 4, none⟩)) rfl rfl (by kernel_rfl) (fun _ _ _ h => h) (Or.inl ⟨by rfl, fun W => by go_simp⟩) ?_
                  simp only [Act.put, setIfInBounds_toArray, set_cons_zero, set_cons_succ]
                  refine wpK_tk (i := 8) (some 224) (v := .agg #[.int .i64 e0.1, .int .i64 e0.2.1, .int .i64 e0.2.2.1]) rfl rfl (by kernel_rfl) (fun _ _ _ h => h) (.load_mid (by rfl) 23 (.tmp 223) rfl g ((k - 1) * 4) rfl [.int .i64 e0.1, .int .i64 e0.2.1, .int .i64 e0.2.2.1] _ (fun W hg => cube_pt ((own_lies OW133.out).below (GC171.out.trans (Gr.un hg))) (HE0.out hk0)) Try.underlying23 rfl (by kernel_rfl)) ?_
                  simp only [Act.put, setIfInBounds_toArray, set_cons_zero, set_cons_succ]
                  refine wpK_tk (i := 9) (some 225) (v := .agg #[.int .i64 e.1, .int .i64 e.2.1, .int .i64 e.2.2.1]) rfl rfl (by kernel_rfl) (fun _ _ _ h => h) (.load_mid (by rfl) 23 (.tmp 13) rfl (W120.heap.size) 0 rfl [.int .i64 e.1, .int .i64 e.2.1, .int .i64 e.2.2.1] _ (fun W hg => (R132.out.below (GC171.out.trans (Gr.un hg))).range) Try.underlying23 rfl (by kernel_rfl)) ?_
                  simp only [Act.put, setIfInBounds_toArray, set_cons_zero, set_cons_succ]
                  refine wpK_tk (i := 10) (some 226) (v := .int .i64 (-1)) rfl rfl (by kernel_rfl) (fun _ _ _ h => h) (.call (f := 15) (args := #[.agg #[.int .i64 e0.1, .int .i64 e0.2.1, .int .i64 e0.2.2.1], .agg #[.int .i64 e.1, .int .i64 e.2.1, .int .i64 e.2.2.1]]) (by rfl) (fun W => by go_simp) (fun W hg => rename (compare_any e0.1 e0.2.1 e0.2.2.1 e.1 e.2.1 e.2.2.1 W) (by rw [HCP.out]))) ?_
                  simp only [Act.put, setIfInBounds_toArray, set_cons_zero, set_cons_succ]
                  refine wpK_ta (i := 11) (some 227) (v := .bool false) rfl rfl (by kernel_rfl) (fun _ _ _ h => h) (Or.inl ⟨by rfl, fun W => by have hq : ¬ ((-1) ≥ 0) := (by omega); first | (go_simp; done) | (go_simp <;> omega)⟩) ?_
                  simp only [Act.put, setIfInBounds_toArray, set_cons_zero, set_cons_succ]
                  refine wpK_ta (i := 12) (some 228) (v := .bool false) rfl rfl (by kernel_rfl) (fun _ _ _ h => h) (Or.inl ⟨by rfl, fun W => by go_simp⟩) ?_
                  simp only [Act.put, setIfInBounds_toArray, set_cons_zero, set_cons_succ]
                  refine wpK_done (by kernel_rfl) (fun V172 hv173 => ?_) _
                  have GC174 := Lib.hid (GC171.out.trans (Gr.un hv173))
                  clear hv173
                  go_upto_region 9 with fail
                  refine wpG_region ?_
                  refine @wpG_tk _ _ _ _ _ (some 55) (.int .i64 (k : Int)) _ _ rfl (.val (by rfl) (fun _ _ => rfl)) ?_
                  simp only [Act.put, setIfInBounds_toArray, set_cons_zero, set_cons_succ]
                  refine @wpG_tk _ _ _ _ _ (some 56) (.int .i64 ((k : Int) + 1)) _ _ rfl (.val (by rfl) (fun W hg => by (first | (go_simp; done) | (go_simp; rw [IntWalk.i64_in _ (by omega)])))) ?_
                  simp only [Act.put, setIfInBounds_toArray, set_cons_zero, set_cons_succ]
                  refine @wpG_tk _ _ _ _ _ (some 11) (.int .i64 ((k : Int) + 1)) _ _ rfl (.val (by rfl) (fun _ _ => rfl)) ?_
                  simp only [Act.put, setIfInBounds_toArray, set_cons_zero, set_cons_succ]
                  refine wpG_done (fun V175 hv176 => ?_)
                  have GC177 := Lib.hid (GC174.out.trans hv176)
                  clear hv176
                  go_wp2_with fail
                  go_roundw
                  case rel => exact ⟨k + 1, c + 1, by go_num, rfl, by omega, HCT.out.symm, ⟨R130.out.below GC177.out, R131.out.below GC177.out, own_gr OW133.out GC177.out, own_gr OW134.out GC177.out, Gr.to G126.out GC177.out⟩⟩
                  case measure => first | (simp [intOf]; done) | (simp [intOf]; omega)
                · skip
                  go_upto_region 18 with fail
                  refine wpK_region (by kernel_rfl) ?_
                  refine wpK_ta (i := 0) (some 216) (v := .int .i64 (k : Int)) rfl rfl (by kernel_rfl) (fun _ _ _ h => h) (Or.inl ⟨rfl, fun _ => rfl⟩) ?_
                  simp only [Act.put, setIfInBounds_toArray, set_cons_zero, set_cons_succ]
                  refine wpK_ta (i := 1) (some 217) (v := .bool false) rfl rfl (by kernel_rfl) (fun _ _ _ h => h) (Or.inl ⟨by rfl, fun W => by have hq : ¬ ((k : Int) > 0) := (by omega); first | (go_simp; done) | (go_simp <;> omega)⟩) ?_
                  simp only [Act.put, setIfInBounds_toArray, set_cons_zero, set_cons_succ]
                  refine wpK_ta (i := 2) (some 218) (v := .bool false) rfl rfl (by kernel_rfl) (fun _ _ _ h => h) (Or.inl ⟨rfl, fun _ => rfl⟩) ?_
                  simp only [Act.put, setIfInBounds_toArray, set_cons_zero, set_cons_succ]
                  refine wpK_ta (i := 3) (some 219) (v := undef) rfl rfl (by kernel_rfl) (fun _ _ _ h => h) (Or.inr ⟨by rfl, rfl⟩) ?_
                  simp only [Act.put, setIfInBounds_toArray, set_cons_zero, set_cons_succ]
                  refine wpK_ta (i := 4) (some 220) (v := undef) rfl rfl (by kernel_rfl) (fun _ _ _ h => h) (Or.inr ⟨by rfl, rfl⟩) ?_
                  simp only [Act.put, setIfInBounds_toArray, set_cons_zero, set_cons_succ]
                  refine wpK_ta (i := 5) (some 221) (v := undef) rfl rfl (by kernel_rfl) (fun _ _ _ h => h) (Or.inr ⟨by rfl, rfl⟩) ?_
                  simp only [Act.put, setIfInBounds_toArray, set_cons_zero, set_cons_succ]
                  refine wpK_ta (i := 6) (some 222) (v := undef) rfl rfl (by kernel_rfl) (fun _ _ _ h => h) (Or.inr ⟨by rfl, rfl⟩) ?_
                  simp only [Act.put, setIfInBounds_toArray, set_cons_zero, set_cons_succ]
                  refine wpK_ta (i := 7) (some 223) (v := undef) rfl rfl (by kernel_rfl) (fun _ _ _ h => h) (Or.inr ⟨by rfl, rfl⟩) ?_
                  simp only [Act.put, setIfInBounds_toArray, set_cons_zero, set_cons_succ]
                  refine wpK_ta (i := 8) (some 224) (v := undef) rfl rfl (by kernel_rfl) (fun _ _ _ h => h) (Or.inr ⟨by rfl, rfl⟩) ?_
                  simp only [Act.put, setIfInBounds_toArray, set_cons_zero, set_cons_succ]
                  refine wpK_ta (i := 9) (some 225) (v := undef) rfl rfl (by kernel_rfl) (fun _ _ _ h => h) (Or.inr ⟨by rfl, rfl⟩) ?_
                  simp only [Act.put, setIfInBounds_toArray, set_cons_zero, set_cons_succ]
                  refine wpK_ta (i := 10) (some 226) (v := undef) rfl rfl (by kernel_rfl) (fun _ _ _ h => h) (Or.inr ⟨by rfl, rfl⟩) ?_
                  simp only [Act.put, setIfInBounds_toArray, set_cons_zero, set_cons_succ]
                  refine wpK_ta (i := 11) (some 227) (v := undef) rfl rfl (by kernel_rfl) (fun _ _ _ h => h) (Or.inr ⟨by rfl, rfl⟩) ?_
                  simp only [Act.put, setIfInBounds_toArray, set_cons_zero, set_cons_succ]
                  refine wpK_ta (i := 12) (some 228) (v := .bool false) rfl rfl (by kernel_rfl) (fun _ _ _ h => h) (Or.inl ⟨by rfl, fun W => by go_simp⟩) ?_
                  simp only [Act.put, setIfInBounds_toArray, set_cons_zero, set_cons_succ]
                  refine wpK_done (by kernel_rfl) (fun V178 hv179 => ?_) _
                  have GC180 := Lib.hid (GC171.out.trans (Gr.un hv179))
                  clear hv179
                  go_upto_region 9 with fail
                  refine wpG_region ?_
                  refine @wpG_tk _ _ _ _ _ (some 55) (.int .i64 (k : Int)) _ _ rfl (.val (by rfl) (fun _ _ => rfl)) ?_
                  simp only [Act.put, setIfInBounds_toArray, set_cons_zero, set_cons_succ]
                  refine @wpG_tk _ _ _ _ _ (some 56) (.int .i64 ((k : Int) + 1)) _ _ rfl (.val (by rfl) (fun W hg => by (first | (go_simp; done) | (go_simp; rw [IntWalk.i64_in _ (by omega)])))) ?_
                  simp only [Act.put, setIfInBounds_toArray, set_cons_zero, set_cons_succ]
                  refine @wpG_tk _ _ _ _ _ (some 11) (.int .i64 ((k : Int) + 1)) _ _ rfl (.val (by rfl) (fun _ _ => rfl)) ?_
                  simp only [Act.put, setIfInBounds_toArray, set_cons_zero, set_cons_succ]
                  refine wpG_done (fun V181 hv182 => ?_)
                  have GC183 := Lib.hid (GC180.out.trans hv182)
                  clear hv182
                  go_wp2_with fail
                  go_roundw
                  case rel => exact ⟨k + 1, c + 1, by go_num, rfl, by omega, HCT.out.symm, ⟨R130.out.below GC183.out, R131.out.below GC183.out, own_gr OW133.out GC183.out, own_gr OW134.out GC183.out, Gr.to G126.out GC183.out⟩⟩
                  case measure => first | (simp [intOf]; done) | (simp [intOf]; omega)
            · as_aux_lemma =>
                go_upto_region 16 with fail
                simp only [List.append]
                refine wpK_region (by kernel_rfl) ?_
                refine wpK_ta (i := 0) (some 151) (v := .int .i64 (k : Int)) rfl rfl (by kernel_rfl) (fun _ _ _ h => h) (Or.inl ⟨rfl, fun _ => rfl⟩) ?_
                simp only [Act.put, setIfInBounds_toArray, set_cons_zero, set_cons_succ]
                refine wpK_ta (i := 1) (some 152) (v := .int .i64 ((k : Int) + 7)) rfl rfl (by kernel_rfl) (fun _ _ _ h => h) (Or.inl ⟨by rfl, fun W => by (first | (go_simp; done) | (go_simp; rw [IntWalk.i64_in _ (by omega)]))⟩) ?_
                simp only [Act.put, setIfInBounds_toArray, set_cons_zero, set_cons_succ]
                refine wpK_ta (i := 2) (some 153) (v := .slice (some ⟨g, 0, none⟩) n c1) rfl rfl (by kernel_rfl) (fun _ _ _ h => h) (Or.inl ⟨rfl, fun _ => rfl⟩) ?_
                simp only [Act.put, setIfInBounds_toArray, set_cons_zero, set_cons_succ]
                refine wpK_ta (i := 3) (some 154) (v := .int .i64 (n : Int)) rfl rfl (by kernel_rfl) (fun _ _ _ h => h) (Or.inl ⟨by rfl, fun W => by go_simp⟩) ?_
                simp only [Act.put, setIfInBounds_toArray, set_cons_zero, set_cons_succ]
                refine wpK_ta (i := 4) (some 155) (v := .bool true) rfl rfl (by kernel_rfl) (fun _ _ _ h => h) (Or.inl ⟨by rfl, fun W => by have hq : ((k : Int) + 7 < (n : Int)) := (by omega); first | (go_simp; done) | (go_simp <;> omega)⟩) ?_
                simp only [Act.put, setIfInBounds_toArray, set_cons_zero, set_cons_succ]
                refine wpK_ta (i := 5) (some 156) (v := .bool true) rfl rfl (by kernel_rfl) (fun _ _ _ h => h) (Or.inl ⟨rfl, fun _ => rfl⟩) ?_
                simp only [Act.put, setIfInBounds_toArray, set_cons_zero, set_cons_succ]
                refine wpK_ta (i := 6) (some 157) (v := .slice (some ⟨g, 0, none⟩) n c1) rfl rfl (by kernel_rfl) (fun _ _ _ h => h) (Or.inl ⟨rfl, fun _ => rfl⟩) ?_
                simp only [Act.put, setIfInBounds_toArray, set_cons_zero, set_cons_succ]
                refine wpK_ta (i := 7) (some 158) (v := .int .i64 (k : Int)) rfl rfl (by kernel_rfl) (fun _ _ _ h => h) (Or.inl ⟨rfl, fun _ => rfl⟩) ?_
                simp only [Act.put, setIfInBounds_toArray, set_cons_zero, set_cons_succ]
                refine wpK_ta (i := 8) (some 159) (v := .int .i64 ((k : Int) + 7)) rfl rfl (by kernel_rfl) (fun _ _ _ h => h) (Or.inl ⟨by rfl, fun W => by (first | (go_simp; done) | (go_simp; rw [IntWalk.i64_in _ (by omega)]))⟩) ?_
                simp only [Act.put, setIfInBounds_toArray, set_cons_zero, set_cons_succ]
                refine wpK_ta (i := 9) (some 160) (v := .pointer (some ⟨g, (k + 7) * 4, none⟩)) rfl rfl (by kernel_rfl) (fun _ _ _ h => h) (Or.inl ⟨by rfl, fun W => by go_simp; rw [if_pos (by constructor <;> omega), show ((k : Int) + 7).toNat = k + 7 by omega]⟩) ?_
                simp only [Act.put, setIfInBounds_toArray, set_cons_zero, set_cons_succ]
                refine wpK_ta (i := 10) (some 161) (v := .pointer (some ⟨g, (k + 7) * 4 + 3, none⟩)) rfl rfl (by kernel_rfl) (fun _ _ _ h => h) (Or.inl ⟨by rfl, fun W => by go_simp⟩) ?_
                simp only [Act.put, setIfInBounds_toArray, set_cons_zero, set_cons_succ]
                refine wpK_tk (i := 11) (some 162) (v := .int .i64 (l7 : Int)) rfl rfl (by kernel_rfl) (fun _ _ _ h => h) (.val (by rfl) (fun W hg => by have c := (cube_lv ((own_lies OW133.out).below (GC149.out.trans (Gr.un hg))) HE71.out HL7.out); go_simp)) ?_
                simp only [Act.put, setIfInBounds_toArray, set_cons_zero, set_cons_succ]
                refine wpK_ta (i := 12) (some 163) (v := .slice (some ⟨g, 0, none⟩) n c1) rfl rfl (by kernel_rfl) (fun _ _ _ h => h) (Or.inl ⟨rfl, fun _ => rfl⟩) ?_
                simp only [Act.put, setIfInBounds_toArray, set_cons_zero, set_cons_succ]
                refine wpK_ta (i := 13) (some 164) (v := .int .i64 (k : Int)) rfl rfl (by kernel_rfl) (fun _ _ _ h => h) (Or.inl ⟨rfl, fun _ => rfl⟩) ?_
                simp only [Act.put, setIfInBounds_toArray, set_cons_zero, set_cons_succ]
                refine wpK_ta (i := 14) (some 165) (v := .pointer (some ⟨g, k * 4, none⟩)) rfl rfl (by kernel_rfl) (fun _ _ _ h => h) (Or.inl ⟨by rfl, fun W => by go_simp <;> first | rfl | omega | (simp; omega)⟩) ?_
                simp only [Act.put, setIfInBounds_toArray, set_cons_zero, set_cons_succ]
                refine wpK_ta (i := 15) (some 166) (v := .pointer (some ⟨g, k * 4 + 3, none⟩)) rfl rfl (by kernel_rfl) (fun _ _ _ h => h) (Or.inl ⟨by rfl, fun W => by go_simp⟩) ?_
                simp only [Act.put, setIfInBounds_toArray, set_cons_zero, set_cons_succ]
                refine wpK_tk (i := 16) (some 167) (v := .int .i64 (lv : Int)) rfl rfl (by kernel_rfl) (fun _ _ _ h => h) (.val (by rfl) (fun W hg => by have c := (cube_lv ((own_lies OW133.out).below (GC149.out.trans (Gr.un hg))) HE.out HL.out); go_simp)) ?_
                simp only [Act.put, setIfInBounds_toArray, set_cons_zero, set_cons_succ]
                refine wpK_ta (i := 17) (some 168) (v := .bool (decide ((l7 : Int) = (lv : Int)))) rfl rfl (by kernel_rfl) (fun _ _ _ h => h) (Or.inl ⟨by rfl, fun W => by go_simp <;> rfl⟩) ?_
                simp only [Act.put, setIfInBounds_toArray, set_cons_zero, set_cons_succ]
                obtain ⟨c184, hc184⟩ : ∃ b, b = (decide ((l7 : Int) = (lv : Int))) := ⟨_, rfl⟩
                rw [← hc184]
                have Hc184 := Lib.hid hc184
                clear hc184
                refine wpK_ta (i := 18) (some 169) (v := .bool c184) rfl rfl (by kernel_rfl) (fun _ _ _ h => h) (Or.inl ⟨by rfl, fun W => by go_simp⟩) ?_
                simp only [Act.put, setIfInBounds_toArray, set_cons_zero, set_cons_succ]
                refine wpK_ta (i := 19) (some 170) (v := .bool c184) rfl rfl (by kernel_rfl) (fun _ _ _ h => h) (Or.inl ⟨rfl, fun _ => rfl⟩) ?_
                simp only [Act.put, setIfInBounds_toArray, set_cons_zero, set_cons_succ]
                refine wpK_ta (i := 20) (some 171) (v := (bif c184 then .pointer (some ⟨W120.heap.size, 0, none⟩) else undef)) rfl rfl (by kernel_rfl) (fun _ _ _ h => h) (by cases c184 with | false => exact Or.inr ⟨by rfl, rfl⟩ | true => exact (Or.inl ⟨by rfl, fun W => by go_simp⟩)) ?_
                simp only [Act.put, setIfInBounds_toArray, set_cons_zero, set_cons_succ]
                refine wpK_tk (i := 21) (some 172) (v := (bif c184 then .int .i64 e.1 else undef)) rfl rfl (by kernel_rfl) (fun _ _ _ h => h) (by cases c184 with | false => exact .no (by rfl) | true => exact (.val (by rfl) (fun W hg => by have c := (R132.out.below (GC149.out.trans (Gr.un hg)) 0 _ rfl).1; go_simp))) ?_
                simp only [Act.put, setIfInBounds_toArray, set_cons_zero, set_cons_succ]
                refine wpK_ta (i := 22) (some 173) (v := (bif c184 then .int .i64 s else undef)) rfl rfl (by kernel_rfl) (fun _ _ _ h => h) (by cases c184 with | false => exact Or.inr ⟨by rfl, rfl⟩ | true => exact (Or.inl ⟨rfl, fun _ => rfl⟩)) ?_
                simp only [Act.put, setIfInBounds_toArray, set_cons_zero, set_cons_succ]
                refine wpK_ta (i := 23) (some 174) (v := (bif c184 then .int .i64 (2 * s) else undef)) rfl rfl (by kernel_rfl) (fun _ _ _ h => h) (by cases c184 with | false => exact Or.inr ⟨by rfl, rfl⟩ | true => exact (Or.inl ⟨by rfl, fun W => by (first | (go_simp; done) | (go_simp; rw [IntWalk.i64_in _ (by omega)]))⟩)) ?_
                simp only [Act.put, setIfInBounds_toArray, set_cons_zero, set_cons_succ]
                refine wpK_ta (i := 24) (some 175) (v := (bif c184 then .int .i64 rx else undef)) rfl rfl (by kernel_rfl) (fun _ _ _ h => h) (by cases c184 with | false => exact Or.inr ⟨by rfl, rfl⟩ | true => exact (Or.inl ⟨by rfl, fun W => by first | (go_simp; rw [Hrx.out]; done) | (go_simp; rw [Hrx.out]; exact IntWalk.i64_in _ (by omega)) | (go_simp; rw [Int.tmod_eq_emod_of_nonneg (by omega), Hrx.out]; done) | (go_simp; rw [Int.tmod_eq_emod_of_nonneg (by omega), ← Hrx.out]; exact IntWalk.i64_in _ (by omega))⟩)) ?_
                simp only [Act.put, setIfInBounds_toArray, set_cons_zero, set_cons_succ]
                refine wpK_ta (i := 25) (some 176) (v := (bif c184 then .bool (decide (rx = 0)) else undef)) rfl rfl (by kernel_rfl) (fun _ _ _ h => h) (by cases c184 with | false => exact Or.inr ⟨by rfl, rfl⟩ | true => exact (Or.inl ⟨by rfl, fun W => by go_simp <;> rfl⟩)) ?_
                simp only [Act.put, setIfInBounds_toArray, set_cons_zero, set_cons_succ]
                refine wpK_ta (i := 26) (some 177) (v := .bool (c184 && (decide (rx = 0)))) rfl rfl (by kernel_rfl) (fun _ _ _ h => h) (Or.inl ⟨by rfl, fun W => by cases c184 <;> go_simp⟩) ?_
                simp only [Act.put, setIfInBounds_toArray, set_cons_zero, set_cons_succ]
                obtain ⟨c185, hc185⟩ : ∃ b, b = (c184 && (decide (rx = 0))) := ⟨_, rfl⟩
                rw [← hc185]
                have Hc185 := Lib.hid hc185
                clear hc185
                refine wpK_ta (i := 27) (some 178) (v := .bool c185) rfl rfl (by kernel_rfl) (fun _ _ _ h => h) (Or.inl ⟨rfl, fun _ => rfl⟩) ?_
                simp only [Act.put, setIfInBounds_toArray, set_cons_zero, set_cons_succ]
                refine wpK_ta (i := 28) (some 179) (v := (bif c185 then .pointer (some ⟨W120.heap.size, 1, none⟩) else undef)) rfl rfl (by kernel_rfl) (fun _ _ _ h => h) (by cases c185 with | false => exact Or.inr ⟨by rfl, rfl⟩ | true => exact (Or.inl ⟨by rfl, fun W => by go_simp⟩)) ?_
                simp only [Act.put, setIfInBounds_toArray, set_cons_zero, set_cons_succ]
                refine wpK_tk (i := 29) (some 180) (v := (bif c185 then .int .i64 e.2.1 else undef)) rfl rfl (by kernel_rfl) (fun _ _ _ h => h) (by cases c185 with | false => exact .no (by rfl) | true => exact (.val (by rfl) (fun W hg => by have c := (R132.out.below (GC149.out.trans (Gr.un hg)) 1 _ rfl).1; go_simp))) ?_
                simp only [Act.put, setIfInBounds_toArray, set_cons_zero, set_cons_succ]
                refine wpK_ta (i := 30) (some 181) (v := (bif c185 then .int .i64 s else undef)) rfl rfl (by kernel_rfl) (fun _ _ _ h => h) (by cases c185 with | false => exact Or.inr ⟨by rfl, rfl⟩ | true => exact (Or.inl ⟨rfl, fun _ => rfl⟩)) ?_
                simp only [Act.put, setIfInBounds_toArray, set_cons_zero, set_cons_succ]
                refine wpK_ta (i := 31) (some 182) (v := (bif c185 then .int .i64 (2 * s) else undef)) rfl rfl (by kernel_rfl) (fun _ _ _ h => h) (by cases c185 with | false => exact Or.inr ⟨by rfl, rfl⟩ | true => exact (Or.inl ⟨by rfl, fun W => by (first | (go_simp; done) | (go_simp; rw [IntWalk.i64_in _ (by omega)]))⟩)) ?_
                simp only [Act.put, setIfInBounds_toArray, set_cons_zero, set_cons_succ]
                refine wpK_ta (i := 32) (some 183) (v := (bif c185 then .int .i64 ry else undef)) rfl rfl (by kernel_rfl) (fun _ _ _ h => h) (by cases c185 with | false => exact Or.inr ⟨by rfl, rfl⟩ | true => exact (Or.inl ⟨by rfl, fun W => by first | (go_simp; rw [Hry.out]; done) | (go_simp; rw [Hry.out]; exact IntWalk.i64_in _ (by omega)) | (go_simp; rw [Int.tmod_eq_emod_of_nonneg (by omega), Hry.out]; done) | (go_simp; rw [Int.tmod_eq_emod_of_nonneg (by omega), ← Hry.out]; exact IntWalk.i64_in _ (by omega))⟩)) ?_
                simp only [Act.put, setIfInBounds_toArray, set_cons_zero, set_cons_succ]
                refine wpK_ta (i := 33) (some 184) (v := (bif c185 then .bool (decide (ry = 0)) else undef)) rfl rfl (by kernel_rfl) (fun _ _ _ h => h) (by cases c185 with | false => exact Or.inr ⟨by rfl, rfl⟩ | true => exact (Or.inl ⟨by rfl, fun W => by go_simp <;> rfl⟩)) ?_
                simp only [Act.put, setIfInBounds_toArray, set_cons_zero, set_cons_succ]
                refine wpK_ta (i := 34) (some 185) (v := .bool (c185 && (decide (ry = 0)))) rfl rfl (by kernel_rfl) (fun _ _ _ h => h) (Or.inl ⟨by rfl, fun W => by cases c185 <;> go_simp⟩) ?_
                simp only [Act.put, setIfInBounds_toArray, set_cons_zero, set_cons_succ]
                obtain ⟨c186, hc186⟩ : ∃ b, b = (c185 && (decide (ry = 0))) := ⟨_, rfl⟩
                rw [← hc186]
                have Hc186 := Lib.hid hc186
                clear hc186
                refine wpK_ta (i := 35) (some 186) (v := .bool c186) rfl rfl (by kernel_rfl) (fun _ _ _ h => h) (Or.inl ⟨rfl, fun _ => rfl⟩) ?_
                simp only [Act.put, setIfInBounds_toArray, set_cons_zero, set_cons_succ]
                refine wpK_ta (i := 36) (some 187) (v := (bif c186 then .pointer (some ⟨W120.heap.size, 2, none⟩) else undef)) rfl rfl (by kernel_rfl) (fun _ _ _ h => h) (by cases c186 with | false => exact Or.inr ⟨by rfl, rfl⟩ | true => exact (Or.inl ⟨by rfl, fun W => by go_simp⟩)) ?_
                simp only [Act.put, setIfInBounds_toArray, set_cons_zero, set_cons_succ]
                refine wpK_tk (i := 37) (some 188) (v := (bif c186 then .int .i64 e.2.2.1 else undef)) rfl rfl (by kernel_rfl) (fun _ _ _ h => h) (by cases c186 with | false => exact .no (by rfl) | true => exact (.val (by rfl) (fun W hg => by have c := (R132.out.below (GC149.out.trans (Gr.un hg)) 2 _ rfl).1; go_simp))) ?_
                simp only [Act.put, setIfInBounds_toArray, set_cons_zero, set_cons_succ]
                refine wpK_ta (i := 38) (some 189) (v := (bif c186 then .int .i64 s else undef)) rfl rfl (by kernel_rfl) (fun _ _ _ h => h) (by cases c186 with | false => exact Or.inr ⟨by rfl, rfl⟩ | true => exact (Or.inl ⟨rfl, fun _ => rfl⟩)) ?_
                simp only [Act.put, setIfInBounds_toArray, set_cons_zero, set_cons_succ]
                refine wpK_ta (i := 39) (some 190) (v := (bif c186 then .int .i64 (2 * s) else undef)) rfl rfl (by kernel_rfl) (fun _ _ _ h => h) (by cases c186 with | false => exact Or.inr ⟨by rfl, rfl⟩ | true => exact (Or.inl ⟨by rfl, fun W => by (first | (go_simp; done) | (go_simp; rw [IntWalk.i64_in _ (by omega)]))⟩)) ?_
                simp only [Act.put, setIfInBounds_toArray, set_cons_zero, set_cons_succ]
                refine wpK_ta (i := 40) (some 191) (v := (bif c186 then .int .i64 rz else undef)) rfl rfl (by kernel_rfl) (fun _ _ _ h => h) (by cases c186 with | false => exact Or.inr ⟨by rfl, rfl⟩ | true => exact (Or.inl ⟨by rfl, fun W => by first | (go_simp; rw [Hrz.out]; done) | (go_simp; rw [Hrz.out]; exact IntWalk.i64_in _ (by omega)) | (go_simp; rw [Int.tmod_eq_emod_of_nonneg (by omega), Hrz.out]; done) | (go_simp; rw [Int.tmod_eq_emod_of_nonneg (by omega), ← Hrz.out]; exact IntWalk.i64_in _ (by omega))⟩)) ?_
                simp only [Act.put, setIfInBounds_toArray, set_cons_zero, set_cons_succ]
                refine wpK_ta (i := 41) (some 192) (v := (bif c186 then .bool (decide (rz = 0)) else undef)) rfl rfl (by kernel_rfl) (fun _ _ _ h => h) (by cases c186 with | false => exact Or.inr ⟨by rfl, rfl⟩ | true => exact (Or.inl ⟨by rfl, fun W => by go_simp <;> rfl⟩)) ?_
                simp only [Act.put, setIfInBounds_toArray, set_cons_zero, set_cons_succ]
                refine wpK_ta (i := 42) (some 193) (v := .bool (c186 && (decide (rz = 0)))) rfl rfl (by kernel_rfl) (fun _ _ _ h => h) (Or.inl ⟨by rfl, fun W => by cases c186 <;> go_simp⟩) ?_
                simp only [Act.put, setIfInBounds_toArray, set_cons_zero, set_cons_succ]
                obtain ⟨c187, hc187⟩ : ∃ b, b = (c186 && (decide (rz = 0))) := ⟨_, rfl⟩
                rw [← hc187]
                have Hc187 := Lib.hid hc187
                clear hc187
                refine wpK_ta (i := 43) (some 194) (v := .bool c187) rfl rfl (by kernel_rfl) (fun _ _ _ h => h) (Or.inl ⟨rfl, fun _ => rfl⟩) ?_
                simp only [Act.put, setIfInBounds_toArray, set_cons_zero, set_cons_succ]
                refine wpK_ta (i := 44) (some 195) (v := (bif c187 then .slice (some ⟨g, 0, none⟩) n c1 else undef)) rfl rfl (by kernel_rfl) (fun _ _ _ h => h) (by cases c187 with | false => exact Or.inr ⟨by rfl, rfl⟩ | true => exact (Or.inl ⟨rfl, fun _ => rfl⟩)) ?_
                simp only [Act.put, setIfInBounds_toArray, set_cons_zero, set_cons_succ]
                refine wpK_ta (i := 45) (some 196) (v := (bif c187 then .int .i64 (k : Int) else undef)) rfl rfl (by kernel_rfl) (fun _ _ _ h => h) (by cases c187 with | false => exact Or.inr ⟨by rfl, rfl⟩ | true => exact (Or.inl ⟨rfl, fun _ => rfl⟩)) ?_
                simp only [Act.put, setIfInBounds_toArray, set_cons_zero, set_cons_succ]
                refine wpK_ta (i := 46) (some 197) (v := (bif c187 then .int .i64 ((k : Int) + 7) else undef)) rfl rfl (by kernel_rfl) (fun _ _ _ h => h) (by cases c187 with | false => exact Or.inr ⟨by rfl, rfl⟩ | true => exact (Or.inl ⟨by rfl, fun W => by (first | (go_simp; done) | (go_simp; rw [IntWalk.i64_in _ (by omega)]))⟩)) ?_
                simp only [Act.put, setIfInBounds_toArray, set_cons_zero, set_cons_succ]
                refine wpK_ta (i := 47) (some 198) (v := (bif c187 then .pointer (some ⟨g, (k + 7) * 4, none⟩) else undef)) rfl rfl (by kernel_rfl) (fun _ _ _ h => h) (by cases c187 with | false => exact Or.inr ⟨by rfl, rfl⟩ | true => exact (Or.inl ⟨by rfl, fun W => by go_simp; rw [if_pos (by constructor <;> omega), show ((k : Int) + 7).toNat = k + 7 by omega]⟩)) ?_
                simp only [Act.put, setIfInBounds_toArray, set_cons_zero, set_cons_succ]
                refine wpK_ta (i := 48) (some 199) (v := (bif c187 then .pointer (some ⟨g, (k + 7) * 4, none⟩) else undef)) rfl rfl (by kernel_rfl) (fun _ _ _ h => h) (by cases c187 with | false => exact Or.inr ⟨by rfl, rfl⟩ | true => exact (Or.inl ⟨by rfl, fun W => by go_simp⟩)) ?_
                simp only [Act.put, setIfInBounds_toArray, set_cons_zero, set_cons_succ]
                refine wpK_tk (i := 49) (some 200) (v := (bif c187 then .agg #[.int .i64 e7.1, .int .i64 e7.2.1, .int .i64 e7.2.2.1] else undef)) rfl rfl (by kernel_rfl) (fun _ _ _ h => h) (by cases c187 with | false => exact .no (by rfl) | true => exact (.load_mid (by rfl) 23 (.tmp 199) rfl g ((k + 7) * 4) rfl [.int .i64 e7.1, .int .i64 e7.2.1, .int .i64 e7.2.2.1] _ (fun W hg => cube_pt ((own_lies OW133.out).below (GC149.out.trans (Gr.un hg))) HE71.out) Try.underlying23 rfl (by kernel_rfl))) ?_
                simp only [Act.put, setIfInBounds_toArray, set_cons_zero, set_cons_succ]
                refine wpK_ta (i := 50) (some 201) (v := (bif c187 then .pointer (some ⟨W120.heap.size, 0, none⟩) else undef)) rfl rfl (by kernel_rfl) (fun _ _ _ h => h) (by cases c187 with | false => exact Or.inr ⟨by rfl, rfl⟩ | true => exact (Or.inl ⟨by rfl, fun W => by go_simp⟩)) ?_
                simp only [Act.put, setIfInBounds_toArray, set_cons_zero, set_cons_succ]
                refine wpK_tk (i := 51) (some 202) (v := (bif c187 then .int .i64 e.1 else undef)) rfl rfl (by kernel_rfl) (fun _ _ _ h => h) (by cases c187 with | false => exact .no (by rfl) | true => exact (.val (by rfl) (fun W hg => by have c := (R132.out.below (GC149.out.trans (Gr.un hg)) 0 _ rfl).1; go_simp))) ?_
                simp only [Act.put, setIfInBounds_toArray, set_cons_zero, set_cons_succ]
                refine wpK_ta (i := 52) (some 203) (v := (bif c187 then .int .i64 s else undef)) rfl rfl (by kernel_rfl) (fun _ _ _ h => h) (by cases c187 with | false => exact Or.inr ⟨by rfl, rfl⟩ | true => exact (Or.inl ⟨rfl, fun _ => rfl⟩)) ?_
                simp only [Act.put, setIfInBounds_toArray, set_cons_zero, set_cons_succ]
                refine wpK_ta (i := 53) (some 204) (v := (bif c187 then .int .i64 (e.1 + s) else undef)) rfl rfl (by kernel_rfl) (fun _ _ _ h => h) (by cases c187 with | false => exact Or.inr ⟨by rfl, rfl⟩ | true => exact (Or.inl ⟨by rfl, fun W => by (first | (go_simp; done) | (go_simp; rw [IntWalk.i64_in _ (by omega)]))⟩)) ?_
                simp only [Act.put, setIfInBounds_toArray, set_cons_zero, set_cons_succ]
                refine wpK_ta (i := 54) (some 205) (v := (bif c187 then .pointer (some ⟨W120.heap.size, 1, none⟩) else undef)) rfl rfl (by kernel_rfl) (fun _ _ _ h => h) (by cases c187 with | false => exact Or.inr ⟨by rfl, rfl⟩ | true => exact (Or.inl ⟨by rfl, fun W => by go_simp⟩)) ?_
                simp only [Act.put, setIfInBounds_toArray, set_cons_zero, set_cons_succ]
                refine wpK_tk (i := 55) (some 206) (v := (bif c187 then .int .i64 e.2.1 else undef)) rfl rfl (by kernel_rfl) (fun _ _ _ h => h) (by cases c187 with | false => exact .no (by rfl) | true => exact (.val (by rfl) (fun W hg => by have c := (R132.out.below (GC149.out.trans (Gr.un hg)) 1 _ rfl).1; go_simp))) ?_
                simp only [Act.put, setIfInBounds_toArray, set_cons_zero, set_cons_succ]
                refine wpK_ta (i := 56) (some 207) (v := (bif c187 then .int .i64 s else undef)) rfl rfl (by kernel_rfl) (fun _ _ _ h => h) (by cases c187 with | false => exact Or.inr ⟨by rfl, rfl⟩ | true => exact (Or.inl ⟨rfl, fun _ => rfl⟩)) ?_
                simp only [Act.put, setIfInBounds_toArray, set_cons_zero, set_cons_succ]
                refine wpK_ta (i := 57) (some 208) (v := (bif c187 then .int .i64 (e.2.1 + s) else undef)) rfl rfl (by kernel_rfl) (fun _ _ _ h => h) (by cases c187 with | false => exact Or.inr ⟨by rfl, rfl⟩ | true => exact (Or.inl ⟨by rfl, fun W => by (first | (go_simp; done) | (go_simp; rw [IntWalk.i64_in _ (by omega)]))⟩)) ?_
                simp only [Act.put, setIfInBounds_toArray, set_cons_zero, set_cons_succ]
                refine wpK_ta (i := 58) (some 209) (v := (bif c187 then .pointer (some ⟨W120.heap.size, 2, none⟩) else undef)) rfl rfl (by kernel_rfl) (fun _ _ _ h => h) (by cases c187 with | false => exact Or.inr ⟨by rfl, rfl⟩ | true => exact (Or.inl ⟨by rfl, fun W => by go_simp⟩)) ?_
                simp only [Act.put, setIfInBounds_toArray, set_cons_zero, set_cons_succ]
                refine wpK_tk (i := 59) (some 210) (v := (bif c187 then .int .i64 e.2.2.1 else undef)) rfl rfl (by kernel_rfl) (fun _ _ _ h => h) (by cases c187 with | false => exact .no (by rfl) | true => exact (.val (by rfl) (fun W hg => by have c := (R132.out.below (GC149.out.trans (Gr.un hg)) 2 _ rfl).1; go_simp))) ?_
                simp only [Act.put, setIfInBounds_toArray, set_cons_zero, set_cons_succ]
                refine wpK_ta (i := 60) (some 211) (v := (bif c187 then .int .i64 s else undef)) rfl rfl (by kernel_rfl) (fun _ _ _ h => h) (by cases c187 with | false => exact Or.inr ⟨by rfl, rfl⟩ | true => exact (Or.inl ⟨rfl, fun _ => rfl⟩)) ?_
                simp only [Act.put, setIfInBounds_toArray, set_cons_zero, set_cons_succ]
                refine wpK_ta (i := 61) (some 212) (v := (bif c187 then .int .i64 (e.2.2.1 + s) else undef)) rfl rfl (by kernel_rfl) (fun _ _ _ h => h) (by cases c187 with | false => exact Or.inr ⟨by rfl, rfl⟩ | true => exact (Or.inl ⟨by rfl, fun W => by (first | (go_simp; done) | (go_simp; rw [IntWalk.i64_in _ (by omega)]))⟩)) ?_
                simp only [Act.put, setIfInBounds_toArray, set_cons_zero, set_cons_succ]
                refine wpK_tk (i := 62) (some 213) (v := (bif c187 then .agg #[.int .i64 (e.1 + s), .int .i64 (e.2.1 + s), .int .i64 (e.2.2.1 + s)] else undef)) rfl rfl (by kernel_rfl) (fun _ _ _ h => h) (by cases c187 with | false => exact .no (by rfl) | true => exact (.call (f := 32) (args := #[.int .i64 (e.1 + s), .int .i64 (e.2.1 + s), .int .i64 (e.2.2.1 + s)]) (by rfl) (fun W => by go_simp) (fun W hg => at_any (e.1 + s) (e.2.1 + s) (e.2.2.1 + s) W))) ?_
                simp only [Act.put, setIfInBounds_toArray, set_cons_zero, set_cons_succ]
                refine wpK_ta (i := 63) (some 214) (v := (bif c187 then .bool false else undef)) rfl rfl (by kernel_rfl) (fun _ _ _ h => h) (by cases c187 with | false => exact Or.inr ⟨by rfl, rfl⟩ | true => exact (Or.inl ⟨by rfl, fun W => by (go_simp <;> first | omega | ((repeat' split) <;> first | rfl | (exfalso; omega)))⟩)) ?_
                simp only [Act.put, setIfInBounds_toArray, set_cons_zero, set_cons_succ]
                refine wpK_ta (i := 64) (some 215) (v := .bool (c187 && false)) rfl rfl (by kernel_rfl) (fun _ _ _ h => h) (Or.inl ⟨by rfl, fun W => by cases c187 <;> go_simp⟩) ?_
                simp only [Act.put, setIfInBounds_toArray, set_cons_zero, set_cons_succ]
                obtain ⟨c188, hc188⟩ : ∃ b, b = (c187 && false) := ⟨_, rfl⟩
                rw [← hc188]
                have Hc188 := Lib.hid hc188
                clear hc188
                refine wpK_done (by kernel_rfl) (fun V189 hv190 => ?_) _
                have GC191 := Lib.hid (GC149.out.trans (Gr.un hv190))
                clear hv190
                rw [show c188 = false by rw [Hc188.out, Bool.and_false]]
                by_cases hk0 : 0 < k
                · skip
                  have HCP := Lib.hid (HCPX.out hk0)
                  go_upto_region 18 with fail
                  refine wpK_region (by kernel_rfl) ?_
                  refine wpK_ta (i := 0) (some 216) (v := .int .i64 (k : Int)) rfl rfl (by kernel_rfl) (fun _ _ _ h => h) (Or.inl ⟨rfl, fun _ => rfl⟩) ?_
                  simp only [Act.put, setIfInBounds_toArray, set_cons_zero, set_cons_succ]
                  refine wpK_ta (i := 1) (some 217) (v := .bool true) rfl rfl (by kernel_rfl) (fun _ _ _ h => h) (Or.inl ⟨by rfl, fun W => by have hq : ((k : Int) > 0) := (by omega); first | (go_simp; done) | (go_simp <;> omega)⟩) ?_
                  simp only [Act.put, setIfInBounds_toArray, set_cons_zero, set_cons_succ]
                  refine wpK_ta (i := 2) (some 218) (v := .bool true) rfl rfl (by kernel_rfl) (fun _ _ _ h => h) (Or.inl ⟨rfl, fun _ => rfl⟩) ?_
                  simp only [Act.put, setIfInBounds_toArray, set_cons_zero, set_cons_succ]
                  refine wpK_ta (i := 3) (some 219) (v := .slice (some ⟨g, 0, none⟩) n c1) rfl rfl (by kernel_rfl) (fun _ _ _ h => h) (Or.inl ⟨rfl, fun _ => rfl⟩) ?_
                  simp only [Act.put, setIfInBounds_toArray, set_cons_zero, set_cons_succ]
                  refine wpK_ta (i := 4) (some 220) (v := .int .i64 (k : Int)) rfl rfl (by kernel_rfl) (fun _ _ _ h => h) (Or.inl ⟨rfl, fun _ => rfl⟩) ?_
                  simp only [Act.put, setIfInBounds_toArray, set_cons_zero, set_cons_succ]
                  refine wpK_ta (i := 5) (some 221) (v := .int .i64 ((k : Int) - 1)) rfl rfl (by kernel_rfl) (fun _ _ _ h => h) (Or.inl ⟨by rfl, fun W => by (first | (go_simp; done) | (go_simp; rw [IntWalk.i64_in _ (by omega)]))⟩) ?_
                  simp only [Act.put, setIfInBounds_toArray, set_cons_zero, set_cons_succ]
                  refine wpK_ta (i := 6) (some 222) (v := .pointer (some ⟨g, (k - 1) * 4, none⟩)) rfl rfl (by kernel_rfl) (fun _ _ _ h => h) (Or.inl ⟨by rfl, fun W => by go_simp <;> first | rfl | omega | (simp; omega)⟩) ?_
                  simp only [Act.put, setIfInBounds_toArray, set_cons_zero, set_cons_succ]
                  refine wpK_ta (i := 7) (some 223) (v := .pointer (some ⟨g, (k - 1) * 4, none⟩)) rfl rfl (by kernel_rfl) (fun _ _ _ h => h) (Or.inl ⟨by rfl, fun W => by go_simp⟩) ?_
                  simp only [Act.put, setIfInBounds_toArray, set_cons_zero, set_cons_succ]
                  refine wpK_tk (i := 8) (some 224) (v := .agg #[.int .i64 e0.1, .int .i64 e0.2.1, .int .i64 e0.2.2.1]) rfl rfl (by kernel_rfl) (fun _ _ _ h => h) (.load_mid (by rfl) 23 (.tmp 223) rfl g ((k - 1) * 4) rfl [.int .i64 e0.1, .int .i64 e0.2.1, .int .i64 e0.2.2.1] _ (fun W hg => cube_pt ((own_lies OW133.out).below (GC191.out.trans (Gr.un hg))) (HE0.out hk0)) Try.underlying23 rfl (by kernel_rfl)) ?_
                  simp only [Act.put, setIfInBounds_toArray, set_cons_zero, set_cons_succ]
                  refine wpK_tk (i := 9) (some 225) (v := .agg #[.int .i64 e.1, .int .i64 e.2.1, .int .i64 e.2.2.1]) rfl rfl (by kernel_rfl) (fun _ _ _ h => h) (.load_mid (by rfl) 23 (.tmp 13) rfl (W120.heap.size) 0 rfl [.int .i64 e.1, .int .i64 e.2.1, .int .i64 e.2.2.1] _ (fun W hg => (R132.out.below (GC191.out.trans (Gr.un hg))).range) Try.underlying23 rfl (by kernel_rfl)) ?_
                  simp only [Act.put, setIfInBounds_toArray, set_cons_zero, set_cons_succ]
                  refine wpK_tk (i := 10) (some 226) (v := .int .i64 (-1)) rfl rfl (by kernel_rfl) (fun _ _ _ h => h) (.call (f := 15) (args := #[.agg #[.int .i64 e0.1, .int .i64 e0.2.1, .int .i64 e0.2.2.1], .agg #[.int .i64 e.1, .int .i64 e.2.1, .int .i64 e.2.2.1]]) (by rfl) (fun W => by go_simp) (fun W hg => rename (compare_any e0.1 e0.2.1 e0.2.2.1 e.1 e.2.1 e.2.2.1 W) (by rw [HCP.out]))) ?_
                  simp only [Act.put, setIfInBounds_toArray, set_cons_zero, set_cons_succ]
                  refine wpK_ta (i := 11) (some 227) (v := .bool false) rfl rfl (by kernel_rfl) (fun _ _ _ h => h) (Or.inl ⟨by rfl, fun W => by have hq : ¬ ((-1) ≥ 0) := (by omega); first | (go_simp; done) | (go_simp <;> omega)⟩) ?_
                  simp only [Act.put, setIfInBounds_toArray, set_cons_zero, set_cons_succ]
                  refine wpK_ta (i := 12) (some 228) (v := .bool false) rfl rfl (by kernel_rfl) (fun _ _ _ h => h) (Or.inl ⟨by rfl, fun W => by go_simp⟩) ?_
                  simp only [Act.put, setIfInBounds_toArray, set_cons_zero, set_cons_succ]
                  refine wpK_done (by kernel_rfl) (fun V192 hv193 => ?_) _
                  have GC194 := Lib.hid (GC191.out.trans (Gr.un hv193))
                  clear hv193
                  go_upto_region 9 with fail
                  refine wpG_region ?_
                  refine @wpG_tk _ _ _ _ _ (some 55) (.int .i64 (k : Int)) _ _ rfl (.val (by rfl) (fun _ _ => rfl)) ?_
                  simp only [Act.put, setIfInBounds_toArray, set_cons_zero, set_cons_succ]
                  refine @wpG_tk _ _ _ _ _ (some 56) (.int .i64 ((k : Int) + 1)) _ _ rfl (.val (by rfl) (fun W hg => by (first | (go_simp; done) | (go_simp; rw [IntWalk.i64_in _ (by omega)])))) ?_
                  simp only [Act.put, setIfInBounds_toArray, set_cons_zero, set_cons_succ]
                  refine @wpG_tk _ _ _ _ _ (some 11) (.int .i64 ((k : Int) + 1)) _ _ rfl (.val (by rfl) (fun _ _ => rfl)) ?_
                  simp only [Act.put, setIfInBounds_toArray, set_cons_zero, set_cons_succ]
                  refine wpG_done (fun V195 hv196 => ?_)
                  have GC197 := Lib.hid (GC194.out.trans hv196)
                  clear hv196
                  go_wp2_with fail
                  go_roundw
                  case rel => exact ⟨k + 1, c + 1, by go_num, rfl, by omega, HCT.out.symm, ⟨R130.out.below GC197.out, R131.out.below GC197.out, own_gr OW133.out GC197.out, own_gr OW134.out GC197.out, Gr.to G126.out GC197.out⟩⟩
                  case measure => first | (simp [intOf]; done) | (simp [intOf]; omega)
                · skip
                  go_upto_region 18 with fail
                  refine wpK_region (by kernel_rfl) ?_
                  refine wpK_ta (i := 0) (some 216) (v := .int .i64 (k : Int)) rfl rfl (by kernel_rfl) (fun _ _ _ h => h) (Or.inl ⟨rfl, fun _ => rfl⟩) ?_
                  simp only [Act.put, setIfInBounds_toArray, set_cons_zero, set_cons_succ]
                  refine wpK_ta (i := 1) (some 217) (v := .bool false) rfl rfl (by kernel_rfl) (fun _ _ _ h => h) (Or.inl ⟨by rfl, fun W => by have hq : ¬ ((k : Int) > 0) := (by omega); first | (go_simp; done) | (go_simp <;> omega)⟩) ?_
                  simp only [Act.put, setIfInBounds_toArray, set_cons_zero, set_cons_succ]
                  refine wpK_ta (i := 2) (some 218) (v := .bool false) rfl rfl (by kernel_rfl) (fun _ _ _ h => h) (Or.inl ⟨rfl, fun _ => rfl⟩) ?_
                  simp only [Act.put, setIfInBounds_toArray, set_cons_zero, set_cons_succ]
                  refine wpK_ta (i := 3) (some 219) (v := undef) rfl rfl (by kernel_rfl) (fun _ _ _ h => h) (Or.inr ⟨by rfl, rfl⟩) ?_
                  simp only [Act.put, setIfInBounds_toArray, set_cons_zero, set_cons_succ]
                  refine wpK_ta (i := 4) (some 220) (v := undef) rfl rfl (by kernel_rfl) (fun _ _ _ h => h) (Or.inr ⟨by rfl, rfl⟩) ?_
                  simp only [Act.put, setIfInBounds_toArray, set_cons_zero, set_cons_succ]
                  refine wpK_ta (i := 5) (some 221) (v := undef) rfl rfl (by kernel_rfl) (fun _ _ _ h => h) (Or.inr ⟨by rfl, rfl⟩) ?_
                  simp only [Act.put, setIfInBounds_toArray, set_cons_zero, set_cons_succ]
                  refine wpK_ta (i := 6) (some 222) (v := undef) rfl rfl (by kernel_rfl) (fun _ _ _ h => h) (Or.inr ⟨by rfl, rfl⟩) ?_
                  simp only [Act.put, setIfInBounds_toArray, set_cons_zero, set_cons_succ]
                  refine wpK_ta (i := 7) (some 223) (v := undef) rfl rfl (by kernel_rfl) (fun _ _ _ h => h) (Or.inr ⟨by rfl, rfl⟩) ?_
                  simp only [Act.put, setIfInBounds_toArray, set_cons_zero, set_cons_succ]
                  refine wpK_ta (i := 8) (some 224) (v := undef) rfl rfl (by kernel_rfl) (fun _ _ _ h => h) (Or.inr ⟨by rfl, rfl⟩) ?_
                  simp only [Act.put, setIfInBounds_toArray, set_cons_zero, set_cons_succ]
                  refine wpK_ta (i := 9) (some 225) (v := undef) rfl rfl (by kernel_rfl) (fun _ _ _ h => h) (Or.inr ⟨by rfl, rfl⟩) ?_
                  simp only [Act.put, setIfInBounds_toArray, set_cons_zero, set_cons_succ]
                  refine wpK_ta (i := 10) (some 226) (v := undef) rfl rfl (by kernel_rfl) (fun _ _ _ h => h) (Or.inr ⟨by rfl, rfl⟩) ?_
                  simp only [Act.put, setIfInBounds_toArray, set_cons_zero, set_cons_succ]
                  refine wpK_ta (i := 11) (some 227) (v := undef) rfl rfl (by kernel_rfl) (fun _ _ _ h => h) (Or.inr ⟨by rfl, rfl⟩) ?_
                  simp only [Act.put, setIfInBounds_toArray, set_cons_zero, set_cons_succ]
                  refine wpK_ta (i := 12) (some 228) (v := .bool false) rfl rfl (by kernel_rfl) (fun _ _ _ h => h) (Or.inl ⟨by rfl, fun W => by go_simp⟩) ?_
                  simp only [Act.put, setIfInBounds_toArray, set_cons_zero, set_cons_succ]
                  refine wpK_done (by kernel_rfl) (fun V198 hv199 => ?_) _
                  have GC200 := Lib.hid (GC191.out.trans (Gr.un hv199))
                  clear hv199
                  go_upto_region 9 with fail
                  refine wpG_region ?_
                  refine @wpG_tk _ _ _ _ _ (some 55) (.int .i64 (k : Int)) _ _ rfl (.val (by rfl) (fun _ _ => rfl)) ?_
                  simp only [Act.put, setIfInBounds_toArray, set_cons_zero, set_cons_succ]
                  refine @wpG_tk _ _ _ _ _ (some 56) (.int .i64 ((k : Int) + 1)) _ _ rfl (.val (by rfl) (fun W hg => by (first | (go_simp; done) | (go_simp; rw [IntWalk.i64_in _ (by omega)])))) ?_
                  simp only [Act.put, setIfInBounds_toArray, set_cons_zero, set_cons_succ]
                  refine @wpG_tk _ _ _ _ _ (some 11) (.int .i64 ((k : Int) + 1)) _ _ rfl (.val (by rfl) (fun _ _ => rfl)) ?_
                  simp only [Act.put, setIfInBounds_toArray, set_cons_zero, set_cons_succ]
                  refine wpG_done (fun V201 hv202 => ?_)
                  have GC203 := Lib.hid (GC200.out.trans hv202)
                  clear hv202
                  go_wp2_with fail
                  go_roundw
                  case rel => exact ⟨k + 1, c + 1, by go_num, rfl, by omega, HCT.out.symm, ⟨R130.out.below GC203.out, R131.out.below GC203.out, own_gr OW133.out GC203.out, own_gr OW134.out GC203.out, Gr.to G126.out GC203.out⟩⟩
                  case measure => first | (simp [intOf]; done) | (simp [intOf]; omega)
      | false => as_aux_lemma =>
          have hcs := HCS.out
          rw [hv] at hcs
          have HCT := Lib.hid hcs
          clear hcs hv hin
          by_cases h7 : k + 7 < n
          rotate_left
          · as_aux_lemma =>
              go_upto_region 16 with fail
              simp only [List.append]
              refine wpK_region (by kernel_rfl) ?_
              refine wpK_ta (i := 0) (some 151) (v := .int .i64 (k : Int)) rfl rfl (by kernel_rfl) (fun _ _ _ h => h) (Or.inl ⟨rfl, fun _ => rfl⟩) ?_
              simp only [Act.put, setIfInBounds_toArray, set_cons_zero, set_cons_succ]
              refine wpK_ta (i := 1) (some 152) (v := .int .i64 ((k : Int) + 7)) rfl rfl (by kernel_rfl) (fun _ _ _ h => h) (Or.inl ⟨by rfl, fun W => by (first | (go_simp; done) | (go_simp; rw [IntWalk.i64_in _ (by omega)]))⟩) ?_
              simp only [Act.put, setIfInBounds_toArray, set_cons_zero, set_cons_succ]
              refine wpK_ta (i := 2) (some 153) (v := .slice (some ⟨g, 0, none⟩) n c1) rfl rfl (by kernel_rfl) (fun _ _ _ h => h) (Or.inl ⟨rfl, fun _ => rfl⟩) ?_
              simp only [Act.put, setIfInBounds_toArray, set_cons_zero, set_cons_succ]
              refine wpK_ta (i := 3) (some 154) (v := .int .i64 (n : Int)) rfl rfl (by kernel_rfl) (fun _ _ _ h => h) (Or.inl ⟨by rfl, fun W => by go_simp⟩) ?_
              simp only [Act.put, setIfInBounds_toArray, set_cons_zero, set_cons_succ]
              refine wpK_ta (i := 4) (some 155) (v := .bool false) rfl rfl (by kernel_rfl) (fun _ _ _ h => h) (Or.inl ⟨by rfl, fun W => by have hq : ¬ ((k : Int) + 7 < (n : Int)) := (by omega); first | (go_simp; done) | (go_simp <;> omega)⟩) ?_
              simp only [Act.put, setIfInBounds_toArray, set_cons_zero, set_cons_succ]
              refine wpK_ta (i := 5) (some 156) (v := .bool false) rfl rfl (by kernel_rfl) (fun _ _ _ h => h) (Or.inl ⟨rfl, fun _ => rfl⟩) ?_
              simp only [Act.put, setIfInBounds_toArray, set_cons_zero, set_cons_succ]
              refine wpK_ta (i := 6) (some 157) (v := undef) rfl rfl (by kernel_rfl) (fun _ _ _ h => h) (Or.inr ⟨by rfl, rfl⟩) ?_
              simp only [Act.put, setIfInBounds_toArray, set_cons_zero, set_cons_succ]
              refine wpK_ta (i := 7) (some 158) (v := undef) rfl rfl (by kernel_rfl) (fun _ _ _ h => h) (Or.inr ⟨by rfl, rfl⟩) ?_
              simp only [Act.put, setIfInBounds_toArray, set_cons_zero, set_cons_succ]
              refine wpK_ta (i := 8) (some 159) (v := undef) rfl rfl (by kernel_rfl) (fun _ _ _ h => h) (Or.inr ⟨by rfl, rfl⟩) ?_
              simp only [Act.put, setIfInBounds_toArray, set_cons_zero, set_cons_succ]
              refine wpK_ta (i := 9) (some 160) (v := undef) rfl rfl (by kernel_rfl) (fun _ _ _ h => h) (Or.inr ⟨by rfl, rfl⟩) ?_
              simp only [Act.put, setIfInBounds_toArray, set_cons_zero, set_cons_succ]
              refine wpK_ta (i := 10) (some 161) (v := undef) rfl rfl (by kernel_rfl) (fun _ _ _ h => h) (Or.inr ⟨by rfl, rfl⟩) ?_
              simp only [Act.put, setIfInBounds_toArray, set_cons_zero, set_cons_succ]
              refine wpK_ta (i := 11) (some 162) (v := undef) rfl rfl (by kernel_rfl) (fun _ _ _ h => h) (Or.inr ⟨by rfl, rfl⟩) ?_
              simp only [Act.put, setIfInBounds_toArray, set_cons_zero, set_cons_succ]
              refine wpK_ta (i := 12) (some 163) (v := undef) rfl rfl (by kernel_rfl) (fun _ _ _ h => h) (Or.inr ⟨by rfl, rfl⟩) ?_
              simp only [Act.put, setIfInBounds_toArray, set_cons_zero, set_cons_succ]
              refine wpK_ta (i := 13) (some 164) (v := undef) rfl rfl (by kernel_rfl) (fun _ _ _ h => h) (Or.inr ⟨by rfl, rfl⟩) ?_
              simp only [Act.put, setIfInBounds_toArray, set_cons_zero, set_cons_succ]
              refine wpK_ta (i := 14) (some 165) (v := undef) rfl rfl (by kernel_rfl) (fun _ _ _ h => h) (Or.inr ⟨by rfl, rfl⟩) ?_
              simp only [Act.put, setIfInBounds_toArray, set_cons_zero, set_cons_succ]
              refine wpK_ta (i := 15) (some 166) (v := undef) rfl rfl (by kernel_rfl) (fun _ _ _ h => h) (Or.inr ⟨by rfl, rfl⟩) ?_
              simp only [Act.put, setIfInBounds_toArray, set_cons_zero, set_cons_succ]
              refine wpK_ta (i := 16) (some 167) (v := undef) rfl rfl (by kernel_rfl) (fun _ _ _ h => h) (Or.inr ⟨by rfl, rfl⟩) ?_
              simp only [Act.put, setIfInBounds_toArray, set_cons_zero, set_cons_succ]
              refine wpK_ta (i := 17) (some 168) (v := undef) rfl rfl (by kernel_rfl) (fun _ _ _ h => h) (Or.inr ⟨by rfl, rfl⟩) ?_
              simp only [Act.put, setIfInBounds_toArray, set_cons_zero, set_cons_succ]
              refine wpK_ta (i := 18) (some 169) (v := .bool false) rfl rfl (by kernel_rfl) (fun _ _ _ h => h) (Or.inl ⟨by rfl, fun W => by go_simp⟩) ?_
              simp only [Act.put, setIfInBounds_toArray, set_cons_zero, set_cons_succ]
              refine wpK_ta (i := 19) (some 170) (v := .bool false) rfl rfl (by kernel_rfl) (fun _ _ _ h => h) (Or.inl ⟨rfl, fun _ => rfl⟩) ?_
              simp only [Act.put, setIfInBounds_toArray, set_cons_zero, set_cons_succ]
              refine wpK_ta (i := 20) (some 171) (v := undef) rfl rfl (by kernel_rfl) (fun _ _ _ h => h) (Or.inr ⟨by rfl, rfl⟩) ?_
              simp only [Act.put, setIfInBounds_toArray, set_cons_zero, set_cons_succ]
              refine wpK_ta (i := 21) (some 172) (v := undef) rfl rfl (by kernel_rfl) (fun _ _ _ h => h) (Or.inr ⟨by rfl, rfl⟩) ?_
              simp only [Act.put, setIfInBounds_toArray, set_cons_zero, set_cons_succ]
              refine wpK_ta (i := 22) (some 173) (v := undef) rfl rfl (by kernel_rfl) (fun _ _ _ h => h) (Or.inr ⟨by rfl, rfl⟩) ?_
              simp only [Act.put, setIfInBounds_toArray, set_cons_zero, set_cons_succ]
              refine wpK_ta (i := 23) (some 174) (v := undef) rfl rfl (by kernel_rfl) (fun _ _ _ h => h) (Or.inr ⟨by rfl, rfl⟩) ?_
              simp only [Act.put, setIfInBounds_toArray, set_cons_zero, set_cons_succ]
              refine wpK_ta (i := 24) (some 175) (v := undef) rfl rfl (by kernel_rfl) (fun _ _ _ h => h) (Or.inr ⟨by rfl, rfl⟩) ?_
              simp only [Act.put, setIfInBounds_toArray, set_cons_zero, set_cons_succ]
              refine wpK_ta (i := 25) (some 176) (v := undef) rfl rfl (by kernel_rfl) (fun _ _ _ h => h) (Or.inr ⟨by rfl, rfl⟩) ?_
              simp only [Act.put, setIfInBounds_toArray, set_cons_zero, set_cons_succ]
              refine wpK_ta (i := 26) (some 177) (v := .bool false) rfl rfl (by kernel_rfl) (fun _ _ _ h => h) (Or.inl ⟨by rfl, fun W => by go_simp⟩) ?_
              simp only [Act.put, setIfInBounds_toArray, set_cons_zero, set_cons_succ]
              refine wpK_ta (i := 27) (some 178) (v := .bool false) rfl rfl (by kernel_rfl) (fun _ _ _ h => h) (Or.inl ⟨rfl, fun _ => rfl⟩) ?_
              simp only [Act.put, setIfInBounds_toArray, set_cons_zero, set_cons_succ]
              refine wpK_ta (i := 28) (some 179) (v := undef) rfl rfl (by kernel_rfl) (fun _ _ _ h => h) (Or.inr ⟨by rfl, rfl⟩) ?_
              simp only [Act.put, setIfInBounds_toArray, set_cons_zero, set_cons_succ]
              refine wpK_ta (i := 29) (some 180) (v := undef) rfl rfl (by kernel_rfl) (fun _ _ _ h => h) (Or.inr ⟨by rfl, rfl⟩) ?_
              simp only [Act.put, setIfInBounds_toArray, set_cons_zero, set_cons_succ]
              refine wpK_ta (i := 30) (some 181) (v := undef) rfl rfl (by kernel_rfl) (fun _ _ _ h => h) (Or.inr ⟨by rfl, rfl⟩) ?_
              simp only [Act.put, setIfInBounds_toArray, set_cons_zero, set_cons_succ]
              refine wpK_ta (i := 31) (some 182) (v := undef) rfl rfl (by kernel_rfl) (fun _ _ _ h => h) (Or.inr ⟨by rfl, rfl⟩) ?_
              simp only [Act.put, setIfInBounds_toArray, set_cons_zero, set_cons_succ]
              refine wpK_ta (i := 32) (some 183) (v := undef) rfl rfl (by kernel_rfl) (fun _ _ _ h => h) (Or.inr ⟨by rfl, rfl⟩) ?_
              simp only [Act.put, setIfInBounds_toArray, set_cons_zero, set_cons_succ]
              refine wpK_ta (i := 33) (some 184) (v := undef) rfl rfl (by kernel_rfl) (fun _ _ _ h => h) (Or.inr ⟨by rfl, rfl⟩) ?_
              simp only [Act.put, setIfInBounds_toArray, set_cons_zero, set_cons_succ]
              refine wpK_ta (i := 34) (some 185) (v := .bool false) rfl rfl (by kernel_rfl) (fun _ _ _ h => h) (Or.inl ⟨by rfl, fun W => by go_simp⟩) ?_
              simp only [Act.put, setIfInBounds_toArray, set_cons_zero, set_cons_succ]
              refine wpK_ta (i := 35) (some 186) (v := .bool false) rfl rfl (by kernel_rfl) (fun _ _ _ h => h) (Or.inl ⟨rfl, fun _ => rfl⟩) ?_
              simp only [Act.put, setIfInBounds_toArray, set_cons_zero, set_cons_succ]
              refine wpK_ta (i := 36) (some 187) (v := undef) rfl rfl (by kernel_rfl) (fun _ _ _ h => h) (Or.inr ⟨by rfl, rfl⟩) ?_
              simp only [Act.put, setIfInBounds_toArray, set_cons_zero, set_cons_succ]
              refine wpK_ta (i := 37) (some 188) (v := undef) rfl rfl (by kernel_rfl) (fun _ _ _ h => h) (Or.inr ⟨by rfl, rfl⟩) ?_
              simp only [Act.put, setIfInBounds_toArray, set_cons_zero, set_cons_succ]
              refine wpK_ta (i := 38) (some 189) (v := undef) rfl rfl (by kernel_rfl) (fun _ _ _ h => h) (Or.inr ⟨by rfl, rfl⟩) ?_
              simp only [Act.put, setIfInBounds_toArray, set_cons_zero, set_cons_succ]
              refine wpK_ta (i := 39) (some 190) (v := undef) rfl rfl (by kernel_rfl) (fun _ _ _ h => h) (Or.inr ⟨by rfl, rfl⟩) ?_
              simp only [Act.put, setIfInBounds_toArray, set_cons_zero, set_cons_succ]
              refine wpK_ta (i := 40) (some 191) (v := undef) rfl rfl (by kernel_rfl) (fun _ _ _ h => h) (Or.inr ⟨by rfl, rfl⟩) ?_
              simp only [Act.put, setIfInBounds_toArray, set_cons_zero, set_cons_succ]
              refine wpK_ta (i := 41) (some 192) (v := undef) rfl rfl (by kernel_rfl) (fun _ _ _ h => h) (Or.inr ⟨by rfl, rfl⟩) ?_
              simp only [Act.put, setIfInBounds_toArray, set_cons_zero, set_cons_succ]
              refine wpK_ta (i := 42) (some 193) (v := .bool false) rfl rfl (by kernel_rfl) (fun _ _ _ h => h) (Or.inl ⟨by rfl, fun W => by go_simp⟩) ?_
              simp only [Act.put, setIfInBounds_toArray, set_cons_zero, set_cons_succ]
              refine wpK_ta (i := 43) (some 194) (v := .bool false) rfl rfl (by kernel_rfl) (fun _ _ _ h => h) (Or.inl ⟨rfl, fun _ => rfl⟩) ?_
              simp only [Act.put, setIfInBounds_toArray, set_cons_zero, set_cons_succ]
              refine wpK_ta (i := 44) (some 195) (v := undef) rfl rfl (by kernel_rfl) (fun _ _ _ h => h) (Or.inr ⟨by rfl, rfl⟩) ?_
              simp only [Act.put, setIfInBounds_toArray, set_cons_zero, set_cons_succ]
              refine wpK_ta (i := 45) (some 196) (v := undef) rfl rfl (by kernel_rfl) (fun _ _ _ h => h) (Or.inr ⟨by rfl, rfl⟩) ?_
              simp only [Act.put, setIfInBounds_toArray, set_cons_zero, set_cons_succ]
              refine wpK_ta (i := 46) (some 197) (v := undef) rfl rfl (by kernel_rfl) (fun _ _ _ h => h) (Or.inr ⟨by rfl, rfl⟩) ?_
              simp only [Act.put, setIfInBounds_toArray, set_cons_zero, set_cons_succ]
              refine wpK_ta (i := 47) (some 198) (v := undef) rfl rfl (by kernel_rfl) (fun _ _ _ h => h) (Or.inr ⟨by rfl, rfl⟩) ?_
              simp only [Act.put, setIfInBounds_toArray, set_cons_zero, set_cons_succ]
              refine wpK_ta (i := 48) (some 199) (v := undef) rfl rfl (by kernel_rfl) (fun _ _ _ h => h) (Or.inr ⟨by rfl, rfl⟩) ?_
              simp only [Act.put, setIfInBounds_toArray, set_cons_zero, set_cons_succ]
              refine wpK_ta (i := 49) (some 200) (v := undef) rfl rfl (by kernel_rfl) (fun _ _ _ h => h) (Or.inr ⟨by rfl, rfl⟩) ?_
              simp only [Act.put, setIfInBounds_toArray, set_cons_zero, set_cons_succ]
              refine wpK_ta (i := 50) (some 201) (v := undef) rfl rfl (by kernel_rfl) (fun _ _ _ h => h) (Or.inr ⟨by rfl, rfl⟩) ?_
              simp only [Act.put, setIfInBounds_toArray, set_cons_zero, set_cons_succ]
              refine wpK_ta (i := 51) (some 202) (v := undef) rfl rfl (by kernel_rfl) (fun _ _ _ h => h) (Or.inr ⟨by rfl, rfl⟩) ?_
              simp only [Act.put, setIfInBounds_toArray, set_cons_zero, set_cons_succ]
              refine wpK_ta (i := 52) (some 203) (v := undef) rfl rfl (by kernel_rfl) (fun _ _ _ h => h) (Or.inr ⟨by rfl, rfl⟩) ?_
              simp only [Act.put, setIfInBounds_toArray, set_cons_zero, set_cons_succ]
              refine wpK_ta (i := 53) (some 204) (v := undef) rfl rfl (by kernel_rfl) (fun _ _ _ h => h) (Or.inr ⟨by rfl, rfl⟩) ?_
              simp only [Act.put, setIfInBounds_toArray, set_cons_zero, set_cons_succ]
              refine wpK_ta (i := 54) (some 205) (v := undef) rfl rfl (by kernel_rfl) (fun _ _ _ h => h) (Or.inr ⟨by rfl, rfl⟩) ?_
              simp only [Act.put, setIfInBounds_toArray, set_cons_zero, set_cons_succ]
              refine wpK_ta (i := 55) (some 206) (v := undef) rfl rfl (by kernel_rfl) (fun _ _ _ h => h) (Or.inr ⟨by rfl, rfl⟩) ?_
              simp only [Act.put, setIfInBounds_toArray, set_cons_zero, set_cons_succ]
              refine wpK_ta (i := 56) (some 207) (v := undef) rfl rfl (by kernel_rfl) (fun _ _ _ h => h) (Or.inr ⟨by rfl, rfl⟩) ?_
              simp only [Act.put, setIfInBounds_toArray, set_cons_zero, set_cons_succ]
              refine wpK_ta (i := 57) (some 208) (v := undef) rfl rfl (by kernel_rfl) (fun _ _ _ h => h) (Or.inr ⟨by rfl, rfl⟩) ?_
              simp only [Act.put, setIfInBounds_toArray, set_cons_zero, set_cons_succ]
              refine wpK_ta (i := 58) (some 209) (v := undef) rfl rfl (by kernel_rfl) (fun _ _ _ h => h) (Or.inr ⟨by rfl, rfl⟩) ?_
              simp only [Act.put, setIfInBounds_toArray, set_cons_zero, set_cons_succ]
              refine wpK_ta (i := 59) (some 210) (v := undef) rfl rfl (by kernel_rfl) (fun _ _ _ h => h) (Or.inr ⟨by rfl, rfl⟩) ?_
              simp only [Act.put, setIfInBounds_toArray, set_cons_zero, set_cons_succ]
              refine wpK_ta (i := 60) (some 211) (v := undef) rfl rfl (by kernel_rfl) (fun _ _ _ h => h) (Or.inr ⟨by rfl, rfl⟩) ?_
              simp only [Act.put, setIfInBounds_toArray, set_cons_zero, set_cons_succ]
              refine wpK_ta (i := 61) (some 212) (v := undef) rfl rfl (by kernel_rfl) (fun _ _ _ h => h) (Or.inr ⟨by rfl, rfl⟩) ?_
              simp only [Act.put, setIfInBounds_toArray, set_cons_zero, set_cons_succ]
              refine wpK_ta (i := 62) (some 213) (v := undef) rfl rfl (by kernel_rfl) (fun _ _ _ h => h) (Or.inr ⟨by rfl, rfl⟩) ?_
              simp only [Act.put, setIfInBounds_toArray, set_cons_zero, set_cons_succ]
              refine wpK_ta (i := 63) (some 214) (v := undef) rfl rfl (by kernel_rfl) (fun _ _ _ h => h) (Or.inr ⟨by rfl, rfl⟩) ?_
              simp only [Act.put, setIfInBounds_toArray, set_cons_zero, set_cons_succ]
              refine wpK_ta (i := 64) (some 215) (v := .bool false) rfl rfl (by kernel_rfl) (fun _ _ _ h => h) (Or.inl ⟨by rfl, fun W => by go_simp⟩) ?_
              simp only [Act.put, setIfInBounds_toArray, set_cons_zero, set_cons_succ]
              refine wpK_done (by kernel_rfl) (fun V204 hv205 => ?_) _
              have GC206 := Lib.hid (GC146.out.trans (Gr.un hv205))
              clear hv205
              by_cases hk0 : 0 < k
              · skip
                have HCP := Lib.hid (HCPX.out hk0)
                go_upto_region 18 with fail
                refine wpK_region (by kernel_rfl) ?_
                refine wpK_ta (i := 0) (some 216) (v := .int .i64 (k : Int)) rfl rfl (by kernel_rfl) (fun _ _ _ h => h) (Or.inl ⟨rfl, fun _ => rfl⟩) ?_
                simp only [Act.put, setIfInBounds_toArray, set_cons_zero, set_cons_succ]
                refine wpK_ta (i := 1) (some 217) (v := .bool true) rfl rfl (by kernel_rfl) (fun _ _ _ h => h) (Or.inl ⟨by rfl, fun W => by have hq : ((k : Int) > 0) := (by omega); first | (go_simp; done) | (go_simp <;> omega)⟩) ?_
                simp only [Act.put, setIfInBounds_toArray, set_cons_zero, set_cons_succ]
                refine wpK_ta (i := 2) (some 218) (v := .bool true) rfl rfl (by kernel_rfl) (fun _ _ _ h => h) (Or.inl ⟨rfl, fun _ => rfl⟩) ?_
                simp only [Act.put, setIfInBounds_toArray, set_cons_zero, set_cons_succ]
                refine wpK_ta (i := 3) (some 219) (v := .slice (some ⟨g, 0, none⟩) n c1) rfl rfl (by kernel_rfl) (fun _ _ _ h => h) (Or.inl ⟨rfl, fun _ => rfl⟩) ?_
                simp only [Act.put, setIfInBounds_toArray, set_cons_zero, set_cons_succ]
                refine wpK_ta (i := 4) (some 220) (v := .int .i64 (k : Int)) rfl rfl (by kernel_rfl) (fun _ _ _ h => h) (Or.inl ⟨rfl, fun _ => rfl⟩) ?_
                simp only [Act.put, setIfInBounds_toArray, set_cons_zero, set_cons_succ]
                refine wpK_ta (i := 5) (some 221) (v := .int .i64 ((k : Int) - 1)) rfl rfl (by kernel_rfl) (fun _ _ _ h => h) (Or.inl ⟨by rfl, fun W => by (first | (go_simp; done) | (go_simp; rw [IntWalk.i64_in _ (by omega)]))⟩) ?_
                simp only [Act.put, setIfInBounds_toArray, set_cons_zero, set_cons_succ]
                refine wpK_ta (i := 6) (some 222) (v := .pointer (some ⟨g, (k - 1) * 4, none⟩)) rfl rfl (by kernel_rfl) (fun _ _ _ h => h) (Or.inl ⟨by rfl, fun W => by go_simp <;> first | rfl | omega | (simp; omega)⟩) ?_
                simp only [Act.put, setIfInBounds_toArray, set_cons_zero, set_cons_succ]
                refine wpK_ta (i := 7) (some 223) (v := .pointer (some ⟨g, (k - 1) * 4, none⟩)) rfl rfl (by kernel_rfl) (fun _ _ _ h => h) (Or.inl ⟨by rfl, fun W => by go_simp⟩) ?_
                simp only [Act.put, setIfInBounds_toArray, set_cons_zero, set_cons_succ]
                refine wpK_tk (i := 8) (some 224) (v := .agg #[.int .i64 e0.1, .int .i64 e0.2.1, .int .i64 e0.2.2.1]) rfl rfl (by kernel_rfl) (fun _ _ _ h => h) (.load_mid (by rfl) 23 (.tmp 223) rfl g ((k - 1) * 4) rfl [.int .i64 e0.1, .int .i64 e0.2.1, .int .i64 e0.2.2.1] _ (fun W hg => cube_pt ((own_lies OW133.out).below (GC206.out.trans (Gr.un hg))) (HE0.out hk0)) Try.underlying23 rfl (by kernel_rfl)) ?_
                simp only [Act.put, setIfInBounds_toArray, set_cons_zero, set_cons_succ]
                refine wpK_tk (i := 9) (some 225) (v := .agg #[.int .i64 e.1, .int .i64 e.2.1, .int .i64 e.2.2.1]) rfl rfl (by kernel_rfl) (fun _ _ _ h => h) (.load_mid (by rfl) 23 (.tmp 13) rfl (W120.heap.size) 0 rfl [.int .i64 e.1, .int .i64 e.2.1, .int .i64 e.2.2.1] _ (fun W hg => (R132.out.below (GC206.out.trans (Gr.un hg))).range) Try.underlying23 rfl (by kernel_rfl)) ?_
                simp only [Act.put, setIfInBounds_toArray, set_cons_zero, set_cons_succ]
                refine wpK_tk (i := 10) (some 226) (v := .int .i64 (-1)) rfl rfl (by kernel_rfl) (fun _ _ _ h => h) (.call (f := 15) (args := #[.agg #[.int .i64 e0.1, .int .i64 e0.2.1, .int .i64 e0.2.2.1], .agg #[.int .i64 e.1, .int .i64 e.2.1, .int .i64 e.2.2.1]]) (by rfl) (fun W => by go_simp) (fun W hg => rename (compare_any e0.1 e0.2.1 e0.2.2.1 e.1 e.2.1 e.2.2.1 W) (by rw [HCP.out]))) ?_
                simp only [Act.put, setIfInBounds_toArray, set_cons_zero, set_cons_succ]
                refine wpK_ta (i := 11) (some 227) (v := .bool false) rfl rfl (by kernel_rfl) (fun _ _ _ h => h) (Or.inl ⟨by rfl, fun W => by have hq : ¬ ((-1) ≥ 0) := (by omega); first | (go_simp; done) | (go_simp <;> omega)⟩) ?_
                simp only [Act.put, setIfInBounds_toArray, set_cons_zero, set_cons_succ]
                refine wpK_ta (i := 12) (some 228) (v := .bool false) rfl rfl (by kernel_rfl) (fun _ _ _ h => h) (Or.inl ⟨by rfl, fun W => by go_simp⟩) ?_
                simp only [Act.put, setIfInBounds_toArray, set_cons_zero, set_cons_succ]
                refine wpK_done (by kernel_rfl) (fun V207 hv208 => ?_) _
                have GC209 := Lib.hid (GC206.out.trans (Gr.un hv208))
                clear hv208
                go_upto_region 9 with fail
                refine wpG_region ?_
                refine @wpG_tk _ _ _ _ _ (some 55) (.int .i64 (k : Int)) _ _ rfl (.val (by rfl) (fun _ _ => rfl)) ?_
                simp only [Act.put, setIfInBounds_toArray, set_cons_zero, set_cons_succ]
                refine @wpG_tk _ _ _ _ _ (some 56) (.int .i64 ((k : Int) + 1)) _ _ rfl (.val (by rfl) (fun W hg => by (first | (go_simp; done) | (go_simp; rw [IntWalk.i64_in _ (by omega)])))) ?_
                simp only [Act.put, setIfInBounds_toArray, set_cons_zero, set_cons_succ]
                refine @wpG_tk _ _ _ _ _ (some 11) (.int .i64 ((k : Int) + 1)) _ _ rfl (.val (by rfl) (fun _ _ => rfl)) ?_
                simp only [Act.put, setIfInBounds_toArray, set_cons_zero, set_cons_succ]
                refine wpG_done (fun V210 hv211 => ?_)
                have GC212 := Lib.hid (GC209.out.trans hv211)
                clear hv211
                go_wp2_with fail
                go_roundw
                case rel => exact ⟨k + 1, c, by go_num, rfl, by omega, HCT.out.symm, ⟨R130.out.below GC212.out, R131.out.below GC212.out, own_gr OW133.out GC212.out, own_gr OW134.out GC212.out, Gr.to G126.out GC212.out⟩⟩
                case measure => first | (simp [intOf]; done) | (simp [intOf]; omega)
              · skip
                go_upto_region 18 with fail
                refine wpK_region (by kernel_rfl) ?_
                refine wpK_ta (i := 0) (some 216) (v := .int .i64 (k : Int)) rfl rfl (by kernel_rfl) (fun _ _ _ h => h) (Or.inl ⟨rfl, fun _ => rfl⟩) ?_
                simp only [Act.put, setIfInBounds_toArray, set_cons_zero, set_cons_succ]
                refine wpK_ta (i := 1) (some 217) (v := .bool false) rfl rfl (by kernel_rfl) (fun _ _ _ h => h) (Or.inl ⟨by rfl, fun W => by have hq : ¬ ((k : Int) > 0) := (by omega); first | (go_simp; done) | (go_simp <;> omega)⟩) ?_
                simp only [Act.put, setIfInBounds_toArray, set_cons_zero, set_cons_succ]
                refine wpK_ta (i := 2) (some 218) (v := .bool false) rfl rfl (by kernel_rfl) (fun _ _ _ h => h) (Or.inl ⟨rfl, fun _ => rfl⟩) ?_
                simp only [Act.put, setIfInBounds_toArray, set_cons_zero, set_cons_succ]
                refine wpK_ta (i := 3) (some 219) (v := undef) rfl rfl (by kernel_rfl) (fun _ _ _ h => h) (Or.inr ⟨by rfl, rfl⟩) ?_
                simp only [Act.put, setIfInBounds_toArray, set_cons_zero, set_cons_succ]
                refine wpK_ta (i := 4) (some 220) (v := undef) rfl rfl (by kernel_rfl) (fun _ _ _ h => h) (Or.inr ⟨by rfl, rfl⟩) ?_
                simp only [Act.put, setIfInBounds_toArray, set_cons_zero, set_cons_succ]
                refine wpK_ta (i := 5) (some 221) (v := undef) rfl rfl (by kernel_rfl) (fun _ _ _ h => h) (Or.inr ⟨by rfl, rfl⟩) ?_
                simp only [Act.put, setIfInBounds_toArray, set_cons_zero, set_cons_succ]
                refine wpK_ta (i := 6) (some 222) (v := undef) rfl rfl (by kernel_rfl) (fun _ _ _ h => h) (Or.inr ⟨by rfl, rfl⟩) ?_
                simp only [Act.put, setIfInBounds_toArray, set_cons_zero, set_cons_succ]
                refine wpK_ta (i := 7) (some 223) (v := undef) rfl rfl (by kernel_rfl) (fun _ _ _ h => h) (Or.inr ⟨by rfl, rfl⟩) ?_
                simp only [Act.put, setIfInBounds_toArray, set_cons_zero, set_cons_succ]
                refine wpK_ta (i := 8) (some 224) (v := undef) rfl rfl (by kernel_rfl) (fun _ _ _ h => h) (Or.inr ⟨by rfl, rfl⟩) ?_
                simp only [Act.put, setIfInBounds_toArray, set_cons_zero, set_cons_succ]
                refine wpK_ta (i := 9) (some 225) (v := undef) rfl rfl (by kernel_rfl) (fun _ _ _ h => h) (Or.inr ⟨by rfl, rfl⟩) ?_
                simp only [Act.put, setIfInBounds_toArray, set_cons_zero, set_cons_succ]
                refine wpK_ta (i := 10) (some 226) (v := undef) rfl rfl (by kernel_rfl) (fun _ _ _ h => h) (Or.inr ⟨by rfl, rfl⟩) ?_
                simp only [Act.put, setIfInBounds_toArray, set_cons_zero, set_cons_succ]
                refine wpK_ta (i := 11) (some 227) (v := undef) rfl rfl (by kernel_rfl) (fun _ _ _ h => h) (Or.inr ⟨by rfl, rfl⟩) ?_
                simp only [Act.put, setIfInBounds_toArray, set_cons_zero, set_cons_succ]
                refine wpK_ta (i := 12) (some 228) (v := .bool false) rfl rfl (by kernel_rfl) (fun _ _ _ h => h) (Or.inl ⟨by rfl, fun W => by go_simp⟩) ?_
                simp only [Act.put, setIfInBounds_toArray, set_cons_zero, set_cons_succ]
                refine wpK_done (by kernel_rfl) (fun V213 hv214 => ?_) _
                have GC215 := Lib.hid (GC206.out.trans (Gr.un hv214))
                clear hv214
                go_upto_region 9 with fail
                refine wpG_region ?_
                refine @wpG_tk _ _ _ _ _ (some 55) (.int .i64 (k : Int)) _ _ rfl (.val (by rfl) (fun _ _ => rfl)) ?_
                simp only [Act.put, setIfInBounds_toArray, set_cons_zero, set_cons_succ]
                refine @wpG_tk _ _ _ _ _ (some 56) (.int .i64 ((k : Int) + 1)) _ _ rfl (.val (by rfl) (fun W hg => by (first | (go_simp; done) | (go_simp; rw [IntWalk.i64_in _ (by omega)])))) ?_
                simp only [Act.put, setIfInBounds_toArray, set_cons_zero, set_cons_succ]
                refine @wpG_tk _ _ _ _ _ (some 11) (.int .i64 ((k : Int) + 1)) _ _ rfl (.val (by rfl) (fun _ _ => rfl)) ?_
                simp only [Act.put, setIfInBounds_toArray, set_cons_zero, set_cons_succ]
                refine wpG_done (fun V216 hv217 => ?_)
                have GC218 := Lib.hid (GC215.out.trans hv217)
                clear hv217
                go_wp2_with fail
                go_roundw
                case rel => exact ⟨k + 1, c, by go_num, rfl, by omega, HCT.out.symm, ⟨R130.out.below GC218.out, R131.out.below GC218.out, own_gr OW133.out GC218.out, own_gr OW134.out GC218.out, Gr.to G126.out GC218.out⟩⟩
                case measure => first | (simp [intOf]; done) | (simp [intOf]; omega)
          · obtain ⟨e7, h71, l7, h72, h73, h75, h74⟩ := HE7.out h7
            have HE71 := Lib.hid h71
            have HL7 := Lib.hid h72
            have H74 := Lib.hid h74
            obtain ⟨rx, hrx⟩ : ∃ x, x = e.1 % (2 * s) := ⟨_, rfl⟩
            have Hrx := Lib.hid hrx
            clear hrx
            obtain ⟨ry, hry⟩ : ∃ x, x = e.2.1 % (2 * s) := ⟨_, rfl⟩
            have Hry := Lib.hid hry
            clear hry
            obtain ⟨rz, hrz⟩ : ∃ x, x = e.2.2.1 % (2 * s) := ⟨_, rfl⟩
            have Hrz := Lib.hid hrz
            clear hrz
            clear h71 h72 h74
            by_cases hat : e7.1 = e.1 + s ∧ e7.2.1 = e.2.1 + s ∧ e7.2.2.1 = e.2.2.1 + s
            · as_aux_lemma =>
                go_upto_region 16 with fail
                simp only [List.append]
                refine wpK_region (by kernel_rfl) ?_
                refine wpK_ta (i := 0) (some 151) (v := .int .i64 (k : Int)) rfl rfl (by kernel_rfl) (fun _ _ _ h => h) (Or.inl ⟨rfl, fun _ => rfl⟩) ?_
                simp only [Act.put, setIfInBounds_toArray, set_cons_zero, set_cons_succ]
                refine wpK_ta (i := 1) (some 152) (v := .int .i64 ((k : Int) + 7)) rfl rfl (by kernel_rfl) (fun _ _ _ h => h) (Or.inl ⟨by rfl, fun W => by (first | (go_simp; done) | (go_simp; rw [IntWalk.i64_in _ (by omega)]))⟩) ?_
                simp only [Act.put, setIfInBounds_toArray, set_cons_zero, set_cons_succ]
                refine wpK_ta (i := 2) (some 153) (v := .slice (some ⟨g, 0, none⟩) n c1) rfl rfl (by kernel_rfl) (fun _ _ _ h => h) (Or.inl ⟨rfl, fun _ => rfl⟩) ?_
                simp only [Act.put, setIfInBounds_toArray, set_cons_zero, set_cons_succ]
                refine wpK_ta (i := 3) (some 154) (v := .int .i64 (n : Int)) rfl rfl (by kernel_rfl) (fun _ _ _ h => h) (Or.inl ⟨by rfl, fun W => by go_simp⟩) ?_
                simp only [Act.put, setIfInBounds_toArray, set_cons_zero, set_cons_succ]
                refine wpK_ta (i := 4) (some 155) (v := .bool true) rfl rfl (by kernel_rfl) (fun _ _ _ h => h) (Or.inl ⟨by rfl, fun W => by have hq : ((k : Int) + 7 < (n : Int)) := (by omega); first | (go_simp; done) | (go_simp <;> omega)⟩) ?_
                simp only [Act.put, setIfInBounds_toArray, set_cons_zero, set_cons_succ]
                refine wpK_ta (i := 5) (some 156) (v := .bool true) rfl rfl (by kernel_rfl) (fun _ _ _ h => h) (Or.inl ⟨rfl, fun _ => rfl⟩) ?_
                simp only [Act.put, setIfInBounds_toArray, set_cons_zero, set_cons_succ]
                refine wpK_ta (i := 6) (some 157) (v := .slice (some ⟨g, 0, none⟩) n c1) rfl rfl (by kernel_rfl) (fun _ _ _ h => h) (Or.inl ⟨rfl, fun _ => rfl⟩) ?_
                simp only [Act.put, setIfInBounds_toArray, set_cons_zero, set_cons_succ]
                refine wpK_ta (i := 7) (some 158) (v := .int .i64 (k : Int)) rfl rfl (by kernel_rfl) (fun _ _ _ h => h) (Or.inl ⟨rfl, fun _ => rfl⟩) ?_
                simp only [Act.put, setIfInBounds_toArray, set_cons_zero, set_cons_succ]
                refine wpK_ta (i := 8) (some 159) (v := .int .i64 ((k : Int) + 7)) rfl rfl (by kernel_rfl) (fun _ _ _ h => h) (Or.inl ⟨by rfl, fun W => by (first | (go_simp; done) | (go_simp; rw [IntWalk.i64_in _ (by omega)]))⟩) ?_
                simp only [Act.put, setIfInBounds_toArray, set_cons_zero, set_cons_succ]
                refine wpK_ta (i := 9) (some 160) (v := .pointer (some ⟨g, (k + 7) * 4, none⟩)) rfl rfl (by kernel_rfl) (fun _ _ _ h => h) (Or.inl ⟨by rfl, fun W => by go_simp; rw [if_pos (by constructor <;> omega), show ((k : Int) + 7).toNat = k + 7 by omega]⟩) ?_
                simp only [Act.put, setIfInBounds_toArray, set_cons_zero, set_cons_succ]
                refine wpK_ta (i := 10) (some 161) (v := .pointer (some ⟨g, (k + 7) * 4 + 3, none⟩)) rfl rfl (by kernel_rfl) (fun _ _ _ h => h) (Or.inl ⟨by rfl, fun W => by go_simp⟩) ?_
                simp only [Act.put, setIfInBounds_toArray, set_cons_zero, set_cons_succ]
                refine wpK_tk (i := 11) (some 162) (v := .int .i64 (l7 : Int)) rfl rfl (by kernel_rfl) (fun _ _ _ h => h) (.val (by rfl) (fun W hg => by have c := (cube_lv ((own_lies OW133.out).below (GC146.out.trans (Gr.un hg))) HE71.out HL7.out); go_simp)) ?_
                simp only [Act.put, setIfInBounds_toArray, set_cons_zero, set_cons_succ]
                refine wpK_ta (i := 12) (some 163) (v := .slice (some ⟨g, 0, none⟩) n c1) rfl rfl (by kernel_rfl) (fun _ _ _ h => h) (Or.inl ⟨rfl, fun _ => rfl⟩) ?_
                simp only [Act.put, setIfInBounds_toArray, set_cons_zero, set_cons_succ]
                refine wpK_ta (i := 13) (some 164) (v := .int .i64 (k : Int)) rfl rfl (by kernel_rfl) (fun _ _ _ h => h) (Or.inl ⟨rfl, fun _ => rfl⟩) ?_
                simp only [Act.put, setIfInBounds_toArray, set_cons_zero, set_cons_succ]
                refine wpK_ta (i := 14) (some 165) (v := .pointer (some ⟨g, k * 4, none⟩)) rfl rfl (by kernel_rfl) (fun _ _ _ h => h) (Or.inl ⟨by rfl, fun W => by go_simp <;> first | rfl | omega | (simp; omega)⟩) ?_
                simp only [Act.put, setIfInBounds_toArray, set_cons_zero, set_cons_succ]
                refine wpK_ta (i := 15) (some 166) (v := .pointer (some ⟨g, k * 4 + 3, none⟩)) rfl rfl (by kernel_rfl) (fun _ _ _ h => h) (Or.inl ⟨by rfl, fun W => by go_simp⟩) ?_
                simp only [Act.put, setIfInBounds_toArray, set_cons_zero, set_cons_succ]
                refine wpK_tk (i := 16) (some 167) (v := .int .i64 (lv : Int)) rfl rfl (by kernel_rfl) (fun _ _ _ h => h) (.val (by rfl) (fun W hg => by have c := (cube_lv ((own_lies OW133.out).below (GC146.out.trans (Gr.un hg))) HE.out HL.out); go_simp)) ?_
                simp only [Act.put, setIfInBounds_toArray, set_cons_zero, set_cons_succ]
                refine wpK_ta (i := 17) (some 168) (v := .bool (decide ((l7 : Int) = (lv : Int)))) rfl rfl (by kernel_rfl) (fun _ _ _ h => h) (Or.inl ⟨by rfl, fun W => by go_simp <;> rfl⟩) ?_
                simp only [Act.put, setIfInBounds_toArray, set_cons_zero, set_cons_succ]
                obtain ⟨c219, hc219⟩ : ∃ b, b = (decide ((l7 : Int) = (lv : Int))) := ⟨_, rfl⟩
                rw [← hc219]
                have Hc219 := Lib.hid hc219
                clear hc219
                refine wpK_ta (i := 18) (some 169) (v := .bool c219) rfl rfl (by kernel_rfl) (fun _ _ _ h => h) (Or.inl ⟨by rfl, fun W => by go_simp⟩) ?_
                simp only [Act.put, setIfInBounds_toArray, set_cons_zero, set_cons_succ]
                refine wpK_ta (i := 19) (some 170) (v := .bool c219) rfl rfl (by kernel_rfl) (fun _ _ _ h => h) (Or.inl ⟨rfl, fun _ => rfl⟩) ?_
                simp only [Act.put, setIfInBounds_toArray, set_cons_zero, set_cons_succ]
                refine wpK_ta (i := 20) (some 171) (v := (bif c219 then .pointer (some ⟨W120.heap.size, 0, none⟩) else undef)) rfl rfl (by kernel_rfl) (fun _ _ _ h => h) (by cases c219 with | false => exact Or.inr ⟨by rfl, rfl⟩ | true => exact (Or.inl ⟨by rfl, fun W => by go_simp⟩)) ?_
                simp only [Act.put, setIfInBounds_toArray, set_cons_zero, set_cons_succ]
                refine wpK_tk (i := 21) (some 172) (v := (bif c219 then .int .i64 e.1 else undef)) rfl rfl (by kernel_rfl) (fun _ _ _ h => h) (by cases c219 with | false => exact .no (by rfl) | true => exact (.val (by rfl) (fun W hg => by have c := (R132.out.below (GC146.out.trans (Gr.un hg)) 0 _ rfl).1; go_simp))) ?_
                simp only [Act.put, setIfInBounds_toArray, set_cons_zero, set_cons_succ]
                refine wpK_ta (i := 22) (some 173) (v := (bif c219 then .int .i64 s else undef)) rfl rfl (by kernel_rfl) (fun _ _ _ h => h) (by cases c219 with | false => exact Or.inr ⟨by rfl, rfl⟩ | true => exact (Or.inl ⟨rfl, fun _ => rfl⟩)) ?_
                simp only [Act.put, setIfInBounds_toArray, set_cons_zero, set_cons_succ]
                refine wpK_ta (i := 23) (some 174) (v := (bif c219 then .int .i64 (2 * s) else undef)) rfl rfl (by kernel_rfl) (fun _ _ _ h => h) (by cases c219 with | false => exact Or.inr ⟨by rfl, rfl⟩ | true => exact (Or.inl ⟨by rfl, fun W => by (first | (go_simp; done) | (go_simp; rw [IntWalk.i64_in _ (by omega)]))⟩)) ?_
                simp only [Act.put, setIfInBounds_toArray, set_cons_zero, set_cons_succ]
                refine wpK_ta (i := 24) (some 175) (v := (bif c219 then .int .i64 rx else undef)) rfl rfl (by kernel_rfl) (fun _ _ _ h => h) (by cases c219 with | false => exact Or.inr ⟨by rfl, rfl⟩ | true => exact (Or.inl ⟨by rfl, fun W => by first | (go_simp; rw [Hrx.out]; done) | (go_simp; rw [Hrx.out]; exact IntWalk.i64_in _ (by omega)) | (go_simp; rw [Int.tmod_eq_emod_of_nonneg (by omega), Hrx.out]; done) | (go_simp; rw [Int.tmod_eq_emod_of_nonneg (by omega), ← Hrx.out]; exact IntWalk.i64_in _ (by omega))⟩)) ?_
                simp only [Act.put, setIfInBounds_toArray, set_cons_zero, set_cons_succ]
                refine wpK_ta (i := 25) (some 176) (v := (bif c219 then .bool (decide (rx = 0)) else undef)) rfl rfl (by kernel_rfl) (fun _ _ _ h => h) (by cases c219 with | false => exact Or.inr ⟨by rfl, rfl⟩ | true => exact (Or.inl ⟨by rfl, fun W => by go_simp <;> rfl⟩)) ?_
                simp only [Act.put, setIfInBounds_toArray, set_cons_zero, set_cons_succ]
                refine wpK_ta (i := 26) (some 177) (v := .bool (c219 && (decide (rx = 0)))) rfl rfl (by kernel_rfl) (fun _ _ _ h => h) (Or.inl ⟨by rfl, fun W => by cases c219 <;> go_simp⟩) ?_
                simp only [Act.put, setIfInBounds_toArray, set_cons_zero, set_cons_succ]
                obtain ⟨c220, hc220⟩ : ∃ b, b = (c219 && (decide (rx = 0))) := ⟨_, rfl⟩
                rw [← hc220]
                have Hc220 := Lib.hid hc220
                clear hc220
                refine wpK_ta (i := 27) (some 178) (v := .bool c220) rfl rfl (by kernel_rfl) (fun _ _ _ h => h) (Or.inl ⟨rfl, fun _ => rfl⟩) ?_
                simp only [Act.put, setIfInBounds_toArray, set_cons_zero, set_cons_succ]
                refine wpK_ta (i := 28) (some 179) (v := (bif c220 then .pointer (some ⟨W120.heap.size, 1, none⟩) else undef)) rfl rfl (by kernel_rfl) (fun _ _ _ h => h) (by cases c220 with | false => exact Or.inr ⟨by rfl, rfl⟩ | true => exact (Or.inl ⟨by rfl, fun W => by go_simp⟩)) ?_
                simp only [Act.put, setIfInBounds_toArray, set_cons_zero, set_cons_succ]
                refine wpK_tk (i := 29) (some 180) (v := (bif c220 then .int .i64 e.2.1 else undef)) rfl rfl (by kernel_rfl) (fun _ _ _ h => h) (by cases c220 with | false => exact .no (by rfl) | true => exact (.val (by rfl) (fun W hg => by have c := (R132.out.below (GC146.out.trans (Gr.un hg)) 1 _ rfl).1; go_simp))) ?_
                simp only [Act.put, setIfInBounds_toArray, set_cons_zero, set_cons_succ]
                refine wpK_ta (i := 30) (some 181) (v := (bif c220 then .int .i64 s else undef)) rfl rfl (by kernel_rfl) (fun _ _ _ h => h) (by cases c220 with | false => exact Or.inr ⟨by rfl, rfl⟩ | true => exact (Or.inl ⟨rfl, fun _ => rfl⟩)) ?_
                simp only [Act.put, setIfInBounds_toArray, set_cons_zero, set_cons_succ]
                refine wpK_ta (i := 31) (some 182) (v := (bif c220 then .int .i64 (2 * s) else undef)) rfl rfl (by kernel_rfl) (fun _ _ _ h => h) (by cases c220 with | false => exact Or.inr ⟨by rfl, rfl⟩ | true => exact (Or.inl ⟨by rfl, fun W => by (first | (go_simp; done) | (go_simp; rw [IntWalk.i64_in _ (by omega)]))⟩)) ?_
                simp only [Act.put, setIfInBounds_toArray, set_cons_zero, set_cons_succ]
                refine wpK_ta (i := 32) (some 183) (v := (bif c220 then .int .i64 ry else undef)) rfl rfl (by kernel_rfl) (fun _ _ _ h => h) (by cases c220 with | false => exact Or.inr ⟨by rfl, rfl⟩ | true => exact (Or.inl ⟨by rfl, fun W => by first | (go_simp; rw [Hry.out]; done) | (go_simp; rw [Hry.out]; exact IntWalk.i64_in _ (by omega)) | (go_simp; rw [Int.tmod_eq_emod_of_nonneg (by omega), Hry.out]; done) | (go_simp; rw [Int.tmod_eq_emod_of_nonneg (by omega), ← Hry.out]; exact IntWalk.i64_in _ (by omega))⟩)) ?_
                simp only [Act.put, setIfInBounds_toArray, set_cons_zero, set_cons_succ]
                refine wpK_ta (i := 33) (some 184) (v := (bif c220 then .bool (decide (ry = 0)) else undef)) rfl rfl (by kernel_rfl) (fun _ _ _ h => h) (by cases c220 with | false => exact Or.inr ⟨by rfl, rfl⟩ | true => exact (Or.inl ⟨by rfl, fun W => by go_simp <;> rfl⟩)) ?_
                simp only [Act.put, setIfInBounds_toArray, set_cons_zero, set_cons_succ]
                refine wpK_ta (i := 34) (some 185) (v := .bool (c220 && (decide (ry = 0)))) rfl rfl (by kernel_rfl) (fun _ _ _ h => h) (Or.inl ⟨by rfl, fun W => by cases c220 <;> go_simp⟩) ?_
                simp only [Act.put, setIfInBounds_toArray, set_cons_zero, set_cons_succ]
                obtain ⟨c221, hc221⟩ : ∃ b, b = (c220 && (decide (ry = 0))) := ⟨_, rfl⟩
                rw [← hc221]
                have Hc221 := Lib.hid hc221
                clear hc221
                refine wpK_ta (i := 35) (some 186) (v := .bool c221) rfl rfl (by kernel_rfl) (fun _ _ _ h => h) (Or.inl ⟨rfl, fun _ => rfl⟩) ?_
                simp only [Act.put, setIfInBounds_toArray, set_cons_zero, set_cons_succ]
                refine wpK_ta (i := 36) (some 187) (v := (bif c221 then .pointer (some ⟨W120.heap.size, 2, none⟩) else undef)) rfl rfl (by kernel_rfl) (fun _ _ _ h => h) (by cases c221 with | false => exact Or.inr ⟨by rfl, rfl⟩ | true => exact (Or.inl ⟨by rfl, fun W => by go_simp⟩)) ?_
                simp only [Act.put, setIfInBounds_toArray, set_cons_zero, set_cons_succ]
                refine wpK_tk (i := 37) (some 188) (v := (bif c221 then .int .i64 e.2.2.1 else undef)) rfl rfl (by kernel_rfl) (fun _ _ _ h => h) (by cases c221 with | false => exact .no (by rfl) | true => exact (.val (by rfl) (fun W hg => by have c := (R132.out.below (GC146.out.trans (Gr.un hg)) 2 _ rfl).1; go_simp))) ?_
                simp only [Act.put, setIfInBounds_toArray, set_cons_zero, set_cons_succ]
                refine wpK_ta (i := 38) (some 189) (v := (bif c221 then .int .i64 s else undef)) rfl rfl (by kernel_rfl) (fun _ _ _ h => h) (by cases c221 with | false => exact Or.inr ⟨by rfl, rfl⟩ | true => exact (Or.inl ⟨rfl, fun _ => rfl⟩)) ?_
                simp only [Act.put, setIfInBounds_toArray, set_cons_zero, set_cons_succ]
                refine wpK_ta (i := 39) (some 190) (v := (bif c221 then .int .i64 (2 * s) else undef)) rfl rfl (by kernel_rfl) (fun _ _ _ h => h) (by cases c221 with | false => exact Or.inr ⟨by rfl, rfl⟩ | true => exact (Or.inl ⟨by rfl, fun W => by (first | (go_simp; done) | (go_simp; rw [IntWalk.i64_in _ (by omega)]))⟩)) ?_
                simp only [Act.put, setIfInBounds_toArray, set_cons_zero, set_cons_succ]
                refine wpK_ta (i := 40) (some 191) (v := (bif c221 then .int .i64 rz else undef)) rfl rfl (by kernel_rfl) (fun _ _ _ h => h) (by cases c221 with | false => exact Or.inr ⟨by rfl, rfl⟩ | true => exact (Or.inl ⟨by rfl, fun W => by first | (go_simp; rw [Hrz.out]; done) | (go_simp; rw [Hrz.out]; exact IntWalk.i64_in _ (by omega)) | (go_simp; rw [Int.tmod_eq_emod_of_nonneg (by omega), Hrz.out]; done) | (go_simp; rw [Int.tmod_eq_emod_of_nonneg (by omega), ← Hrz.out]; exact IntWalk.i64_in _ (by omega))⟩)) ?_
                simp only [Act.put, setIfInBounds_toArray, set_cons_zero, set_cons_succ]
                refine wpK_ta (i := 41) (some 192) (v := (bif c221 then .bool (decide (rz = 0)) else undef)) rfl rfl (by kernel_rfl) (fun _ _ _ h => h) (by cases c221 with | false => exact Or.inr ⟨by rfl, rfl⟩ | true => exact (Or.inl ⟨by rfl, fun W => by go_simp <;> rfl⟩)) ?_
                simp only [Act.put, setIfInBounds_toArray, set_cons_zero, set_cons_succ]
                refine wpK_ta (i := 42) (some 193) (v := .bool (c221 && (decide (rz = 0)))) rfl rfl (by kernel_rfl) (fun _ _ _ h => h) (Or.inl ⟨by rfl, fun W => by cases c221 <;> go_simp⟩) ?_
                simp only [Act.put, setIfInBounds_toArray, set_cons_zero, set_cons_succ]
                obtain ⟨c222, hc222⟩ : ∃ b, b = (c221 && (decide (rz = 0))) := ⟨_, rfl⟩
                rw [← hc222]
                have Hc222 := Lib.hid hc222
                clear hc222
                have hc4 : c222 = false := H74.out hat _ (by rw [Hc222.out, Hc221.out, Hc220.out, Hc219.out, Hrx.out, Hry.out, Hrz.out])
                rw [hc4]
                refine wpK_ta (i := 43) (some 194) (v := .bool false) rfl rfl (by kernel_rfl) (fun _ _ _ h => h) (Or.inl ⟨rfl, fun _ => rfl⟩) ?_
                simp only [Act.put, setIfInBounds_toArray, set_cons_zero, set_cons_succ]
                refine wpK_ta (i := 44) (some 195) (v := undef) rfl rfl (by kernel_rfl) (fun _ _ _ h => h) (Or.inr ⟨by rfl, rfl⟩) ?_
                simp only [Act.put, setIfInBounds_toArray, set_cons_zero, set_cons_succ]
                refine wpK_ta (i := 45) (some 196) (v := undef) rfl rfl (by kernel_rfl) (fun _ _ _ h => h) (Or.inr ⟨by rfl, rfl⟩) ?_
                simp only [Act.put, setIfInBounds_toArray, set_cons_zero, set_cons_succ]
                refine wpK_ta (i := 46) (some 197) (v := undef) rfl rfl (by kernel_rfl) (fun _ _ _ h => h) (Or.inr ⟨by rfl, rfl⟩) ?_
                simp only [Act.put, setIfInBounds_toArray, set_cons_zero, set_cons_succ]
                refine wpK_ta (i := 47) (some 198) (v := undef) rfl rfl (by kernel_rfl) (fun _ _ _ h => h) (Or.inr ⟨by rfl, rfl⟩) ?_
                simp only [Act.put, setIfInBounds_toArray, set_cons_zero, set_cons_succ]
                refine wpK_ta (i := 48) (some 199) (v := undef) rfl rfl (by kernel_rfl) (fun _ _ _ h => h) (Or.inr ⟨by rfl, rfl⟩) ?_
                simp only [Act.put, setIfInBounds_toArray, set_cons_zero, set_cons_succ]
                refine wpK_ta (i := 49) (some 200) (v := undef) rfl rfl (by kernel_rfl) (fun _ _ _ h => h) (Or.inr ⟨by rfl, rfl⟩) ?_
                simp only [Act.put, setIfInBounds_toArray, set_cons_zero, set_cons_succ]
                refine wpK_ta (i := 50) (some 201) (v := undef) rfl rfl (by kernel_rfl) (fun _ _ _ h => h) (Or.inr ⟨by rfl, rfl⟩) ?_
                simp only [Act.put, setIfInBounds_toArray, set_cons_zero, set_cons_succ]
                refine wpK_ta (i := 51) (some 202) (v := undef) rfl rfl (by kernel_rfl) (fun _ _ _ h => h) (Or.inr ⟨by rfl, rfl⟩) ?_
                simp only [Act.put, setIfInBounds_toArray, set_cons_zero, set_cons_succ]
                refine wpK_ta (i := 52) (some 203) (v := undef) rfl rfl (by kernel_rfl) (fun _ _ _ h => h) (Or.inr ⟨by rfl, rfl⟩) ?_
                simp only [Act.put, setIfInBounds_toArray, set_cons_zero, set_cons_succ]
                refine wpK_ta (i := 53) (some 204) (v := undef) rfl rfl (by kernel_rfl) (fun _ _ _ h => h) (Or.inr ⟨by rfl, rfl⟩) ?_
                simp only [Act.put, setIfInBounds_toArray, set_cons_zero, set_cons_succ]
                refine wpK_ta (i := 54) (some 205) (v := undef) rfl rfl (by kernel_rfl) (fun _ _ _ h => h) (Or.inr ⟨by rfl, rfl⟩) ?_
                simp only [Act.put, setIfInBounds_toArray, set_cons_zero, set_cons_succ]
                refine wpK_ta (i := 55) (some 206) (v := undef) rfl rfl (by kernel_rfl) (fun _ _ _ h => h) (Or.inr ⟨by rfl, rfl⟩) ?_
                simp only [Act.put, setIfInBounds_toArray, set_cons_zero, set_cons_succ]
                refine wpK_ta (i := 56) (some 207) (v := undef) rfl rfl (by kernel_rfl) (fun _ _ _ h => h) (Or.inr ⟨by rfl, rfl⟩) ?_
                simp only [Act.put, setIfInBounds_toArray, set_cons_zero, set_cons_succ]
                refine wpK_ta (i := 57) (some 208) (v := undef) rfl rfl (by kernel_rfl) (fun _ _ _ h => h) (Or.inr ⟨by rfl, rfl⟩) ?_
                simp only [Act.put, setIfInBounds_toArray, set_cons_zero, set_cons_succ]
                refine wpK_ta (i := 58) (some 209) (v := undef) rfl rfl (by kernel_rfl) (fun _ _ _ h => h) (Or.inr ⟨by rfl, rfl⟩) ?_
                simp only [Act.put, setIfInBounds_toArray, set_cons_zero, set_cons_succ]
                refine wpK_ta (i := 59) (some 210) (v := undef) rfl rfl (by kernel_rfl) (fun _ _ _ h => h) (Or.inr ⟨by rfl, rfl⟩) ?_
                simp only [Act.put, setIfInBounds_toArray, set_cons_zero, set_cons_succ]
                refine wpK_ta (i := 60) (some 211) (v := undef) rfl rfl (by kernel_rfl) (fun _ _ _ h => h) (Or.inr ⟨by rfl, rfl⟩) ?_
                simp only [Act.put, setIfInBounds_toArray, set_cons_zero, set_cons_succ]
                refine wpK_ta (i := 61) (some 212) (v := undef) rfl rfl (by kernel_rfl) (fun _ _ _ h => h) (Or.inr ⟨by rfl, rfl⟩) ?_
                simp only [Act.put, setIfInBounds_toArray, set_cons_zero, set_cons_succ]
                refine wpK_ta (i := 62) (some 213) (v := undef) rfl rfl (by kernel_rfl) (fun _ _ _ h => h) (Or.inr ⟨by rfl, rfl⟩) ?_
                simp only [Act.put, setIfInBounds_toArray, set_cons_zero, set_cons_succ]
                refine wpK_ta (i := 63) (some 214) (v := undef) rfl rfl (by kernel_rfl) (fun _ _ _ h => h) (Or.inr ⟨by rfl, rfl⟩) ?_
                simp only [Act.put, setIfInBounds_toArray, set_cons_zero, set_cons_succ]
                refine wpK_ta (i := 64) (some 215) (v := .bool false) rfl rfl (by kernel_rfl) (fun _ _ _ h => h) (Or.inl ⟨by rfl, fun W => by go_simp⟩) ?_
                simp only [Act.put, setIfInBounds_toArray, set_cons_zero, set_cons_succ]
                refine wpK_done (by kernel_rfl) (fun V223 hv224 => ?_) _
                have GC225 := Lib.hid (GC146.out.trans (Gr.un hv224))
                clear hv224
                by_cases hk0 : 0 < k
                · skip
                  have HCP := Lib.hid (HCPX.out hk0)
                  go_upto_region 18 with fail
                  refine wpK_region (by kernel_rfl) ?_
                  refine wpK_ta (i := 0) (some 216) (v := .int .i64 (k : Int)) rfl rfl (by kernel_rfl) (fun _ _ _ h => h) (Or.inl ⟨rfl, fun _ => rfl⟩) ?_
                  simp only [Act.put, setIfInBounds_toArray, set_cons_zero, set_cons_succ]
                  refine wpK_ta (i := 1) (some 217) (v := .bool true) rfl rfl (by kernel_rfl) (fun _ _ _ h => h) (Or.inl ⟨by rfl, fun W => by have hq : ((k : Int) > 0) := (by omega); first | (go_simp; done) | (go_simp <;> omega)⟩) ?_
                  simp only [Act.put, setIfInBounds_toArray, set_cons_zero, set_cons_succ]
                  refine wpK_ta (i := 2) (some 218) (v := .bool true) rfl rfl (by kernel_rfl) (fun _ _ _ h => h) (Or.inl ⟨rfl, fun _ => rfl⟩) ?_
                  simp only [Act.put, setIfInBounds_toArray, set_cons_zero, set_cons_succ]
                  refine wpK_ta (i := 3) (some 219) (v := .slice (some ⟨g, 0, none⟩) n c1) rfl rfl (by kernel_rfl) (fun _ _ _ h => h) (Or.inl ⟨rfl, fun _ => rfl⟩) ?_
                  simp only [Act.put, setIfInBounds_toArray, set_cons_zero, set_cons_succ]
                  refine wpK_ta (i := 4) (some 220) (v := .int .i64 (k : Int)) rfl rfl (by kernel_rfl) (fun _ _ _ h => h) (Or.inl ⟨rfl, fun _ => rfl⟩) ?_
                  simp only [Act.put, setIfInBounds_toArray, set_cons_zero, set_cons_succ]
                  refine wpK_ta (i := 5) (some 221) (v := .int .i64 ((k : Int) - 1)) rfl rfl (by kernel_rfl) (fun _ _ _ h => h) (Or.inl ⟨by rfl, fun W => by (first | (go_simp; done) | (go_simp; rw [IntWalk.i64_in _ (by omega)]))⟩) ?_
                  simp only [Act.put, setIfInBounds_toArray, set_cons_zero, set_cons_succ]
                  refine wpK_ta (i := 6) (some 222) (v := .pointer (some ⟨g, (k - 1) * 4, none⟩)) rfl rfl (by kernel_rfl) (fun _ _ _ h => h) (Or.inl ⟨by rfl, fun W => by go_simp <;> first | rfl | omega | (simp; omega)⟩) ?_
                  simp only [Act.put, setIfInBounds_toArray, set_cons_zero, set_cons_succ]
                  refine wpK_ta (i := 7) (some 223) (v := .pointer (some ⟨g, (k - 1) * 4, none⟩)) rfl rfl (by kernel_rfl) (fun _ _ _ h => h) (Or.inl ⟨by rfl, fun W => by go_simp⟩) ?_
                  simp only [Act.put, setIfInBounds_toArray, set_cons_zero, set_cons_succ]
                  refine wpK_tk (i := 8) (some 224) (v := .agg #[.int .i64 e0.1, .int .i64 e0.2.1, .int .i64 e0.2.2.1]) rfl rfl (by kernel_rfl) (fun _ _ _ h => h) (.load_mid (by rfl) 23 (.tmp 223) rfl g ((k - 1) * 4) rfl [.int .i64 e0.1, .int .i64 e0.2.1, .int .i64 e0.2.2.1] _ (fun W hg => cube_pt ((own_lies OW133.out).below (GC225.out.trans (Gr.un hg))) (HE0.out hk0)) Try.underlying23 rfl (by kernel_rfl)) ?_
                  simp only [Act.put, setIfInBounds_toArray, set_cons_zero, set_cons_succ]
                  refine wpK_tk (i := 9) (some 225) (v := .agg #[.int .i64 e.1, .int .i64 e.2.1, .int .i64 e.2.2.1]) rfl rfl (by kernel_rfl) (fun _ _ _ h => h) (.load_mid (by rfl) 23 (.tmp 13) rfl (W120.heap.size) 0 rfl [.int .i64 e.1, .int .i64 e.2.1, .int .i64 e.2.2.1] _ (fun W hg => (R132.out.below (GC225.out.trans (Gr.un hg))).range) Try.underlying23 rfl (by kernel_rfl)) ?_
                  simp only [Act.put, setIfInBounds_toArray, set_cons_zero, set_cons_succ]
                  refine wpK_tk (i := 10) (some 226) (v := .int .i64 (-1)) rfl rfl (by kernel_rfl) (fun _ _ _ h => h) (.call (f := 15) (args := #[.agg #[.int .i64 e0.1, .int .i64 e0.2.1, .int .i64 e0.2.2.1], .agg #[.int .i64 e.1, .int .i64 e.2.1, .int .i64 e.2.2.1]]) (by rfl) (fun W => by go_simp) (fun W hg => rename (compare_any e0.1 e0.2.1 e0.2.2.1 e.1 e.2.1 e.2.2.1 W) (by rw [HCP.out]))) ?_
                  simp only [Act.put, setIfInBounds_toArray, set_cons_zero, set_cons_succ]
                  refine wpK_ta (i := 11) (some 227) (v := .bool false) rfl rfl (by kernel_rfl) (fun _ _ _ h => h) (Or.inl ⟨by rfl, fun W => by have hq : ¬ ((-1) ≥ 0) := (by omega); first | (go_simp; done) | (go_simp <;> omega)⟩) ?_
                  simp only [Act.put, setIfInBounds_toArray, set_cons_zero, set_cons_succ]
                  refine wpK_ta (i := 12) (some 228) (v := .bool false) rfl rfl (by kernel_rfl) (fun _ _ _ h => h) (Or.inl ⟨by rfl, fun W => by go_simp⟩) ?_
                  simp only [Act.put, setIfInBounds_toArray, set_cons_zero, set_cons_succ]
                  refine wpK_done (by kernel_rfl) (fun V226 hv227 => ?_) _
                  have GC228 := Lib.hid (GC225.out.trans (Gr.un hv227))
                  clear hv227
                  go_upto_region 9 with fail
                  refine wpG_region ?_
                  refine @wpG_tk _ _ _ _ _ (some 55) (.int .i64 (k : Int)) _ _ rfl (.val (by rfl) (fun _ _ => rfl)) ?_
                  simp only [Act.put, setIfInBounds_toArray, set_cons_zero, set_cons_succ]
                  refine @wpG_tk _ _ _ _ _ (some 56) (.int .i64 ((k : Int) + 1)) _ _ rfl (.val (by rfl) (fun W hg => by (first | (go_simp; done) | (go_simp; rw [IntWalk.i64_in _ (by omega)])))) ?_
                  simp only [Act.put, setIfInBounds_toArray, set_cons_zero, set_cons_succ]
                  refine @wpG_tk _ _ _ _ _ (some 11) (.int .i64 ((k : Int) + 1)) _ _ rfl (.val (by rfl) (fun _ _ => rfl)) ?_
                  simp only [Act.put, setIfInBounds_toArray, set_cons_zero, set_cons_succ]
                  refine wpG_done (fun V229 hv230 => ?_)
                  have GC231 := Lib.hid (GC228.out.trans hv230)
                  clear hv230
                  go_wp2_with fail
                  go_roundw
                  case rel => exact ⟨k + 1, c, by go_num, rfl, by omega, HCT.out.symm, ⟨R130.out.below GC231.out, R131.out.below GC231.out, own_gr OW133.out GC231.out, own_gr OW134.out GC231.out, Gr.to G126.out GC231.out⟩⟩
                  case measure => first | (simp [intOf]; done) | (simp [intOf]; omega)
                · skip
                  go_upto_region 18 with fail
                  refine wpK_region (by kernel_rfl) ?_
                  refine wpK_ta (i := 0) (some 216) (v := .int .i64 (k : Int)) rfl rfl (by kernel_rfl) (fun _ _ _ h => h) (Or.inl ⟨rfl, fun _ => rfl⟩) ?_
                  simp only [Act.put, setIfInBounds_toArray, set_cons_zero, set_cons_succ]
                  refine wpK_ta (i := 1) (some 217) (v := .bool false) rfl rfl (by kernel_rfl) (fun _ _ _ h => h) (Or.inl ⟨by rfl, fun W => by have hq : ¬ ((k : Int) > 0) := (by omega); first | (go_simp; done) | (go_simp <;> omega)⟩) ?_
                  simp only [Act.put, setIfInBounds_toArray, set_cons_zero, set_cons_succ]
                  refine wpK_ta (i := 2) (some 218) (v := .bool false) rfl rfl (by kernel_rfl) (fun _ _ _ h => h) (Or.inl ⟨rfl, fun _ => rfl⟩) ?_
                  simp only [Act.put, setIfInBounds_toArray, set_cons_zero, set_cons_succ]
                  refine wpK_ta (i := 3) (some 219) (v := undef) rfl rfl (by kernel_rfl) (fun _ _ _ h => h) (Or.inr ⟨by rfl, rfl⟩) ?_
                  simp only [Act.put, setIfInBounds_toArray, set_cons_zero, set_cons_succ]
                  refine wpK_ta (i := 4) (some 220) (v := undef) rfl rfl (by kernel_rfl) (fun _ _ _ h => h) (Or.inr ⟨by rfl, rfl⟩) ?_
                  simp only [Act.put, setIfInBounds_toArray, set_cons_zero, set_cons_succ]
                  refine wpK_ta (i := 5) (some 221) (v := undef) rfl rfl (by kernel_rfl) (fun _ _ _ h => h) (Or.inr ⟨by rfl, rfl⟩) ?_
                  simp only [Act.put, setIfInBounds_toArray, set_cons_zero, set_cons_succ]
                  refine wpK_ta (i := 6) (some 222) (v := undef) rfl rfl (by kernel_rfl) (fun _ _ _ h => h) (Or.inr ⟨by rfl, rfl⟩) ?_
                  simp only [Act.put, setIfInBounds_toArray, set_cons_zero, set_cons_succ]
                  refine wpK_ta (i := 7) (some 223) (v := undef) rfl rfl (by kernel_rfl) (fun _ _ _ h => h) (Or.inr ⟨by rfl, rfl⟩) ?_
                  simp only [Act.put, setIfInBounds_toArray, set_cons_zero, set_cons_succ]
                  refine wpK_ta (i := 8) (some 224) (v := undef) rfl rfl (by kernel_rfl) (fun _ _ _ h => h) (Or.inr ⟨by rfl, rfl⟩) ?_
                  simp only [Act.put, setIfInBounds_toArray, set_cons_zero, set_cons_succ]
                  refine wpK_ta (i := 9) (some 225) (v := undef) rfl rfl (by kernel_rfl) (fun _ _ _ h => h) (Or.inr ⟨by rfl, rfl⟩) ?_
                  simp only [Act.put, setIfInBounds_toArray, set_cons_zero, set_cons_succ]
                  refine wpK_ta (i := 10) (some 226) (v := undef) rfl rfl (by kernel_rfl) (fun _ _ _ h => h) (Or.inr ⟨by rfl, rfl⟩) ?_
                  simp only [Act.put, setIfInBounds_toArray, set_cons_zero, set_cons_succ]
                  refine wpK_ta (i := 11) (some 227) (v := undef) rfl rfl (by kernel_rfl) (fun _ _ _ h => h) (Or.inr ⟨by rfl, rfl⟩) ?_
                  simp only [Act.put, setIfInBounds_toArray, set_cons_zero, set_cons_succ]
                  refine wpK_ta (i := 12) (some 228) (v := .bool false) rfl rfl (by kernel_rfl) (fun _ _ _ h => h) (Or.inl ⟨by rfl, fun W => by go_simp⟩) ?_
                  simp only [Act.put, setIfInBounds_toArray, set_cons_zero, set_cons_succ]
                  refine wpK_done (by kernel_rfl) (fun V232 hv233 => ?_) _
                  have GC234 := Lib.hid (GC225.out.trans (Gr.un hv233))
                  clear hv233
                  go_upto_region 9 with fail
                  refine wpG_region ?_
                  refine @wpG_tk _ _ _ _ _ (some 55) (.int .i64 (k : Int)) _ _ rfl (.val (by rfl) (fun _ _ => rfl)) ?_
                  simp only [Act.put, setIfInBounds_toArray, set_cons_zero, set_cons_succ]
                  refine @wpG_tk _ _ _ _ _ (some 56) (.int .i64 ((k : Int) + 1)) _ _ rfl (.val (by rfl) (fun W hg => by (first | (go_simp; done) | (go_simp; rw [IntWalk.i64_in _ (by omega)])))) ?_
                  simp only [Act.put, setIfInBounds_toArray, set_cons_zero, set_cons_succ]
                  refine @wpG_tk _ _ _ _ _ (some 11) (.int .i64 ((k : Int) + 1)) _ _ rfl (.val (by rfl) (fun _ _ => rfl)) ?_
                  simp only [Act.put, setIfInBounds_toArray, set_cons_zero, set_cons_succ]
                  refine wpG_done (fun V235 hv236 => ?_)
                  have GC237 := Lib.hid (GC234.out.trans hv236)
                  clear hv236
                  go_wp2_with fail
                  go_roundw
                  case rel => exact ⟨k + 1, c, by go_num, rfl, by omega, HCT.out.symm, ⟨R130.out.below GC237.out, R131.out.below GC237.out, own_gr OW133.out GC237.out, own_gr OW134.out GC237.out, Gr.to G126.out GC237.out⟩⟩
                  case measure => first | (simp [intOf]; done) | (simp [intOf]; omega)
            · as_aux_lemma =>
                go_upto_region 16 with fail
                simp only [List.append]
                refine wpK_region (by kernel_rfl) ?_
                refine wpK_ta (i := 0) (some 151) (v := .int .i64 (k : Int)) rfl rfl (by kernel_rfl) (fun _ _ _ h => h) (Or.inl ⟨rfl, fun _ => rfl⟩) ?_
                simp only [Act.put, setIfInBounds_toArray, set_cons_zero, set_cons_succ]
                refine wpK_ta (i := 1) (some 152) (v := .int .i64 ((k : Int) + 7)) rfl rfl (by kernel_rfl) (fun _ _ _ h => h) (Or.inl ⟨by rfl, fun W => by (first | (go_simp; done) | (go_simp; rw [IntWalk.i64_in _ (by omega)]))⟩) ?_
                simp only [Act.put, setIfInBounds_toArray, set_cons_zero, set_cons_succ]
                refine wpK_ta (i := 2) (some 153) (v := .slice (some ⟨g, 0, none⟩) n c1) rfl rfl (by kernel_rfl) (fun _ _ _ h => h) (Or.inl ⟨rfl, fun _ => rfl⟩) ?_
                simp only [Act.put, setIfInBounds_toArray, set_cons_zero, set_cons_succ]
                refine wpK_ta (i := 3) (some 154) (v := .int .i64 (n : Int)) rfl rfl (by kernel_rfl) (fun _ _ _ h => h) (Or.inl ⟨by rfl, fun W => by go_simp⟩) ?_
                simp only [Act.put, setIfInBounds_toArray, set_cons_zero, set_cons_succ]
                refine wpK_ta (i := 4) (some 155) (v := .bool true) rfl rfl (by kernel_rfl) (fun _ _ _ h => h) (Or.inl ⟨by rfl, fun W => by have hq : ((k : Int) + 7 < (n : Int)) := (by omega); first | (go_simp; done) | (go_simp <;> omega)⟩) ?_
                simp only [Act.put, setIfInBounds_toArray, set_cons_zero, set_cons_succ]
                refine wpK_ta (i := 5) (some 156) (v := .bool true) rfl rfl (by kernel_rfl) (fun _ _ _ h => h) (Or.inl ⟨rfl, fun _ => rfl⟩) ?_
                simp only [Act.put, setIfInBounds_toArray, set_cons_zero, set_cons_succ]
                refine wpK_ta (i := 6) (some 157) (v := .slice (some ⟨g, 0, none⟩) n c1) rfl rfl (by kernel_rfl) (fun _ _ _ h => h) (Or.inl ⟨rfl, fun _ => rfl⟩) ?_
                simp only [Act.put, setIfInBounds_toArray, set_cons_zero, set_cons_succ]
                refine wpK_ta (i := 7) (some 158) (v := .int .i64 (k : Int)) rfl rfl (by kernel_rfl) (fun _ _ _ h => h) (Or.inl ⟨rfl, fun _ => rfl⟩) ?_
                simp only [Act.put, setIfInBounds_toArray, set_cons_zero, set_cons_succ]
                refine wpK_ta (i := 8) (some 159) (v := .int .i64 ((k : Int) + 7)) rfl rfl (by kernel_rfl) (fun _ _ _ h => h) (Or.inl ⟨by rfl, fun W => by (first | (go_simp; done) | (go_simp; rw [IntWalk.i64_in _ (by omega)]))⟩) ?_
                simp only [Act.put, setIfInBounds_toArray, set_cons_zero, set_cons_succ]
                refine wpK_ta (i := 9) (some 160) (v := .pointer (some ⟨g, (k + 7) * 4, none⟩)) rfl rfl (by kernel_rfl) (fun _ _ _ h => h) (Or.inl ⟨by rfl, fun W => by go_simp; rw [if_pos (by constructor <;> omega), show ((k : Int) + 7).toNat = k + 7 by omega]⟩) ?_
                simp only [Act.put, setIfInBounds_toArray, set_cons_zero, set_cons_succ]
                refine wpK_ta (i := 10) (some 161) (v := .pointer (some ⟨g, (k + 7) * 4 + 3, none⟩)) rfl rfl (by kernel_rfl) (fun _ _ _ h => h) (Or.inl ⟨by rfl, fun W => by go_simp⟩) ?_
                simp only [Act.put, setIfInBounds_toArray, set_cons_zero, set_cons_succ]
                refine wpK_tk (i := 11) (some 162) (v := .int .i64 (l7 : Int)) rfl rfl (by kernel_rfl) (fun _ _ _ h => h) (.val (by rfl) (fun W hg => by have c := (cube_lv ((own_lies OW133.out).below (GC146.out.trans (Gr.un hg))) HE71.out HL7.out); go_simp)) ?_
                simp only [Act.put, setIfInBounds_toArray, set_cons_zero, set_cons_succ]
                refine wpK_ta (i := 12) (some 163) (v := .slice (some ⟨g, 0, none⟩) n c1) rfl rfl (by kernel_rfl) (fun _ _ _ h => h) (Or.inl ⟨rfl, fun _ => rfl⟩) ?_
                simp only [Act.put, setIfInBounds_toArray, set_cons_zero, set_cons_succ]
                refine wpK_ta (i := 13) (some 164) (v := .int .i64 (k : Int)) rfl rfl (by kernel_rfl) (fun _ _ _ h => h) (Or.inl ⟨rfl, fun _ => rfl⟩) ?_
                simp only [Act.put, setIfInBounds_toArray, set_cons_zero, set_cons_succ]
                refine wpK_ta (i := 14) (some 165) (v := .pointer (some ⟨g, k * 4, none⟩)) rfl rfl (by kernel_rfl) (fun _ _ _ h => h) (Or.inl ⟨by rfl, fun W => by go_simp <;> first | rfl | omega | (simp; omega)⟩) ?_
                simp only [Act.put, setIfInBounds_toArray, set_cons_zero, set_cons_succ]
                refine wpK_ta (i := 15) (some 166) (v := .pointer (some ⟨g, k * 4 + 3, none⟩)) rfl rfl (by kernel_rfl) (fun _ _ _ h => h) (Or.inl ⟨by rfl, fun W => by go_simp⟩) ?_
                simp only [Act.put, setIfInBounds_toArray, set_cons_zero, set_cons_succ]
                refine wpK_tk (i := 16) (some 167) (v := .int .i64 (lv : Int)) rfl rfl (by kernel_rfl) (fun _ _ _ h => h) (.val (by rfl) (fun W hg => by have c := (cube_lv ((own_lies OW133.out).below (GC146.out.trans (Gr.un hg))) HE.out HL.out); go_simp)) ?_
                simp only [Act.put, setIfInBounds_toArray, set_cons_zero, set_cons_succ]
                refine wpK_ta (i := 17) (some 168) (v := .bool (decide ((l7 : Int) = (lv : Int)))) rfl rfl (by kernel_rfl) (fun _ _ _ h => h) (Or.inl ⟨by rfl, fun W => by go_simp <;> rfl⟩) ?_
                simp only [Act.put, setIfInBounds_toArray, set_cons_zero, set_cons_succ]
                obtain ⟨c238, hc238⟩ : ∃ b, b = (decide ((l7 : Int) = (lv : Int))) := ⟨_, rfl⟩
                rw [← hc238]
                have Hc238 := Lib.hid hc238
                clear hc238
                refine wpK_ta (i := 18) (some 169) (v := .bool c238) rfl rfl (by kernel_rfl) (fun _ _ _ h => h) (Or.inl ⟨by rfl, fun W => by go_simp⟩) ?_
                simp only [Act.put, setIfInBounds_toArray, set_cons_zero, set_cons_succ]
                refine wpK_ta (i := 19) (some 170) (v := .bool c238) rfl rfl (by kernel_rfl) (fun _ _ _ h => h) (Or.inl ⟨rfl, fun _ => rfl⟩) ?_
                simp only [Act.put, setIfInBounds_toArray, set_cons_zero, set_cons_succ]
                refine wpK_ta (i := 20) (some 171) (v := (bif c238 then .pointer (some ⟨W120.heap.size, 0, none⟩) else undef)) rfl rfl (by kernel_rfl) (fun _ _ _ h => h) (by cases c238 with | false => exact Or.inr ⟨by rfl, rfl⟩ | true => exact (Or.inl ⟨by rfl, fun W => by go_simp⟩)) ?_
                simp only [Act.put, setIfInBounds_toArray, set_cons_zero, set_cons_succ]
                refine wpK_tk (i := 21) (some 172) (v := (bif c238 then .int .i64 e.1 else undef)) rfl rfl (by kernel_rfl) (fun _ _ _ h => h) (by cases c238 with | false => exact .no (by rfl) | true => exact (.val (by rfl) (fun W hg => by have c := (R132.out.below (GC146.out.trans (Gr.un hg)) 0 _ rfl).1; go_simp))) ?_
                simp only [Act.put, setIfInBounds_toArray, set_cons_zero, set_cons_succ]
                refine wpK_ta (i := 22) (some 173) (v := (bif c238 then .int .i64 s else undef)) rfl rfl (by kernel_rfl) (fun _ _ _ h => h) (by cases c238 with | false => exact Or.inr ⟨by rfl, rfl⟩ | true => exact (Or.inl ⟨rfl, fun _ => rfl⟩)) ?_
                simp only [Act.put, setIfInBounds_toArray, set_cons_zero, set_cons_succ]
                refine wpK_ta (i := 23) (some 174) (v := (bif c238 then .int .i64 (2 * s) else undef)) rfl rfl (by kernel_rfl) (fun _ _ _ h => h) (by cases c238 with | false => exact Or.inr ⟨by rfl, rfl⟩ | true => exact (Or.inl ⟨by rfl, fun W => by (first | (go_simp; done) | (go_simp; rw [IntWalk.i64_in _ (by omega)]))⟩)) ?_
                simp only [Act.put, setIfInBounds_toArray, set_cons_zero, set_cons_succ]
                refine wpK_ta (i := 24) (some 175) (v := (bif c238 then .int .i64 rx else undef)) rfl rfl (by kernel_rfl) (fun _ _ _ h => h) (by cases c238 with | false => exact Or.inr ⟨by rfl, rfl⟩ | true => exact (Or.inl ⟨by rfl, fun W => by first | (go_simp; rw [Hrx.out]; done) | (go_simp; rw [Hrx.out]; exact IntWalk.i64_in _ (by omega)) | (go_simp; rw [Int.tmod_eq_emod_of_nonneg (by omega), Hrx.out]; done) | (go_simp; rw [Int.tmod_eq_emod_of_nonneg (by omega), ← Hrx.out]; exact IntWalk.i64_in _ (by omega))⟩)) ?_
                simp only [Act.put, setIfInBounds_toArray, set_cons_zero, set_cons_succ]
                refine wpK_ta (i := 25) (some 176) (v := (bif c238 then .bool (decide (rx = 0)) else undef)) rfl rfl (by kernel_rfl) (fun _ _ _ h => h) (by cases c238 with | false => exact Or.inr ⟨by rfl, rfl⟩ | true => exact (Or.inl ⟨by rfl, fun W => by go_simp <;> rfl⟩)) ?_
                simp only [Act.put, setIfInBounds_toArray, set_cons_zero, set_cons_succ]
                refine wpK_ta (i := 26) (some 177) (v := .bool (c238 && (decide (rx = 0)))) rfl rfl (by kernel_rfl) (fun _ _ _ h => h) (Or.inl ⟨by rfl, fun W => by cases c238 <;> go_simp⟩) ?_
                simp only [Act.put, setIfInBounds_toArray, set_cons_zero, set_cons_succ]
                obtain ⟨c239, hc239⟩ : ∃ b, b = (c238 && (decide (rx = 0))) := ⟨_, rfl⟩
                rw [← hc239]
                have Hc239 := Lib.hid hc239
                clear hc239
                refine wpK_ta (i := 27) (some 178) (v := .bool c239) rfl rfl (by kernel_rfl) (fun _ _ _ h => h) (Or.inl ⟨rfl, fun _ => rfl⟩) ?_
                simp only [Act.put, setIfInBounds_toArray, set_cons_zero, set_cons_succ]
                refine wpK_ta (i := 28) (some 179) (v := (bif c239 then .pointer (some ⟨W120.heap.size, 1, none⟩) else undef)) rfl rfl (by kernel_rfl) (fun _ _ _ h => h) (by cases c239 with | false => exact Or.inr ⟨by rfl, rfl⟩ | true => exact (Or.inl ⟨by rfl, fun W => by go_simp⟩)) ?_
                simp only [Act.put, setIfInBounds_toArray, set_cons_zero, set_cons_succ]
                refine wpK_tk (i := 29) (some 180) (v := (bif c239 then .int .i64 e.2.1 else undef)) rfl rfl (by kernel_rfl) (fun _ _ _ h => h) (by cases c239 with | false => exact .no (by rfl) | true => exact (.val (by rfl) (fun W hg => by have c := (R132.out.below (GC146.out.trans (Gr.un hg)) 1 _ rfl).1; go_simp))) ?_
                simp only [Act.put, setIfInBounds_toArray, set_cons_zero, set_cons_succ]
                refine wpK_ta (i := 30) (some 181) (v := (bif c239 then .int .i64 s else undef)) rfl rfl (by kernel_rfl) (fun _ _ _ h => h) (by cases c239 with | false => exact Or.inr ⟨by rfl, rfl⟩ | true => exact (Or.inl ⟨rfl, fun _ => rfl⟩)) ?_
                simp only [Act.put, setIfInBounds_toArray, set_cons_zero, set_cons_succ]
                refine wpK_ta (i := 31) (some 182) (v := (bif c239 then .int .i64 (2 * s) else undef)) rfl rfl (by kernel_rfl) (fun _ _ _ h => h) (by cases c239 with | false => exact Or.inr ⟨by rfl, rfl⟩ | true => exact (Or.inl ⟨by rfl, fun W => by (first | (go_simp; done) | (go_simp; rw [IntWalk.i64_in _ (by omega)]))⟩)) ?_
                simp only [Act.put, setIfInBounds_toArray, set_cons_zero, set_cons_succ]
                refine wpK_ta (i := 32) (some 183) (v := (bif c239 then .int .i64 ry else undef)) rfl rfl (by kernel_rfl) (fun _ _ _ h => h) (by cases c239 with | false => exact Or.inr ⟨by rfl, rfl⟩ | true => exact (Or.inl ⟨by rfl, fun W => by first | (go_simp; rw [Hry.out]; done) | (go_simp; rw [Hry.out]; exact IntWalk.i64_in _ (by omega)) | (go_simp; rw [Int.tmod_eq_emod_of_nonneg (by omega), Hry.out]; done) | (go_simp; rw [Int.tmod_eq_emod_of_nonneg (by omega), ← Hry.out]; exact IntWalk.i64_in _ (by omega))⟩)) ?_
                simp only [Act.put, setIfInBounds_toArray, set_cons_zero, set_cons_succ]
                refine wpK_ta (i := 33) (some 184) (v := (bif c239 then .bool (decide (ry = 0)) else undef)) rfl rfl (by kernel_rfl) (fun _ _ _ h => h) (by cases c239 with | false => exact Or.inr ⟨by rfl, rfl⟩ | true => exact (Or.inl ⟨by rfl, fun W => by go_simp <;> rfl⟩)) ?_
                simp only [Act.put, setIfInBounds_toArray, set_cons_zero, set_cons_succ]
                refine wpK_ta (i := 34) (some 185) (v := .bool (c239 && (decide (ry = 0)))) rfl rfl (by kernel_rfl) (fun _ _ _ h => h) (Or.inl ⟨by rfl, fun W => by cases c239 <;> go_simp⟩) ?_
                simp only [Act.put, setIfInBounds_toArray, set_cons_zero, set_cons_succ]
                obtain ⟨c240, hc240⟩ : ∃ b, b = (c239 && (decide (ry = 0))) := ⟨_, rfl⟩
                rw [← hc240]
                have Hc240 := Lib.hid hc240
                clear hc240
                refine wpK_ta (i := 35) (some 186) (v := .bool c240) rfl rfl (by kernel_rfl) (fun _ _ _ h => h) (Or.inl ⟨rfl, fun _ => rfl⟩) ?_
                simp only [Act.put, setIfInBounds_toArray, set_cons_zero, set_cons_succ]
                refine wpK_ta (i := 36) (some 187) (v := (bif c240 then .pointer (some ⟨W120.heap.size, 2, none⟩) else undef)) rfl rfl (by kernel_rfl) (fun _ _ _ h => h) (by cases c240 with | false => exact Or.inr ⟨by rfl, rfl⟩ | true => exact (Or.inl ⟨by rfl, fun W => by go_simp⟩)) ?_
                simp only [Act.put, setIfInBounds_toArray, set_cons_zero, set_cons_succ]
                refine wpK_tk (i := 37) (some 188) (v := (bif c240 then .int .i64 e.2.2.1 else undef)) rfl rfl (by kernel_rfl) (fun _ _ _ h => h) (by cases c240 with | false => exact .no (by rfl) | true => exact (.val (by rfl) (fun W hg => by have c := (R132.out.below (GC146.out.trans (Gr.un hg)) 2 _ rfl).1; go_simp))) ?_
                simp only [Act.put, setIfInBounds_toArray, set_cons_zero, set_cons_succ]
                refine wpK_ta (i := 38) (some 189) (v := (bif c240 then .int .i64 s else undef)) rfl rfl (by kernel_rfl) (fun _ _ _ h => h) (by cases c240 with | false => exact Or.inr ⟨by rfl, rfl⟩ | true => exact (Or.inl ⟨rfl, fun _ => rfl⟩)) ?_
                simp only [Act.put, setIfInBounds_toArray, set_cons_zero, set_cons_succ]
                refine wpK_ta (i := 39) (some 190) (v := (bif c240 then .int .i64 (2 * s) else undef)) rfl rfl (by kernel_rfl) (fun _ _ _ h => h) (by cases c240 with | false => exact Or.inr ⟨by rfl, rfl⟩ | true => exact (Or.inl ⟨by rfl, fun W => by (first | (go_simp; done) | (go_simp; rw [IntWalk.i64_in _ (by omega)]))⟩)) ?_
                simp only [Act.put, setIfInBounds_toArray, set_cons_zero, set_cons_succ]
                refine wpK_ta (i := 40) (some 191) (v := (bif c240 then .int .i64 rz else undef)) rfl rfl (by kernel_rfl) (fun _ _ _ h => h) (by cases c240 with | false => exact Or.inr ⟨by rfl, rfl⟩ | true => exact (Or.inl ⟨by rfl, fun W => by first | (go_simp; rw [Hrz.out]; done) | (go_simp; rw [Hrz.out]; exact IntWalk.i64_in _ (by omega)) | (go_simp; rw [Int.tmod_eq_emod_of_nonneg (by omega), Hrz.out]; done) | (go_simp; rw [Int.tmod_eq_emod_of_nonneg (by omega), ← Hrz.out]; exact IntWalk.i64_in _ (by omega))⟩)) ?_
                simp only [Act.put, setIfInBounds_toArray, set_cons_zero, set_cons_succ]
                refine wpK_ta (i := 41) (some 192) (v := (bif c240 then .bool (decide (rz = 0)) else undef)) rfl rfl (by kernel_rfl) (fun _ _ _ h => h) (by cases c240 with | false => exact Or.inr ⟨by rfl, rfl⟩ | true => exact (Or.inl ⟨by rfl, fun W => by go_simp <;> rfl⟩)) ?_
                simp only [Act.put, setIfInBounds_toArray, set_cons_zero, set_cons_succ]
                refine wpK_ta (i := 42) (some 193) (v := .bool (c240 && (decide (rz = 0)))) rfl rfl (by kernel_rfl) (fun _ _ _ h => h) (Or.inl ⟨by rfl, fun W => by cases c240 <;> go_simp⟩) ?_
                simp only [Act.put, setIfInBounds_toArray, set_cons_zero, set_cons_succ]
                obtain ⟨c241, hc241⟩ : ∃ b, b = (c240 && (decide (rz = 0))) := ⟨_, rfl⟩
                rw [← hc241]
                have Hc241 := Lib.hid hc241
                clear hc241
                refine wpK_ta (i := 43) (some 194) (v := .bool c241) rfl rfl (by kernel_rfl) (fun _ _ _ h => h) (Or.inl ⟨rfl, fun _ => rfl⟩) ?_
                simp only [Act.put, setIfInBounds_toArray, set_cons_zero, set_cons_succ]
                refine wpK_ta (i := 44) (some 195) (v := (bif c241 then .slice (some ⟨g, 0, none⟩) n c1 else undef)) rfl rfl (by kernel_rfl) (fun _ _ _ h => h) (by cases c241 with | false => exact Or.inr ⟨by rfl, rfl⟩ | true => exact (Or.inl ⟨rfl, fun _ => rfl⟩)) ?_
                simp only [Act.put, setIfInBounds_toArray, set_cons_zero, set_cons_succ]
                refine wpK_ta (i := 45) (some 196) (v := (bif c241 then .int .i64 (k : Int) else undef)) rfl rfl (by kernel_rfl) (fun _ _ _ h => h) (by cases c241 with | false => exact Or.inr ⟨by rfl, rfl⟩ | true => exact (Or.inl ⟨rfl, fun _ => rfl⟩)) ?_
                simp only [Act.put, setIfInBounds_toArray, set_cons_zero, set_cons_succ]
                refine wpK_ta (i := 46) (some 197) (v := (bif c241 then .int .i64 ((k : Int) + 7) else undef)) rfl rfl (by kernel_rfl) (fun _ _ _ h => h) (by cases c241 with | false => exact Or.inr ⟨by rfl, rfl⟩ | true => exact (Or.inl ⟨by rfl, fun W => by (first | (go_simp; done) | (go_simp; rw [IntWalk.i64_in _ (by omega)]))⟩)) ?_
                simp only [Act.put, setIfInBounds_toArray, set_cons_zero, set_cons_succ]
                refine wpK_ta (i := 47) (some 198) (v := (bif c241 then .pointer (some ⟨g, (k + 7) * 4, none⟩) else undef)) rfl rfl (by kernel_rfl) (fun _ _ _ h => h) (by cases c241 with | false => exact Or.inr ⟨by rfl, rfl⟩ | true => exact (Or.inl ⟨by rfl, fun W => by go_simp; rw [if_pos (by constructor <;> omega), show ((k : Int) + 7).toNat = k + 7 by omega]⟩)) ?_
                simp only [Act.put, setIfInBounds_toArray, set_cons_zero, set_cons_succ]
                refine wpK_ta (i := 48) (some 199) (v := (bif c241 then .pointer (some ⟨g, (k + 7) * 4, none⟩) else undef)) rfl rfl (by kernel_rfl) (fun _ _ _ h => h) (by cases c241 with | false => exact Or.inr ⟨by rfl, rfl⟩ | true => exact (Or.inl ⟨by rfl, fun W => by go_simp⟩)) ?_
                simp only [Act.put, setIfInBounds_toArray, set_cons_zero, set_cons_succ]
                refine wpK_tk (i := 49) (some 200) (v := (bif c241 then .agg #[.int .i64 e7.1, .int .i64 e7.2.1, .int .i64 e7.2.2.1] else undef)) rfl rfl (by kernel_rfl) (fun _ _ _ h => h) (by cases c241 with | false => exact .no (by rfl) | true => exact (.load_mid (by rfl) 23 (.tmp 199) rfl g ((k + 7) * 4) rfl [.int .i64 e7.1, .int .i64 e7.2.1, .int .i64 e7.2.2.1] _ (fun W hg => cube_pt ((own_lies OW133.out).below (GC146.out.trans (Gr.un hg))) HE71.out) Try.underlying23 rfl (by kernel_rfl))) ?_
                simp only [Act.put, setIfInBounds_toArray, set_cons_zero, set_cons_succ]
                refine wpK_ta (i := 50) (some 201) (v := (bif c241 then .pointer (some ⟨W120.heap.size, 0, none⟩) else undef)) rfl rfl (by kernel_rfl) (fun _ _ _ h => h) (by cases c241 with | false => exact Or.inr ⟨by rfl, rfl⟩ | true => exact (Or.inl ⟨by rfl, fun W => by go_simp⟩)) ?_
                simp only [Act.put, setIfInBounds_toArray, set_cons_zero, set_cons_succ]
                refine wpK_tk (i := 51) (some 202) (v := (bif c241 then .int .i64 e.1 else undef)) rfl rfl (by kernel_rfl) (fun _ _ _ h => h) (by cases c241 with | false => exact .no (by rfl) | true => exact (.val (by rfl) (fun W hg => by have c := (R132.out.below (GC146.out.trans (Gr.un hg)) 0 _ rfl).1; go_simp))) ?_
                simp only [Act.put, setIfInBounds_toArray, set_cons_zero, set_cons_succ]
                refine wpK_ta (i := 52) (some 203) (v := (bif c241 then .int .i64 s else undef)) rfl rfl (by kernel_rfl) (fun _ _ _ h => h) (by cases c241 with | false => exact Or.inr ⟨by rfl, rfl⟩ | true => exact (Or.inl ⟨rfl, fun _ => rfl⟩)) ?_
                simp only [Act.put, setIfInBounds_toArray, set_cons_zero, set_cons_succ]
                refine wpK_ta (i := 53) (some 204) (v := (bif c241 then .int .i64 (e.1 + s) else undef)) rfl rfl (by kernel_rfl) (fun _ _ _ h => h) (by cases c241 with | false => exact Or.inr ⟨by rfl, rfl⟩ | true => exact (Or.inl ⟨by rfl, fun W => by (first | (go_simp; done) | (go_simp; rw [IntWalk.i64_in _ (by omega)]))⟩)) ?_
                simp only [Act.put, setIfInBounds_toArray, set_cons_zero, set_cons_succ]
                refine wpK_ta (i := 54) (some 205) (v := (bif c241 then .pointer (some ⟨W120.heap.size, 1, none⟩) else undef)) rfl rfl (by kernel_rfl) (fun _ _ _ h => h) (by cases c241 with | false => exact Or.inr ⟨by rfl, rfl⟩ | true => exact (Or.inl ⟨by rfl, fun W => by go_simp⟩)) ?_
                simp only [Act.put, setIfInBounds_toArray, set_cons_zero, set_cons_succ]
                refine wpK_tk (i := 55) (some 206) (v := (bif c241 then .int .i64 e.2.1 else undef)) rfl rfl (by kernel_rfl) (fun _ _ _ h => h) (by cases c241 with | false => exact .no (by rfl) | true => exact (.val (by rfl) (fun W hg => by have c := (R132.out.below (GC146.out.trans (Gr.un hg)) 1 _ rfl).1; go_simp))) ?_
                simp only [Act.put, setIfInBounds_toArray, set_cons_zero, set_cons_succ]
                refine wpK_ta (i := 56) (some 207) (v := (bif c241 then .int .i64 s else undef)) rfl rfl (by kernel_rfl) (fun _ _ _ h => h) (by cases c241 with | false => exact Or.inr ⟨by rfl, rfl⟩ | true => exact (Or.inl ⟨rfl, fun _ => rfl⟩)) ?_
                simp only [Act.put, setIfInBounds_toArray, set_cons_zero, set_cons_succ]
                refine wpK_ta (i := 57) (some 208) (v := (bif c241 then .int .i64 (e.2.1 + s) else undef)) rfl rfl (by kernel_rfl) (fun _ _ _ h => h) (by cases c241 with | false => exact Or.inr ⟨by rfl, rfl⟩ | true => exact (Or.inl ⟨by rfl, fun W => by (first | (go_simp; done) | (go_simp; rw [IntWalk.i64_in _ (by omega)]))⟩)) ?_
                simp only [Act.put, setIfInBounds_toArray, set_cons_zero, set_cons_succ]
                refine wpK_ta (i := 58) (some 209) (v := (bif c241 then .pointer (some ⟨W120.heap.size, 2, none⟩) else undef)) rfl rfl (by kernel_rfl) (fun _ _ _ h => h) (by cases c241 with | false => exact Or.inr ⟨by rfl, rfl⟩ | true => exact (Or.inl ⟨by rfl, fun W => by go_simp⟩)) ?_
                simp only [Act.put, setIfInBounds_toArray, set_cons_zero, set_cons_succ]
                refine wpK_tk (i := 59) (some 210) (v := (bif c241 then .int .i64 e.2.2.1 else undef)) rfl rfl (by kernel_rfl) (fun _ _ _ h => h) (by cases c241 with | false => exact .no (by rfl) | true => exact (.val (by rfl) (fun W hg => by have c := (R132.out.below (GC146.out.trans (Gr.un hg)) 2 _ rfl).1; go_simp))) ?_
                simp only [Act.put, setIfInBounds_toArray, set_cons_zero, set_cons_succ]
                refine wpK_ta (i := 60) (some 211) (v := (bif c241 then .int .i64 s else undef)) rfl rfl (by kernel_rfl) (fun _ _ _ h => h) (by cases c241 with | false => exact Or.inr ⟨by rfl, rfl⟩ | true => exact (Or.inl ⟨rfl, fun _ => rfl⟩)) ?_
                simp only [Act.put, setIfInBounds_toArray, set_cons_zero, set_cons_succ]
                refine wpK_ta (i := 61) (some 212) (v := (bif c241 then .int .i64 (e.2.2.1 + s) else undef)) rfl rfl (by kernel_rfl) (fun _ _ _ h => h) (by cases c241 with | false => exact Or.inr ⟨by rfl, rfl⟩ | true => exact (Or.inl ⟨by rfl, fun W => by (first | (go_simp; done) | (go_simp; rw [IntWalk.i64_in _ (by omega)]))⟩)) ?_
                simp only [Act.put, setIfInBounds_toArray, set_cons_zero, set_cons_succ]
                refine wpK_tk (i := 62) (some 213) (v := (bif c241 then .agg #[.int .i64 (e.1 + s), .int .i64 (e.2.1 + s), .int .i64 (e.2.2.1 + s)] else undef)) rfl rfl (by kernel_rfl) (fun _ _ _ h => h) (by cases c241 with | false => exact .no (by rfl) | true => exact (.call (f := 32) (args := #[.int .i64 (e.1 + s), .int .i64 (e.2.1 + s), .int .i64 (e.2.2.1 + s)]) (by rfl) (fun W => by go_simp) (fun W hg => at_any (e.1 + s) (e.2.1 + s) (e.2.2.1 + s) W))) ?_
                simp only [Act.put, setIfInBounds_toArray, set_cons_zero, set_cons_succ]
                refine wpK_ta (i := 63) (some 214) (v := (bif c241 then .bool false else undef)) rfl rfl (by kernel_rfl) (fun _ _ _ h => h) (by cases c241 with | false => exact Or.inr ⟨by rfl, rfl⟩ | true => exact (Or.inl ⟨by rfl, fun W => by (go_simp <;> first | omega | ((repeat' split) <;> first | rfl | (exfalso; omega)))⟩)) ?_
                simp only [Act.put, setIfInBounds_toArray, set_cons_zero, set_cons_succ]
                refine wpK_ta (i := 64) (some 215) (v := .bool (c241 && false)) rfl rfl (by kernel_rfl) (fun _ _ _ h => h) (Or.inl ⟨by rfl, fun W => by cases c241 <;> go_simp⟩) ?_
                simp only [Act.put, setIfInBounds_toArray, set_cons_zero, set_cons_succ]
                obtain ⟨c242, hc242⟩ : ∃ b, b = (c241 && false) := ⟨_, rfl⟩
                rw [← hc242]
                have Hc242 := Lib.hid hc242
                clear hc242
                refine wpK_done (by kernel_rfl) (fun V243 hv244 => ?_) _
                have GC245 := Lib.hid (GC146.out.trans (Gr.un hv244))
                clear hv244
                rw [show c242 = false by rw [Hc242.out, Bool.and_false]]
                by_cases hk0 : 0 < k
                · skip
                  have HCP := Lib.hid (HCPX.out hk0)
                  go_upto_region 18 with fail
                  refine wpK_region (by kernel_rfl) ?_
                  refine wpK_ta (i := 0) (some 216) (v := .int .i64 (k : Int)) rfl rfl (by kernel_rfl) (fun _ _ _ h => h) (Or.inl ⟨rfl, fun _ => rfl⟩) ?_
                  simp only [Act.put, setIfInBounds_toArray, set_cons_zero, set_cons_succ]
                  refine wpK_ta (i := 1) (some 217) (v := .bool true) rfl rfl (by kernel_rfl) (fun _ _ _ h => h) (Or.inl ⟨by rfl, fun W => by have hq : ((k : Int) > 0) := (by omega); first | (go_simp; done) | (go_simp <;> omega)⟩) ?_
                  simp only [Act.put, setIfInBounds_toArray, set_cons_zero, set_cons_succ]
                  refine wpK_ta (i := 2) (some 218) (v := .bool true) rfl rfl (by kernel_rfl) (fun _ _ _ h => h) (Or.inl ⟨rfl, fun _ => rfl⟩) ?_
                  simp only [Act.put, setIfInBounds_toArray, set_cons_zero, set_cons_succ]
                  refine wpK_ta (i := 3) (some 219) (v := .slice (some ⟨g, 0, none⟩) n c1) rfl rfl (by kernel_rfl) (fun _ _ _ h => h) (Or.inl ⟨rfl, fun _ => rfl⟩) ?_
                  simp only [Act.put, setIfInBounds_toArray, set_cons_zero, set_cons_succ]
                  refine wpK_ta (i := 4) (some 220) (v := .int .i64 (k : Int)) rfl rfl (by kernel_rfl) (fun _ _ _ h => h) (Or.inl ⟨rfl, fun _ => rfl⟩) ?_
                  simp only [Act.put, setIfInBounds_toArray, set_cons_zero, set_cons_succ]
                  refine wpK_ta (i := 5) (some 221) (v := .int .i64 ((k : Int) - 1)) rfl rfl (by kernel_rfl) (fun _ _ _ h => h) (Or.inl ⟨by rfl, fun W => by (first | (go_simp; done) | (go_simp; rw [IntWalk.i64_in _ (by omega)]))⟩) ?_
                  simp only [Act.put, setIfInBounds_toArray, set_cons_zero, set_cons_succ]
                  refine wpK_ta (i := 6) (some 222) (v := .pointer (some ⟨g, (k - 1) * 4, none⟩)) rfl rfl (by kernel_rfl) (fun _ _ _ h => h) (Or.inl ⟨by rfl, fun W => by go_simp <;> first | rfl | omega | (simp; omega)⟩) ?_
                  simp only [Act.put, setIfInBounds_toArray, set_cons_zero, set_cons_succ]
                  refine wpK_ta (i := 7) (some 223) (v := .pointer (some ⟨g, (k - 1) * 4, none⟩)) rfl rfl (by kernel_rfl) (fun _ _ _ h => h) (Or.inl ⟨by rfl, fun W => by go_simp⟩) ?_
                  simp only [Act.put, setIfInBounds_toArray, set_cons_zero, set_cons_succ]
                  refine wpK_tk (i := 8) (some 224) (v := .agg #[.int .i64 e0.1, .int .i64 e0.2.1, .int .i64 e0.2.2.1]) rfl rfl (by kernel_rfl) (fun _ _ _ h => h) (.load_mid (by rfl) 23 (.tmp 223) rfl g ((k - 1) * 4) rfl [.int .i64 e0.1, .int .i64 e0.2.1, .int .i64 e0.2.2.1] _ (fun W hg => cube_pt ((own_lies OW133.out).below (GC245.out.trans (Gr.un hg))) (HE0.out hk0)) Try.underlying23 rfl (by kernel_rfl)) ?_
                  simp only [Act.put, setIfInBounds_toArray, set_cons_zero, set_cons_succ]
                  refine wpK_tk (i := 9) (some 225) (v := .agg #[.int .i64 e.1, .int .i64 e.2.1, .int .i64 e.2.2.1]) rfl rfl (by kernel_rfl) (fun _ _ _ h => h) (.load_mid (by rfl) 23 (.tmp 13) rfl (W120.heap.size) 0 rfl [.int .i64 e.1, .int .i64 e.2.1, .int .i64 e.2.2.1] _ (fun W hg => (R132.out.below (GC245.out.trans (Gr.un hg))).range) Try.underlying23 rfl (by kernel_rfl)) ?_
                  simp only [Act.put, setIfInBounds_toArray, set_cons_zero, set_cons_succ]
                  refine wpK_tk (i := 10) (some 226) (v := .int .i64 (-1)) rfl rfl (by kernel_rfl) (fun _ _ _ h => h) (.call (f := 15) (args := #[.agg #[.int .i64 e0.1, .int .i64 e0.2.1, .int .i64 e0.2.2.1], .agg #[.int .i64 e.1, .int .i64 e.2.1, .int .i64 e.2.2.1]]) (by rfl) (fun W => by go_simp) (fun W hg => rename (compare_any e0.1 e0.2.1 e0.2.2.1 e.1 e.2.1 e.2.2.1 W) (by rw [HCP.out]))) ?_
                  simp only [Act.put, setIfInBounds_toArray, set_cons_zero, set_cons_succ]
                  refine wpK_ta (i := 11) (some 227) (v := .bool false) rfl rfl (by kernel_rfl) (fun _ _ _ h => h) (Or.inl ⟨by rfl, fun W => by have hq : ¬ ((-1) ≥ 0) := (by omega); first | (go_simp; done) | (go_simp <;> omega)⟩) ?_
                  simp only [Act.put, setIfInBounds_toArray, set_cons_zero, set_cons_succ]
                  refine wpK_ta (i := 12) (some 228) (v := .bool false) rfl rfl (by kernel_rfl) (fun _ _ _ h => h) (Or.inl ⟨by rfl, fun W => by go_simp⟩) ?_
                  simp only [Act.put, setIfInBounds_toArray, set_cons_zero, set_cons_succ]
                  refine wpK_done (by kernel_rfl) (fun V246 hv247 => ?_) _
                  have GC248 := Lib.hid (GC245.out.trans (Gr.un hv247))
                  clear hv247
                  go_upto_region 9 with fail
                  refine wpG_region ?_
                  refine @wpG_tk _ _ _ _ _ (some 55) (.int .i64 (k : Int)) _ _ rfl (.val (by rfl) (fun _ _ => rfl)) ?_
                  simp only [Act.put, setIfInBounds_toArray, set_cons_zero, set_cons_succ]
                  refine @wpG_tk _ _ _ _ _ (some 56) (.int .i64 ((k : Int) + 1)) _ _ rfl (.val (by rfl) (fun W hg => by (first | (go_simp; done) | (go_simp; rw [IntWalk.i64_in _ (by omega)])))) ?_
                  simp only [Act.put, setIfInBounds_toArray, set_cons_zero, set_cons_succ]
                  refine @wpG_tk _ _ _ _ _ (some 11) (.int .i64 ((k : Int) + 1)) _ _ rfl (.val (by rfl) (fun _ _ => rfl)) ?_
                  simp only [Act.put, setIfInBounds_toArray, set_cons_zero, set_cons_succ]
                  refine wpG_done (fun V249 hv250 => ?_)
                  have GC251 := Lib.hid (GC248.out.trans hv250)
                  clear hv250
                  go_wp2_with fail
                  go_roundw
                  case rel => exact ⟨k + 1, c, by go_num, rfl, by omega, HCT.out.symm, ⟨R130.out.below GC251.out, R131.out.below GC251.out, own_gr OW133.out GC251.out, own_gr OW134.out GC251.out, Gr.to G126.out GC251.out⟩⟩
                  case measure => first | (simp [intOf]; done) | (simp [intOf]; omega)
                · skip
                  go_upto_region 18 with fail
                  refine wpK_region (by kernel_rfl) ?_
                  refine wpK_ta (i := 0) (some 216) (v := .int .i64 (k : Int)) rfl rfl (by kernel_rfl) (fun _ _ _ h => h) (Or.inl ⟨rfl, fun _ => rfl⟩) ?_
                  simp only [Act.put, setIfInBounds_toArray, set_cons_zero, set_cons_succ]
                  refine wpK_ta (i := 1) (some 217) (v := .bool false) rfl rfl (by kernel_rfl) (fun _ _ _ h => h) (Or.inl ⟨by rfl, fun W => by have hq : ¬ ((k : Int) > 0) := (by omega); first | (go_simp; done) | (go_simp <;> omega)⟩) ?_
                  simp only [Act.put, setIfInBounds_toArray, set_cons_zero, set_cons_succ]
                  refine wpK_ta (i := 2) (some 218) (v := .bool false) rfl rfl (by kernel_rfl) (fun _ _ _ h => h) (Or.inl ⟨rfl, fun _ => rfl⟩) ?_
                  simp only [Act.put, setIfInBounds_toArray, set_cons_zero, set_cons_succ]
                  refine wpK_ta (i := 3) (some 219) (v := undef) rfl rfl (by kernel_rfl) (fun _ _ _ h => h) (Or.inr ⟨by rfl, rfl⟩) ?_
                  simp only [Act.put, setIfInBounds_toArray, set_cons_zero, set_cons_succ]
                  refine wpK_ta (i := 4) (some 220) (v := undef) rfl rfl (by kernel_rfl) (fun _ _ _ h => h) (Or.inr ⟨by rfl, rfl⟩) ?_
                  simp only [Act.put, setIfInBounds_toArray, set_cons_zero, set_cons_succ]
                  refine wpK_ta (i := 5) (some 221) (v := undef) rfl rfl (by kernel_rfl) (fun _ _ _ h => h) (Or.inr ⟨by rfl, rfl⟩) ?_
                  simp only [Act.put, setIfInBounds_toArray, set_cons_zero, set_cons_succ]
                  refine wpK_ta (i := 6) (some 222) (v := undef) rfl rfl (by kernel_rfl) (fun _ _ _ h => h) (Or.inr ⟨by rfl, rfl⟩) ?_
                  simp only [Act.put, setIfInBounds_toArray, set_cons_zero, set_cons_succ]
                  refine wpK_ta (i := 7) (some 223) (v := undef) rfl rfl (by kernel_rfl) (fun _ _ _ h => h) (Or.inr ⟨by rfl, rfl⟩) ?_
                  simp only [Act.put, setIfInBounds_toArray, set_cons_zero, set_cons_succ]
                  refine wpK_ta (i := 8) (some 224) (v := undef) rfl rfl (by kernel_rfl) (fun _ _ _ h => h) (Or.inr ⟨by rfl, rfl⟩) ?_
                  simp only [Act.put, setIfInBounds_toArray, set_cons_zero, set_cons_succ]
                  refine wpK_ta (i := 9) (some 225) (v := undef) rfl rfl (by kernel_rfl) (fun _ _ _ h => h) (Or.inr ⟨by rfl, rfl⟩) ?_
                  simp only [Act.put, setIfInBounds_toArray, set_cons_zero, set_cons_succ]
                  refine wpK_ta (i := 10) (some 226) (v := undef) rfl rfl (by kernel_rfl) (fun _ _ _ h => h) (Or.inr ⟨by rfl, rfl⟩) ?_
                  simp only [Act.put, setIfInBounds_toArray, set_cons_zero, set_cons_succ]
                  refine wpK_ta (i := 11) (some 227) (v := undef) rfl rfl (by kernel_rfl) (fun _ _ _ h => h) (Or.inr ⟨by rfl, rfl⟩) ?_
                  simp only [Act.put, setIfInBounds_toArray, set_cons_zero, set_cons_succ]
                  refine wpK_ta (i := 12) (some 228) (v := .bool false) rfl rfl (by kernel_rfl) (fun _ _ _ h => h) (Or.inl ⟨by rfl, fun W => by go_simp⟩) ?_
                  simp only [Act.put, setIfInBounds_toArray, set_cons_zero, set_cons_succ]
                  refine wpK_done (by kernel_rfl) (fun V252 hv253 => ?_) _
                  have GC254 := Lib.hid (GC245.out.trans (Gr.un hv253))
                  clear hv253
                  go_upto_region 9 with fail
                  refine wpG_region ?_
                  refine @wpG_tk _ _ _ _ _ (some 55) (.int .i64 (k : Int)) _ _ rfl (.val (by rfl) (fun _ _ => rfl)) ?_
                  simp only [Act.put, setIfInBounds_toArray, set_cons_zero, set_cons_succ]
                  refine @wpG_tk _ _ _ _ _ (some 56) (.int .i64 ((k : Int) + 1)) _ _ rfl (.val (by rfl) (fun W hg => by (first | (go_simp; done) | (go_simp; rw [IntWalk.i64_in _ (by omega)])))) ?_
                  simp only [Act.put, setIfInBounds_toArray, set_cons_zero, set_cons_succ]
                  refine @wpG_tk _ _ _ _ _ (some 11) (.int .i64 ((k : Int) + 1)) _ _ rfl (.val (by rfl) (fun _ _ => rfl)) ?_
                  simp only [Act.put, setIfInBounds_toArray, set_cons_zero, set_cons_succ]
                  refine wpG_done (fun V255 hv256 => ?_)
                  have GC257 := Lib.hid (GC254.out.trans hv256)
                  clear hv256
                  go_wp2_with fail
                  go_roundw
                  case rel => exact ⟨k + 1, c, by go_num, rfl, by omega, HCT.out.symm, ⟨R130.out.below GC257.out, R131.out.below GC257.out, own_gr OW133.out GC257.out, own_gr OW134.out GC257.out, Gr.to G126.out GC257.out⟩⟩
                  case measure => first | (simp [intOf]; done) | (simp [intOf]; omega)

end Go.Proofs.Ytmjjkloeipoefaa
