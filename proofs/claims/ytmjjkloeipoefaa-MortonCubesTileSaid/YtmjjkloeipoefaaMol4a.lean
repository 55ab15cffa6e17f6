/-
  voxellaw05.MortonCubesTile, its walk.
-/
import Derived.Test.YtmjjkloeipoefaaMosm
import Derived.Test.YtmjjkloeipoefaaKqw
import Derived.Handy
namespace Go.Proofs.Ytmjjkloeipoefaa
open Go.RowKit
set_option linter.unusedVariables false
set_option maxRecDepth 1000000 in
set_option maxHeartbeats 4000000 in
theorem law4_s0 (b1 b2 b3 b4 b5 b6 p q r : Int) (w : World) (hsm : Mo.smallB b1 b2 b3 b4 b5 b6 = false) (hev : Mo.cubesE b1 b2 b3 b4 b5 b6 = 0) :
    Calls Try.prog 6 #[.agg #[.int .i64 b1, .int .i64 b2, .int .i64 b3, .int .i64 b4, .int .i64 b5, .int .i64 b6], .agg #[.int .i64 p, .int .i64 q, .int .i64 r]] w fun e w' => e = .returned (.bool true) ∧ Below w.heap.size w w' := by
  obtain ⟨cl, hcl⟩ : ∃ l, l = Mo.cubesA b1 b2 b3 b4 b5 b6 := ⟨_, rfl⟩
  obtain ⟨rl, hrl⟩ : ∃ l, l = Mo.runsA b1 b2 b3 b4 b5 b6 := ⟨_, rfl⟩
  obtain ⟨n, hn⟩ : ∃ n, n = cl.length := ⟨_, rfl⟩
  obtain ⟨m, hm⟩ : ∃ n, n = rl.length := ⟨_, rfl⟩
  have hn4 : n ≤ 4096 := by rw [hn, hcl]; exact Mo.cubesA_len _ _ _ _ _ _
  have hm4 : m ≤ 4096 := by
    have h := Mo.runsF_len (Mo.cubesA b1 b2 b3 b4 b5 b6) _ (Nat.le_refl _)
    rw [List.take_length] at h
    have h2 := Mo.cubesA_len b1 b2 b3 b4 b5 b6
    rw [hm, hrl]; unfold Mo.runsA; omega
  have HSM := Lib.hid hsm
  have HEV := Lib.hid hev
  have HCL := Lib.hid hcl
  have HRL := Lib.hid hrl
  have HN := Lib.hid hn
  have HM := Lib.hid hm
  clear hsm hev hcl hrl hn hm
  obtain ⟨u, hu, r0, r1, g0⟩ := rows2 w [.int .i64 b1, .int .i64 b2, .int .i64 b3, .int .i64 b4, .int .i64 b5, .int .i64 b6] 37 [.int .i64 p, .int .i64 q, .int .i64 r] 23
  have R0 := Lib.hid r0
  have R1 := Lib.hid r1
  have G0 := Lib.hid g0
  have HU := Lib.hid hu
  clear hu g0 r0 r1
  go_enter Try.func6, Try.ntmps6
  go_upto_region 1 with fail
  rw [← HU.out]
  refine wpG_region ?_
  refine @wpG_tk _ _ _ _ _ (some 19) (.agg #[.int .i64 b1, .int .i64 b2, .int .i64 b3, .int .i64 b4, .int .i64 b5, .int .i64 b6]) _ _ rfl (.load_mid (by rfl) 37 (.tmp 2) rfl (w.heap.size) 0 rfl [.int .i64 b1, .int .i64 b2, .int .i64 b3, .int .i64 b4, .int .i64 b5, .int .i64 b6] _ (fun W hg => (R0.out.below hg).range) Try.underlying37 rfl (by kernel_rfl)) ?_
  simp only [Act.put, List.setIfInBounds_toArray, List.set_cons_zero, List.set_cons_succ]
  refine @wpG_tk _ _ _ _ _ (some 20) (.bool false) _ _ rfl (.call (f := 31) (args := #[.agg #[.int .i64 b1, .int .i64 b2, .int .i64 b3, .int .i64 b4, .int .i64 b5, .int .i64 b6]]) (by rfl) (fun W => by go_simp) (fun W hg => (HSM.out ▸ small_any b1 b2 b3 b4 b5 b6 W))) ?_
  simp only [Act.put, List.setIfInBounds_toArray, List.set_cons_zero, List.set_cons_succ]
  refine @wpG_tk _ _ _ _ _ (some 5) (.bool false) _ _ rfl (.val (by rfl) (fun _ _ => rfl)) ?_
  simp only [Act.put, List.setIfInBounds_toArray, List.set_cons_zero, List.set_cons_succ]
  refine wpG_done (fun V1 hv2 => ?_)
  have GC3 := Lib.hid hv2
  clear hv2
  go_upto_region 2 with fail
  refine wpG_region ?_
  refine @wpG_tk _ _ _ _ _ (some 22) (.agg #[.int .i64 b1, .int .i64 b2, .int .i64 b3, .int .i64 b4, .int .i64 b5, .int .i64 b6]) _ _ rfl (.load_mid (by rfl) 37 (.tmp 2) rfl (w.heap.size) 0 rfl [.int .i64 b1, .int .i64 b2, .int .i64 b3, .int .i64 b4, .int .i64 b5, .int .i64 b6] _ (fun W hg => (R0.out.below (GC3.out.trans hg)).range) Try.underlying37 rfl (by kernel_rfl)) ?_
  simp only [Act.put, List.setIfInBounds_toArray, List.set_cons_zero, List.set_cons_succ]
  refine wpG_call (some 23) 22 #[.agg #[.int .i64 b1, .int .i64 b2, .int .i64 b3, .int .i64 b4, .int .i64 b5, .int .i64 b6]] rfl (by rfl) (fun W => by go_simp) (fun W4 hg5 => ?_)
  refine (cubes_any b1 b2 b3 b4 b5 b6 W4).mono ?_
  rintro e w6 ⟨A1, n1, c1, rfl, hn, own, bel⟩
  refine ⟨_, rfl, ?_⟩
  rw [← HCL.out] at hn own
  rw [HEV.out]
  have hnn : n = n1 := by rw [hn, HN.out]
  subst hnn
  have hGW := Gr.to G0.out (GC3.out.trans hg5)
  have R8 := Lib.hid ((R0.out.below (GC3.out.trans hg5)).below bel)
  have R9 := Lib.hid ((R1.out.below (GC3.out.trans hg5)).below bel)
  have OW10 := Lib.hid (own_mono own hGW.size)
  have G7 := Lib.hid (hGW.trans (bel.mono hGW.size))
  clear own bel hGW hn hg5
  simp only [Act.put, List.setIfInBounds_toArray, List.set_cons_zero, List.set_cons_succ]
  refine @wpG_tk _ _ _ _ _ (some 21) (.tuple #[.slice A1 n c1, .int .i64 0]) _ _ rfl (.val (by rfl) (fun _ _ => rfl)) ?_
  simp only [Act.put, List.setIfInBounds_toArray, List.set_cons_zero, List.set_cons_succ]
  refine @wpG_tk _ _ _ _ _ (some 24) (.slice A1 n c1) _ _ rfl (.val (by rfl) (fun W hg => by go_simp)) ?_
  simp only [Act.put, List.setIfInBounds_toArray, List.set_cons_zero, List.set_cons_succ]
  refine @wpG_tk _ _ _ _ _ (some 25) (.int .i64 0) _ _ rfl (.val (by rfl) (fun W hg => by go_simp)) ?_
  simp only [Act.put, List.setIfInBounds_toArray, List.set_cons_zero, List.set_cons_succ]
  refine @wpG_tk _ _ _ _ _ (some 6) (.slice A1 n c1) _ _ rfl (.val (by rfl) (fun _ _ => rfl)) ?_
  simp only [Act.put, List.setIfInBounds_toArray, List.set_cons_zero, List.set_cons_succ]
  refine @wpG_tk _ _ _ _ _ (some 7) (.int .i64 0) _ _ rfl (.val (by rfl) (fun _ _ => rfl)) ?_
  simp only [Act.put, List.setIfInBounds_toArray, List.set_cons_zero, List.set_cons_succ]
  refine wpG_done (fun V11 hv12 => ?_)
  have GC13 := Lib.hid hv12
  clear hv12
  go_upto_region 3 with fail
  refine wpG_region ?_
  refine @wpG_tk _ _ _ _ _ (some 27) (.agg #[.int .i64 b1, .int .i64 b2, .int .i64 b3, .int .i64 b4, .int .i64 b5, .int .i64 b6]) _ _ rfl (.load_mid (by rfl) 37 (.tmp 2) rfl (w.heap.size) 0 rfl [.int .i64 b1, .int .i64 b2, .int .i64 b3, .int .i64 b4, .int .i64 b5, .int .i64 b6] _ (fun W hg => (R8.out.below (GC13.out.trans hg)).range) Try.underlying37 rfl (by kernel_rfl)) ?_
  simp only [Act.put, List.setIfInBounds_toArray, List.set_cons_zero, List.set_cons_succ]
  refine wpG_call (some 28) 24 #[.agg #[.int .i64 b1, .int .i64 b2, .int .i64 b3, .int .i64 b4, .int .i64 b5, .int .i64 b6]] rfl (by rfl) (fun W => by go_simp) (fun W14 hg15 => ?_)
  refine (runs_any b1 b2 b3 b4 b5 b6 W14).mono ?_
  rintro e w16 ⟨A3, n3, c3, rfl, hn, own, bel⟩
  refine ⟨_, rfl, ?_⟩
  rw [← HRL.out] at hn own
  rw [HEV.out]
  have hnn : m = n3 := by rw [hn, HM.out]
  subst hnn
  have hGW := Gr.to G7.out (GC13.out.trans hg15)
  have R18 := Lib.hid ((R8.out.below (GC13.out.trans hg15)).below bel)
  have R19 := Lib.hid ((R9.out.below (GC13.out.trans hg15)).below bel)
  have OW20 := Lib.hid (own_gr (own_gr OW10.out (GC13.out.trans hg15)) bel)
  have OW21 := Lib.hid (own_mono own hGW.size)
  have G17 := Lib.hid (hGW.trans (bel.mono hGW.size))
  clear own bel hGW hn hg15
  simp only [Act.put, List.setIfInBounds_toArray, List.set_cons_zero, List.set_cons_succ]
  refine @wpG_tk _ _ _ _ _ (some 26) (.tuple #[.slice A3 m c3, .int .i64 0]) _ _ rfl (.val (by rfl) (fun _ _ => rfl)) ?_
  simp only [Act.put, List.setIfInBounds_toArray, List.set_cons_zero, List.set_cons_succ]
  refine @wpG_tk _ _ _ _ _ (some 29) (.slice A3 m c3) _ _ rfl (.val (by rfl) (fun W hg => by go_simp)) ?_
  simp only [Act.put, List.setIfInBounds_toArray, List.set_cons_zero, List.set_cons_succ]
  refine @wpG_tk _ _ _ _ _ (some 30) (.int .i64 0) _ _ rfl (.val (by rfl) (fun W hg => by go_simp)) ?_
  simp only [Act.put, List.setIfInBounds_toArray, List.set_cons_zero, List.set_cons_succ]
  refine @wpG_tk _ _ _ _ _ (some 8) (.slice A3 m c3) _ _ rfl (.val (by rfl) (fun _ _ => rfl)) ?_
  simp only [Act.put, List.setIfInBounds_toArray, List.set_cons_zero, List.set_cons_succ]
  refine @wpG_tk _ _ _ _ _ (some 9) (.int .i64 0) _ _ rfl (.val (by rfl) (fun _ _ => rfl)) ?_
  simp only [Act.put, List.setIfInBounds_toArray, List.set_cons_zero, List.set_cons_succ]
  refine wpG_done (fun V22 hv23 => ?_)
  have GC24 := Lib.hid hv23
  clear hv23
  go_upto_region 4 with fail
  refine wpG_region ?_
  refine @wpG_tk _ _ _ _ _ (some 31) (.bool false) _ _ rfl (.val (by rfl) (fun _ _ => rfl)) ?_
  simp only [Act.put, List.setIfInBounds_toArray, List.set_cons_zero, List.set_cons_succ]
  refine @wpG_tk _ _ _ _ _ (some 32) (.bool true) _ _ rfl (.val (by rfl) (fun W hg => by go_simp)) ?_
  simp only [Act.put, List.setIfInBounds_toArray, List.set_cons_zero, List.set_cons_succ]
  refine @wpG_tk _ _ _ _ _ (some 33) (.bool true) _ _ rfl (.val (by rfl) (fun _ _ => rfl)) ?_
  simp only [Act.put, List.setIfInBounds_toArray, List.set_cons_zero, List.set_cons_succ]
  refine @wpG_tk _ _ _ _ _ (some 34) (undef) _ _ rfl (.no (by rfl)) ?_
  simp only [Act.put, List.setIfInBounds_toArray, List.set_cons_zero, List.set_cons_succ]
  refine @wpG_tk _ _ _ _ _ (some 35) (undef) _ _ rfl (.no (by rfl)) ?_
  simp only [Act.put, List.setIfInBounds_toArray, List.set_cons_zero, List.set_cons_succ]
  refine @wpG_tk _ _ _ _ _ (some 36) (.bool true) _ _ rfl (.val (by rfl) (fun W hg => by go_simp)) ?_
  simp only [Act.put, List.setIfInBounds_toArray, List.set_cons_zero, List.set_cons_succ]
  refine @wpG_tk _ _ _ _ _ (some 37) (.bool true) _ _ rfl (.val (by rfl) (fun _ _ => rfl)) ?_
  simp only [Act.put, List.setIfInBounds_toArray, List.set_cons_zero, List.set_cons_succ]
  refine @wpG_tk _ _ _ _ _ (some 38) (undef) _ _ rfl (.no (by rfl)) ?_
  simp only [Act.put, List.setIfInBounds_toArray, List.set_cons_zero, List.set_cons_succ]
  refine @wpG_tk _ _ _ _ _ (some 39) (undef) _ _ rfl (.no (by rfl)) ?_
  simp only [Act.put, List.setIfInBounds_toArray, List.set_cons_zero, List.set_cons_succ]
  refine @wpG_tk _ _ _ _ _ (some 40) (.bool true) _ _ rfl (.val (by rfl) (fun W hg => by go_simp)) ?_
  simp only [Act.put, List.setIfInBounds_toArray, List.set_cons_zero, List.set_cons_succ]
  refine wpG_done (fun V25 hv26 => ?_)
  have GC27 := Lib.hid (GC24.out.trans hv26)
  clear hv26
  go_upto_region 5 with fail
  refine wpG_region ?_
  refine @wpG_tk _ _ _ _ _ (some 41) (.bool true) _ _ rfl (.call (f := 21) (args := #[]) (by rfl) (fun W => by go_simp) (fun W hg => sanity_any W)) ?_
  simp only [Act.put, List.setIfInBounds_toArray, List.set_cons_zero, List.set_cons_succ]
  refine @wpG_tk _ _ _ _ _ (some 42) (.bool true) _ _ rfl (.val (by rfl) (fun _ _ => rfl)) ?_
  simp only [Act.put, List.setIfInBounds_toArray, List.set_cons_zero, List.set_cons_succ]
  refine @wpG_tk _ _ _ _ _ (some 43) (.bool false) _ _ rfl (.val (by rfl) (fun _ _ => rfl)) ?_
  simp only [Act.put, List.setIfInBounds_toArray, List.set_cons_zero, List.set_cons_succ]
  refine @wpG_tk _ _ _ _ _ (some 44) (.bool true) _ _ rfl (.val (by rfl) (fun W hg => by go_simp)) ?_
  simp only [Act.put, List.setIfInBounds_toArray, List.set_cons_zero, List.set_cons_succ]
  refine @wpG_tk _ _ _ _ _ (some 45) (.bool true) _ _ rfl (.val (by rfl) (fun _ _ => rfl)) ?_
  simp only [Act.put, List.setIfInBounds_toArray, List.set_cons_zero, List.set_cons_succ]
  refine @wpG_tk _ _ _ _ _ (some 46) (undef) _ _ rfl (.no (by rfl)) ?_
  simp only [Act.put, List.setIfInBounds_toArray, List.set_cons_zero, List.set_cons_succ]
  refine @wpG_tk _ _ _ _ _ (some 47) (undef) _ _ rfl (.no (by rfl)) ?_
  simp only [Act.put, List.setIfInBounds_toArray, List.set_cons_zero, List.set_cons_succ]
  refine @wpG_tk _ _ _ _ _ (some 48) (undef) _ _ rfl (.no (by rfl)) ?_
  simp only [Act.put, List.setIfInBounds_toArray, List.set_cons_zero, List.set_cons_succ]
  refine @wpG_tk _ _ _ _ _ (some 49) (.bool true) _ _ rfl (.val (by rfl) (fun W hg => by go_simp)) ?_
  simp only [Act.put, List.setIfInBounds_toArray, List.set_cons_zero, List.set_cons_succ]
  refine @wpG_tk _ _ _ _ _ (some 50) (.bool true) _ _ rfl (.val (by rfl) (fun W hg => by go_simp)) ?_
  simp only [Act.put, List.setIfInBounds_toArray, List.set_cons_zero, List.set_cons_succ]
  refine @wpG_tk _ _ _ _ _ (some 4) (.bool true) _ _ rfl (.val (by rfl) (fun _ _ => rfl)) ?_
  simp only [Act.put, List.setIfInBounds_toArray, List.set_cons_zero, List.set_cons_succ]
  refine wpG_done (fun V28 hv29 => ?_)
  have GC30 := Lib.hid (GC27.out.trans hv29)
  clear hv29
  go_wp2_with fail
  go_ret
  exact ⟨rfl, Gr.to G17.out GC30.out⟩
set_option maxRecDepth 1000000 in
set_option maxHeartbeats 4000000 in
theorem law4_s2 (b1 b2 b3 b4 b5 b6 p q r : Int) (w : World) (hsm : Mo.smallB b1 b2 b3 b4 b5 b6 = false) (hev : Mo.cubesE b1 b2 b3 b4 b5 b6 = 2) :
    Calls Try.prog 6 #[.agg #[.int .i64 b1, .int .i64 b2, .int .i64 b3, .int .i64 b4, .int .i64 b5, .int .i64 b6], .agg #[.int .i64 p, .int .i64 q, .int .i64 r]] w fun e w' => e = .returned (.bool true) ∧ Below w.heap.size w w' := by
  obtain ⟨cl, hcl⟩ : ∃ l, l = Mo.cubesA b1 b2 b3 b4 b5 b6 := ⟨_, rfl⟩
  obtain ⟨rl, hrl⟩ : ∃ l, l = Mo.runsA b1 b2 b3 b4 b5 b6 := ⟨_, rfl⟩
  obtain ⟨n, hn⟩ : ∃ n, n = cl.length := ⟨_, rfl⟩
  obtain ⟨m, hm⟩ : ∃ n, n = rl.length := ⟨_, rfl⟩
  have hn4 : n ≤ 4096 := by rw [hn, hcl]; exact Mo.cubesA_len _ _ _ _ _ _
  have hm4 : m ≤ 4096 := by
    have h := Mo.runsF_len (Mo.cubesA b1 b2 b3 b4 b5 b6) _ (Nat.le_refl _)
    rw [List.take_length] at h
    have h2 := Mo.cubesA_len b1 b2 b3 b4 b5 b6
    rw [hm, hrl]; unfold Mo.runsA; omega
  have HSM := Lib.hid hsm
  have HEV := Lib.hid hev
  have HCL := Lib.hid hcl
  have HRL := Lib.hid hrl
  have HN := Lib.hid hn
  have HM := Lib.hid hm
  clear hsm hev hcl hrl hn hm
  obtain ⟨u, hu, r0, r1, g0⟩ := rows2 w [.int .i64 b1, .int .i64 b2, .int .i64 b3, .int .i64 b4, .int .i64 b5, .int .i64 b6] 37 [.int .i64 p, .int .i64 q, .int .i64 r] 23
  have R0 := Lib.hid r0
  have R1 := Lib.hid r1
  have G0 := Lib.hid g0
  have HU := Lib.hid hu
  clear hu g0 r0 r1
  go_enter Try.func6, Try.ntmps6
  go_upto_region 1 with fail
  rw [← HU.out]
  refine wpG_region ?_
  refine @wpG_tk _ _ _ _ _ (some 19) (.agg #[.int .i64 b1, .int .i64 b2, .int .i64 b3, .int .i64 b4, .int .i64 b5, .int .i64 b6]) _ _ rfl (.load_mid (by rfl) 37 (.tmp 2) rfl (w.heap.size) 0 rfl [.int .i64 b1, .int .i64 b2, .int .i64 b3, .int .i64 b4, .int .i64 b5, .int .i64 b6] _ (fun W hg => (R0.out.below hg).range) Try.underlying37 rfl (by kernel_rfl)) ?_
  simp only [Act.put, List.setIfInBounds_toArray, List.set_cons_zero, List.set_cons_succ]
  refine @wpG_tk _ _ _ _ _ (some 20) (.bool false) _ _ rfl (.call (f := 31) (args := #[.agg #[.int .i64 b1, .int .i64 b2, .int .i64 b3, .int .i64 b4, .int .i64 b5, .int .i64 b6]]) (by rfl) (fun W => by go_simp) (fun W hg => (HSM.out ▸ small_any b1 b2 b3 b4 b5 b6 W))) ?_
  simp only [Act.put, List.setIfInBounds_toArray, List.set_cons_zero, List.set_cons_succ]
  refine @wpG_tk _ _ _ _ _ (some 5) (.bool false) _ _ rfl (.val (by rfl) (fun _ _ => rfl)) ?_
  simp only [Act.put, List.setIfInBounds_toArray, List.set_cons_zero, List.set_cons_succ]
  refine wpG_done (fun V1 hv2 => ?_)
  have GC3 := Lib.hid hv2
  clear hv2
  go_upto_region 2 with fail
  refine wpG_region ?_
  refine @wpG_tk _ _ _ _ _ (some 22) (.agg #[.int .i64 b1, .int .i64 b2, .int .i64 b3, .int .i64 b4, .int .i64 b5, .int .i64 b6]) _ _ rfl (.load_mid (by rfl) 37 (.tmp 2) rfl (w.heap.size) 0 rfl [.int .i64 b1, .int .i64 b2, .int .i64 b3, .int .i64 b4, .int .i64 b5, .int .i64 b6] _ (fun W hg => (R0.out.below (GC3.out.trans hg)).range) Try.underlying37 rfl (by kernel_rfl)) ?_
  simp only [Act.put, List.setIfInBounds_toArray, List.set_cons_zero, List.set_cons_succ]
  refine wpG_call (some 23) 22 #[.agg #[.int .i64 b1, .int .i64 b2, .int .i64 b3, .int .i64 b4, .int .i64 b5, .int .i64 b6]] rfl (by rfl) (fun W => by go_simp) (fun W4 hg5 => ?_)
  refine (cubes_any b1 b2 b3 b4 b5 b6 W4).mono ?_
  rintro e w6 ⟨A1, n1, c1, rfl, hn, own, bel⟩
  refine ⟨_, rfl, ?_⟩
  rw [← HCL.out] at hn own
  rw [HEV.out]
  have hnn : n = n1 := by rw [hn, HN.out]
  subst hnn
  have hGW := Gr.to G0.out (GC3.out.trans hg5)
  have R8 := Lib.hid ((R0.out.below (GC3.out.trans hg5)).below bel)
  have R9 := Lib.hid ((R1.out.below (GC3.out.trans hg5)).below bel)
  have OW10 := Lib.hid (own_mono own hGW.size)
  have G7 := Lib.hid (hGW.trans (bel.mono hGW.size))
  clear own bel hGW hn hg5
  simp only [Act.put, List.setIfInBounds_toArray, List.set_cons_zero, List.set_cons_succ]
  refine @wpG_tk _ _ _ _ _ (some 21) (.tuple #[.slice A1 n c1, .int .i64 2]) _ _ rfl (.val (by rfl) (fun _ _ => rfl)) ?_
  simp only [Act.put, List.setIfInBounds_toArray, List.set_cons_zero, List.set_cons_succ]
  refine @wpG_tk _ _ _ _ _ (some 24) (.slice A1 n c1) _ _ rfl (.val (by rfl) (fun W hg => by go_simp)) ?_
  simp only [Act.put, List.setIfInBounds_toArray, List.set_cons_zero, List.set_cons_succ]
  refine @wpG_tk _ _ _ _ _ (some 25) (.int .i64 2) _ _ rfl (.val (by rfl) (fun W hg => by go_simp)) ?_
  simp only [Act.put, List.setIfInBounds_toArray, List.set_cons_zero, List.set_cons_succ]
  refine @wpG_tk _ _ _ _ _ (some 6) (.slice A1 n c1) _ _ rfl (.val (by rfl) (fun _ _ => rfl)) ?_
  simp only [Act.put, List.setIfInBounds_toArray, List.set_cons_zero, List.set_cons_succ]
  refine @wpG_tk _ _ _ _ _ (some 7) (.int .i64 2) _ _ rfl (.val (by rfl) (fun _ _ => rfl)) ?_
  simp only [Act.put, List.setIfInBounds_toArray, List.set_cons_zero, List.set_cons_succ]
  refine wpG_done (fun V11 hv12 => ?_)
  have GC13 := Lib.hid hv12
  clear hv12
  go_upto_region 3 with fail
  refine wpG_region ?_
  refine @wpG_tk _ _ _ _ _ (some 27) (.agg #[.int .i64 b1, .int .i64 b2, .int .i64 b3, .int .i64 b4, .int .i64 b5, .int .i64 b6]) _ _ rfl (.load_mid (by rfl) 37 (.tmp 2) rfl (w.heap.size) 0 rfl [.int .i64 b1, .int .i64 b2, .int .i64 b3, .int .i64 b4, .int .i64 b5, .int .i64 b6] _ (fun W hg => (R8.out.below (GC13.out.trans hg)).range) Try.underlying37 rfl (by kernel_rfl)) ?_
  simp only [Act.put, List.setIfInBounds_toArray, List.set_cons_zero, List.set_cons_succ]
  refine wpG_call (some 28) 24 #[.agg #[.int .i64 b1, .int .i64 b2, .int .i64 b3, .int .i64 b4, .int .i64 b5, .int .i64 b6]] rfl (by rfl) (fun W => by go_simp) (fun W14 hg15 => ?_)
  refine (runs_any b1 b2 b3 b4 b5 b6 W14).mono ?_
  rintro e w16 ⟨A3, n3, c3, rfl, hn, own, bel⟩
  refine ⟨_, rfl, ?_⟩
  rw [← HRL.out] at hn own
  rw [HEV.out]
  have hnn : m = n3 := by rw [hn, HM.out]
  subst hnn
  have hGW := Gr.to G7.out (GC13.out.trans hg15)
  have R18 := Lib.hid ((R8.out.below (GC13.out.trans hg15)).below bel)
  have R19 := Lib.hid ((R9.out.below (GC13.out.trans hg15)).below bel)
  have OW20 := Lib.hid (own_gr (own_gr OW10.out (GC13.out.trans hg15)) bel)
  have OW21 := Lib.hid (own_mono own hGW.size)
  have G17 := Lib.hid (hGW.trans (bel.mono hGW.size))
  clear own bel hGW hn hg15
  simp only [Act.put, List.setIfInBounds_toArray, List.set_cons_zero, List.set_cons_succ]
  refine @wpG_tk _ _ _ _ _ (some 26) (.tuple #[.slice A3 m c3, .int .i64 2]) _ _ rfl (.val (by rfl) (fun _ _ => rfl)) ?_
  simp only [Act.put, List.setIfInBounds_toArray, List.set_cons_zero, List.set_cons_succ]
  refine @wpG_tk _ _ _ _ _ (some 29) (.slice A3 m c3) _ _ rfl (.val (by rfl) (fun W hg => by go_simp)) ?_
  simp only [Act.put, List.setIfInBounds_toArray, List.set_cons_zero, List.set_cons_succ]
  refine @wpG_tk _ _ _ _ _ (some 30) (.int .i64 2) _ _ rfl (.val (by rfl) (fun W hg => by go_simp)) ?_
  simp only [Act.put, List.setIfInBounds_toArray, List.set_cons_zero, List.set_cons_succ]
  refine @wpG_tk _ _ _ _ _ (some 8) (.slice A3 m c3) _ _ rfl (.val (by rfl) (fun _ _ => rfl)) ?_
  simp only [Act.put, List.setIfInBounds_toArray, List.set_cons_zero, List.set_cons_succ]
  refine @wpG_tk _ _ _ _ _ (some 9) (.int .i64 2) _ _ rfl (.val (by rfl) (fun _ _ => rfl)) ?_
  simp only [Act.put, List.setIfInBounds_toArray, List.set_cons_zero, List.set_cons_succ]
  refine wpG_done (fun V22 hv23 => ?_)
  have GC24 := Lib.hid hv23
  clear hv23
  go_upto_region 4 with fail
  refine wpG_region ?_
  refine @wpG_tk _ _ _ _ _ (some 31) (.bool false) _ _ rfl (.val (by rfl) (fun _ _ => rfl)) ?_
  simp only [Act.put, List.setIfInBounds_toArray, List.set_cons_zero, List.set_cons_succ]
  refine @wpG_tk _ _ _ _ _ (some 32) (.bool true) _ _ rfl (.val (by rfl) (fun W hg => by go_simp)) ?_
  simp only [Act.put, List.setIfInBounds_toArray, List.set_cons_zero, List.set_cons_succ]
  refine @wpG_tk _ _ _ _ _ (some 33) (.bool true) _ _ rfl (.val (by rfl) (fun _ _ => rfl)) ?_
  simp only [Act.put, List.setIfInBounds_toArray, List.set_cons_zero, List.set_cons_succ]
  refine @wpG_tk _ _ _ _ _ (some 34) (undef) _ _ rfl (.no (by rfl)) ?_
  simp only [Act.put, List.setIfInBounds_toArray, List.set_cons_zero, List.set_cons_succ]
  refine @wpG_tk _ _ _ _ _ (some 35) (undef) _ _ rfl (.no (by rfl)) ?_
  simp only [Act.put, List.setIfInBounds_toArray, List.set_cons_zero, List.set_cons_succ]
  refine @wpG_tk _ _ _ _ _ (some 36) (.bool true) _ _ rfl (.val (by rfl) (fun W hg => by go_simp)) ?_
  simp only [Act.put, List.setIfInBounds_toArray, List.set_cons_zero, List.set_cons_succ]
  refine @wpG_tk _ _ _ _ _ (some 37) (.bool true) _ _ rfl (.val (by rfl) (fun _ _ => rfl)) ?_
  simp only [Act.put, List.setIfInBounds_toArray, List.set_cons_zero, List.set_cons_succ]
  refine @wpG_tk _ _ _ _ _ (some 38) (undef) _ _ rfl (.no (by rfl)) ?_
  simp only [Act.put, List.setIfInBounds_toArray, List.set_cons_zero, List.set_cons_succ]
  refine @wpG_tk _ _ _ _ _ (some 39) (undef) _ _ rfl (.no (by rfl)) ?_
  simp only [Act.put, List.setIfInBounds_toArray, List.set_cons_zero, List.set_cons_succ]
  refine @wpG_tk _ _ _ _ _ (some 40) (.bool true) _ _ rfl (.val (by rfl) (fun W hg => by go_simp)) ?_
  simp only [Act.put, List.setIfInBounds_toArray, List.set_cons_zero, List.set_cons_succ]
  refine wpG_done (fun V25 hv26 => ?_)
  have GC27 := Lib.hid (GC24.out.trans hv26)
  clear hv26
  go_upto_region 5 with fail
  refine wpG_region ?_
  refine @wpG_tk _ _ _ _ _ (some 41) (.bool true) _ _ rfl (.call (f := 21) (args := #[]) (by rfl) (fun W => by go_simp) (fun W hg => sanity_any W)) ?_
  simp only [Act.put, List.setIfInBounds_toArray, List.set_cons_zero, List.set_cons_succ]
  refine @wpG_tk _ _ _ _ _ (some 42) (.bool true) _ _ rfl (.val (by rfl) (fun _ _ => rfl)) ?_
  simp only [Act.put, List.setIfInBounds_toArray, List.set_cons_zero, List.set_cons_succ]
  refine @wpG_tk _ _ _ _ _ (some 43) (.bool false) _ _ rfl (.val (by rfl) (fun _ _ => rfl)) ?_
  simp only [Act.put, List.setIfInBounds_toArray, List.set_cons_zero, List.set_cons_succ]
  refine @wpG_tk _ _ _ _ _ (some 44) (.bool true) _ _ rfl (.val (by rfl) (fun W hg => by go_simp)) ?_
  simp only [Act.put, List.setIfInBounds_toArray, List.set_cons_zero, List.set_cons_succ]
  refine @wpG_tk _ _ _ _ _ (some 45) (.bool true) _ _ rfl (.val (by rfl) (fun _ _ => rfl)) ?_
  simp only [Act.put, List.setIfInBounds_toArray, List.set_cons_zero, List.set_cons_succ]
  refine @wpG_tk _ _ _ _ _ (some 46) (undef) _ _ rfl (.no (by rfl)) ?_
  simp only [Act.put, List.setIfInBounds_toArray, List.set_cons_zero, List.set_cons_succ]
  refine @wpG_tk _ _ _ _ _ (some 47) (undef) _ _ rfl (.no (by rfl)) ?_
  simp only [Act.put, List.setIfInBounds_toArray, List.set_cons_zero, List.set_cons_succ]
  refine @wpG_tk _ _ _ _ _ (some 48) (undef) _ _ rfl (.no (by rfl)) ?_
  simp only [Act.put, List.setIfInBounds_toArray, List.set_cons_zero, List.set_cons_succ]
  refine @wpG_tk _ _ _ _ _ (some 49) (.bool true) _ _ rfl (.val (by rfl) (fun W hg => by go_simp)) ?_
  simp only [Act.put, List.setIfInBounds_toArray, List.set_cons_zero, List.set_cons_succ]
  refine @wpG_tk _ _ _ _ _ (some 50) (.bool true) _ _ rfl (.val (by rfl) (fun W hg => by go_simp)) ?_
  simp only [Act.put, List.setIfInBounds_toArray, List.set_cons_zero, List.set_cons_succ]
  refine @wpG_tk _ _ _ _ _ (some 4) (.bool true) _ _ rfl (.val (by rfl) (fun _ _ => rfl)) ?_
  simp only [Act.put, List.setIfInBounds_toArray, List.set_cons_zero, List.set_cons_succ]
  refine wpG_done (fun V28 hv29 => ?_)
  have GC30 := Lib.hid (GC27.out.trans hv29)
  clear hv29
  go_wp2_with fail
  go_ret
  exact ⟨rfl, Gr.to G17.out GC30.out⟩
set_option maxRecDepth 1000000 in
set_option maxHeartbeats 4000000 in
theorem law4_e (b1 b2 b3 b4 b5 b6 p q r : Int) (w : World) (hsm : Mo.smallB b1 b2 b3 b4 b5 b6 = true) (hev : Mo.cubesE b1 b2 b3 b4 b5 b6 = 2) :
    Calls Try.prog 6 #[.agg #[.int .i64 b1, .int .i64 b2, .int .i64 b3, .int .i64 b4, .int .i64 b5, .int .i64 b6], .agg #[.int .i64 p, .int .i64 q, .int .i64 r]] w fun e w' => e = .returned (.bool true) ∧ Below w.heap.size w w' := by
  obtain ⟨cl, hcl⟩ : ∃ l, l = Mo.cubesA b1 b2 b3 b4 b5 b6 := ⟨_, rfl⟩
  obtain ⟨rl, hrl⟩ : ∃ l, l = Mo.runsA b1 b2 b3 b4 b5 b6 := ⟨_, rfl⟩
  obtain ⟨n, hn⟩ : ∃ n, n = cl.length := ⟨_, rfl⟩
  obtain ⟨m, hm⟩ : ∃ n, n = rl.length := ⟨_, rfl⟩
  have hn4 : n ≤ 4096 := by rw [hn, hcl]; exact Mo.cubesA_len _ _ _ _ _ _
  have hm4 : m ≤ 4096 := by
    have h := Mo.runsF_len (Mo.cubesA b1 b2 b3 b4 b5 b6) _ (Nat.le_refl _)
    rw [List.take_length] at h
    have h2 := Mo.cubesA_len b1 b2 b3 b4 b5 b6
    rw [hm, hrl]; unfold Mo.runsA; omega
  have HSM := Lib.hid hsm
  have HEV := Lib.hid hev
  have HCL := Lib.hid hcl
  have HRL := Lib.hid hrl
  have HN := Lib.hid hn
  have HM := Lib.hid hm
  clear hsm hev hcl hrl hn hm
  obtain ⟨u, hu, r0, r1, g0⟩ := rows2 w [.int .i64 b1, .int .i64 b2, .int .i64 b3, .int .i64 b4, .int .i64 b5, .int .i64 b6] 37 [.int .i64 p, .int .i64 q, .int .i64 r] 23
  have R0 := Lib.hid r0
  have R1 := Lib.hid r1
  have G0 := Lib.hid g0
  have HU := Lib.hid hu
  clear hu g0 r0 r1
  go_enter Try.func6, Try.ntmps6
  go_upto_region 1 with fail
  rw [← HU.out]
  refine wpG_region ?_
  refine @wpG_tk _ _ _ _ _ (some 19) (.agg #[.int .i64 b1, .int .i64 b2, .int .i64 b3, .int .i64 b4, .int .i64 b5, .int .i64 b6]) _ _ rfl (.load_mid (by rfl) 37 (.tmp 2) rfl (w.heap.size) 0 rfl [.int .i64 b1, .int .i64 b2, .int .i64 b3, .int .i64 b4, .int .i64 b5, .int .i64 b6] _ (fun W hg => (R0.out.below hg).range) Try.underlying37 rfl (by kernel_rfl)) ?_
  simp only [Act.put, List.setIfInBounds_toArray, List.set_cons_zero, List.set_cons_succ]
  refine @wpG_tk _ _ _ _ _ (some 20) (.bool true) _ _ rfl (.call (f := 31) (args := #[.agg #[.int .i64 b1, .int .i64 b2, .int .i64 b3, .int .i64 b4, .int .i64 b5, .int .i64 b6]]) (by rfl) (fun W => by go_simp) (fun W hg => (HSM.out ▸ small_any b1 b2 b3 b4 b5 b6 W))) ?_
  simp only [Act.put, List.setIfInBounds_toArray, List.set_cons_zero, List.set_cons_succ]
  refine @wpG_tk _ _ _ _ _ (some 5) (.bool true) _ _ rfl (.val (by rfl) (fun _ _ => rfl)) ?_
  simp only [Act.put, List.setIfInBounds_toArray, List.set_cons_zero, List.set_cons_succ]
  refine wpG_done (fun V1 hv2 => ?_)
  have GC3 := Lib.hid hv2
  clear hv2
  go_upto_region 2 with fail
  refine wpG_region ?_
  refine @wpG_tk _ _ _ _ _ (some 22) (.agg #[.int .i64 b1, .int .i64 b2, .int .i64 b3, .int .i64 b4, .int .i64 b5, .int .i64 b6]) _ _ rfl (.load_mid (by rfl) 37 (.tmp 2) rfl (w.heap.size) 0 rfl [.int .i64 b1, .int .i64 b2, .int .i64 b3, .int .i64 b4, .int .i64 b5, .int .i64 b6] _ (fun W hg => (R0.out.below (GC3.out.trans hg)).range) Try.underlying37 rfl (by kernel_rfl)) ?_
  simp only [Act.put, List.setIfInBounds_toArray, List.set_cons_zero, List.set_cons_succ]
  refine wpG_call (some 23) 22 #[.agg #[.int .i64 b1, .int .i64 b2, .int .i64 b3, .int .i64 b4, .int .i64 b5, .int .i64 b6]] rfl (by rfl) (fun W => by go_simp) (fun W4 hg5 => ?_)
  refine (cubes_any b1 b2 b3 b4 b5 b6 W4).mono ?_
  rintro e w6 ⟨A1, n1, c1, rfl, hn, own, bel⟩
  refine ⟨_, rfl, ?_⟩
  rw [← HCL.out] at hn own
  rw [HEV.out]
  have hnn : n = n1 := by rw [hn, HN.out]
  subst hnn
  have hGW := Gr.to G0.out (GC3.out.trans hg5)
  have R8 := Lib.hid ((R0.out.below (GC3.out.trans hg5)).below bel)
  have R9 := Lib.hid ((R1.out.below (GC3.out.trans hg5)).below bel)
  have OW10 := Lib.hid (own_mono own hGW.size)
  have G7 := Lib.hid (hGW.trans (bel.mono hGW.size))
  clear own bel hGW hn hg5
  simp only [Act.put, List.setIfInBounds_toArray, List.set_cons_zero, List.set_cons_succ]
  refine @wpG_tk _ _ _ _ _ (some 21) (.tuple #[.slice A1 n c1, .int .i64 2]) _ _ rfl (.val (by rfl) (fun _ _ => rfl)) ?_
  simp only [Act.put, List.setIfInBounds_toArray, List.set_cons_zero, List.set_cons_succ]
  refine @wpG_tk _ _ _ _ _ (some 24) (.slice A1 n c1) _ _ rfl (.val (by rfl) (fun W hg => by go_simp)) ?_
  simp only [Act.put, List.setIfInBounds_toArray, List.set_cons_zero, List.set_cons_succ]
  refine @wpG_tk _ _ _ _ _ (some 25) (.int .i64 2) _ _ rfl (.val (by rfl) (fun W hg => by go_simp)) ?_
  simp only [Act.put, List.setIfInBounds_toArray, List.set_cons_zero, List.set_cons_succ]
  refine @wpG_tk _ _ _ _ _ (some 6) (.slice A1 n c1) _ _ rfl (.val (by rfl) (fun _ _ => rfl)) ?_
  simp only [Act.put, List.setIfInBounds_toArray, List.set_cons_zero, List.set_cons_succ]
  refine @wpG_tk _ _ _ _ _ (some 7) (.int .i64 2) _ _ rfl (.val (by rfl) (fun _ _ => rfl)) ?_
  simp only [Act.put, List.setIfInBounds_toArray, List.set_cons_zero, List.set_cons_succ]
  refine wpG_done (fun V11 hv12 => ?_)
  have GC13 := Lib.hid hv12
  clear hv12
  go_upto_region 3 with fail
  refine wpG_region ?_
  refine @wpG_tk _ _ _ _ _ (some 27) (.agg #[.int .i64 b1, .int .i64 b2, .int .i64 b3, .int .i64 b4, .int .i64 b5, .int .i64 b6]) _ _ rfl (.load_mid (by rfl) 37 (.tmp 2) rfl (w.heap.size) 0 rfl [.int .i64 b1, .int .i64 b2, .int .i64 b3, .int .i64 b4, .int .i64 b5, .int .i64 b6] _ (fun W hg => (R8.out.below (GC13.out.trans hg)).range) Try.underlying37 rfl (by kernel_rfl)) ?_
  simp only [Act.put, List.setIfInBounds_toArray, List.set_cons_zero, List.set_cons_succ]
  refine wpG_call (some 28) 24 #[.agg #[.int .i64 b1, .int .i64 b2, .int .i64 b3, .int .i64 b4, .int .i64 b5, .int .i64 b6]] rfl (by rfl) (fun W => by go_simp) (fun W14 hg15 => ?_)
  refine (runs_any b1 b2 b3 b4 b5 b6 W14).mono ?_
  rintro e w16 ⟨A3, n3, c3, rfl, hn, own, bel⟩
  refine ⟨_, rfl, ?_⟩
  rw [← HRL.out] at hn own
  rw [HEV.out]
  have hnn : m = n3 := by rw [hn, HM.out]
  subst hnn
  have hGW := Gr.to G7.out (GC13.out.trans hg15)
  have R18 := Lib.hid ((R8.out.below (GC13.out.trans hg15)).below bel)
  have R19 := Lib.hid ((R9.out.below (GC13.out.trans hg15)).below bel)
  have OW20 := Lib.hid (own_gr (own_gr OW10.out (GC13.out.trans hg15)) bel)
  have OW21 := Lib.hid (own_mono own hGW.size)
  have G17 := Lib.hid (hGW.trans (bel.mono hGW.size))
  clear own bel hGW hn hg15
  simp only [Act.put, List.setIfInBounds_toArray, List.set_cons_zero, List.set_cons_succ]
  refine @wpG_tk _ _ _ _ _ (some 26) (.tuple #[.slice A3 m c3, .int .i64 2]) _ _ rfl (.val (by rfl) (fun _ _ => rfl)) ?_
  simp only [Act.put, List.setIfInBounds_toArray, List.set_cons_zero, List.set_cons_succ]
  refine @wpG_tk _ _ _ _ _ (some 29) (.slice A3 m c3) _ _ rfl (.val (by rfl) (fun W hg => by go_simp)) ?_
  simp only [Act.put, List.setIfInBounds_toArray, List.set_cons_zero, List.set_cons_succ]
  refine @wpG_tk _ _ _ _ _ (some 30) (.int .i64 2) _ _ rfl (.val (by rfl) (fun W hg => by go_simp)) ?_
  simp only [Act.put, List.setIfInBounds_toArray, List.set_cons_zero, List.set_cons_succ]
  refine @wpG_tk _ _ _ _ _ (some 8) (.slice A3 m c3) _ _ rfl (.val (by rfl) (fun _ _ => rfl)) ?_
  simp only [Act.put, List.setIfInBounds_toArray, List.set_cons_zero, List.set_cons_succ]
  refine @wpG_tk _ _ _ _ _ (some 9) (.int .i64 2) _ _ rfl (.val (by rfl) (fun _ _ => rfl)) ?_
  simp only [Act.put, List.setIfInBounds_toArray, List.set_cons_zero, List.set_cons_succ]
  refine wpG_done (fun V22 hv23 => ?_)
  have GC24 := Lib.hid hv23
  clear hv23
  go_upto_region 4 with fail
  refine wpG_region ?_
  refine @wpG_tk _ _ _ _ _ (some 31) (.bool true) _ _ rfl (.val (by rfl) (fun _ _ => rfl)) ?_
  simp only [Act.put, List.setIfInBounds_toArray, List.set_cons_zero, List.set_cons_succ]
  refine @wpG_tk _ _ _ _ _ (some 32) (.bool false) _ _ rfl (.val (by rfl) (fun W hg => by go_simp)) ?_
  simp only [Act.put, List.setIfInBounds_toArray, List.set_cons_zero, List.set_cons_succ]
  refine @wpG_tk _ _ _ _ _ (some 33) (.bool false) _ _ rfl (.val (by rfl) (fun _ _ => rfl)) ?_
  simp only [Act.put, List.setIfInBounds_toArray, List.set_cons_zero, List.set_cons_succ]
  refine @wpG_tk _ _ _ _ _ (some 34) (.int .i64 2) _ _ rfl (.val (by rfl) (fun _ _ => rfl)) ?_
  simp only [Act.put, List.setIfInBounds_toArray, List.set_cons_zero, List.set_cons_succ]
  refine @wpG_tk _ _ _ _ _ (some 35) (.bool true) _ _ rfl (.val (by rfl) (fun W hg => by have hq : (2 ≠ 0) := (by omega); first | (go_simp; done) | (go_simp <;> omega))) ?_
  simp only [Act.put, List.setIfInBounds_toArray, List.set_cons_zero, List.set_cons_succ]
  refine @wpG_tk _ _ _ _ _ (some 36) (.bool true) _ _ rfl (.val (by rfl) (fun W hg => by go_simp)) ?_
  simp only [Act.put, List.setIfInBounds_toArray, List.set_cons_zero, List.set_cons_succ]
  refine @wpG_tk _ _ _ _ _ (some 37) (.bool true) _ _ rfl (.val (by rfl) (fun _ _ => rfl)) ?_
  simp only [Act.put, List.setIfInBounds_toArray, List.set_cons_zero, List.set_cons_succ]
  refine @wpG_tk _ _ _ _ _ (some 38) (undef) _ _ rfl (.no (by rfl)) ?_
  simp only [Act.put, List.setIfInBounds_toArray, List.set_cons_zero, List.set_cons_succ]
  refine @wpG_tk _ _ _ _ _ (some 39) (undef) _ _ rfl (.no (by rfl)) ?_
  simp only [Act.put, List.setIfInBounds_toArray, List.set_cons_zero, List.set_cons_succ]
  refine @wpG_tk _ _ _ _ _ (some 40) (.bool true) _ _ rfl (.val (by rfl) (fun W hg => by go_simp)) ?_
  simp only [Act.put, List.setIfInBounds_toArray, List.set_cons_zero, List.set_cons_succ]
  refine wpG_done (fun V25 hv26 => ?_)
  have GC27 := Lib.hid (GC24.out.trans hv26)
  clear hv26
  go_upto_region 5 with fail
  refine wpG_region ?_
  refine @wpG_tk _ _ _ _ _ (some 41) (.bool true) _ _ rfl (.call (f := 21) (args := #[]) (by rfl) (fun W => by go_simp) (fun W hg => sanity_any W)) ?_
  simp only [Act.put, List.setIfInBounds_toArray, List.set_cons_zero, List.set_cons_succ]
  refine @wpG_tk _ _ _ _ _ (some 42) (.bool true) _ _ rfl (.val (by rfl) (fun _ _ => rfl)) ?_
  simp only [Act.put, List.setIfInBounds_toArray, List.set_cons_zero, List.set_cons_succ]
  refine @wpG_tk _ _ _ _ _ (some 43) (.bool true) _ _ rfl (.val (by rfl) (fun _ _ => rfl)) ?_
  simp only [Act.put, List.setIfInBounds_toArray, List.set_cons_zero, List.set_cons_succ]
  refine @wpG_tk _ _ _ _ _ (some 44) (.bool false) _ _ rfl (.val (by rfl) (fun W hg => by go_simp)) ?_
  simp only [Act.put, List.setIfInBounds_toArray, List.set_cons_zero, List.set_cons_succ]
  refine @wpG_tk _ _ _ _ _ (some 45) (.bool false) _ _ rfl (.val (by rfl) (fun _ _ => rfl)) ?_
  simp only [Act.put, List.setIfInBounds_toArray, List.set_cons_zero, List.set_cons_succ]
  refine @wpG_tk _ _ _ _ _ (some 46) (.int .i64 2) _ _ rfl (.val (by rfl) (fun _ _ => rfl)) ?_
  simp only [Act.put, List.setIfInBounds_toArray, List.set_cons_zero, List.set_cons_succ]
  refine @wpG_tk _ _ _ _ _ (some 47) (.int .i64 2) _ _ rfl (.val (by rfl) (fun _ _ => rfl)) ?_
  simp only [Act.put, List.setIfInBounds_toArray, List.set_cons_zero, List.set_cons_succ]
  refine @wpG_tk _ _ _ _ _ (some 48) (.bool true) _ _ rfl (.val (by rfl) (fun W hg => by go_simp)) ?_
  simp only [Act.put, List.setIfInBounds_toArray, List.set_cons_zero, List.set_cons_succ]
  refine @wpG_tk _ _ _ _ _ (some 49) (.bool true) _ _ rfl (.val (by rfl) (fun W hg => by go_simp)) ?_
  simp only [Act.put, List.setIfInBounds_toArray, List.set_cons_zero, List.set_cons_succ]
  refine @wpG_tk _ _ _ _ _ (some 50) (.bool true) _ _ rfl (.val (by rfl) (fun W hg => by go_simp)) ?_
  simp only [Act.put, List.setIfInBounds_toArray, List.set_cons_zero, List.set_cons_succ]
  refine @wpG_tk _ _ _ _ _ (some 4) (.bool true) _ _ rfl (.val (by rfl) (fun _ _ => rfl)) ?_
  simp only [Act.put, List.setIfInBounds_toArray, List.set_cons_zero, List.set_cons_succ]
  refine wpG_done (fun V28 hv29 => ?_)
  have GC30 := Lib.hid (GC27.out.trans hv29)
  clear hv29
  go_wp2_with fail
  go_ret
  exact ⟨rfl, Gr.to G17.out GC30.out⟩

end Go.Proofs.Ytmjjkloeipoefaa
