/-
  voxellaw05.MortonNeighbours, its walk.
-/
import Derived.Test.YtmjjkloeipoefaaMosan
import Derived.Test.YtmjjkloeipoefaaMo10
import Derived.Handy
namespace Go.Proofs.Ytmjjkloeipoefaa
open Go.RowKit
set_option linter.unusedVariables false
set_option maxRecDepth 1000000 in
set_option maxHeartbeats 4000000 in
theorem law6_0 (x y z a : Int) (ub : Bool) (w : World) (h : Mo.nb (Mo.enc x y z) a ub < 0) :
    Calls Try.prog 8 #[.agg #[.int .i64 x, .int .i64 y, .int .i64 z], .int .i64 a, .bool ub] w fun e w' => e = .returned (.bool true) ∧ Below w.heap.size w w' := by
  obtain ⟨n, hn⟩ : ∃ n, n = Mo.enc x y z := ⟨_, rfl⟩
  obtain ⟨m, hm⟩ : ∃ m, m = Mo.nb n a ub := ⟨_, rfl⟩
  rw [← hn, ← hm] at h
  have hge := (Mo.nb_ge n a ub).1
  rw [← hm] at hge
  have HN := Lib.hid hn
  have HM := Lib.hid hm
  clear hn hm
  obtain ⟨u, hu, r0, g0⟩ := rows1 w [.int .i64 x, .int .i64 y, .int .i64 z] 23
  have R0 := Lib.hid r0
  have G0 := Lib.hid g0
  have HU := Lib.hid hu
  clear hu g0 r0
  go_enter Try.func8, Try.ntmps8
  go_upto_region 1 with fail
  rw [← HU.out]
  refine wpG_region ?_
  refine @wpG_tk _ _ _ _ _ (some 15) (.agg #[.int .i64 x, .int .i64 y, .int .i64 z]) _ _ rfl (.load_mid (by rfl) 23 (.tmp 3) rfl (w.heap.size) 0 rfl [.int .i64 x, .int .i64 y, .int .i64 z] _ (fun W hg => (R0.out.below hg).range) Try.underlying23 rfl (by kernel_rfl)) ?_
  simp only [Act.put, List.setIfInBounds_toArray, List.set_cons_zero, List.set_cons_succ]
  refine @wpG_tk _ _ _ _ _ (some 16) (.int .i64 n) _ _ rfl (.call (f := 13) (args := #[.agg #[.int .i64 x, .int .i64 y, .int .i64 z]]) (by rfl) (fun W => by go_simp) (fun W hg => (HN.out ▸ encode_any x y z W))) ?_
  simp only [Act.put, List.setIfInBounds_toArray, List.set_cons_zero, List.set_cons_succ]
  refine @wpG_tk _ _ _ _ _ (some 7) (.int .i64 n) _ _ rfl (.val (by rfl) (fun _ _ => rfl)) ?_
  simp only [Act.put, List.setIfInBounds_toArray, List.set_cons_zero, List.set_cons_succ]
  refine wpG_done (fun V1 hv2 => ?_)
  have GC3 := Lib.hid hv2
  clear hv2
  go_upto_region 2 with fail
  refine wpG_region ?_
  refine @wpG_tk _ _ _ _ _ (some 17) (.int .i64 n) _ _ rfl (.val (by rfl) (fun _ _ => rfl)) ?_
  simp only [Act.put, List.setIfInBounds_toArray, List.set_cons_zero, List.set_cons_succ]
  refine @wpG_tk _ _ _ _ _ (some 18) (.int .i64 a) _ _ rfl (.val (by rfl) (fun _ _ => rfl)) ?_
  simp only [Act.put, List.setIfInBounds_toArray, List.set_cons_zero, List.set_cons_succ]
  refine @wpG_tk _ _ _ _ _ (some 19) (.bool ub) _ _ rfl (.val (by rfl) (fun _ _ => rfl)) ?_
  simp only [Act.put, List.setIfInBounds_toArray, List.set_cons_zero, List.set_cons_succ]
  refine @wpG_tk _ _ _ _ _ (some 20) (.int .i64 m) _ _ rfl (.call (f := 19) (args := #[.int .i64 n, .int .i64 a, .bool ub]) (by rfl) (fun W => by go_simp) (fun W hg => (HM.out ▸ neighbour_any n a ub W))) ?_
  simp only [Act.put, List.setIfInBounds_toArray, List.set_cons_zero, List.set_cons_succ]
  refine @wpG_tk _ _ _ _ _ (some 8) (.int .i64 m) _ _ rfl (.val (by rfl) (fun _ _ => rfl)) ?_
  simp only [Act.put, List.setIfInBounds_toArray, List.set_cons_zero, List.set_cons_succ]
  refine wpG_done (fun V4 hv5 => ?_)
  have GC6 := Lib.hid (GC3.out.trans hv5)
  clear hv5
  go_upto_region 3 with fail
  refine wpG_region ?_
  refine @wpG_tk _ _ _ _ _ (some 21) (.int .i64 m) _ _ rfl (.val (by rfl) (fun _ _ => rfl)) ?_
  simp only [Act.put, List.setIfInBounds_toArray, List.set_cons_zero, List.set_cons_succ]
  refine @wpG_tk _ _ _ _ _ (some 22) (.bool true) _ _ rfl (.val (by rfl) (fun W hg => by have hq : (m < 0) := (by omega); first | (go_simp; done) | (go_simp <;> omega))) ?_
  simp only [Act.put, List.setIfInBounds_toArray, List.set_cons_zero, List.set_cons_succ]
  refine wpG_done (fun V7 hv8 => ?_)
  have GC9 := Lib.hid (GC6.out.trans hv8)
  clear hv8
  go_upto_region 4 with fail
  refine wpG_region ?_
  refine @wpG_tk _ _ _ _ _ (some 23) (.bool true) _ _ rfl (.call (f := 21) (args := #[]) (by rfl) (fun W => by go_simp) (fun W hg => sanity_any W)) ?_
  simp only [Act.put, List.setIfInBounds_toArray, List.set_cons_zero, List.set_cons_succ]
  refine @wpG_tk _ _ _ _ _ (some 24) (.bool true) _ _ rfl (.val (by rfl) (fun _ _ => rfl)) ?_
  simp only [Act.put, List.setIfInBounds_toArray, List.set_cons_zero, List.set_cons_succ]
  refine @wpG_tk _ _ _ _ _ (some 25) (.int .i64 m) _ _ rfl (.val (by rfl) (fun _ _ => rfl)) ?_
  simp only [Act.put, List.setIfInBounds_toArray, List.set_cons_zero, List.set_cons_succ]
  refine @wpG_tk _ _ _ _ _ (some 26) (.bool true) _ _ rfl (.val (by rfl) (fun W hg => by have hq : (m = (-1)) := (by omega); first | (go_simp; done) | (go_simp <;> omega))) ?_
  simp only [Act.put, List.setIfInBounds_toArray, List.set_cons_zero, List.set_cons_succ]
  refine @wpG_tk _ _ _ _ _ (some 27) (.bool true) _ _ rfl (.val (by rfl) (fun W hg => by go_simp)) ?_
  simp only [Act.put, List.setIfInBounds_toArray, List.set_cons_zero, List.set_cons_succ]
  refine @wpG_tk _ _ _ _ _ (some 6) (.bool true) _ _ rfl (.val (by rfl) (fun _ _ => rfl)) ?_
  simp only [Act.put, List.setIfInBounds_toArray, List.set_cons_zero, List.set_cons_succ]
  refine wpG_done (fun V10 hv11 => ?_)
  have GC12 := Lib.hid (GC9.out.trans hv11)
  clear hv11
  go_wp2_with fail
  go_ret
  exact ⟨rfl, Gr.to G0.out GC12.out⟩
set_option maxRecDepth 1000000 in
set_option maxHeartbeats 4000000 in
theorem law6_1 (x y z a : Int) (ub : Bool) (w : World) (h : ¬ Mo.nb (Mo.enc x y z) a ub < 0) :
    Calls Try.prog 8 #[.agg #[.int .i64 x, .int .i64 y, .int .i64 z], .int .i64 a, .bool ub] w fun e w' => e = .returned (.bool true) ∧ Below w.heap.size w w' := by
  obtain ⟨n, hn⟩ : ∃ n, n = Mo.enc x y z := ⟨_, rfl⟩
  obtain ⟨m, hm⟩ : ∃ m, m = Mo.nb n a ub := ⟨_, rfl⟩
  obtain ⟨hi, hk, hb, hne⟩ := Mo.nb_all h
  rw [← hn, ← hm] at h hk hb hne
  obtain ⟨d0, hd0⟩ : ∃ d, Mo.dec 0 m = d := ⟨_, rfl⟩
  obtain ⟨d1, hd1⟩ : ∃ d, Mo.dec 1 m = d := ⟨_, rfl⟩
  obtain ⟨d2, hd2⟩ : ∃ d, Mo.dec 2 m = d := ⟨_, rfl⟩
  have hid := Mo.inB_dec m
  have hme := Mo.enc_dec hk
  rw [hd0, hd1, hd2] at hid hme
  have hne2 : Mo.enc x y z ≠ Mo.enc d0 d1 d2 := by rw [hme, ← hn]; exact hne
  obtain ⟨L, hc3, hL1, hL2, hf0, hf1, hf2, hf3, hf4⟩ := Mo.com_all hi hid hne2
  rw [← hn] at hf1 hf3
  rw [hme] at hf2 hf4
  obtain ⟨c0, hc0⟩ : ∃ c, Mo.com 0 x y z d0 d1 d2 = c := ⟨_, rfl⟩
  obtain ⟨c1, hc1⟩ : ∃ c, Mo.com 1 x y z d0 d1 d2 = c := ⟨_, rfl⟩
  obtain ⟨c2, hc2⟩ : ∃ c, Mo.com 2 x y z d0 d1 d2 = c := ⟨_, rfl⟩
  rw [hc0, hc1, hc2] at hf0 hf1 hf2 hf3 hf4
  obtain ⟨first, hfi⟩ : ∃ f, f = Mo.enc c0 c1 c2 := ⟨_, rfl⟩
  rw [← hfi] at hf0 hf1 hf2 hf3 hf4
  obtain ⟨s, hs⟩ : ∃ s, s = Mo.pw L := ⟨_, rfl⟩
  obtain ⟨s2, hs2⟩ : ∃ q, s * s = q := ⟨_, rfl⟩
  obtain ⟨s3, hs3⟩ : ∃ q, s2 * s = q := ⟨_, rfl⟩
  have hs33 : s3 = Mo.pw (3 * L) := by rw [← hs3, ← hs2, hs]; exact Mo.pw_three L
  have hb1 := Mo.pw_pos L
  have hb2 := Mo.pw14 hL2
  have hb3 := Mo.pw42 hL2
  rw [← hs] at hb1 hb2
  rw [← hs33] at hb3 hf3 hf4
  have hb4 : 0 ≤ s2 ∧ s2 ≤ 16384 * 16384 := by
    rw [← hs2]; exact ⟨Int.mul_nonneg (by omega) (by omega), Int.mul_le_mul (by omega) (by omega) (by omega) (by omega)⟩
  have hb5 : 1 ≤ s3 := by rw [hs33]; exact Mo.pw_pos _
  have hfb : first < 4398046511104 := by rw [hfi]; exact (Mo.enc_bd _ _ _).2
  have hnb : n < 4398046511104 := by rw [hn]; exact (Mo.enc_bd _ _ _).2
  have hib : (Mo.inB x y z && Mo.inB d0 d1 d2) = true := by rw [hi, hid]; rfl
  have HN := Lib.hid hn
  have HM := Lib.hid hm
  have HB := Lib.hid hb
  have HK := Lib.hid hk
  have HD0 := Lib.hid hd0
  have HD1 := Lib.hid hd1
  have HD2 := Lib.hid hd2
  have HC0 := Lib.hid hc0
  have HC1 := Lib.hid hc1
  have HC2 := Lib.hid hc2
  have HC3 := Lib.hid hc3
  have HI := Lib.hid hib
  have HF := Lib.hid hfi
  have HSS := Lib.hid hs
  have HS2 := Lib.hid hs2
  have HS3 := Lib.hid hs3
  clear hn hm hb hk hd0 hd1 hd2 hc0 hc1 hc2 hc3 hib hfi hs hs2 hs3 hs33 hi hid hme hne hne2
  obtain ⟨u, hu, r0, g0⟩ := rows1 w [.int .i64 x, .int .i64 y, .int .i64 z] 23
  have R0 := Lib.hid r0
  have G0 := Lib.hid g0
  have HU := Lib.hid hu
  clear hu g0 r0
  go_enter Try.func8, Try.ntmps8
  go_upto_region 1 with fail
  rw [← HU.out]
  refine wpG_region ?_
  refine @wpG_tk _ _ _ _ _ (some 15) (.agg #[.int .i64 x, .int .i64 y, .int .i64 z]) _ _ rfl (.load_mid (by rfl) 23 (.tmp 3) rfl (w.heap.size) 0 rfl [.int .i64 x, .int .i64 y, .int .i64 z] _ (fun W hg => (R0.out.below hg).range) Try.underlying23 rfl (by kernel_rfl)) ?_
  simp only [Act.put, List.setIfInBounds_toArray, List.set_cons_zero, List.set_cons_succ]
  refine @wpG_tk _ _ _ _ _ (some 16) (.int .i64 n) _ _ rfl (.call (f := 13) (args := #[.agg #[.int .i64 x, .int .i64 y, .int .i64 z]]) (by rfl) (fun W => by go_simp) (fun W hg => (HN.out ▸ encode_any x y z W))) ?_
  simp only [Act.put, List.setIfInBounds_toArray, List.set_cons_zero, List.set_cons_succ]
  refine @wpG_tk _ _ _ _ _ (some 7) (.int .i64 n) _ _ rfl (.val (by rfl) (fun _ _ => rfl)) ?_
  simp only [Act.put, List.setIfInBounds_toArray, List.set_cons_zero, List.set_cons_succ]
  refine wpG_done (fun V1 hv2 => ?_)
  have GC3 := Lib.hid hv2
  clear hv2
  go_upto_region 2 with fail
  refine wpG_region ?_
  refine @wpG_tk _ _ _ _ _ (some 17) (.int .i64 n) _ _ rfl (.val (by rfl) (fun _ _ => rfl)) ?_
  simp only [Act.put, List.setIfInBounds_toArray, List.set_cons_zero, List.set_cons_succ]
  refine @wpG_tk _ _ _ _ _ (some 18) (.int .i64 a) _ _ rfl (.val (by rfl) (fun _ _ => rfl)) ?_
  simp only [Act.put, List.setIfInBounds_toArray, List.set_cons_zero, List.set_cons_succ]
  refine @wpG_tk _ _ _ _ _ (some 19) (.bool ub) _ _ rfl (.val (by rfl) (fun _ _ => rfl)) ?_
  simp only [Act.put, List.setIfInBounds_toArray, List.set_cons_zero, List.set_cons_succ]
  refine @wpG_tk _ _ _ _ _ (some 20) (.int .i64 m) _ _ rfl (.call (f := 19) (args := #[.int .i64 n, .int .i64 a, .bool ub]) (by rfl) (fun W => by go_simp) (fun W hg => (HM.out ▸ neighbour_any n a ub W))) ?_
  simp only [Act.put, List.setIfInBounds_toArray, List.set_cons_zero, List.set_cons_succ]
  refine @wpG_tk _ _ _ _ _ (some 8) (.int .i64 m) _ _ rfl (.val (by rfl) (fun _ _ => rfl)) ?_
  simp only [Act.put, List.setIfInBounds_toArray, List.set_cons_zero, List.set_cons_succ]
  refine wpG_done (fun V4 hv5 => ?_)
  have GC6 := Lib.hid (GC3.out.trans hv5)
  clear hv5
  go_upto_region 3 with fail
  refine wpG_region ?_
  refine @wpG_tk _ _ _ _ _ (some 21) (.int .i64 m) _ _ rfl (.val (by rfl) (fun _ _ => rfl)) ?_
  simp only [Act.put, List.setIfInBounds_toArray, List.set_cons_zero, List.set_cons_succ]
  refine @wpG_tk _ _ _ _ _ (some 22) (.bool false) _ _ rfl (.val (by rfl) (fun W hg => by have hq : ¬ (m < 0) := (by omega); first | (go_simp; done) | (go_simp <;> omega))) ?_
  simp only [Act.put, List.setIfInBounds_toArray, List.set_cons_zero, List.set_cons_succ]
  refine wpG_done (fun V7 hv8 => ?_)
  have GC9 := Lib.hid (GC6.out.trans hv8)
  clear hv8
  go_upto_region 5 with fail
  refine wpG_region ?_
  refine @wpG_tk _ _ _ _ _ (some 29) (.int .i64 m) _ _ rfl (.val (by rfl) (fun _ _ => rfl)) ?_
  simp only [Act.put, List.setIfInBounds_toArray, List.set_cons_zero, List.set_cons_succ]
  refine @wpG_tk _ _ _ _ _ (some 30) (.tuple #[.agg #[.int .i64 d0, .int .i64 d1, .int .i64 d2], .bool true]) _ _ rfl (.call (f := 9) (args := #[.int .i64 m]) (by rfl) (fun W => by go_simp) (fun W hg => rename (decode_any m W) (by rw [HD0.out, HD1.out, HD2.out, HK.out]))) ?_
  simp only [Act.put, List.setIfInBounds_toArray, List.set_cons_zero, List.set_cons_succ]
  refine @wpG_tk _ _ _ _ _ (some 28) (.tuple #[.agg #[.int .i64 d0, .int .i64 d1, .int .i64 d2], .bool true]) _ _ rfl (.val (by rfl) (fun _ _ => rfl)) ?_
  simp only [Act.put, List.setIfInBounds_toArray, List.set_cons_zero, List.set_cons_succ]
  refine @wpG_tk _ _ _ _ _ (some 31) (.agg #[.int .i64 d0, .int .i64 d1, .int .i64 d2]) _ _ rfl (.val (by rfl) (fun W hg => by go_simp)) ?_
  simp only [Act.put, List.setIfInBounds_toArray, List.set_cons_zero, List.set_cons_succ]
  refine @wpG_tk _ _ _ _ _ (some 32) (.bool true) _ _ rfl (.val (by rfl) (fun W hg => by go_simp)) ?_
  simp only [Act.put, List.setIfInBounds_toArray, List.set_cons_zero, List.set_cons_succ]
  refine wpG_val (some 9) rfl (by rfl) (fun W10 hg11 => ⟨.pointer (some ⟨W10.heap.size, 0, none⟩), W10.alloc (.cells #[.int .i64 0, .int .i64 0, .int .i64 0] 23), by (go_simp <;> rfl), ?_⟩)
  simp only [Act.put, List.setIfInBounds_toArray, List.set_cons_zero, List.set_cons_succ]
  refine wpG_store (none) rfl (by rfl) (fun W12 hg13 => ⟨_, run_store_mid 23 (.tmp 9) (.tmp 31) rfl (W10.heap.size) 0 #[.int .i64 d0, .int .i64 d1, .int .i64 d2] rfl rfl (Row.room hg13 3 rfl) (by kernel_rfl) (by kernel_rfl), ?_⟩)
  simp only [Act.put]
  refine @wpG_tk _ _ _ _ _ (some 10) (.bool true) _ _ rfl (.val (by rfl) (fun _ _ => rfl)) ?_
  simp only [Act.put, List.setIfInBounds_toArray, List.set_cons_zero, List.set_cons_succ]
  refine wpG_done (fun V14 hv15 => ?_)
  have l17 : w.heap.size < W10.heap.size := (R0.out.below (GC9.out.trans hg11)).lt
  have l18 : w.heap.size ≤ W10.heap.size := (Gr.to G0.out (GC9.out.trans hg11)).size
  have R19 := Lib.hid ((R0.out.below (GC9.out.trans hg11)).past hg13 hv15)
  have R20 := Lib.hid (Row.made (zs := [.int .i64 0, .int .i64 0, .int .i64 0]) (ds := [.int .i64 d0, .int .i64 d1, .int .i64 d2]) rfl hg13 hv15)
  have G16 := Lib.hid (Gr.to (Gr.to G0.out (GC9.out.trans hg11)) (Gr.past hg13 hv15))
  clear hg13 hv15 
  go_upto_region 6 with fail
  refine wpG_region ?_
  refine @wpG_tk _ _ _ _ _ (some 34) (.agg #[.int .i64 x, .int .i64 y, .int .i64 z]) _ _ rfl (.load_mid (by rfl) 23 (.tmp 3) rfl (w.heap.size) 0 rfl [.int .i64 x, .int .i64 y, .int .i64 z] _ (fun W hg => (R19.out.below hg).range) Try.underlying23 rfl (by kernel_rfl)) ?_
  simp only [Act.put, List.setIfInBounds_toArray, List.set_cons_zero, List.set_cons_succ]
  refine @wpG_tk _ _ _ _ _ (some 35) (.agg #[.int .i64 d0, .int .i64 d1, .int .i64 d2]) _ _ rfl (.load_mid (by rfl) 23 (.tmp 9) rfl (W10.heap.size) 0 rfl [.int .i64 d0, .int .i64 d1, .int .i64 d2] _ (fun W hg => (R20.out.below hg).range) Try.underlying23 rfl (by kernel_rfl)) ?_
  simp only [Act.put, List.setIfInBounds_toArray, List.set_cons_zero, List.set_cons_succ]
  refine @wpG_tk _ _ _ _ _ (some 36) (.tuple #[.agg #[.int .i64 c0, .int .i64 c1, .int .i64 c2, .int .i64 (L : Int)], .bool true]) _ _ rfl (.call (f := 11) (args := #[.agg #[.int .i64 x, .int .i64 y, .int .i64 z], .agg #[.int .i64 d0, .int .i64 d1, .int .i64 d2]]) (by rfl) (fun W => by go_simp) (fun W hg => rename (common_any x y z d0 d1 d2 W) (by rw [HC0.out, HC1.out, HC2.out, HC3.out, HI.out]))) ?_
  simp only [Act.put, List.setIfInBounds_toArray, List.set_cons_zero, List.set_cons_succ]
  refine @wpG_tk _ _ _ _ _ (some 33) (.tuple #[.agg #[.int .i64 c0, .int .i64 c1, .int .i64 c2, .int .i64 (L : Int)], .bool true]) _ _ rfl (.val (by rfl) (fun _ _ => rfl)) ?_
  simp only [Act.put, List.setIfInBounds_toArray, List.set_cons_zero, List.set_cons_succ]
  refine @wpG_tk _ _ _ _ _ (some 37) (.agg #[.int .i64 c0, .int .i64 c1, .int .i64 c2, .int .i64 (L : Int)]) _ _ rfl (.val (by rfl) (fun W hg => by go_simp)) ?_
  simp only [Act.put, List.setIfInBounds_toArray, List.set_cons_zero, List.set_cons_succ]
  refine @wpG_tk _ _ _ _ _ (some 38) (.bool true) _ _ rfl (.val (by rfl) (fun W hg => by go_simp)) ?_
  simp only [Act.put, List.setIfInBounds_toArray, List.set_cons_zero, List.set_cons_succ]
  refine wpG_val (some 11) rfl (by rfl) (fun W21 hg22 => ⟨.pointer (some ⟨W21.heap.size, 0, none⟩), W21.alloc (.cells #[.int .i64 0, .int .i64 0, .int .i64 0, .int .i64 0] 27), by (go_simp <;> rfl), ?_⟩)
  simp only [Act.put, List.setIfInBounds_toArray, List.set_cons_zero, List.set_cons_succ]
  refine wpG_store (none) rfl (by rfl) (fun W23 hg24 => ⟨_, run_store_mid 27 (.tmp 11) (.tmp 37) rfl (W21.heap.size) 0 #[.int .i64 c0, .int .i64 c1, .int .i64 c2, .int .i64 (L : Int)] rfl rfl (Row.room hg24 4 rfl) (by kernel_rfl) (by kernel_rfl), ?_⟩)
  simp only [Act.put]
  refine @wpG_tk _ _ _ _ _ (some 12) (.bool true) _ _ rfl (.val (by rfl) (fun _ _ => rfl)) ?_
  simp only [Act.put, List.setIfInBounds_toArray, List.set_cons_zero, List.set_cons_succ]
  refine wpG_done (fun V25 hv26 => ?_)
  have l28 : w.heap.size < W21.heap.size := (R19.out.below hg22).lt
  have l29 : W10.heap.size < W21.heap.size := (R20.out.below hg22).lt
  have l30 : w.heap.size ≤ W21.heap.size := (Gr.to G16.out hg22).size
  have R31 := Lib.hid ((R19.out.below hg22).past hg24 hv26)
  have R32 := Lib.hid ((R20.out.below hg22).past hg24 hv26)
  have R33 := Lib.hid (Row.made (zs := [.int .i64 0, .int .i64 0, .int .i64 0, .int .i64 0]) (ds := [.int .i64 c0, .int .i64 c1, .int .i64 c2, .int .i64 (L : Int)]) rfl hg24 hv26)
  have G27 := Lib.hid (Gr.to (Gr.to G16.out hg22) (Gr.past hg24 hv26))
  clear hg24 hv26 
  go_upto_region 7 with fail
  refine wpG_region ?_
  refine @wpG_tk _ _ _ _ _ (some 39) (.bool true) _ _ rfl (.val (by rfl) (fun _ _ => rfl)) ?_
  simp only [Act.put, List.setIfInBounds_toArray, List.set_cons_zero, List.set_cons_succ]
  refine @wpG_tk _ _ _ _ _ (some 40) (.bool false) _ _ rfl (.val (by rfl) (fun W hg => by go_simp)) ?_
  simp only [Act.put, List.setIfInBounds_toArray, List.set_cons_zero, List.set_cons_succ]
  refine @wpG_tk _ _ _ _ _ (some 41) (.bool false) _ _ rfl (.val (by rfl) (fun _ _ => rfl)) ?_
  simp only [Act.put, List.setIfInBounds_toArray, List.set_cons_zero, List.set_cons_succ]
  refine @wpG_tk _ _ _ _ _ (some 42) (.bool true) _ _ rfl (.val (by rfl) (fun _ _ => rfl)) ?_
  simp only [Act.put, List.setIfInBounds_toArray, List.set_cons_zero, List.set_cons_succ]
  refine @wpG_tk _ _ _ _ _ (some 43) (.bool false) _ _ rfl (.val (by rfl) (fun W hg => by go_simp)) ?_
  simp only [Act.put, List.setIfInBounds_toArray, List.set_cons_zero, List.set_cons_succ]
  refine @wpG_tk _ _ _ _ _ (some 44) (.bool false) _ _ rfl (.val (by rfl) (fun W hg => by go_simp)) ?_
  simp only [Act.put, List.setIfInBounds_toArray, List.set_cons_zero, List.set_cons_succ]
  refine @wpG_tk _ _ _ _ _ (some 45) (.bool false) _ _ rfl (.val (by rfl) (fun _ _ => rfl)) ?_
  simp only [Act.put, List.setIfInBounds_toArray, List.set_cons_zero, List.set_cons_succ]
  refine @wpG_tk _ _ _ _ _ (some 46) (.int .i64 m) _ _ rfl (.val (by rfl) (fun _ _ => rfl)) ?_
  simp only [Act.put, List.setIfInBounds_toArray, List.set_cons_zero, List.set_cons_succ]
  refine @wpG_tk _ _ _ _ _ (some 47) (.int .i64 a) _ _ rfl (.val (by rfl) (fun _ _ => rfl)) ?_
  simp only [Act.put, List.setIfInBounds_toArray, List.set_cons_zero, List.set_cons_succ]
  refine @wpG_tk _ _ _ _ _ (some 48) (.bool ub) _ _ rfl (.val (by rfl) (fun _ _ => rfl)) ?_
  simp only [Act.put, List.setIfInBounds_toArray, List.set_cons_zero, List.set_cons_succ]
  refine @wpG_tk _ _ _ _ _ (some 49) (.bool (!ub)) _ _ rfl (.val (by rfl) (fun W hg => by go_simp)) ?_
  simp only [Act.put, List.setIfInBounds_toArray, List.set_cons_zero, List.set_cons_succ]
  refine @wpG_tk _ _ _ _ _ (some 50) (.int .i64 n) _ _ rfl (.call (f := 19) (args := #[.int .i64 m, .int .i64 a, .bool (!ub)]) (by rfl) (fun W => by go_simp) (fun W hg => (HB.out ▸ neighbour_any m a (!ub) W))) ?_
  simp only [Act.put, List.setIfInBounds_toArray, List.set_cons_zero, List.set_cons_succ]
  refine @wpG_tk _ _ _ _ _ (some 51) (.int .i64 n) _ _ rfl (.val (by rfl) (fun _ _ => rfl)) ?_
  simp only [Act.put, List.setIfInBounds_toArray, List.set_cons_zero, List.set_cons_succ]
  refine @wpG_tk _ _ _ _ _ (some 52) (.bool false) _ _ rfl (.val (by rfl) (fun W hg => by have hq : ¬ (n ≠ n) := (by omega); first | (go_simp; done) | (go_simp <;> omega))) ?_
  simp only [Act.put, List.setIfInBounds_toArray, List.set_cons_zero, List.set_cons_succ]
  refine @wpG_tk _ _ _ _ _ (some 53) (.bool false) _ _ rfl (.val (by rfl) (fun W hg => by go_simp)) ?_
  simp only [Act.put, List.setIfInBounds_toArray, List.set_cons_zero, List.set_cons_succ]
  refine wpG_done (fun V34 hv35 => ?_)
  have GC36 := Lib.hid hv35
  clear hv35
  go_upto_region 9 with fail
  refine wpG_region ?_
  refine @wpG_tk _ _ _ _ _ (some 54) (.pointer (some ⟨W21.heap.size, 3, none⟩)) _ _ rfl (.val (by rfl) (fun W hg => by go_simp)) ?_
  simp only [Act.put, List.setIfInBounds_toArray, List.set_cons_zero, List.set_cons_succ]
  refine @wpG_tk _ _ _ _ _ (some 55) (.int .i64 (L : Int)) _ _ rfl (.val (by rfl) (fun W hg => by have c := (R33.out.below (GC36.out.trans hg) 3 _ rfl).1; go_simp)) ?_
  simp only [Act.put, List.setIfInBounds_toArray, List.set_cons_zero, List.set_cons_succ]
  refine @wpG_tk _ _ _ _ _ (some 56) (.int .i64 s) _ _ rfl (.val (by rfl) (fun W hg => by go_simp; rw [HSS.out]; exact wrap_pw L (by omega))) ?_
  simp only [Act.put, List.setIfInBounds_toArray, List.set_cons_zero, List.set_cons_succ]
  refine @wpG_tk _ _ _ _ _ (some 13) (.int .i64 s) _ _ rfl (.val (by rfl) (fun _ _ => rfl)) ?_
  simp only [Act.put, List.setIfInBounds_toArray, List.set_cons_zero, List.set_cons_succ]
  refine wpG_done (fun V37 hv38 => ?_)
  have GC39 := Lib.hid (GC36.out.trans hv38)
  clear hv38
  go_upto_region 10 with fail
  refine wpG_region ?_
  refine @wpG_tk _ _ _ _ _ (some 57) (.pointer (some ⟨W21.heap.size, 0, none⟩)) _ _ rfl (.val (by rfl) (fun W hg => by go_simp)) ?_
  simp only [Act.put, List.setIfInBounds_toArray, List.set_cons_zero, List.set_cons_succ]
  refine @wpG_tk _ _ _ _ _ (some 58) (.agg #[.int .i64 c0, .int .i64 c1, .int .i64 c2]) _ _ rfl (.load_mid (by rfl) 23 (.tmp 57) rfl (W21.heap.size) 0 rfl [.int .i64 c0, .int .i64 c1, .int .i64 c2] _ (fun W hg => ((R33.out.below (GC39.out.trans hg)).part 0 3 rfl)) Try.underlying23 rfl (by kernel_rfl)) ?_
  simp only [Act.put, List.setIfInBounds_toArray, List.set_cons_zero, List.set_cons_succ]
  refine @wpG_tk _ _ _ _ _ (some 59) (.int .i64 first) _ _ rfl (.call (f := 13) (args := #[.agg #[.int .i64 c0, .int .i64 c1, .int .i64 c2]]) (by rfl) (fun W => by go_simp) (fun W hg => (HF.out ▸ encode_any c0 c1 c2 W))) ?_
  simp only [Act.put, List.setIfInBounds_toArray, List.set_cons_zero, List.set_cons_succ]
  refine @wpG_tk _ _ _ _ _ (some 14) (.int .i64 first) _ _ rfl (.val (by rfl) (fun _ _ => rfl)) ?_
  simp only [Act.put, List.setIfInBounds_toArray, List.set_cons_zero, List.set_cons_succ]
  refine wpG_done (fun V40 hv41 => ?_)
  have GC42 := Lib.hid (GC39.out.trans hv41)
  clear hv41
  go_upto_region 11 with fail
  refine wpG_region ?_
  refine @wpG_tk _ _ _ _ _ (some 60) (.bool true) _ _ rfl (.call (f := 21) (args := #[]) (by rfl) (fun W => by go_simp) (fun W hg => sanity_any W)) ?_
  simp only [Act.put, List.setIfInBounds_toArray, List.set_cons_zero, List.set_cons_succ]
  refine @wpG_tk _ _ _ _ _ (some 61) (.bool true) _ _ rfl (.val (by rfl) (fun _ _ => rfl)) ?_
  simp only [Act.put, List.setIfInBounds_toArray, List.set_cons_zero, List.set_cons_succ]
  refine @wpG_tk _ _ _ _ _ (some 62) (.pointer (some ⟨W21.heap.size, 3, none⟩)) _ _ rfl (.val (by rfl) (fun W hg => by go_simp)) ?_
  simp only [Act.put, List.setIfInBounds_toArray, List.set_cons_zero, List.set_cons_succ]
  refine @wpG_tk _ _ _ _ _ (some 63) (.int .i64 (L : Int)) _ _ rfl (.val (by rfl) (fun W hg => by have c := (R33.out.below (GC42.out.trans hg) 3 _ rfl).1; go_simp)) ?_
  simp only [Act.put, List.setIfInBounds_toArray, List.set_cons_zero, List.set_cons_succ]
  refine @wpG_tk _ _ _ _ _ (some 64) (.bool true) _ _ rfl (.val (by rfl) (fun W hg => by have hq : ((L : Int) > 0) := (by omega); first | (go_simp; done) | (go_simp <;> omega))) ?_
  simp only [Act.put, List.setIfInBounds_toArray, List.set_cons_zero, List.set_cons_succ]
  refine @wpG_tk _ _ _ _ _ (some 65) (.bool true) _ _ rfl (.val (by rfl) (fun W hg => by go_simp)) ?_
  simp only [Act.put, List.setIfInBounds_toArray, List.set_cons_zero, List.set_cons_succ]
  refine @wpG_tk _ _ _ _ _ (some 66) (.bool true) _ _ rfl (.val (by rfl) (fun _ _ => rfl)) ?_
  simp only [Act.put, List.setIfInBounds_toArray, List.set_cons_zero, List.set_cons_succ]
  refine @wpG_tk _ _ _ _ _ (some 67) (.int .i64 n) _ _ rfl (.val (by rfl) (fun _ _ => rfl)) ?_
  simp only [Act.put, List.setIfInBounds_toArray, List.set_cons_zero, List.set_cons_succ]
  refine @wpG_tk _ _ _ _ _ (some 68) (.int .i64 first) _ _ rfl (.val (by rfl) (fun _ _ => rfl)) ?_
  simp only [Act.put, List.setIfInBounds_toArray, List.set_cons_zero, List.set_cons_succ]
  refine @wpG_tk _ _ _ _ _ (some 69) (.bool true) _ _ rfl (.val (by rfl) (fun W hg => by have hq : (n ≥ first) := (by omega); first | (go_simp; done) | (go_simp <;> omega))) ?_
  simp only [Act.put, List.setIfInBounds_toArray, List.set_cons_zero, List.set_cons_succ]
  refine @wpG_tk _ _ _ _ _ (some 70) (.bool true) _ _ rfl (.val (by rfl) (fun W hg => by go_simp)) ?_
  simp only [Act.put, List.setIfInBounds_toArray, List.set_cons_zero, List.set_cons_succ]
  refine @wpG_tk _ _ _ _ _ (some 71) (.bool true) _ _ rfl (.val (by rfl) (fun _ _ => rfl)) ?_
  simp only [Act.put, List.setIfInBounds_toArray, List.set_cons_zero, List.set_cons_succ]
  refine @wpG_tk _ _ _ _ _ (some 72) (.int .i64 m) _ _ rfl (.val (by rfl) (fun _ _ => rfl)) ?_
  simp only [Act.put, List.setIfInBounds_toArray, List.set_cons_zero, List.set_cons_succ]
  refine @wpG_tk _ _ _ _ _ (some 73) (.int .i64 first) _ _ rfl (.val (by rfl) (fun _ _ => rfl)) ?_
  simp only [Act.put, List.setIfInBounds_toArray, List.set_cons_zero, List.set_cons_succ]
  refine @wpG_tk _ _ _ _ _ (some 74) (.bool true) _ _ rfl (.val (by rfl) (fun W hg => by have hq : (m ≥ first) := (by omega); first | (go_simp; done) | (go_simp <;> omega))) ?_
  simp only [Act.put, List.setIfInBounds_toArray, List.set_cons_zero, List.set_cons_succ]
  refine @wpG_tk _ _ _ _ _ (some 75) (.bool true) _ _ rfl (.val (by rfl) (fun W hg => by go_simp)) ?_
  simp only [Act.put, List.setIfInBounds_toArray, List.set_cons_zero, List.set_cons_succ]
  refine @wpG_tk _ _ _ _ _ (some 76) (.bool true) _ _ rfl (.val (by rfl) (fun _ _ => rfl)) ?_
  simp only [Act.put, List.setIfInBounds_toArray, List.set_cons_zero, List.set_cons_succ]
  refine @wpG_tk _ _ _ _ _ (some 77) (.int .i64 n) _ _ rfl (.val (by rfl) (fun _ _ => rfl)) ?_
  simp only [Act.put, List.setIfInBounds_toArray, List.set_cons_zero, List.set_cons_succ]
  refine @wpG_tk _ _ _ _ _ (some 78) (.int .i64 first) _ _ rfl (.val (by rfl) (fun _ _ => rfl)) ?_
  simp only [Act.put, List.setIfInBounds_toArray, List.set_cons_zero, List.set_cons_succ]
  refine @wpG_tk _ _ _ _ _ (some 79) (.int .i64 s) _ _ rfl (.val (by rfl) (fun _ _ => rfl)) ?_
  simp only [Act.put, List.setIfInBounds_toArray, List.set_cons_zero, List.set_cons_succ]
  refine @wpG_tk _ _ _ _ _ (some 80) (.int .i64 s) _ _ rfl (.val (by rfl) (fun _ _ => rfl)) ?_
  simp only [Act.put, List.setIfInBounds_toArray, List.set_cons_zero, List.set_cons_succ]
  refine @wpG_tk _ _ _ _ _ (some 81) (.int .i64 s2) _ _ rfl (.val (by rfl) (fun W hg => by go_simp; rw [HS2.out]; exact IntWalk.i64_in _ (by omega))) ?_
  simp only [Act.put, List.setIfInBounds_toArray, List.set_cons_zero, List.set_cons_succ]
  refine @wpG_tk _ _ _ _ _ (some 82) (.int .i64 s) _ _ rfl (.val (by rfl) (fun _ _ => rfl)) ?_
  simp only [Act.put, List.setIfInBounds_toArray, List.set_cons_zero, List.set_cons_succ]
  refine @wpG_tk _ _ _ _ _ (some 83) (.int .i64 s3) _ _ rfl (.val (by rfl) (fun W hg => by go_simp; rw [HS3.out]; exact IntWalk.i64_in _ (by omega))) ?_
  simp only [Act.put, List.setIfInBounds_toArray, List.set_cons_zero, List.set_cons_succ]
  refine @wpG_tk _ _ _ _ _ (some 84) (.int .i64 (first + s3)) _ _ rfl (.val (by rfl) (fun W hg => by (first | (go_simp; done) | (go_simp; rw [IntWalk.i64_in _ (by omega)])))) ?_
  simp only [Act.put, List.setIfInBounds_toArray, List.set_cons_zero, List.set_cons_succ]
  refine @wpG_tk _ _ _ _ _ (some 85) (.bool true) _ _ rfl (.val (by rfl) (fun W hg => by have hq : (n < first + s3) := (by omega); first | (go_simp; done) | (go_simp <;> omega))) ?_
  simp only [Act.put, List.setIfInBounds_toArray, List.set_cons_zero, List.set_cons_succ]
  refine @wpG_tk _ _ _ _ _ (some 86) (.bool true) _ _ rfl (.val (by rfl) (fun W hg => by go_simp)) ?_
  simp only [Act.put, List.setIfInBounds_toArray, List.set_cons_zero, List.set_cons_succ]
  refine @wpG_tk _ _ _ _ _ (some 87) (.bool true) _ _ rfl (.val (by rfl) (fun _ _ => rfl)) ?_
  simp only [Act.put, List.setIfInBounds_toArray, List.set_cons_zero, List.set_cons_succ]
  refine @wpG_tk _ _ _ _ _ (some 88) (.int .i64 m) _ _ rfl (.val (by rfl) (fun _ _ => rfl)) ?_
  simp only [Act.put, List.setIfInBounds_toArray, List.set_cons_zero, List.set_cons_succ]
  refine @wpG_tk _ _ _ _ _ (some 89) (.int .i64 first) _ _ rfl (.val (by rfl) (fun _ _ => rfl)) ?_
  simp only [Act.put, List.setIfInBounds_toArray, List.set_cons_zero, List.set_cons_succ]
  refine @wpG_tk _ _ _ _ _ (some 90) (.int .i64 s) _ _ rfl (.val (by rfl) (fun _ _ => rfl)) ?_
  simp only [Act.put, List.setIfInBounds_toArray, List.set_cons_zero, List.set_cons_succ]
  refine @wpG_tk _ _ _ _ _ (some 91) (.int .i64 s) _ _ rfl (.val (by rfl) (fun _ _ => rfl)) ?_
  simp only [Act.put, List.setIfInBounds_toArray, List.set_cons_zero, List.set_cons_succ]
  refine @wpG_tk _ _ _ _ _ (some 92) (.int .i64 s2) _ _ rfl (.val (by rfl) (fun W hg => by go_simp; rw [HS2.out]; exact IntWalk.i64_in _ (by omega))) ?_
  simp only [Act.put, List.setIfInBounds_toArray, List.set_cons_zero, List.set_cons_succ]
  refine @wpG_tk _ _ _ _ _ (some 93) (.int .i64 s) _ _ rfl (.val (by rfl) (fun _ _ => rfl)) ?_
  simp only [Act.put, List.setIfInBounds_toArray, List.set_cons_zero, List.set_cons_succ]
  refine @wpG_tk _ _ _ _ _ (some 94) (.int .i64 s3) _ _ rfl (.val (by rfl) (fun W hg => by go_simp; rw [HS3.out]; exact IntWalk.i64_in _ (by omega))) ?_
  simp only [Act.put, List.setIfInBounds_toArray, List.set_cons_zero, List.set_cons_succ]
  refine @wpG_tk _ _ _ _ _ (some 95) (.int .i64 (first + s3)) _ _ rfl (.val (by rfl) (fun W hg => by (first | (go_simp; done) | (go_simp; rw [IntWalk.i64_in _ (by omega)])))) ?_
  simp only [Act.put, List.setIfInBounds_toArray, List.set_cons_zero, List.set_cons_succ]
  refine @wpG_tk _ _ _ _ _ (some 96) (.bool true) _ _ rfl (.val (by rfl) (fun W hg => by have hq : (m < first + s3) := (by omega); first | (go_simp; done) | (go_simp <;> omega))) ?_
  simp only [Act.put, List.setIfInBounds_toArray, List.set_cons_zero, List.set_cons_succ]
  refine @wpG_tk _ _ _ _ _ (some 97) (.bool true) _ _ rfl (.val (by rfl) (fun W hg => by go_simp)) ?_
  simp only [Act.put, List.setIfInBounds_toArray, List.set_cons_zero, List.set_cons_succ]
  refine @wpG_tk _ _ _ _ _ (some 6) (.bool true) _ _ rfl (.val (by rfl) (fun _ _ => rfl)) ?_
  simp only [Act.put, List.setIfInBounds_toArray, List.set_cons_zero, List.set_cons_succ]
  refine wpG_done (fun V43 hv44 => ?_)
  have GC45 := Lib.hid (GC42.out.trans hv44)
  clear hv44
  go_wp2_with fail
  go_ret
  exact ⟨rfl, Gr.to G27.out GC45.out⟩
set_option maxRecDepth 1000000 in
set_option maxHeartbeats 4000000 in
theorem law6 (x y z a : Int) (ub : Bool) (w : World) :
    Calls Try.prog 8 #[.agg #[.int .i64 x, .int .i64 y, .int .i64 z], .int .i64 a, .bool ub] w fun e w' => e = .returned (.bool true) ∧ Below w.heap.size w w' := by
  by_cases h : Mo.nb (Mo.enc x y z) a ub < 0
  · exact law6_0 x y z a ub w h
  · exact law6_1 x y z a ub w h

end Go.Proofs.Ytmjjkloeipoefaa
