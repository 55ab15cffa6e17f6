/-
  voxellaw05.MortonRoundTrips, its walk.
-/
import Derived.Test.YtmjjkloeipoefaaMosan
import Derived.Test.YtmjjkloeipoefaaMo10
import Derived.Handy
namespace Go.Proofs.Ytmjjkloeipoefaa
open Go.RowKit
set_option linter.unusedVariables false
set_option maxRecDepth 1000000 in
set_option maxHeartbeats 4000000 in
theorem law3_tl (a1 a2 a3 b1 b2 b3 n : Int) (w : World) (hin : Mo.inB a1 a2 a3 = true) (hc : Mo.enc a1 a2 a3 < Mo.enc b1 b2 b3) :
    Calls Try.prog 5 #[.agg #[.int .i64 a1, .int .i64 a2, .int .i64 a3], .agg #[.int .i64 b1, .int .i64 b2, .int .i64 b3], .int .i64 n] w fun e w' => e = .returned (.bool true) ∧ Below w.heap.size w w' := by
  obtain ⟨x0, hx⟩ : ∃ x, x = Mo.enc a1 a2 a3 := ⟨_, rfl⟩
  obtain ⟨y0, hy⟩ : ∃ x, x = Mo.enc b1 b2 b3 := ⟨_, rfl⟩
  obtain ⟨k0, hk⟩ : ∃ k, k = Mo.okB n := ⟨_, rfl⟩
  obtain ⟨d0, hd0⟩ : ∃ d, d = Mo.dec 0 n := ⟨_, rfl⟩
  obtain ⟨d1, hd1⟩ : ∃ d, d = Mo.dec 1 n := ⟨_, rfl⟩
  obtain ⟨d2, hd2⟩ : ∃ d, d = Mo.dec 2 n := ⟨_, rfl⟩
  have hqn : ∀ c, c = (k0 && decide (Mo.enc d0 d1 d2 ≠ n)) → c = false := fun c hc => by
    rw [hc, hk, hd0, hd1, hd2]
    cases h : Mo.okB n with
    | false => rfl
    | true => rw [Mo.enc_dec h]; simp
  rw [← hx, ← hy] at hc
  have hcm : (-1) = Mo.cmpI (Mo.enc a1 a2 a3) (Mo.enc b1 b2 b3) := by rw [← hx, ← hy, Mo.cmp_lt hc]
  have hcm2 : 1 = Mo.cmpI (Mo.enc b1 b2 b3) (Mo.enc a1 a2 a3) := by rw [← hx, ← hy, Mo.cmp_gt hc]
  have he : (Mo.dec 0 x0 = a1 ∧ Mo.dec 1 x0 = a2 ∧ Mo.dec 2 x0 = a3) ∧ Mo.okB x0 = true := by
    rw [hx]
    exact ⟨Mo.dec_enc hin, Mo.okB_enc hin⟩
  have HQN := Lib.hid hqn
  have HIN := Lib.hid hin
  have HX := Lib.hid hx
  have HY := Lib.hid hy
  have HK := Lib.hid hk
  have HD0 := Lib.hid hd0
  have HD1 := Lib.hid hd1
  have HD2 := Lib.hid hd2
  have HC := Lib.hid hcm
  have HC2 := Lib.hid hcm2
  have HE0 := Lib.hid he.1.1
  have HE1 := Lib.hid he.1.2.1
  have HE2 := Lib.hid he.1.2.2
  have HEK := Lib.hid he.2
  clear hqn hin hx hy hk hd0 hd1 hd2 hcm hcm2 he
  obtain ⟨u, hu, r0, r1, g0⟩ := rows2 w [.int .i64 a1, .int .i64 a2, .int .i64 a3] 23 [.int .i64 b1, .int .i64 b2, .int .i64 b3] 23
  have R0 := Lib.hid r0
  have R1 := Lib.hid r1
  have G0 := Lib.hid g0
  have HU := Lib.hid hu
  clear hu g0 r0 r1
  go_enter Try.func5, Try.ntmps5
  go_upto_region 1 with fail
  rw [← HU.out]
  refine wpG_region ?_
  refine @wpG_tk _ _ _ _ _ (some 16) (.int .i64 n) _ _ rfl (.val (by rfl) (fun _ _ => rfl)) ?_
  simp only [Act.put, List.setIfInBounds_toArray, List.set_cons_zero, List.set_cons_succ]
  refine @wpG_tk _ _ _ _ _ (some 17) (.tuple #[.agg #[.int .i64 d0, .int .i64 d1, .int .i64 d2], .bool k0]) _ _ rfl (.call (f := 9) (args := #[.int .i64 n]) (by rfl) (fun W => by go_simp) (fun W hg => (HK.out ▸ HD0.out ▸ HD1.out ▸ HD2.out ▸ decode_any n W))) ?_
  simp only [Act.put, List.setIfInBounds_toArray, List.set_cons_zero, List.set_cons_succ]
  refine @wpG_tk _ _ _ _ _ (some 15) (.tuple #[.agg #[.int .i64 d0, .int .i64 d1, .int .i64 d2], .bool k0]) _ _ rfl (.val (by rfl) (fun _ _ => rfl)) ?_
  simp only [Act.put, List.setIfInBounds_toArray, List.set_cons_zero, List.set_cons_succ]
  refine @wpG_tk _ _ _ _ _ (some 18) (.agg #[.int .i64 d0, .int .i64 d1, .int .i64 d2]) _ _ rfl (.val (by rfl) (fun W hg => by go_simp)) ?_
  simp only [Act.put, List.setIfInBounds_toArray, List.set_cons_zero, List.set_cons_succ]
  refine @wpG_tk _ _ _ _ _ (some 19) (.bool k0) _ _ rfl (.val (by rfl) (fun W hg => by go_simp)) ?_
  simp only [Act.put, List.setIfInBounds_toArray, List.set_cons_zero, List.set_cons_succ]
  refine wpG_val (some 7) rfl (by rfl) (fun W1 hg2 => ⟨.pointer (some ⟨W1.heap.size, 0, none⟩), W1.alloc (.cells #[.int .i64 0, .int .i64 0, .int .i64 0] 23), by (go_simp <;> rfl), ?_⟩)
  simp only [Act.put, List.setIfInBounds_toArray, List.set_cons_zero, List.set_cons_succ]
  refine wpG_store (none) rfl (by rfl) (fun W3 hg4 => ⟨_, run_store_mid 23 (.tmp 7) (.tmp 18) rfl (W1.heap.size) 0 #[.int .i64 d0, .int .i64 d1, .int .i64 d2] rfl rfl (Row.room hg4 3 rfl) (by kernel_rfl) (by kernel_rfl), ?_⟩)
  simp only [Act.put]
  refine @wpG_tk _ _ _ _ _ (some 8) (.bool k0) _ _ rfl (.val (by rfl) (fun _ _ => rfl)) ?_
  simp only [Act.put, List.setIfInBounds_toArray, List.set_cons_zero, List.set_cons_succ]
  refine wpG_done (fun V5 hv6 => ?_)
  have l8 : w.heap.size < W1.heap.size := (R0.out.below hg2).lt
  have l9 : w.heap.size + 1 < W1.heap.size := (R1.out.below hg2).lt
  have l10 : w.heap.size ≤ W1.heap.size := (Gr.to G0.out hg2).size
  have R11 := Lib.hid ((R0.out.below hg2).past hg4 hv6)
  have R12 := Lib.hid ((R1.out.below hg2).past hg4 hv6)
  have R13 := Lib.hid (Row.made (zs := [.int .i64 0, .int .i64 0, .int .i64 0]) (ds := [.int .i64 d0, .int .i64 d1, .int .i64 d2]) rfl hg4 hv6)
  have G7 := Lib.hid (Gr.to (Gr.to G0.out hg2) (Gr.past hg4 hv6))
  clear hg4 hv6 
  go_upto_region 2 with fail
  refine wpG_region ?_
  refine @wpG_tk _ _ _ _ _ (some 20) (.bool k0) _ _ rfl (.val (by rfl) (fun _ _ => rfl)) ?_
  simp only [Act.put, List.setIfInBounds_toArray, List.set_cons_zero, List.set_cons_succ]
  refine @wpG_tk _ _ _ _ _ (some 21) (.bool k0) _ _ rfl (.val (by rfl) (fun _ _ => rfl)) ?_
  simp only [Act.put, List.setIfInBounds_toArray, List.set_cons_zero, List.set_cons_succ]
  refine @wpG_tk _ _ _ _ _ (some 22) ((bif k0 then .agg #[.int .i64 d0, .int .i64 d1, .int .i64 d2] else undef)) _ _ rfl (by cases k0 with | false => exact .no (by rfl) | true => exact (.load_mid (by rfl) 23 (.tmp 7) rfl (W1.heap.size) 0 rfl [.int .i64 d0, .int .i64 d1, .int .i64 d2] _ (fun W hg => (R13.out.below hg).range) Try.underlying23 rfl (by kernel_rfl))) ?_
  simp only [Act.put, List.setIfInBounds_toArray, List.set_cons_zero, List.set_cons_succ]
  refine @wpG_tk _ _ _ _ _ (some 23) ((bif k0 then .int .i64 (Mo.enc d0 d1 d2) else undef)) _ _ rfl (by cases k0 with | false => exact .no (by rfl) | true => exact (.call (f := 13) (args := #[.agg #[.int .i64 d0, .int .i64 d1, .int .i64 d2]]) (by rfl) (fun W => by go_simp) (fun W hg => encode_any d0 d1 d2 W))) ?_
  simp only [Act.put, List.setIfInBounds_toArray, List.set_cons_zero, List.set_cons_succ]
  refine @wpG_tk _ _ _ _ _ (some 24) ((bif k0 then .int .i64 n else undef)) _ _ rfl (by cases k0 with | false => exact .no (by rfl) | true => exact (.val (by rfl) (fun _ _ => rfl))) ?_
  simp only [Act.put, List.setIfInBounds_toArray, List.set_cons_zero, List.set_cons_succ]
  refine @wpG_tk _ _ _ _ _ (some 25) ((bif k0 then .bool (decide (Mo.enc d0 d1 d2 ≠ n)) else undef)) _ _ rfl (by cases k0 with | false => exact .no (by rfl) | true => exact (.val (by rfl) (fun W hg => by go_simp; first | rfl | (simp [bne]; done)))) ?_
  simp only [Act.put, List.setIfInBounds_toArray, List.set_cons_zero, List.set_cons_succ]
  refine @wpG_tk _ _ _ _ _ (some 26) (.bool (k0 && (decide (Mo.enc d0 d1 d2 ≠ n)))) _ _ rfl (.val (by rfl) (fun W hg => by cases k0 <;> go_simp)) ?_
  simp only [Act.put, List.setIfInBounds_toArray, List.set_cons_zero, List.set_cons_succ]
  obtain ⟨c14, hc14⟩ : ∃ b, b = (k0 && (decide (Mo.enc d0 d1 d2 ≠ n))) := ⟨_, rfl⟩
  rw [← hc14]
  have Hc14 := Lib.hid hc14
  clear hc14
  refine wpG_done (fun V15 hv16 => ?_)
  have GC17 := Lib.hid hv16
  clear hv16
  rw [show c14 = false from HQN.out _ Hc14.out]
  go_upto_region 4 with fail
  refine wpG_region ?_
  refine @wpG_tk _ _ _ _ _ (some 27) (.agg #[.int .i64 a1, .int .i64 a2, .int .i64 a3]) _ _ rfl (.load_mid (by rfl) 23 (.tmp 3) rfl (w.heap.size) 0 rfl [.int .i64 a1, .int .i64 a2, .int .i64 a3] _ (fun W hg => (R11.out.below (GC17.out.trans hg)).range) Try.underlying23 rfl (by kernel_rfl)) ?_
  simp only [Act.put, List.setIfInBounds_toArray, List.set_cons_zero, List.set_cons_succ]
  refine @wpG_tk _ _ _ _ _ (some 28) (.bool true) _ _ rfl (.call (f := 30) (args := #[.agg #[.int .i64 a1, .int .i64 a2, .int .i64 a3]]) (by rfl) (fun W => by go_simp) (fun W hg => (HIN.out ▸ rinside_b a1 a2 a3 W))) ?_
  simp only [Act.put, List.setIfInBounds_toArray, List.set_cons_zero, List.set_cons_succ]
  refine @wpG_tk _ _ _ _ _ (some 9) (.bool true) _ _ rfl (.val (by rfl) (fun _ _ => rfl)) ?_
  simp only [Act.put, List.setIfInBounds_toArray, List.set_cons_zero, List.set_cons_succ]
  refine wpG_done (fun V18 hv19 => ?_)
  have GC20 := Lib.hid (GC17.out.trans hv19)
  clear hv19
  go_upto_region 5 with fail
  refine wpG_region ?_
  refine @wpG_tk _ _ _ _ _ (some 29) (.agg #[.int .i64 a1, .int .i64 a2, .int .i64 a3]) _ _ rfl (.load_mid (by rfl) 23 (.tmp 3) rfl (w.heap.size) 0 rfl [.int .i64 a1, .int .i64 a2, .int .i64 a3] _ (fun W hg => (R11.out.below (GC20.out.trans hg)).range) Try.underlying23 rfl (by kernel_rfl)) ?_
  simp only [Act.put, List.setIfInBounds_toArray, List.set_cons_zero, List.set_cons_succ]
  refine @wpG_tk _ _ _ _ _ (some 30) (.int .i64 x0) _ _ rfl (.call (f := 13) (args := #[.agg #[.int .i64 a1, .int .i64 a2, .int .i64 a3]]) (by rfl) (fun W => by go_simp) (fun W hg => (HX.out ▸ encode_any a1 a2 a3 W))) ?_
  simp only [Act.put, List.setIfInBounds_toArray, List.set_cons_zero, List.set_cons_succ]
  refine @wpG_tk _ _ _ _ _ (some 10) (.int .i64 x0) _ _ rfl (.val (by rfl) (fun _ _ => rfl)) ?_
  simp only [Act.put, List.setIfInBounds_toArray, List.set_cons_zero, List.set_cons_succ]
  refine wpG_done (fun V21 hv22 => ?_)
  have GC23 := Lib.hid (GC20.out.trans hv22)
  clear hv22
  go_upto_region 6 with fail
  refine wpG_region ?_
  refine @wpG_tk _ _ _ _ _ (some 32) (.int .i64 x0) _ _ rfl (.val (by rfl) (fun _ _ => rfl)) ?_
  simp only [Act.put, List.setIfInBounds_toArray, List.set_cons_zero, List.set_cons_succ]
  refine @wpG_tk _ _ _ _ _ (some 33) (.tuple #[.agg #[.int .i64 a1, .int .i64 a2, .int .i64 a3], .bool true]) _ _ rfl (.call (f := 9) (args := #[.int .i64 x0]) (by rfl) (fun W => by go_simp) (fun W hg => rename (decode_any x0 W) (by rw [HE0.out, HE1.out, HE2.out, HEK.out]))) ?_
  simp only [Act.put, List.setIfInBounds_toArray, List.set_cons_zero, List.set_cons_succ]
  refine @wpG_tk _ _ _ _ _ (some 31) (.tuple #[.agg #[.int .i64 a1, .int .i64 a2, .int .i64 a3], .bool true]) _ _ rfl (.val (by rfl) (fun _ _ => rfl)) ?_
  simp only [Act.put, List.setIfInBounds_toArray, List.set_cons_zero, List.set_cons_succ]
  refine @wpG_tk _ _ _ _ _ (some 34) (.agg #[.int .i64 a1, .int .i64 a2, .int .i64 a3]) _ _ rfl (.val (by rfl) (fun W hg => by go_simp)) ?_
  simp only [Act.put, List.setIfInBounds_toArray, List.set_cons_zero, List.set_cons_succ]
  refine @wpG_tk _ _ _ _ _ (some 35) (.bool true) _ _ rfl (.val (by rfl) (fun W hg => by go_simp)) ?_
  simp only [Act.put, List.setIfInBounds_toArray, List.set_cons_zero, List.set_cons_succ]
  refine wpG_val (some 11) rfl (by rfl) (fun W24 hg25 => ⟨.pointer (some ⟨W24.heap.size, 0, none⟩), W24.alloc (.cells #[.int .i64 0, .int .i64 0, .int .i64 0] 23), by (go_simp <;> rfl), ?_⟩)
  simp only [Act.put, List.setIfInBounds_toArray, List.set_cons_zero, List.set_cons_succ]
  refine wpG_store (none) rfl (by rfl) (fun W26 hg27 => ⟨_, run_store_mid 23 (.tmp 11) (.tmp 34) rfl (W24.heap.size) 0 #[.int .i64 a1, .int .i64 a2, .int .i64 a3] rfl rfl (Row.room hg27 3 rfl) (by kernel_rfl) (by kernel_rfl), ?_⟩)
  simp only [Act.put]
  refine @wpG_tk _ _ _ _ _ (some 12) (.bool true) _ _ rfl (.val (by rfl) (fun _ _ => rfl)) ?_
  simp only [Act.put, List.setIfInBounds_toArray, List.set_cons_zero, List.set_cons_succ]
  refine wpG_done (fun V28 hv29 => ?_)
  have l31 : w.heap.size < W24.heap.size := (R11.out.below (GC23.out.trans hg25)).lt
  have l32 : w.heap.size + 1 < W24.heap.size := (R12.out.below (GC23.out.trans hg25)).lt
  have l33 : W1.heap.size < W24.heap.size := (R13.out.below (GC23.out.trans hg25)).lt
  have l34 : w.heap.size ≤ W24.heap.size := (Gr.to G7.out (GC23.out.trans hg25)).size
  have R35 := Lib.hid ((R11.out.below (GC23.out.trans hg25)).past hg27 hv29)
  have R36 := Lib.hid ((R12.out.below (GC23.out.trans hg25)).past hg27 hv29)
  have R37 := Lib.hid ((R13.out.below (GC23.out.trans hg25)).past hg27 hv29)
  have R38 := Lib.hid (Row.made (zs := [.int .i64 0, .int .i64 0, .int .i64 0]) (ds := [.int .i64 a1, .int .i64 a2, .int .i64 a3]) rfl hg27 hv29)
  have G30 := Lib.hid (Gr.to (Gr.to G7.out (GC23.out.trans hg25)) (Gr.past hg27 hv29))
  clear hg27 hv29 
  go_upto_region 7 with fail
  refine wpG_region ?_
  refine @wpG_tk _ _ _ _ _ (some 36) (.bool true) _ _ rfl (.val (by rfl) (fun _ _ => rfl)) ?_
  simp only [Act.put, List.setIfInBounds_toArray, List.set_cons_zero, List.set_cons_succ]
  refine @wpG_tk _ _ _ _ _ (some 37) (.bool true) _ _ rfl (.val (by rfl) (fun _ _ => rfl)) ?_
  simp only [Act.put, List.setIfInBounds_toArray, List.set_cons_zero, List.set_cons_succ]
  refine @wpG_tk _ _ _ _ _ (some 38) (.bool false) _ _ rfl (.val (by rfl) (fun W hg => by go_simp)) ?_
  simp only [Act.put, List.setIfInBounds_toArray, List.set_cons_zero, List.set_cons_succ]
  refine @wpG_tk _ _ _ _ _ (some 39) (.bool false) _ _ rfl (.val (by rfl) (fun _ _ => rfl)) ?_
  simp only [Act.put, List.setIfInBounds_toArray, List.set_cons_zero, List.set_cons_succ]
  refine @wpG_tk _ _ _ _ _ (some 40) (.bool true) _ _ rfl (.val (by rfl) (fun _ _ => rfl)) ?_
  simp only [Act.put, List.setIfInBounds_toArray, List.set_cons_zero, List.set_cons_succ]
  refine @wpG_tk _ _ _ _ _ (some 41) (.bool true) _ _ rfl (.val (by rfl) (fun _ _ => rfl)) ?_
  simp only [Act.put, List.setIfInBounds_toArray, List.set_cons_zero, List.set_cons_succ]
  refine @wpG_tk _ _ _ _ _ (some 42) (.agg #[.int .i64 a1, .int .i64 a2, .int .i64 a3]) _ _ rfl (.load_mid (by rfl) 23 (.tmp 11) rfl (W24.heap.size) 0 rfl [.int .i64 a1, .int .i64 a2, .int .i64 a3] _ (fun W hg => (R38.out.below hg).range) Try.underlying23 rfl (by kernel_rfl)) ?_
  simp only [Act.put, List.setIfInBounds_toArray, List.set_cons_zero, List.set_cons_succ]
  refine @wpG_tk _ _ _ _ _ (some 43) (.agg #[.int .i64 a1, .int .i64 a2, .int .i64 a3]) _ _ rfl (.load_mid (by rfl) 23 (.tmp 3) rfl (w.heap.size) 0 rfl [.int .i64 a1, .int .i64 a2, .int .i64 a3] _ (fun W hg => (R35.out.below hg).range) Try.underlying23 rfl (by kernel_rfl)) ?_
  simp only [Act.put, List.setIfInBounds_toArray, List.set_cons_zero, List.set_cons_succ]
  refine @wpG_tk _ _ _ _ _ (some 44) (.bool false) _ _ rfl (.val (by rfl) (fun W hg => by (go_simp <;> first | omega | ((repeat' split) <;> first | rfl | (exfalso; omega))))) ?_
  simp only [Act.put, List.setIfInBounds_toArray, List.set_cons_zero, List.set_cons_succ]
  refine @wpG_tk _ _ _ _ _ (some 45) (.bool false) _ _ rfl (.val (by rfl) (fun W hg => by go_simp)) ?_
  simp only [Act.put, List.setIfInBounds_toArray, List.set_cons_zero, List.set_cons_succ]
  refine @wpG_tk _ _ _ _ _ (some 46) (.bool false) _ _ rfl (.val (by rfl) (fun W hg => by go_simp)) ?_
  simp only [Act.put, List.setIfInBounds_toArray, List.set_cons_zero, List.set_cons_succ]
  refine wpG_done (fun V39 hv40 => ?_)
  have GC41 := Lib.hid hv40
  clear hv40
  go_upto_region 9 with fail
  refine wpG_region ?_
  refine @wpG_tk _ _ _ _ _ (some 47) (.agg #[.int .i64 b1, .int .i64 b2, .int .i64 b3]) _ _ rfl (.load_mid (by rfl) 23 (.tmp 4) rfl (w.heap.size + 1) 0 rfl [.int .i64 b1, .int .i64 b2, .int .i64 b3] _ (fun W hg => (R36.out.below (GC41.out.trans hg)).range) Try.underlying23 rfl (by kernel_rfl)) ?_
  simp only [Act.put, List.setIfInBounds_toArray, List.set_cons_zero, List.set_cons_succ]
  refine @wpG_tk _ _ _ _ _ (some 48) (.int .i64 y0) _ _ rfl (.call (f := 13) (args := #[.agg #[.int .i64 b1, .int .i64 b2, .int .i64 b3]]) (by rfl) (fun W => by go_simp) (fun W hg => (HY.out ▸ encode_any b1 b2 b3 W))) ?_
  simp only [Act.put, List.setIfInBounds_toArray, List.set_cons_zero, List.set_cons_succ]
  refine @wpG_tk _ _ _ _ _ (some 13) (.int .i64 y0) _ _ rfl (.val (by rfl) (fun _ _ => rfl)) ?_
  simp only [Act.put, List.setIfInBounds_toArray, List.set_cons_zero, List.set_cons_succ]
  refine wpG_done (fun V42 hv43 => ?_)
  have GC44 := Lib.hid (GC41.out.trans hv43)
  clear hv43
  go_upto_region 10 with fail
  refine wpG_region ?_
  refine @wpG_tk _ _ _ _ _ (some 49) (.agg #[.int .i64 a1, .int .i64 a2, .int .i64 a3]) _ _ rfl (.load_mid (by rfl) 23 (.tmp 3) rfl (w.heap.size) 0 rfl [.int .i64 a1, .int .i64 a2, .int .i64 a3] _ (fun W hg => (R35.out.below (GC44.out.trans hg)).range) Try.underlying23 rfl (by kernel_rfl)) ?_
  simp only [Act.put, List.setIfInBounds_toArray, List.set_cons_zero, List.set_cons_succ]
  refine @wpG_tk _ _ _ _ _ (some 50) (.agg #[.int .i64 b1, .int .i64 b2, .int .i64 b3]) _ _ rfl (.load_mid (by rfl) 23 (.tmp 4) rfl (w.heap.size + 1) 0 rfl [.int .i64 b1, .int .i64 b2, .int .i64 b3] _ (fun W hg => (R36.out.below (GC44.out.trans hg)).range) Try.underlying23 rfl (by kernel_rfl)) ?_
  simp only [Act.put, List.setIfInBounds_toArray, List.set_cons_zero, List.set_cons_succ]
  refine @wpG_tk _ _ _ _ _ (some 51) (.int .i64 (-1)) _ _ rfl (.call (f := 15) (args := #[.agg #[.int .i64 a1, .int .i64 a2, .int .i64 a3], .agg #[.int .i64 b1, .int .i64 b2, .int .i64 b3]]) (by rfl) (fun W => by go_simp) (fun W hg => (HC.out ▸ compare_any a1 a2 a3 b1 b2 b3 W))) ?_
  simp only [Act.put, List.setIfInBounds_toArray, List.set_cons_zero, List.set_cons_succ]
  refine @wpG_tk _ _ _ _ _ (some 14) (.int .i64 (-1)) _ _ rfl (.val (by rfl) (fun _ _ => rfl)) ?_
  simp only [Act.put, List.setIfInBounds_toArray, List.set_cons_zero, List.set_cons_succ]
  refine wpG_done (fun V45 hv46 => ?_)
  have GC47 := Lib.hid (GC44.out.trans hv46)
  clear hv46
  go_upto_region 11 with fail
  refine wpG_region ?_
  refine @wpG_tk _ _ _ _ _ (some 52) (.bool true) _ _ rfl (.call (f := 21) (args := #[]) (by rfl) (fun W => by go_simp) (fun W hg => sanity_any W)) ?_
  simp only [Act.put, List.setIfInBounds_toArray, List.set_cons_zero, List.set_cons_succ]
  refine @wpG_tk _ _ _ _ _ (some 53) (.bool true) _ _ rfl (.val (by rfl) (fun _ _ => rfl)) ?_
  simp only [Act.put, List.setIfInBounds_toArray, List.set_cons_zero, List.set_cons_succ]
  refine @wpG_tk _ _ _ _ _ (some 54) (.int .i64 (-1)) _ _ rfl (.val (by rfl) (fun _ _ => rfl)) ?_
  simp only [Act.put, List.setIfInBounds_toArray, List.set_cons_zero, List.set_cons_succ]
  refine @wpG_tk _ _ _ _ _ (some 55) (.bool true) _ _ rfl (.val (by rfl) (fun W hg => by have hq : ((-1) < 0) := (by omega); first | (go_simp; done) | (go_simp <;> omega))) ?_
  simp only [Act.put, List.setIfInBounds_toArray, List.set_cons_zero, List.set_cons_succ]
  refine @wpG_tk _ _ _ _ _ (some 56) (.int .i64 x0) _ _ rfl (.val (by rfl) (fun _ _ => rfl)) ?_
  simp only [Act.put, List.setIfInBounds_toArray, List.set_cons_zero, List.set_cons_succ]
  refine @wpG_tk _ _ _ _ _ (some 57) (.int .i64 y0) _ _ rfl (.val (by rfl) (fun _ _ => rfl)) ?_
  simp only [Act.put, List.setIfInBounds_toArray, List.set_cons_zero, List.set_cons_succ]
  refine @wpG_tk _ _ _ _ _ (some 58) (.bool true) _ _ rfl (.val (by rfl) (fun W hg => by have hq : (x0 < y0) := (by omega); first | (go_simp; done) | (go_simp <;> omega))) ?_
  simp only [Act.put, List.setIfInBounds_toArray, List.set_cons_zero, List.set_cons_succ]
  refine @wpG_tk _ _ _ _ _ (some 59) (.bool true) _ _ rfl (.val (by rfl) (fun W hg => by go_simp)) ?_
  simp only [Act.put, List.setIfInBounds_toArray, List.set_cons_zero, List.set_cons_succ]
  refine @wpG_tk _ _ _ _ _ (some 60) (.bool true) _ _ rfl (.val (by rfl) (fun W hg => by go_simp)) ?_
  simp only [Act.put, List.setIfInBounds_toArray, List.set_cons_zero, List.set_cons_succ]
  refine @wpG_tk _ _ _ _ _ (some 61) (.bool true) _ _ rfl (.val (by rfl) (fun _ _ => rfl)) ?_
  simp only [Act.put, List.setIfInBounds_toArray, List.set_cons_zero, List.set_cons_succ]
  refine @wpG_tk _ _ _ _ _ (some 62) (.int .i64 (-1)) _ _ rfl (.val (by rfl) (fun _ _ => rfl)) ?_
  simp only [Act.put, List.setIfInBounds_toArray, List.set_cons_zero, List.set_cons_succ]
  refine @wpG_tk _ _ _ _ _ (some 63) (.bool false) _ _ rfl (.val (by rfl) (fun W hg => by have hq : ¬ ((-1) = 0) := (by omega); first | (go_simp; done) | (go_simp <;> omega))) ?_
  simp only [Act.put, List.setIfInBounds_toArray, List.set_cons_zero, List.set_cons_succ]
  refine @wpG_tk _ _ _ _ _ (some 64) (.int .i64 x0) _ _ rfl (.val (by rfl) (fun _ _ => rfl)) ?_
  simp only [Act.put, List.setIfInBounds_toArray, List.set_cons_zero, List.set_cons_succ]
  refine @wpG_tk _ _ _ _ _ (some 65) (.int .i64 y0) _ _ rfl (.val (by rfl) (fun _ _ => rfl)) ?_
  simp only [Act.put, List.setIfInBounds_toArray, List.set_cons_zero, List.set_cons_succ]
  refine @wpG_tk _ _ _ _ _ (some 66) (.bool false) _ _ rfl (.val (by rfl) (fun W hg => by have hq : ¬ (x0 = y0) := (by omega); first | (go_simp; done) | (go_simp <;> omega))) ?_
  simp only [Act.put, List.setIfInBounds_toArray, List.set_cons_zero, List.set_cons_succ]
  refine @wpG_tk _ _ _ _ _ (some 67) (.bool true) _ _ rfl (.val (by rfl) (fun W hg => by go_simp)) ?_
  simp only [Act.put, List.setIfInBounds_toArray, List.set_cons_zero, List.set_cons_succ]
  refine @wpG_tk _ _ _ _ _ (some 68) (.bool true) _ _ rfl (.val (by rfl) (fun W hg => by go_simp)) ?_
  simp only [Act.put, List.setIfInBounds_toArray, List.set_cons_zero, List.set_cons_succ]
  refine @wpG_tk _ _ _ _ _ (some 69) (.bool true) _ _ rfl (.val (by rfl) (fun _ _ => rfl)) ?_
  simp only [Act.put, List.setIfInBounds_toArray, List.set_cons_zero, List.set_cons_succ]
  refine @wpG_tk _ _ _ _ _ (some 70) (.agg #[.int .i64 b1, .int .i64 b2, .int .i64 b3]) _ _ rfl (.load_mid (by rfl) 23 (.tmp 4) rfl (w.heap.size + 1) 0 rfl [.int .i64 b1, .int .i64 b2, .int .i64 b3] _ (fun W hg => (R36.out.below (GC47.out.trans hg)).range) Try.underlying23 rfl (by kernel_rfl)) ?_
  simp only [Act.put, List.setIfInBounds_toArray, List.set_cons_zero, List.set_cons_succ]
  refine @wpG_tk _ _ _ _ _ (some 71) (.agg #[.int .i64 a1, .int .i64 a2, .int .i64 a3]) _ _ rfl (.load_mid (by rfl) 23 (.tmp 3) rfl (w.heap.size) 0 rfl [.int .i64 a1, .int .i64 a2, .int .i64 a3] _ (fun W hg => (R35.out.below (GC47.out.trans hg)).range) Try.underlying23 rfl (by kernel_rfl)) ?_
  simp only [Act.put, List.setIfInBounds_toArray, List.set_cons_zero, List.set_cons_succ]
  refine @wpG_tk _ _ _ _ _ (some 72) (.int .i64 1) _ _ rfl (.call (f := 15) (args := #[.agg #[.int .i64 b1, .int .i64 b2, .int .i64 b3], .agg #[.int .i64 a1, .int .i64 a2, .int .i64 a3]]) (by rfl) (fun W => by go_simp) (fun W hg => (HC2.out ▸ compare_any b1 b2 b3 a1 a2 a3 W))) ?_
  simp only [Act.put, List.setIfInBounds_toArray, List.set_cons_zero, List.set_cons_succ]
  refine @wpG_tk _ _ _ _ _ (some 73) (.int .i64 (-1)) _ _ rfl (.val (by rfl) (fun _ _ => rfl)) ?_
  simp only [Act.put, List.setIfInBounds_toArray, List.set_cons_zero, List.set_cons_succ]
  refine @wpG_tk _ _ _ _ _ (some 74) (.int .i64 1) _ _ rfl (.val (by rfl) (fun W hg => by go_simp <;> rfl)) ?_
  simp only [Act.put, List.setIfInBounds_toArray, List.set_cons_zero, List.set_cons_succ]
  refine @wpG_tk _ _ _ _ _ (some 75) (.bool true) _ _ rfl (.val (by rfl) (fun W hg => by go_simp)) ?_
  simp only [Act.put, List.setIfInBounds_toArray, List.set_cons_zero, List.set_cons_succ]
  refine @wpG_tk _ _ _ _ _ (some 76) (.bool true) _ _ rfl (.val (by rfl) (fun W hg => by go_simp)) ?_
  simp only [Act.put, List.setIfInBounds_toArray, List.set_cons_zero, List.set_cons_succ]
  refine @wpG_tk _ _ _ _ _ (some 6) (.bool true) _ _ rfl (.val (by rfl) (fun _ _ => rfl)) ?_
  simp only [Act.put, List.setIfInBounds_toArray, List.set_cons_zero, List.set_cons_succ]
  refine wpG_done (fun V48 hv49 => ?_)
  have GC50 := Lib.hid (GC47.out.trans hv49)
  clear hv49
  go_wp2_with fail
  go_ret
  exact ⟨rfl, Gr.to G30.out GC50.out⟩
set_option maxRecDepth 1000000 in
set_option maxHeartbeats 4000000 in
theorem law3_te (a1 a2 a3 b1 b2 b3 n : Int) (w : World) (hin : Mo.inB a1 a2 a3 = true) (hc : Mo.enc a1 a2 a3 = Mo.enc b1 b2 b3) :
    Calls Try.prog 5 #[.agg #[.int .i64 a1, .int .i64 a2, .int .i64 a3], .agg #[.int .i64 b1, .int .i64 b2, .int .i64 b3], .int .i64 n] w fun e w' => e = .returned (.bool true) ∧ Below w.heap.size w w' := by
  obtain ⟨x0, hx⟩ : ∃ x, x = Mo.enc a1 a2 a3 := ⟨_, rfl⟩
  obtain ⟨y0, hy⟩ : ∃ x, x = Mo.enc b1 b2 b3 := ⟨_, rfl⟩
  obtain ⟨k0, hk⟩ : ∃ k, k = Mo.okB n := ⟨_, rfl⟩
  obtain ⟨d0, hd0⟩ : ∃ d, d = Mo.dec 0 n := ⟨_, rfl⟩
  obtain ⟨d1, hd1⟩ : ∃ d, d = Mo.dec 1 n := ⟨_, rfl⟩
  obtain ⟨d2, hd2⟩ : ∃ d, d = Mo.dec 2 n := ⟨_, rfl⟩
  have hqn : ∀ c, c = (k0 && decide (Mo.enc d0 d1 d2 ≠ n)) → c = false := fun c hc => by
    rw [hc, hk, hd0, hd1, hd2]
    cases h : Mo.okB n with
    | false => rfl
    | true => rw [Mo.enc_dec h]; simp
  rw [← hx, ← hy] at hc
  have hcm : 0 = Mo.cmpI (Mo.enc a1 a2 a3) (Mo.enc b1 b2 b3) := by rw [← hx, ← hy, Mo.cmp_eq hc]
  have hcm2 : 0 = Mo.cmpI (Mo.enc b1 b2 b3) (Mo.enc a1 a2 a3) := by rw [← hx, ← hy, Mo.cmp_eq hc.symm]
  have he : (Mo.dec 0 x0 = a1 ∧ Mo.dec 1 x0 = a2 ∧ Mo.dec 2 x0 = a3) ∧ Mo.okB x0 = true := by
    rw [hx]
    exact ⟨Mo.dec_enc hin, Mo.okB_enc hin⟩
  have HQN := Lib.hid hqn
  have HIN := Lib.hid hin
  have HX := Lib.hid hx
  have HY := Lib.hid hy
  have HK := Lib.hid hk
  have HD0 := Lib.hid hd0
  have HD1 := Lib.hid hd1
  have HD2 := Lib.hid hd2
  have HC := Lib.hid hcm
  have HC2 := Lib.hid hcm2
  have HE0 := Lib.hid he.1.1
  have HE1 := Lib.hid he.1.2.1
  have HE2 := Lib.hid he.1.2.2
  have HEK := Lib.hid he.2
  clear hqn hin hx hy hk hd0 hd1 hd2 hcm hcm2 he
  obtain ⟨u, hu, r0, r1, g0⟩ := rows2 w [.int .i64 a1, .int .i64 a2, .int .i64 a3] 23 [.int .i64 b1, .int .i64 b2, .int .i64 b3] 23
  have R0 := Lib.hid r0
  have R1 := Lib.hid r1
  have G0 := Lib.hid g0
  have HU := Lib.hid hu
  clear hu g0 r0 r1
  go_enter Try.func5, Try.ntmps5
  go_upto_region 1 with fail
  rw [← HU.out]
  refine wpG_region ?_
  refine @wpG_tk _ _ _ _ _ (some 16) (.int .i64 n) _ _ rfl (.val (by rfl) (fun _ _ => rfl)) ?_
  simp only [Act.put, List.setIfInBounds_toArray, List.set_cons_zero, List.set_cons_succ]
  refine @wpG_tk _ _ _ _ _ (some 17) (.tuple #[.agg #[.int .i64 d0, .int .i64 d1, .int .i64 d2], .bool k0]) _ _ rfl (.call (f := 9) (args := #[.int .i64 n]) (by rfl) (fun W => by go_simp) (fun W hg => (HK.out ▸ HD0.out ▸ HD1.out ▸ HD2.out ▸ decode_any n W))) ?_
  simp only [Act.put, List.setIfInBounds_toArray, List.set_cons_zero, List.set_cons_succ]
  refine @wpG_tk _ _ _ _ _ (some 15) (.tuple #[.agg #[.int .i64 d0, .int .i64 d1, .int .i64 d2], .bool k0]) _ _ rfl (.val (by rfl) (fun _ _ => rfl)) ?_
  simp only [Act.put, List.setIfInBounds_toArray, List.set_cons_zero, List.set_cons_succ]
  refine @wpG_tk _ _ _ _ _ (some 18) (.agg #[.int .i64 d0, .int .i64 d1, .int .i64 d2]) _ _ rfl (.val (by rfl) (fun W hg => by go_simp)) ?_
  simp only [Act.put, List.setIfInBounds_toArray, List.set_cons_zero, List.set_cons_succ]
  refine @wpG_tk _ _ _ _ _ (some 19) (.bool k0) _ _ rfl (.val (by rfl) (fun W hg => by go_simp)) ?_
  simp only [Act.put, List.setIfInBounds_toArray, List.set_cons_zero, List.set_cons_succ]
  refine wpG_val (some 7) rfl (by rfl) (fun W1 hg2 => ⟨.pointer (some ⟨W1.heap.size, 0, none⟩), W1.alloc (.cells #[.int .i64 0, .int .i64 0, .int .i64 0] 23), by (go_simp <;> rfl), ?_⟩)
  simp only [Act.put, List.setIfInBounds_toArray, List.set_cons_zero, List.set_cons_succ]
  refine wpG_store (none) rfl (by rfl) (fun W3 hg4 => ⟨_, run_store_mid 23 (.tmp 7) (.tmp 18) rfl (W1.heap.size) 0 #[.int .i64 d0, .int .i64 d1, .int .i64 d2] rfl rfl (Row.room hg4 3 rfl) (by kernel_rfl) (by kernel_rfl), ?_⟩)
  simp only [Act.put]
  refine @wpG_tk _ _ _ _ _ (some 8) (.bool k0) _ _ rfl (.val (by rfl) (fun _ _ => rfl)) ?_
  simp only [Act.put, List.setIfInBounds_toArray, List.set_cons_zero, List.set_cons_succ]
  refine wpG_done (fun V5 hv6 => ?_)
  have l8 : w.heap.size < W1.heap.size := (R0.out.below hg2).lt
  have l9 : w.heap.size + 1 < W1.heap.size := (R1.out.below hg2).lt
  have l10 : w.heap.size ≤ W1.heap.size := (Gr.to G0.out hg2).size
  have R11 := Lib.hid ((R0.out.below hg2).past hg4 hv6)
  have R12 := Lib.hid ((R1.out.below hg2).past hg4 hv6)
  have R13 := Lib.hid (Row.made (zs := [.int .i64 0, .int .i64 0, .int .i64 0]) (ds := [.int .i64 d0, .int .i64 d1, .int .i64 d2]) rfl hg4 hv6)
  have G7 := Lib.hid (Gr.to (Gr.to G0.out hg2) (Gr.past hg4 hv6))
  clear hg4 hv6 
  go_upto_region 2 with fail
  refine wpG_region ?_
  refine @wpG_tk _ _ _ _ _ (some 20) (.bool k0) _ _ rfl (.val (by rfl) (fun _ _ => rfl)) ?_
  simp only [Act.put, List.setIfInBounds_toArray, List.set_cons_zero, List.set_cons_succ]
  refine @wpG_tk _ _ _ _ _ (some 21) (.bool k0) _ _ rfl (.val (by rfl) (fun _ _ => rfl)) ?_
  simp only [Act.put, List.setIfInBounds_toArray, List.set_cons_zero, List.set_cons_succ]
  refine @wpG_tk _ _ _ _ _ (some 22) ((bif k0 then .agg #[.int .i64 d0, .int .i64 d1, .int .i64 d2] else undef)) _ _ rfl (by cases k0 with | false => exact .no (by rfl) | true => exact (.load_mid (by rfl) 23 (.tmp 7) rfl (W1.heap.size) 0 rfl [.int .i64 d0, .int .i64 d1, .int .i64 d2] _ (fun W hg => (R13.out.below hg).range) Try.underlying23 rfl (by kernel_rfl))) ?_
  simp only [Act.put, List.setIfInBounds_toArray, List.set_cons_zero, List.set_cons_succ]
  refine @wpG_tk _ _ _ _ _ (some 23) ((bif k0 then .int .i64 (Mo.enc d0 d1 d2) else undef)) _ _ rfl (by cases k0 with | false => exact .no (by rfl) | true => exact (.call (f := 13) (args := #[.agg #[.int .i64 d0, .int .i64 d1, .int .i64 d2]]) (by rfl) (fun W => by go_simp) (fun W hg => encode_any d0 d1 d2 W))) ?_
  simp only [Act.put, List.setIfInBounds_toArray, List.set_cons_zero, List.set_cons_succ]
  refine @wpG_tk _ _ _ _ _ (some 24) ((bif k0 then .int .i64 n else undef)) _ _ rfl (by cases k0 with | false => exact .no (by rfl) | true => exact (.val (by rfl) (fun _ _ => rfl))) ?_
  simp only [Act.put, List.setIfInBounds_toArray, List.set_cons_zero, List.set_cons_succ]
  refine @wpG_tk _ _ _ _ _ (some 25) ((bif k0 then .bool (decide (Mo.enc d0 d1 d2 ≠ n)) else undef)) _ _ rfl (by cases k0 with | false => exact .no (by rfl) | true => exact (.val (by rfl) (fun W hg => by go_simp; first | rfl | (simp [bne]; done)))) ?_
  simp only [Act.put, List.setIfInBounds_toArray, List.set_cons_zero, List.set_cons_succ]
  refine @wpG_tk _ _ _ _ _ (some 26) (.bool (k0 && (decide (Mo.enc d0 d1 d2 ≠ n)))) _ _ rfl (.val (by rfl) (fun W hg => by cases k0 <;> go_simp)) ?_
  simp only [Act.put, List.setIfInBounds_toArray, List.set_cons_zero, List.set_cons_succ]
  obtain ⟨c14, hc14⟩ : ∃ b, b = (k0 && (decide (Mo.enc d0 d1 d2 ≠ n))) := ⟨_, rfl⟩
  rw [← hc14]
  have Hc14 := Lib.hid hc14
  clear hc14
  refine wpG_done (fun V15 hv16 => ?_)
  have GC17 := Lib.hid hv16
  clear hv16
  rw [show c14 = false from HQN.out _ Hc14.out]
  go_upto_region 4 with fail
  refine wpG_region ?_
  refine @wpG_tk _ _ _ _ _ (some 27) (.agg #[.int .i64 a1, .int .i64 a2, .int .i64 a3]) _ _ rfl (.load_mid (by rfl) 23 (.tmp 3) rfl (w.heap.size) 0 rfl [.int .i64 a1, .int .i64 a2, .int .i64 a3] _ (fun W hg => (R11.out.below (GC17.out.trans hg)).range) Try.underlying23 rfl (by kernel_rfl)) ?_
  simp only [Act.put, List.setIfInBounds_toArray, List.set_cons_zero, List.set_cons_succ]
  refine @wpG_tk _ _ _ _ _ (some 28) (.bool true) _ _ rfl (.call (f := 30) (args := #[.agg #[.int .i64 a1, .int .i64 a2, .int .i64 a3]]) (by rfl) (fun W => by go_simp) (fun W hg => (HIN.out ▸ rinside_b a1 a2 a3 W))) ?_
  simp only [Act.put, List.setIfInBounds_toArray, List.set_cons_zero, List.set_cons_succ]
  refine @wpG_tk _ _ _ _ _ (some 9) (.bool true) _ _ rfl (.val (by rfl) (fun _ _ => rfl)) ?_
  simp only [Act.put, List.setIfInBounds_toArray, List.set_cons_zero, List.set_cons_succ]
  refine wpG_done (fun V18 hv19 => ?_)
  have GC20 := Lib.hid (GC17.out.trans hv19)
  clear hv19
  go_upto_region 5 with fail
  refine wpG_region ?_
  refine @wpG_tk _ _ _ _ _ (some 29) (.agg #[.int .i64 a1, .int .i64 a2, .int .i64 a3]) _ _ rfl (.load_mid (by rfl) 23 (.tmp 3) rfl (w.heap.size) 0 rfl [.int .i64 a1, .int .i64 a2, .int .i64 a3] _ (fun W hg => (R11.out.below (GC20.out.trans hg)).range) Try.underlying23 rfl (by kernel_rfl)) ?_
  simp only [Act.put, List.setIfInBounds_toArray, List.set_cons_zero, List.set_cons_succ]
  refine @wpG_tk _ _ _ _ _ (some 30) (.int .i64 x0) _ _ rfl (.call (f := 13) (args := #[.agg #[.int .i64 a1, .int .i64 a2, .int .i64 a3]]) (by rfl) (fun W => by go_simp) (fun W hg => (HX.out ▸ encode_any a1 a2 a3 W))) ?_
  simp only [Act.put, List.setIfInBounds_toArray, List.set_cons_zero, List.set_cons_succ]
  refine @wpG_tk _ _ _ _ _ (some 10) (.int .i64 x0) _ _ rfl (.val (by rfl) (fun _ _ => rfl)) ?_
  simp only [Act.put, List.setIfInBounds_toArray, List.set_cons_zero, List.set_cons_succ]
  refine wpG_done (fun V21 hv22 => ?_)
  have GC23 := Lib.hid (GC20.out.trans hv22)
  clear hv22
  go_upto_region 6 with fail
  refine wpG_region ?_
  refine @wpG_tk _ _ _ _ _ (some 32) (.int .i64 x0) _ _ rfl (.val (by rfl) (fun _ _ => rfl)) ?_
  simp only [Act.put, List.setIfInBounds_toArray, List.set_cons_zero, List.set_cons_succ]
  refine @wpG_tk _ _ _ _ _ (some 33) (.tuple #[.agg #[.int .i64 a1, .int .i64 a2, .int .i64 a3], .bool true]) _ _ rfl (.call (f := 9) (args := #[.int .i64 x0]) (by rfl) (fun W => by go_simp) (fun W hg => rename (decode_any x0 W) (by rw [HE0.out, HE1.out, HE2.out, HEK.out]))) ?_
  simp only [Act.put, List.setIfInBounds_toArray, List.set_cons_zero, List.set_cons_succ]
  refine @wpG_tk _ _ _ _ _ (some 31) (.tuple #[.agg #[.int .i64 a1, .int .i64 a2, .int .i64 a3], .bool true]) _ _ rfl (.val (by rfl) (fun _ _ => rfl)) ?_
  simp only [Act.put, List.setIfInBounds_toArray, List.set_cons_zero, List.set_cons_succ]
  refine @wpG_tk _ _ _ _ _ (some 34) (.agg #[.int .i64 a1, .int .i64 a2, .int .i64 a3]) _ _ rfl (.val (by rfl) (fun W hg => by go_simp)) ?_
  simp only [Act.put, List.setIfInBounds_toArray, List.set_cons_zero, List.set_cons_succ]
  refine @wpG_tk _ _ _ _ _ (some 35) (.bool true) _ _ rfl (.val (by rfl) (fun W hg => by go_simp)) ?_
  simp only [Act.put, List.setIfInBounds_toArray, List.set_cons_zero, List.set_cons_succ]
  refine wpG_val (some 11) rfl (by rfl) (fun W24 hg25 => ⟨.pointer (some ⟨W24.heap.size, 0, none⟩), W24.alloc (.cells #[.int .i64 0, .int .i64 0, .int .i64 0] 23), by (go_simp <;> rfl), ?_⟩)
  simp only [Act.put, List.setIfInBounds_toArray, List.set_cons_zero, List.set_cons_succ]
  refine wpG_store (none) rfl (by rfl) (fun W26 hg27 => ⟨_, run_store_mid 23 (.tmp 11) (.tmp 34) rfl (W24.heap.size) 0 #[.int .i64 a1, .int .i64 a2, .int .i64 a3] rfl rfl (Row.room hg27 3 rfl) (by kernel_rfl) (by kernel_rfl), ?_⟩)
  simp only [Act.put]
  refine @wpG_tk _ _ _ _ _ (some 12) (.bool true) _ _ rfl (.val (by rfl) (fun _ _ => rfl)) ?_
  simp only [Act.put, List.setIfInBounds_toArray, List.set_cons_zero, List.set_cons_succ]
  refine wpG_done (fun V28 hv29 => ?_)
  have l31 : w.heap.size < W24.heap.size := (R11.out.below (GC23.out.trans hg25)).lt
  have l32 : w.heap.size + 1 < W24.heap.size := (R12.out.below (GC23.out.trans hg25)).lt
  have l33 : W1.heap.size < W24.heap.size := (R13.out.below (GC23.out.trans hg25)).lt
  have l34 : w.heap.size ≤ W24.heap.size := (Gr.to G7.out (GC23.out.trans hg25)).size
  have R35 := Lib.hid ((R11.out.below (GC23.out.trans hg25)).past hg27 hv29)
  have R36 := Lib.hid ((R12.out.below (GC23.out.trans hg25)).past hg27 hv29)
  have R37 := Lib.hid ((R13.out.below (GC23.out.trans hg25)).past hg27 hv29)
  have R38 := Lib.hid (Row.made (zs := [.int .i64 0, .int .i64 0, .int .i64 0]) (ds := [.int .i64 a1, .int .i64 a2, .int .i64 a3]) rfl hg27 hv29)
  have G30 := Lib.hid (Gr.to (Gr.to G7.out (GC23.out.trans hg25)) (Gr.past hg27 hv29))
  clear hg27 hv29 
  go_upto_region 7 with fail
  refine wpG_region ?_
  refine @wpG_tk _ _ _ _ _ (some 36) (.bool true) _ _ rfl (.val (by rfl) (fun _ _ => rfl)) ?_
  simp only [Act.put, List.setIfInBounds_toArray, List.set_cons_zero, List.set_cons_succ]
  refine @wpG_tk _ _ _ _ _ (some 37) (.bool true) _ _ rfl (.val (by rfl) (fun _ _ => rfl)) ?_
  simp only [Act.put, List.setIfInBounds_toArray, List.set_cons_zero, List.set_cons_succ]
  refine @wpG_tk _ _ _ _ _ (some 38) (.bool false) _ _ rfl (.val (by rfl) (fun W hg => by go_simp)) ?_
  simp only [Act.put, List.setIfInBounds_toArray, List.set_cons_zero, List.set_cons_succ]
  refine @wpG_tk _ _ _ _ _ (some 39) (.bool false) _ _ rfl (.val (by rfl) (fun _ _ => rfl)) ?_
  simp only [Act.put, List.setIfInBounds_toArray, List.set_cons_zero, List.set_cons_succ]
  refine @wpG_tk _ _ _ _ _ (some 40) (.bool true) _ _ rfl (.val (by rfl) (fun _ _ => rfl)) ?_
  simp only [Act.put, List.setIfInBounds_toArray, List.set_cons_zero, List.set_cons_succ]
  refine @wpG_tk _ _ _ _ _ (some 41) (.bool true) _ _ rfl (.val (by rfl) (fun _ _ => rfl)) ?_
  simp only [Act.put, List.setIfInBounds_toArray, List.set_cons_zero, List.set_cons_succ]
  refine @wpG_tk _ _ _ _ _ (some 42) (.agg #[.int .i64 a1, .int .i64 a2, .int .i64 a3]) _ _ rfl (.load_mid (by rfl) 23 (.tmp 11) rfl (W24.heap.size) 0 rfl [.int .i64 a1, .int .i64 a2, .int .i64 a3] _ (fun W hg => (R38.out.below hg).range) Try.underlying23 rfl (by kernel_rfl)) ?_
  simp only [Act.put, List.setIfInBounds_toArray, List.set_cons_zero, List.set_cons_succ]
  refine @wpG_tk _ _ _ _ _ (some 43) (.agg #[.int .i64 a1, .int .i64 a2, .int .i64 a3]) _ _ rfl (.load_mid (by rfl) 23 (.tmp 3) rfl (w.heap.size) 0 rfl [.int .i64 a1, .int .i64 a2, .int .i64 a3] _ (fun W hg => (R35.out.below hg).range) Try.underlying23 rfl (by kernel_rfl)) ?_
  simp only [Act.put, List.setIfInBounds_toArray, List.set_cons_zero, List.set_cons_succ]
  refine @wpG_tk _ _ _ _ _ (some 44) (.bool false) _ _ rfl (.val (by rfl) (fun W hg => by (go_simp <;> first | omega | ((repeat' split) <;> first | rfl | (exfalso; omega))))) ?_
  simp only [Act.put, List.setIfInBounds_toArray, List.set_cons_zero, List.set_cons_succ]
  refine @wpG_tk _ _ _ _ _ (some 45) (.bool false) _ _ rfl (.val (by rfl) (fun W hg => by go_simp)) ?_
  simp only [Act.put, List.setIfInBounds_toArray, List.set_cons_zero, List.set_cons_succ]
  refine @wpG_tk _ _ _ _ _ (some 46) (.bool false) _ _ rfl (.val (by rfl) (fun W hg => by go_simp)) ?_
  simp only [Act.put, List.setIfInBounds_toArray, List.set_cons_zero, List.set_cons_succ]
  refine wpG_done (fun V39 hv40 => ?_)
  have GC41 := Lib.hid hv40
  clear hv40
  go_upto_region 9 with fail
  refine wpG_region ?_
  refine @wpG_tk _ _ _ _ _ (some 47) (.agg #[.int .i64 b1, .int .i64 b2, .int .i64 b3]) _ _ rfl (.load_mid (by rfl) 23 (.tmp 4) rfl (w.heap.size + 1) 0 rfl [.int .i64 b1, .int .i64 b2, .int .i64 b3] _ (fun W hg => (R36.out.below (GC41.out.trans hg)).range) Try.underlying23 rfl (by kernel_rfl)) ?_
  simp only [Act.put, List.setIfInBounds_toArray, List.set_cons_zero, List.set_cons_succ]
  refine @wpG_tk _ _ _ _ _ (some 48) (.int .i64 y0) _ _ rfl (.call (f := 13) (args := #[.agg #[.int .i64 b1, .int .i64 b2, .int .i64 b3]]) (by rfl) (fun W => by go_simp) (fun W hg => (HY.out ▸ encode_any b1 b2 b3 W))) ?_
  simp only [Act.put, List.setIfInBounds_toArray, List.set_cons_zero, List.set_cons_succ]
  refine @wpG_tk _ _ _ _ _ (some 13) (.int .i64 y0) _ _ rfl (.val (by rfl) (fun _ _ => rfl)) ?_
  simp only [Act.put, List.setIfInBounds_toArray, List.set_cons_zero, List.set_cons_succ]
  refine wpG_done (fun V42 hv43 => ?_)
  have GC44 := Lib.hid (GC41.out.trans hv43)
  clear hv43
  go_upto_region 10 with fail
  refine wpG_region ?_
  refine @wpG_tk _ _ _ _ _ (some 49) (.agg #[.int .i64 a1, .int .i64 a2, .int .i64 a3]) _ _ rfl (.load_mid (by rfl) 23 (.tmp 3) rfl (w.heap.size) 0 rfl [.int .i64 a1, .int .i64 a2, .int .i64 a3] _ (fun W hg => (R35.out.below (GC44.out.trans hg)).range) Try.underlying23 rfl (by kernel_rfl)) ?_
  simp only [Act.put, List.setIfInBounds_toArray, List.set_cons_zero, List.set_cons_succ]
  refine @wpG_tk _ _ _ _ _ (some 50) (.agg #[.int .i64 b1, .int .i64 b2, .int .i64 b3]) _ _ rfl (.load_mid (by rfl) 23 (.tmp 4) rfl (w.heap.size + 1) 0 rfl [.int .i64 b1, .int .i64 b2, .int .i64 b3] _ (fun W hg => (R36.out.below (GC44.out.trans hg)).range) Try.underlying23 rfl (by kernel_rfl)) ?_
  simp only [Act.put, List.setIfInBounds_toArray, List.set_cons_zero, List.set_cons_succ]
  refine @wpG_tk _ _ _ _ _ (some 51) (.int .i64 0) _ _ rfl (.call (f := 15) (args := #[.agg #[.int .i64 a1, .int .i64 a2, .int .i64 a3], .agg #[.int .i64 b1, .int .i64 b2, .int .i64 b3]]) (by rfl) (fun W => by go_simp) (fun W hg => (HC.out ▸ compare_any a1 a2 a3 b1 b2 b3 W))) ?_
  simp only [Act.put, List.setIfInBounds_toArray, List.set_cons_zero, List.set_cons_succ]
  refine @wpG_tk _ _ _ _ _ (some 14) (.int .i64 0) _ _ rfl (.val (by rfl) (fun _ _ => rfl)) ?_
  simp only [Act.put, List.setIfInBounds_toArray, List.set_cons_zero, List.set_cons_succ]
  refine wpG_done (fun V45 hv46 => ?_)
  have GC47 := Lib.hid (GC44.out.trans hv46)
  clear hv46
  go_upto_region 11 with fail
  refine wpG_region ?_
  refine @wpG_tk _ _ _ _ _ (some 52) (.bool true) _ _ rfl (.call (f := 21) (args := #[]) (by rfl) (fun W => by go_simp) (fun W hg => sanity_any W)) ?_
  simp only [Act.put, List.setIfInBounds_toArray, List.set_cons_zero, List.set_cons_succ]
  refine @wpG_tk _ _ _ _ _ (some 53) (.bool true) _ _ rfl (.val (by rfl) (fun _ _ => rfl)) ?_
  simp only [Act.put, List.setIfInBounds_toArray, List.set_cons_zero, List.set_cons_succ]
  refine @wpG_tk _ _ _ _ _ (some 54) (.int .i64 0) _ _ rfl (.val (by rfl) (fun _ _ => rfl)) ?_
  simp only [Act.put, List.setIfInBounds_toArray, List.set_cons_zero, List.set_cons_succ]
  refine @wpG_tk _ _ _ _ _ (some 55) (.bool false) _ _ rfl (.val (by rfl) (fun W hg => by go_simp)) ?_
  simp only [Act.put, List.setIfInBounds_toArray, List.set_cons_zero, List.set_cons_succ]
  refine @wpG_tk _ _ _ _ _ (some 56) (.int .i64 x0) _ _ rfl (.val (by rfl) (fun _ _ => rfl)) ?_
  simp only [Act.put, List.setIfInBounds_toArray, List.set_cons_zero, List.set_cons_succ]
  refine @wpG_tk _ _ _ _ _ (some 57) (.int .i64 y0) _ _ rfl (.val (by rfl) (fun _ _ => rfl)) ?_
  simp only [Act.put, List.setIfInBounds_toArray, List.set_cons_zero, List.set_cons_succ]
  refine @wpG_tk _ _ _ _ _ (some 58) (.bool false) _ _ rfl (.val (by rfl) (fun W hg => by have hq : ¬ (x0 < y0) := (by omega); first | (go_simp; done) | (go_simp <;> omega))) ?_
  simp only [Act.put, List.setIfInBounds_toArray, List.set_cons_zero, List.set_cons_succ]
  refine @wpG_tk _ _ _ _ _ (some 59) (.bool true) _ _ rfl (.val (by rfl) (fun W hg => by go_simp)) ?_
  simp only [Act.put, List.setIfInBounds_toArray, List.set_cons_zero, List.set_cons_succ]
  refine @wpG_tk _ _ _ _ _ (some 60) (.bool true) _ _ rfl (.val (by rfl) (fun W hg => by go_simp)) ?_
  simp only [Act.put, List.setIfInBounds_toArray, List.set_cons_zero, List.set_cons_succ]
  refine @wpG_tk _ _ _ _ _ (some 61) (.bool true) _ _ rfl (.val (by rfl) (fun _ _ => rfl)) ?_
  simp only [Act.put, List.setIfInBounds_toArray, List.set_cons_zero, List.set_cons_succ]
  refine @wpG_tk _ _ _ _ _ (some 62) (.int .i64 0) _ _ rfl (.val (by rfl) (fun _ _ => rfl)) ?_
  simp only [Act.put, List.setIfInBounds_toArray, List.set_cons_zero, List.set_cons_succ]
  refine @wpG_tk _ _ _ _ _ (some 63) (.bool true) _ _ rfl (.val (by rfl) (fun W hg => by go_simp)) ?_
  simp only [Act.put, List.setIfInBounds_toArray, List.set_cons_zero, List.set_cons_succ]
  refine @wpG_tk _ _ _ _ _ (some 64) (.int .i64 x0) _ _ rfl (.val (by rfl) (fun _ _ => rfl)) ?_
  simp only [Act.put, List.setIfInBounds_toArray, List.set_cons_zero, List.set_cons_succ]
  refine @wpG_tk _ _ _ _ _ (some 65) (.int .i64 y0) _ _ rfl (.val (by rfl) (fun _ _ => rfl)) ?_
  simp only [Act.put, List.setIfInBounds_toArray, List.set_cons_zero, List.set_cons_succ]
  refine @wpG_tk _ _ _ _ _ (some 66) (.bool true) _ _ rfl (.val (by rfl) (fun W hg => by have hq : (x0 = y0) := (by omega); first | (go_simp; done) | (go_simp <;> omega))) ?_
  simp only [Act.put, List.setIfInBounds_toArray, List.set_cons_zero, List.set_cons_succ]
  refine @wpG_tk _ _ _ _ _ (some 67) (.bool true) _ _ rfl (.val (by rfl) (fun W hg => by go_simp)) ?_
  simp only [Act.put, List.setIfInBounds_toArray, List.set_cons_zero, List.set_cons_succ]
  refine @wpG_tk _ _ _ _ _ (some 68) (.bool true) _ _ rfl (.val (by rfl) (fun W hg => by go_simp)) ?_
  simp only [Act.put, List.setIfInBounds_toArray, List.set_cons_zero, List.set_cons_succ]
  refine @wpG_tk _ _ _ _ _ (some 69) (.bool true) _ _ rfl (.val (by rfl) (fun _ _ => rfl)) ?_
  simp only [Act.put, List.setIfInBounds_toArray, List.set_cons_zero, List.set_cons_succ]
  refine @wpG_tk _ _ _ _ _ (some 70) (.agg #[.int .i64 b1, .int .i64 b2, .int .i64 b3]) _ _ rfl (.load_mid (by rfl) 23 (.tmp 4) rfl (w.heap.size + 1) 0 rfl [.int .i64 b1, .int .i64 b2, .int .i64 b3] _ (fun W hg => (R36.out.below (GC47.out.trans hg)).range) Try.underlying23 rfl (by kernel_rfl)) ?_
  simp only [Act.put, List.setIfInBounds_toArray, List.set_cons_zero, List.set_cons_succ]
  refine @wpG_tk _ _ _ _ _ (some 71) (.agg #[.int .i64 a1, .int .i64 a2, .int .i64 a3]) _ _ rfl (.load_mid (by rfl) 23 (.tmp 3) rfl (w.heap.size) 0 rfl [.int .i64 a1, .int .i64 a2, .int .i64 a3] _ (fun W hg => (R35.out.below (GC47.out.trans hg)).range) Try.underlying23 rfl (by kernel_rfl)) ?_
  simp only [Act.put, List.setIfInBounds_toArray, List.set_cons_zero, List.set_cons_succ]
  refine @wpG_tk _ _ _ _ _ (some 72) (.int .i64 0) _ _ rfl (.call (f := 15) (args := #[.agg #[.int .i64 b1, .int .i64 b2, .int .i64 b3], .agg #[.int .i64 a1, .int .i64 a2, .int .i64 a3]]) (by rfl) (fun W => by go_simp) (fun W hg => (HC2.out ▸ compare_any b1 b2 b3 a1 a2 a3 W))) ?_
  simp only [Act.put, List.setIfInBounds_toArray, List.set_cons_zero, List.set_cons_succ]
  refine @wpG_tk _ _ _ _ _ (some 73) (.int .i64 0) _ _ rfl (.val (by rfl) (fun _ _ => rfl)) ?_
  simp only [Act.put, List.setIfInBounds_toArray, List.set_cons_zero, List.set_cons_succ]
  refine @wpG_tk _ _ _ _ _ (some 74) (.int .i64 0) _ _ rfl (.val (by rfl) (fun W hg => by go_simp <;> rfl)) ?_
  simp only [Act.put, List.setIfInBounds_toArray, List.set_cons_zero, List.set_cons_succ]
  refine @wpG_tk _ _ _ _ _ (some 75) (.bool true) _ _ rfl (.val (by rfl) (fun W hg => by go_simp)) ?_
  simp only [Act.put, List.setIfInBounds_toArray, List.set_cons_zero, List.set_cons_succ]
  refine @wpG_tk _ _ _ _ _ (some 76) (.bool true) _ _ rfl (.val (by rfl) (fun W hg => by go_simp)) ?_
  simp only [Act.put, List.setIfInBounds_toArray, List.set_cons_zero, List.set_cons_succ]
  refine @wpG_tk _ _ _ _ _ (some 6) (.bool true) _ _ rfl (.val (by rfl) (fun _ _ => rfl)) ?_
  simp only [Act.put, List.setIfInBounds_toArray, List.set_cons_zero, List.set_cons_succ]
  refine wpG_done (fun V48 hv49 => ?_)
  have GC50 := Lib.hid (GC47.out.trans hv49)
  clear hv49
  go_wp2_with fail
  go_ret
  exact ⟨rfl, Gr.to G30.out GC50.out⟩
set_option maxRecDepth 1000000 in
set_option maxHeartbeats 4000000 in
theorem law3_tg (a1 a2 a3 b1 b2 b3 n : Int) (w : World) (hin : Mo.inB a1 a2 a3 = true) (hc : Mo.enc b1 b2 b3 < Mo.enc a1 a2 a3) :
    Calls Try.prog 5 #[.agg #[.int .i64 a1, .int .i64 a2, .int .i64 a3], .agg #[.int .i64 b1, .int .i64 b2, .int .i64 b3], .int .i64 n] w fun e w' => e = .returned (.bool true) ∧ Below w.heap.size w w' := by
  obtain ⟨x0, hx⟩ : ∃ x, x = Mo.enc a1 a2 a3 := ⟨_, rfl⟩
  obtain ⟨y0, hy⟩ : ∃ x, x = Mo.enc b1 b2 b3 := ⟨_, rfl⟩
  obtain ⟨k0, hk⟩ : ∃ k, k = Mo.okB n := ⟨_, rfl⟩
  obtain ⟨d0, hd0⟩ : ∃ d, d = Mo.dec 0 n := ⟨_, rfl⟩
  obtain ⟨d1, hd1⟩ : ∃ d, d = Mo.dec 1 n := ⟨_, rfl⟩
  obtain ⟨d2, hd2⟩ : ∃ d, d = Mo.dec 2 n := ⟨_, rfl⟩
  have hqn : ∀ c, c = (k0 && decide (Mo.enc d0 d1 d2 ≠ n)) → c = false := fun c hc => by
    rw [hc, hk, hd0, hd1, hd2]
    cases h : Mo.okB n with
    | false => rfl
    | true => rw [Mo.enc_dec h]; simp
  rw [← hx, ← hy] at hc
  have hcm : 1 = Mo.cmpI (Mo.enc a1 a2 a3) (Mo.enc b1 b2 b3) := by rw [← hx, ← hy, Mo.cmp_gt hc]
  have hcm2 : (-1) = Mo.cmpI (Mo.enc b1 b2 b3) (Mo.enc a1 a2 a3) := by rw [← hx, ← hy, Mo.cmp_lt hc]
  have he : (Mo.dec 0 x0 = a1 ∧ Mo.dec 1 x0 = a2 ∧ Mo.dec 2 x0 = a3) ∧ Mo.okB x0 = true := by
    rw [hx]
    exact ⟨Mo.dec_enc hin, Mo.okB_enc hin⟩
  have HQN := Lib.hid hqn
  have HIN := Lib.hid hin
  have HX := Lib.hid hx
  have HY := Lib.hid hy
  have HK := Lib.hid hk
  have HD0 := Lib.hid hd0
  have HD1 := Lib.hid hd1
  have HD2 := Lib.hid hd2
  have HC := Lib.hid hcm
  have HC2 := Lib.hid hcm2
  have HE0 := Lib.hid he.1.1
  have HE1 := Lib.hid he.1.2.1
  have HE2 := Lib.hid he.1.2.2
  have HEK := Lib.hid he.2
  clear hqn hin hx hy hk hd0 hd1 hd2 hcm hcm2 he
  obtain ⟨u, hu, r0, r1, g0⟩ := rows2 w [.int .i64 a1, .int .i64 a2, .int .i64 a3] 23 [.int .i64 b1, .int .i64 b2, .int .i64 b3] 23
  have R0 := Lib.hid r0
  have R1 := Lib.hid r1
  have G0 := Lib.hid g0
  have HU := Lib.hid hu
  clear hu g0 r0 r1
  go_enter Try.func5, Try.ntmps5
  go_upto_region 1 with fail
  rw [← HU.out]
  refine wpG_region ?_
  refine @wpG_tk _ _ _ _ _ (some 16) (.int .i64 n) _ _ rfl (.val (by rfl) (fun _ _ => rfl)) ?_
  simp only [Act.put, List.setIfInBounds_toArray, List.set_cons_zero, List.set_cons_succ]
  refine @wpG_tk _ _ _ _ _ (some 17) (.tuple #[.agg #[.int .i64 d0, .int .i64 d1, .int .i64 d2], .bool k0]) _ _ rfl (.call (f := 9) (args := #[.int .i64 n]) (by rfl) (fun W => by go_simp) (fun W hg => (HK.out ▸ HD0.out ▸ HD1.out ▸ HD2.out ▸ decode_any n W))) ?_
  simp only [Act.put, List.setIfInBounds_toArray, List.set_cons_zero, List.set_cons_succ]
  refine @wpG_tk _ _ _ _ _ (some 15) (.tuple #[.agg #[.int .i64 d0, .int .i64 d1, .int .i64 d2], .bool k0]) _ _ rfl (.val (by rfl) (fun _ _ => rfl)) ?_
  simp only [Act.put, List.setIfInBounds_toArray, List.set_cons_zero, List.set_cons_succ]
  refine @wpG_tk _ _ _ _ _ (some 18) (.agg #[.int .i64 d0, .int .i64 d1, .int .i64 d2]) _ _ rfl (.val (by rfl) (fun W hg => by go_simp)) ?_
  simp only [Act.put, List.setIfInBounds_toArray, List.set_cons_zero, List.set_cons_succ]
  refine @wpG_tk _ _ _ _ _ (some 19) (.bool k0) _ _ rfl (.val (by rfl) (fun W hg => by go_simp)) ?_
  simp only [Act.put, List.setIfInBounds_toArray, List.set_cons_zero, List.set_cons_succ]
  refine wpG_val (some 7) rfl (by rfl) (fun W1 hg2 => ⟨.pointer (some ⟨W1.heap.size, 0, none⟩), W1.alloc (.cells #[.int .i64 0, .int .i64 0, .int .i64 0] 23), by (go_simp <;> rfl), ?_⟩)
  simp only [Act.put, List.setIfInBounds_toArray, List.set_cons_zero, List.set_cons_succ]
  refine wpG_store (none) rfl (by rfl) (fun W3 hg4 => ⟨_, run_store_mid 23 (.tmp 7) (.tmp 18) rfl (W1.heap.size) 0 #[.int .i64 d0, .int .i64 d1, .int .i64 d2] rfl rfl (Row.room hg4 3 rfl) (by kernel_rfl) (by kernel_rfl), ?_⟩)
  simp only [Act.put]
  refine @wpG_tk _ _ _ _ _ (some 8) (.bool k0) _ _ rfl (.val (by rfl) (fun _ _ => rfl)) ?_
  simp only [Act.put, List.setIfInBounds_toArray, List.set_cons_zero, List.set_cons_succ]
  refine wpG_done (fun V5 hv6 => ?_)
  have l8 : w.heap.size < W1.heap.size := (R0.out.below hg2).lt
  have l9 : w.heap.size + 1 < W1.heap.size := (R1.out.below hg2).lt
  have l10 : w.heap.size ≤ W1.heap.size := (Gr.to G0.out hg2).size
  have R11 := Lib.hid ((R0.out.below hg2).past hg4 hv6)
  have R12 := Lib.hid ((R1.out.below hg2).past hg4 hv6)
  have R13 := Lib.hid (Row.made (zs := [.int .i64 0, .int .i64 0, .int .i64 0]) (ds := [.int .i64 d0, .int .i64 d1, .int .i64 d2]) rfl hg4 hv6)
  have G7 := Lib.hid (Gr.to (Gr.to G0.out hg2) (Gr.past hg4 hv6))
  clear hg4 hv6 
  go_upto_region 2 with fail
  refine wpG_region ?_
  refine @wpG_tk _ _ _ _ _ (some 20) (.bool k0) _ _ rfl (.val (by rfl) (fun _ _ => rfl)) ?_
  simp only [Act.put, List.setIfInBounds_toArray, List.set_cons_zero, List.set_cons_succ]
  refine @wpG_tk _ _ _ _ _ (some 21) (.bool k0) _ _ rfl (.val (by rfl) (fun _ _ => rfl)) ?_
  simp only [Act.put, List.setIfInBounds_toArray, List.set_cons_zero, List.set_cons_succ]
  refine @wpG_tk _ _ _ _ _ (some 22) ((bif k0 then .agg #[.int .i64 d0, .int .i64 d1, .int .i64 d2] else undef)) _ _ rfl (by cases k0 with | false => exact .no (by rfl) | true => exact (.load_mid (by rfl) 23 (.tmp 7) rfl (W1.heap.size) 0 rfl [.int .i64 d0, .int .i64 d1, .int .i64 d2] _ (fun W hg => (R13.out.below hg).range) Try.underlying23 rfl (by kernel_rfl))) ?_
  simp only [Act.put, List.setIfInBounds_toArray, List.set_cons_zero, List.set_cons_succ]
  refine @wpG_tk _ _ _ _ _ (some 23) ((bif k0 then .int .i64 (Mo.enc d0 d1 d2) else undef)) _ _ rfl (by cases k0 with | false => exact .no (by rfl) | true => exact (.call (f := 13) (args := #[.agg #[.int .i64 d0, .int .i64 d1, .int .i64 d2]]) (by rfl) (fun W => by go_simp) (fun W hg => encode_any d0 d1 d2 W))) ?_
  simp only [Act.put, List.setIfInBounds_toArray, List.set_cons_zero, List.set_cons_succ]
  refine @wpG_tk _ _ _ _ _ (some 24) ((bif k0 then .int .i64 n else undef)) _ _ rfl (by cases k0 with | false => exact .no (by rfl) | true => exact (.val (by rfl) (fun _ _ => rfl))) ?_
  simp only [Act.put, List.setIfInBounds_toArray, List.set_cons_zero, List.set_cons_succ]
  refine @wpG_tk _ _ _ _ _ (some 25) ((bif k0 then .bool (decide (Mo.enc d0 d1 d2 ≠ n)) else undef)) _ _ rfl (by cases k0 with | false => exact .no (by rfl) | true => exact (.val (by rfl) (fun W hg => by go_simp; first | rfl | (simp [bne]; done)))) ?_
  simp only [Act.put, List.setIfInBounds_toArray, List.set_cons_zero, List.set_cons_succ]
  refine @wpG_tk _ _ _ _ _ (some 26) (.bool (k0 && (decide (Mo.enc d0 d1 d2 ≠ n)))) _ _ rfl (.val (by rfl) (fun W hg => by cases k0 <;> go_simp)) ?_
  simp only [Act.put, List.setIfInBounds_toArray, List.set_cons_zero, List.set_cons_succ]
  obtain ⟨c14, hc14⟩ : ∃ b, b = (k0 && (decide (Mo.enc d0 d1 d2 ≠ n))) := ⟨_, rfl⟩
  rw [← hc14]
  have Hc14 := Lib.hid hc14
  clear hc14
  refine wpG_done (fun V15 hv16 => ?_)
  have GC17 := Lib.hid hv16
  clear hv16
  rw [show c14 = false from HQN.out _ Hc14.out]
  go_upto_region 4 with fail
  refine wpG_region ?_
  refine @wpG_tk _ _ _ _ _ (some 27) (.agg #[.int .i64 a1, .int .i64 a2, .int .i64 a3]) _ _ rfl (.load_mid (by rfl) 23 (.tmp 3) rfl (w.heap.size) 0 rfl [.int .i64 a1, .int .i64 a2, .int .i64 a3] _ (fun W hg => (R11.out.below (GC17.out.trans hg)).range) Try.underlying23 rfl (by kernel_rfl)) ?_
  simp only [Act.put, List.setIfInBounds_toArray, List.set_cons_zero, List.set_cons_succ]
  refine @wpG_tk _ _ _ _ _ (some 28) (.bool true) _ _ rfl (.call (f := 30) (args := #[.agg #[.int .i64 a1, .int .i64 a2, .int .i64 a3]]) (by rfl) (fun W => by go_simp) (fun W hg => (HIN.out ▸ rinside_b a1 a2 a3 W))) ?_
  simp only [Act.put, List.setIfInBounds_toArray, List.set_cons_zero, List.set_cons_succ]
  refine @wpG_tk _ _ _ _ _ (some 9) (.bool true) _ _ rfl (.val (by rfl) (fun _ _ => rfl)) ?_
  simp only [Act.put, List.setIfInBounds_toArray, List.set_cons_zero, List.set_cons_succ]
  refine wpG_done (fun V18 hv19 => ?_)
  have GC20 := Lib.hid (GC17.out.trans hv19)
  clear hv19
  go_upto_region 5 with fail
  refine wpG_region ?_
  refine @wpG_tk _ _ _ _ _ (some 29) (.agg #[.int .i64 a1, .int .i64 a2, .int .i64 a3]) _ _ rfl (.load_mid (by rfl) 23 (.tmp 3) rfl (w.heap.size) 0 rfl [.int .i64 a1, .int .i64 a2, .int .i64 a3] _ (fun W hg => (R11.out.below (GC20.out.trans hg)).range) Try.underlying23 rfl (by kernel_rfl)) ?_
  simp only [Act.put, List.setIfInBounds_toArray, List.set_cons_zero, List.set_cons_succ]
  refine @wpG_tk _ _ _ _ _ (some 30) (.int .i64 x0) _ _ rfl (.call (f := 13) (args := #[.agg #[.int .i64 a1, .int .i64 a2, .int .i64 a3]]) (by rfl) (fun W => by go_simp) (fun W hg => (HX.out ▸ encode_any a1 a2 a3 W))) ?_
  simp only [Act.put, List.setIfInBounds_toArray, List.set_cons_zero, List.set_cons_succ]
  refine @wpG_tk _ _ _ _ _ (some 10) (.int .i64 x0) _ _ rfl (.val (by rfl) (fun _ _ => rfl)) ?_
  simp only [Act.put, List.setIfInBounds_toArray, List.set_cons_zero, List.set_cons_succ]
  refine wpG_done (fun V21 hv22 => ?_)
  have GC23 := Lib.hid (GC20.out.trans hv22)
  clear hv22
  go_upto_region 6 with fail
  refine wpG_region ?_
  refine @wpG_tk _ _ _ _ _ (some 32) (.int .i64 x0) _ _ rfl (.val (by rfl) (fun _ _ => rfl)) ?_
  simp only [Act.put, List.setIfInBounds_toArray, List.set_cons_zero, List.set_cons_succ]
  refine @wpG_tk _ _ _ _ _ (some 33) (.tuple #[.agg #[.int .i64 a1, .int .i64 a2, .int .i64 a3], .bool true]) _ _ rfl (.call (f := 9) (args := #[.int .i64 x0]) (by rfl) (fun W => by go_simp) (fun W hg => rename (decode_any x0 W) (by rw [HE0.out, HE1.out, HE2.out, HEK.out]))) ?_
  simp only [Act.put, List.setIfInBounds_toArray, List.set_cons_zero, List.set_cons_succ]
  refine @wpG_tk _ _ _ _ _ (some 31) (.tuple #[.agg #[.int .i64 a1, .int .i64 a2, .int .i64 a3], .bool true]) _ _ rfl (.val (by rfl) (fun _ _ => rfl)) ?_
  simp only [Act.put, List.setIfInBounds_toArray, List.set_cons_zero, List.set_cons_succ]
  refine @wpG_tk _ _ _ _ _ (some 34) (.agg #[.int .i64 a1, .int .i64 a2, .int .i64 a3]) _ _ rfl (.val (by rfl) (fun W hg => by go_simp)) ?_
  simp only [Act.put, List.setIfInBounds_toArray, List.set_cons_zero, List.set_cons_succ]
  refine @wpG_tk _ _ _ _ _ (some 35) (.bool true) _ _ rfl (.val (by rfl) (fun W hg => by go_simp)) ?_
  simp only [Act.put, List.setIfInBounds_toArray, List.set_cons_zero, List.set_cons_succ]
  refine wpG_val (some 11) rfl (by rfl) (fun W24 hg25 => ⟨.pointer (some ⟨W24.heap.size, 0, none⟩), W24.alloc (.cells #[.int .i64 0, .int .i64 0, .int .i64 0] 23), by (go_simp <;> rfl), ?_⟩)
  simp only [Act.put, List.setIfInBounds_toArray, List.set_cons_zero, List.set_cons_succ]
  refine wpG_store (none) rfl (by rfl) (fun W26 hg27 => ⟨_, run_store_mid 23 (.tmp 11) (.tmp 34) rfl (W24.heap.size) 0 #[.int .i64 a1, .int .i64 a2, .int .i64 a3] rfl rfl (Row.room hg27 3 rfl) (by kernel_rfl) (by kernel_rfl), ?_⟩)
  simp only [Act.put]
  refine @wpG_tk _ _ _ _ _ (some 12) (.bool true) _ _ rfl (.val (by rfl) (fun _ _ => rfl)) ?_
  simp only [Act.put, List.setIfInBounds_toArray, List.set_cons_zero, List.set_cons_succ]
  refine wpG_done (fun V28 hv29 => ?_)
  have l31 : w.heap.size < W24.heap.size := (R11.out.below (GC23.out.trans hg25)).lt
  have l32 : w.heap.size + 1 < W24.heap.size := (R12.out.below (GC23.out.trans hg25)).lt
  have l33 : W1.heap.size < W24.heap.size := (R13.out.below (GC23.out.trans hg25)).lt
  have l34 : w.heap.size ≤ W24.heap.size := (Gr.to G7.out (GC23.out.trans hg25)).size
  have R35 := Lib.hid ((R11.out.below (GC23.out.trans hg25)).past hg27 hv29)
  have R36 := Lib.hid ((R12.out.below (GC23.out.trans hg25)).past hg27 hv29)
  have R37 := Lib.hid ((R13.out.below (GC23.out.trans hg25)).past hg27 hv29)
  have R38 := Lib.hid (Row.made (zs := [.int .i64 0, .int .i64 0, .int .i64 0]) (ds := [.int .i64 a1, .int .i64 a2, .int .i64 a3]) rfl hg27 hv29)
  have G30 := Lib.hid (Gr.to (Gr.to G7.out (GC23.out.trans hg25)) (Gr.past hg27 hv29))
  clear hg27 hv29 
  go_upto_region 7 with fail
  refine wpG_region ?_
  refine @wpG_tk _ _ _ _ _ (some 36) (.bool true) _ _ rfl (.val (by rfl) (fun _ _ => rfl)) ?_
  simp only [Act.put, List.setIfInBounds_toArray, List.set_cons_zero, List.set_cons_succ]
  refine @wpG_tk _ _ _ _ _ (some 37) (.bool true) _ _ rfl (.val (by rfl) (fun _ _ => rfl)) ?_
  simp only [Act.put, List.setIfInBounds_toArray, List.set_cons_zero, List.set_cons_succ]
  refine @wpG_tk _ _ _ _ _ (some 38) (.bool false) _ _ rfl (.val (by rfl) (fun W hg => by go_simp)) ?_
  simp only [Act.put, List.setIfInBounds_toArray, List.set_cons_zero, List.set_cons_succ]
  refine @wpG_tk _ _ _ _ _ (some 39) (.bool false) _ _ rfl (.val (by rfl) (fun _ _ => rfl)) ?_
  simp only [Act.put, List.setIfInBounds_toArray, List.set_cons_zero, List.set_cons_succ]
  refine @wpG_tk _ _ _ _ _ (some 40) (.bool true) _ _ rfl (.val (by rfl) (fun _ _ => rfl)) ?_
  simp only [Act.put, List.setIfInBounds_toArray, List.set_cons_zero, List.set_cons_succ]
  refine @wpG_tk _ _ _ _ _ (some 41) (.bool true) _ _ rfl (.val (by rfl) (fun _ _ => rfl)) ?_
  simp only [Act.put, List.setIfInBounds_toArray, List.set_cons_zero, List.set_cons_succ]
  refine @wpG_tk _ _ _ _ _ (some 42) (.agg #[.int .i64 a1, .int .i64 a2, .int .i64 a3]) _ _ rfl (.load_mid (by rfl) 23 (.tmp 11) rfl (W24.heap.size) 0 rfl [.int .i64 a1, .int .i64 a2, .int .i64 a3] _ (fun W hg => (R38.out.below hg).range) Try.underlying23 rfl (by kernel_rfl)) ?_
  simp only [Act.put, List.setIfInBounds_toArray, List.set_cons_zero, List.set_cons_succ]
  refine @wpG_tk _ _ _ _ _ (some 43) (.agg #[.int .i64 a1, .int .i64 a2, .int .i64 a3]) _ _ rfl (.load_mid (by rfl) 23 (.tmp 3) rfl (w.heap.size) 0 rfl [.int .i64 a1, .int .i64 a2, .int .i64 a3] _ (fun W hg => (R35.out.below hg).range) Try.underlying23 rfl (by kernel_rfl)) ?_
  simp only [Act.put, List.setIfInBounds_toArray, List.set_cons_zero, List.set_cons_succ]
  refine @wpG_tk _ _ _ _ _ (some 44) (.bool false) _ _ rfl (.val (by rfl) (fun W hg => by (go_simp <;> first | omega | ((repeat' split) <;> first | rfl | (exfalso; omega))))) ?_
  simp only [Act.put, List.setIfInBounds_toArray, List.set_cons_zero, List.set_cons_succ]
  refine @wpG_tk _ _ _ _ _ (some 45) (.bool false) _ _ rfl (.val (by rfl) (fun W hg => by go_simp)) ?_
  simp only [Act.put, List.setIfInBounds_toArray, List.set_cons_zero, List.set_cons_succ]
  refine @wpG_tk _ _ _ _ _ (some 46) (.bool false) _ _ rfl (.val (by rfl) (fun W hg => by go_simp)) ?_
  simp only [Act.put, List.setIfInBounds_toArray, List.set_cons_zero, List.set_cons_succ]
  refine wpG_done (fun V39 hv40 => ?_)
  have GC41 := Lib.hid hv40
  clear hv40
  go_upto_region 9 with fail
  refine wpG_region ?_
  refine @wpG_tk _ _ _ _ _ (some 47) (.agg #[.int .i64 b1, .int .i64 b2, .int .i64 b3]) _ _ rfl (.load_mid (by rfl) 23 (.tmp 4) rfl (w.heap.size + 1) 0 rfl [.int .i64 b1, .int .i64 b2, .int .i64 b3] _ (fun W hg => (R36.out.below (GC41.out.trans hg)).range) Try.underlying23 rfl (by kernel_rfl)) ?_
  simp only [Act.put, List.setIfInBounds_toArray, List.set_cons_zero, List.set_cons_succ]
  refine @wpG_tk _ _ _ _ _ (some 48) (.int .i64 y0) _ _ rfl (.call (f := 13) (args := #[.agg #[.int .i64 b1, .int .i64 b2, .int .i64 b3]]) (by rfl) (fun W => by go_simp) (fun W hg => (HY.out ▸ encode_any b1 b2 b3 W))) ?_
  simp only [Act.put, List.setIfInBounds_toArray, List.set_cons_zero, List.set_cons_succ]
  refine @wpG_tk _ _ _ _ _ (some 13) (.int .i64 y0) _ _ rfl (.val (by rfl) (fun _ _ => rfl)) ?_
  simp only [Act.put, List.setIfInBounds_toArray, List.set_cons_zero, List.set_cons_succ]
  refine wpG_done (fun V42 hv43 => ?_)
  have GC44 := Lib.hid (GC41.out.trans hv43)
  clear hv43
  go_upto_region 10 with fail
  refine wpG_region ?_
  refine @wpG_tk _ _ _ _ _ (some 49) (.agg #[.int .i64 a1, .int .i64 a2, .int .i64 a3]) _ _ rfl (.load_mid (by rfl) 23 (.tmp 3) rfl (w.heap.size) 0 rfl [.int .i64 a1, .int .i64 a2, .int .i64 a3] _ (fun W hg => (R35.out.below (GC44.out.trans hg)).range) Try.underlying23 rfl (by kernel_rfl)) ?_
  simp only [Act.put, List.setIfInBounds_toArray, List.set_cons_zero, List.set_cons_succ]
  refine @wpG_tk _ _ _ _ _ (some 50) (.agg #[.int .i64 b1, .int .i64 b2, .int .i64 b3]) _ _ rfl (.load_mid (by rfl) 23 (.tmp 4) rfl (w.heap.size + 1) 0 rfl [.int .i64 b1, .int .i64 b2, .int .i64 b3] _ (fun W hg => (R36.out.below (GC44.out.trans hg)).range) Try.underlying23 rfl (by kernel_rfl)) ?_
  simp only [Act.put, List.setIfInBounds_toArray, List.set_cons_zero, List.set_cons_succ]
  refine @wpG_tk _ _ _ _ _ (some 51) (.int .i64 1) _ _ rfl (.call (f := 15) (args := #[.agg #[.int .i64 a1, .int .i64 a2, .int .i64 a3], .agg #[.int .i64 b1, .int .i64 b2, .int .i64 b3]]) (by rfl) (fun W => by go_simp) (fun W hg => (HC.out ▸ compare_any a1 a2 a3 b1 b2 b3 W))) ?_
  simp only [Act.put, List.setIfInBounds_toArray, List.set_cons_zero, List.set_cons_succ]
  refine @wpG_tk _ _ _ _ _ (some 14) (.int .i64 1) _ _ rfl (.val (by rfl) (fun _ _ => rfl)) ?_
  simp only [Act.put, List.setIfInBounds_toArray, List.set_cons_zero, List.set_cons_succ]
  refine wpG_done (fun V45 hv46 => ?_)
  have GC47 := Lib.hid (GC44.out.trans hv46)
  clear hv46
  go_upto_region 11 with fail
  refine wpG_region ?_
  refine @wpG_tk _ _ _ _ _ (some 52) (.bool true) _ _ rfl (.call (f := 21) (args := #[]) (by rfl) (fun W => by go_simp) (fun W hg => sanity_any W)) ?_
  simp only [Act.put, List.setIfInBounds_toArray, List.set_cons_zero, List.set_cons_succ]
  refine @wpG_tk _ _ _ _ _ (some 53) (.bool true) _ _ rfl (.val (by rfl) (fun _ _ => rfl)) ?_
  simp only [Act.put, List.setIfInBounds_toArray, List.set_cons_zero, List.set_cons_succ]
  refine @wpG_tk _ _ _ _ _ (some 54) (.int .i64 1) _ _ rfl (.val (by rfl) (fun _ _ => rfl)) ?_
  simp only [Act.put, List.setIfInBounds_toArray, List.set_cons_zero, List.set_cons_succ]
  refine @wpG_tk _ _ _ _ _ (some 55) (.bool false) _ _ rfl (.val (by rfl) (fun W hg => by go_simp)) ?_
  simp only [Act.put, List.setIfInBounds_toArray, List.set_cons_zero, List.set_cons_succ]
  refine @wpG_tk _ _ _ _ _ (some 56) (.int .i64 x0) _ _ rfl (.val (by rfl) (fun _ _ => rfl)) ?_
  simp only [Act.put, List.setIfInBounds_toArray, List.set_cons_zero, List.set_cons_succ]
  refine @wpG_tk _ _ _ _ _ (some 57) (.int .i64 y0) _ _ rfl (.val (by rfl) (fun _ _ => rfl)) ?_
  simp only [Act.put, List.setIfInBounds_toArray, List.set_cons_zero, List.set_cons_succ]
  refine @wpG_tk _ _ _ _ _ (some 58) (.bool false) _ _ rfl (.val (by rfl) (fun W hg => by have hq : ¬ (x0 < y0) := (by omega); first | (go_simp; done) | (go_simp <;> omega))) ?_
  simp only [Act.put, List.setIfInBounds_toArray, List.set_cons_zero, List.set_cons_succ]
  refine @wpG_tk _ _ _ _ _ (some 59) (.bool true) _ _ rfl (.val (by rfl) (fun W hg => by go_simp)) ?_
  simp only [Act.put, List.setIfInBounds_toArray, List.set_cons_zero, List.set_cons_succ]
  refine @wpG_tk _ _ _ _ _ (some 60) (.bool true) _ _ rfl (.val (by rfl) (fun W hg => by go_simp)) ?_
  simp only [Act.put, List.setIfInBounds_toArray, List.set_cons_zero, List.set_cons_succ]
  refine @wpG_tk _ _ _ _ _ (some 61) (.bool true) _ _ rfl (.val (by rfl) (fun _ _ => rfl)) ?_
  simp only [Act.put, List.setIfInBounds_toArray, List.set_cons_zero, List.set_cons_succ]
  refine @wpG_tk _ _ _ _ _ (some 62) (.int .i64 1) _ _ rfl (.val (by rfl) (fun _ _ => rfl)) ?_
  simp only [Act.put, List.setIfInBounds_toArray, List.set_cons_zero, List.set_cons_succ]
  refine @wpG_tk _ _ _ _ _ (some 63) (.bool false) _ _ rfl (.val (by rfl) (fun W hg => by have hq : ¬ (1 = 0) := (by omega); first | (go_simp; done) | (go_simp <;> omega))) ?_
  simp only [Act.put, List.setIfInBounds_toArray, List.set_cons_zero, List.set_cons_succ]
  refine @wpG_tk _ _ _ _ _ (some 64) (.int .i64 x0) _ _ rfl (.val (by rfl) (fun _ _ => rfl)) ?_
  simp only [Act.put, List.setIfInBounds_toArray, List.set_cons_zero, List.set_cons_succ]
  refine @wpG_tk _ _ _ _ _ (some 65) (.int .i64 y0) _ _ rfl (.val (by rfl) (fun _ _ => rfl)) ?_
  simp only [Act.put, List.setIfInBounds_toArray, List.set_cons_zero, List.set_cons_succ]
  refine @wpG_tk _ _ _ _ _ (some 66) (.bool false) _ _ rfl (.val (by rfl) (fun W hg => by have hq : ¬ (x0 = y0) := (by omega); first | (go_simp; done) | (go_simp <;> omega))) ?_
  simp only [Act.put, List.setIfInBounds_toArray, List.set_cons_zero, List.set_cons_succ]
  refine @wpG_tk _ _ _ _ _ (some 67) (.bool true) _ _ rfl (.val (by rfl) (fun W hg => by go_simp)) ?_
  simp only [Act.put, List.setIfInBounds_toArray, List.set_cons_zero, List.set_cons_succ]
  refine @wpG_tk _ _ _ _ _ (some 68) (.bool true) _ _ rfl (.val (by rfl) (fun W hg => by go_simp)) ?_
  simp only [Act.put, List.setIfInBounds_toArray, List.set_cons_zero, List.set_cons_succ]
  refine @wpG_tk _ _ _ _ _ (some 69) (.bool true) _ _ rfl (.val (by rfl) (fun _ _ => rfl)) ?_
  simp only [Act.put, List.setIfInBounds_toArray, List.set_cons_zero, List.set_cons_succ]
  refine @wpG_tk _ _ _ _ _ (some 70) (.agg #[.int .i64 b1, .int .i64 b2, .int .i64 b3]) _ _ rfl (.load_mid (by rfl) 23 (.tmp 4) rfl (w.heap.size + 1) 0 rfl [.int .i64 b1, .int .i64 b2, .int .i64 b3] _ (fun W hg => (R36.out.below (GC47.out.trans hg)).range) Try.underlying23 rfl (by kernel_rfl)) ?_
  simp only [Act.put, List.setIfInBounds_toArray, List.set_cons_zero, List.set_cons_succ]
  refine @wpG_tk _ _ _ _ _ (some 71) (.agg #[.int .i64 a1, .int .i64 a2, .int .i64 a3]) _ _ rfl (.load_mid (by rfl) 23 (.tmp 3) rfl (w.heap.size) 0 rfl [.int .i64 a1, .int .i64 a2, .int .i64 a3] _ (fun W hg => (R35.out.below (GC47.out.trans hg)).range) Try.underlying23 rfl (by kernel_rfl)) ?_
  simp only [Act.put, List.setIfInBounds_toArray, List.set_cons_zero, List.set_cons_succ]
  refine @wpG_tk _ _ _ _ _ (some 72) (.int .i64 (-1)) _ _ rfl (.call (f := 15) (args := #[.agg #[.int .i64 b1, .int .i64 b2, .int .i64 b3], .agg #[.int .i64 a1, .int .i64 a2, .int .i64 a3]]) (by rfl) (fun W => by go_simp) (fun W hg => (HC2.out ▸ compare_any b1 b2 b3 a1 a2 a3 W))) ?_
  simp only [Act.put, List.setIfInBounds_toArray, List.set_cons_zero, List.set_cons_succ]
  refine @wpG_tk _ _ _ _ _ (some 73) (.int .i64 1) _ _ rfl (.val (by rfl) (fun _ _ => rfl)) ?_
  simp only [Act.put, List.setIfInBounds_toArray, List.set_cons_zero, List.set_cons_succ]
  refine @wpG_tk _ _ _ _ _ (some 74) (.int .i64 (-1)) _ _ rfl (.val (by rfl) (fun W hg => by go_simp <;> rfl)) ?_
  simp only [Act.put, List.setIfInBounds_toArray, List.set_cons_zero, List.set_cons_succ]
  refine @wpG_tk _ _ _ _ _ (some 75) (.bool true) _ _ rfl (.val (by rfl) (fun W hg => by go_simp)) ?_
  simp only [Act.put, List.setIfInBounds_toArray, List.set_cons_zero, List.set_cons_succ]
  refine @wpG_tk _ _ _ _ _ (some 76) (.bool true) _ _ rfl (.val (by rfl) (fun W hg => by go_simp)) ?_
  simp only [Act.put, List.setIfInBounds_toArray, List.set_cons_zero, List.set_cons_succ]
  refine @wpG_tk _ _ _ _ _ (some 6) (.bool true) _ _ rfl (.val (by rfl) (fun _ _ => rfl)) ?_
  simp only [Act.put, List.setIfInBounds_toArray, List.set_cons_zero, List.set_cons_succ]
  refine wpG_done (fun V48 hv49 => ?_)
  have GC50 := Lib.hid (GC47.out.trans hv49)
  clear hv49
  go_wp2_with fail
  go_ret
  exact ⟨rfl, Gr.to G30.out GC50.out⟩
set_option maxRecDepth 1000000 in
set_option maxHeartbeats 4000000 in
theorem law3_fl (a1 a2 a3 b1 b2 b3 n : Int) (w : World) (hin : Mo.inB a1 a2 a3 = false) (hc : Mo.enc a1 a2 a3 < Mo.enc b1 b2 b3) :
    Calls Try.prog 5 #[.agg #[.int .i64 a1, .int .i64 a2, .int .i64 a3], .agg #[.int .i64 b1, .int .i64 b2, .int .i64 b3], .int .i64 n] w fun e w' => e = .returned (.bool true) ∧ Below w.heap.size w w' := by
  obtain ⟨x0, hx⟩ : ∃ x, x = Mo.enc a1 a2 a3 := ⟨_, rfl⟩
  obtain ⟨y0, hy⟩ : ∃ x, x = Mo.enc b1 b2 b3 := ⟨_, rfl⟩
  obtain ⟨k0, hk⟩ : ∃ k, k = Mo.okB n := ⟨_, rfl⟩
  obtain ⟨d0, hd0⟩ : ∃ d, d = Mo.dec 0 n := ⟨_, rfl⟩
  obtain ⟨d1, hd1⟩ : ∃ d, d = Mo.dec 1 n := ⟨_, rfl⟩
  obtain ⟨d2, hd2⟩ : ∃ d, d = Mo.dec 2 n := ⟨_, rfl⟩
  have hqn : ∀ c, c = (k0 && decide (Mo.enc d0 d1 d2 ≠ n)) → c = false := fun c hc => by
    rw [hc, hk, hd0, hd1, hd2]
    cases h : Mo.okB n with
    | false => rfl
    | true => rw [Mo.enc_dec h]; simp
  rw [← hx, ← hy] at hc
  have hcm : (-1) = Mo.cmpI (Mo.enc a1 a2 a3) (Mo.enc b1 b2 b3) := by rw [← hx, ← hy, Mo.cmp_lt hc]
  have hcm2 : 1 = Mo.cmpI (Mo.enc b1 b2 b3) (Mo.enc a1 a2 a3) := by rw [← hx, ← hy, Mo.cmp_gt hc]
  have he : (Mo.dec 0 x0 = 0 ∧ Mo.dec 1 x0 = 0 ∧ Mo.dec 2 x0 = 0) ∧ Mo.okB x0 = false := by
    rw [hx]
    exact ⟨⟨Mo.dec_out (Mo.okB_enc' hin), Mo.dec_out (Mo.okB_enc' hin), Mo.dec_out (Mo.okB_enc' hin)⟩, Mo.okB_enc' hin⟩
  have HQN := Lib.hid hqn
  have HIN := Lib.hid hin
  have HX := Lib.hid hx
  have HY := Lib.hid hy
  have HK := Lib.hid hk
  have HD0 := Lib.hid hd0
  have HD1 := Lib.hid hd1
  have HD2 := Lib.hid hd2
  have HC := Lib.hid hcm
  have HC2 := Lib.hid hcm2
  have HE0 := Lib.hid he.1.1
  have HE1 := Lib.hid he.1.2.1
  have HE2 := Lib.hid he.1.2.2
  have HEK := Lib.hid he.2
  clear hqn hin hx hy hk hd0 hd1 hd2 hcm hcm2 he
  obtain ⟨u, hu, r0, r1, g0⟩ := rows2 w [.int .i64 a1, .int .i64 a2, .int .i64 a3] 23 [.int .i64 b1, .int .i64 b2, .int .i64 b3] 23
  have R0 := Lib.hid r0
  have R1 := Lib.hid r1
  have G0 := Lib.hid g0
  have HU := Lib.hid hu
  clear hu g0 r0 r1
  go_enter Try.func5, Try.ntmps5
  go_upto_region 1 with fail
  rw [← HU.out]
  refine wpG_region ?_
  refine @wpG_tk _ _ _ _ _ (some 16) (.int .i64 n) _ _ rfl (.val (by rfl) (fun _ _ => rfl)) ?_
  simp only [Act.put, List.setIfInBounds_toArray, List.set_cons_zero, List.set_cons_succ]
  refine @wpG_tk _ _ _ _ _ (some 17) (.tuple #[.agg #[.int .i64 d0, .int .i64 d1, .int .i64 d2], .bool k0]) _ _ rfl (.call (f := 9) (args := #[.int .i64 n]) (by rfl) (fun W => by go_simp) (fun W hg => (HK.out ▸ HD0.out ▸ HD1.out ▸ HD2.out ▸ decode_any n W))) ?_
  simp only [Act.put, List.setIfInBounds_toArray, List.set_cons_zero, List.set_cons_succ]
  refine @wpG_tk _ _ _ _ _ (some 15) (.tuple #[.agg #[.int .i64 d0, .int .i64 d1, .int .i64 d2], .bool k0]) _ _ rfl (.val (by rfl) (fun _ _ => rfl)) ?_
  simp only [Act.put, List.setIfInBounds_toArray, List.set_cons_zero, List.set_cons_succ]
  refine @wpG_tk _ _ _ _ _ (some 18) (.agg #[.int .i64 d0, .int .i64 d1, .int .i64 d2]) _ _ rfl (.val (by rfl) (fun W hg => by go_simp)) ?_
  simp only [Act.put, List.setIfInBounds_toArray, List.set_cons_zero, List.set_cons_succ]
  refine @wpG_tk _ _ _ _ _ (some 19) (.bool k0) _ _ rfl (.val (by rfl) (fun W hg => by go_simp)) ?_
  simp only [Act.put, List.setIfInBounds_toArray, List.set_cons_zero, List.set_cons_succ]
  refine wpG_val (some 7) rfl (by rfl) (fun W1 hg2 => ⟨.pointer (some ⟨W1.heap.size, 0, none⟩), W1.alloc (.cells #[.int .i64 0, .int .i64 0, .int .i64 0] 23), by (go_simp <;> rfl), ?_⟩)
  simp only [Act.put, List.setIfInBounds_toArray, List.set_cons_zero, List.set_cons_succ]
  refine wpG_store (none) rfl (by rfl) (fun W3 hg4 => ⟨_, run_store_mid 23 (.tmp 7) (.tmp 18) rfl (W1.heap.size) 0 #[.int .i64 d0, .int .i64 d1, .int .i64 d2] rfl rfl (Row.room hg4 3 rfl) (by kernel_rfl) (by kernel_rfl), ?_⟩)
  simp only [Act.put]
  refine @wpG_tk _ _ _ _ _ (some 8) (.bool k0) _ _ rfl (.val (by rfl) (fun _ _ => rfl)) ?_
  simp only [Act.put, List.setIfInBounds_toArray, List.set_cons_zero, List.set_cons_succ]
  refine wpG_done (fun V5 hv6 => ?_)
  have l8 : w.heap.size < W1.heap.size := (R0.out.below hg2).lt
  have l9 : w.heap.size + 1 < W1.heap.size := (R1.out.below hg2).lt
  have l10 : w.heap.size ≤ W1.heap.size := (Gr.to G0.out hg2).size
  have R11 := Lib.hid ((R0.out.below hg2).past hg4 hv6)
  have R12 := Lib.hid ((R1.out.below hg2).past hg4 hv6)
  have R13 := Lib.hid (Row.made (zs := [.int .i64 0, .int .i64 0, .int .i64 0]) (ds := [.int .i64 d0, .int .i64 d1, .int .i64 d2]) rfl hg4 hv6)
  have G7 := Lib.hid (Gr.to (Gr.to G0.out hg2) (Gr.past hg4 hv6))
  clear hg4 hv6 
  go_upto_region 2 with fail
  refine wpG_region ?_
  refine @wpG_tk _ _ _ _ _ (some 20) (.bool k0) _ _ rfl (.val (by rfl) (fun _ _ => rfl)) ?_
  simp only [Act.put, List.setIfInBounds_toArray, List.set_cons_zero, List.set_cons_succ]
  refine @wpG_tk _ _ _ _ _ (some 21) (.bool k0) _ _ rfl (.val (by rfl) (fun _ _ => rfl)) ?_
  simp only [Act.put, List.setIfInBounds_toArray, List.set_cons_zero, List.set_cons_succ]
  refine @wpG_tk _ _ _ _ _ (some 22) ((bif k0 then .agg #[.int .i64 d0, .int .i64 d1, .int .i64 d2] else undef)) _ _ rfl (by cases k0 with | false => exact .no (by rfl) | true => exact (.load_mid (by rfl) 23 (.tmp 7) rfl (W1.heap.size) 0 rfl [.int .i64 d0, .int .i64 d1, .int .i64 d2] _ (fun W hg => (R13.out.below hg).range) Try.underlying23 rfl (by kernel_rfl))) ?_
  simp only [Act.put, List.setIfInBounds_toArray, List.set_cons_zero, List.set_cons_succ]
  refine @wpG_tk _ _ _ _ _ (some 23) ((bif k0 then .int .i64 (Mo.enc d0 d1 d2) else undef)) _ _ rfl (by cases k0 with | false => exact .no (by rfl) | true => exact (.call (f := 13) (args := #[.agg #[.int .i64 d0, .int .i64 d1, .int .i64 d2]]) (by rfl) (fun W => by go_simp) (fun W hg => encode_any d0 d1 d2 W))) ?_
  simp only [Act.put, List.setIfInBounds_toArray, List.set_cons_zero, List.set_cons_succ]
  refine @wpG_tk _ _ _ _ _ (some 24) ((bif k0 then .int .i64 n else undef)) _ _ rfl (by cases k0 with | false => exact .no (by rfl) | true => exact (.val (by rfl) (fun _ _ => rfl))) ?_
  simp only [Act.put, List.setIfInBounds_toArray, List.set_cons_zero, List.set_cons_succ]
  refine @wpG_tk _ _ _ _ _ (some 25) ((bif k0 then .bool (decide (Mo.enc d0 d1 d2 ≠ n)) else undef)) _ _ rfl (by cases k0 with | false => exact .no (by rfl) | true => exact (.val (by rfl) (fun W hg => by go_simp; first | rfl | (simp [bne]; done)))) ?_
  simp only [Act.put, List.setIfInBounds_toArray, List.set_cons_zero, List.set_cons_succ]
  refine @wpG_tk _ _ _ _ _ (some 26) (.bool (k0 && (decide (Mo.enc d0 d1 d2 ≠ n)))) _ _ rfl (.val (by rfl) (fun W hg => by cases k0 <;> go_simp)) ?_
  simp only [Act.put, List.setIfInBounds_toArray, List.set_cons_zero, List.set_cons_succ]
  obtain ⟨c14, hc14⟩ : ∃ b, b = (k0 && (decide (Mo.enc d0 d1 d2 ≠ n))) := ⟨_, rfl⟩
  rw [← hc14]
  have Hc14 := Lib.hid hc14
  clear hc14
  refine wpG_done (fun V15 hv16 => ?_)
  have GC17 := Lib.hid hv16
  clear hv16
  rw [show c14 = false from HQN.out _ Hc14.out]
  go_upto_region 4 with fail
  refine wpG_region ?_
  refine @wpG_tk _ _ _ _ _ (some 27) (.agg #[.int .i64 a1, .int .i64 a2, .int .i64 a3]) _ _ rfl (.load_mid (by rfl) 23 (.tmp 3) rfl (w.heap.size) 0 rfl [.int .i64 a1, .int .i64 a2, .int .i64 a3] _ (fun W hg => (R11.out.below (GC17.out.trans hg)).range) Try.underlying23 rfl (by kernel_rfl)) ?_
  simp only [Act.put, List.setIfInBounds_toArray, List.set_cons_zero, List.set_cons_succ]
  refine @wpG_tk _ _ _ _ _ (some 28) (.bool false) _ _ rfl (.call (f := 30) (args := #[.agg #[.int .i64 a1, .int .i64 a2, .int .i64 a3]]) (by rfl) (fun W => by go_simp) (fun W hg => (HIN.out ▸ rinside_b a1 a2 a3 W))) ?_
  simp only [Act.put, List.setIfInBounds_toArray, List.set_cons_zero, List.set_cons_succ]
  refine @wpG_tk _ _ _ _ _ (some 9) (.bool false) _ _ rfl (.val (by rfl) (fun _ _ => rfl)) ?_
  simp only [Act.put, List.setIfInBounds_toArray, List.set_cons_zero, List.set_cons_succ]
  refine wpG_done (fun V18 hv19 => ?_)
  have GC20 := Lib.hid (GC17.out.trans hv19)
  clear hv19
  go_upto_region 5 with fail
  refine wpG_region ?_
  refine @wpG_tk _ _ _ _ _ (some 29) (.agg #[.int .i64 a1, .int .i64 a2, .int .i64 a3]) _ _ rfl (.load_mid (by rfl) 23 (.tmp 3) rfl (w.heap.size) 0 rfl [.int .i64 a1, .int .i64 a2, .int .i64 a3] _ (fun W hg => (R11.out.below (GC20.out.trans hg)).range) Try.underlying23 rfl (by kernel_rfl)) ?_
  simp only [Act.put, List.setIfInBounds_toArray, List.set_cons_zero, List.set_cons_succ]
  refine @wpG_tk _ _ _ _ _ (some 30) (.int .i64 x0) _ _ rfl (.call (f := 13) (args := #[.agg #[.int .i64 a1, .int .i64 a2, .int .i64 a3]]) (by rfl) (fun W => by go_simp) (fun W hg => (HX.out ▸ encode_any a1 a2 a3 W))) ?_
  simp only [Act.put, List.setIfInBounds_toArray, List.set_cons_zero, List.set_cons_succ]
  refine @wpG_tk _ _ _ _ _ (some 10) (.int .i64 x0) _ _ rfl (.val (by rfl) (fun _ _ => rfl)) ?_
  simp only [Act.put, List.setIfInBounds_toArray, List.set_cons_zero, List.set_cons_succ]
  refine wpG_done (fun V21 hv22 => ?_)
  have GC23 := Lib.hid (GC20.out.trans hv22)
  clear hv22
  go_upto_region 6 with fail
  refine wpG_region ?_
  refine @wpG_tk _ _ _ _ _ (some 32) (.int .i64 x0) _ _ rfl (.val (by rfl) (fun _ _ => rfl)) ?_
  simp only [Act.put, List.setIfInBounds_toArray, List.set_cons_zero, List.set_cons_succ]
  refine @wpG_tk _ _ _ _ _ (some 33) (.tuple #[.agg #[.int .i64 0, .int .i64 0, .int .i64 0], .bool false]) _ _ rfl (.call (f := 9) (args := #[.int .i64 x0]) (by rfl) (fun W => by go_simp) (fun W hg => rename (decode_any x0 W) (by rw [HE0.out, HE1.out, HE2.out, HEK.out]))) ?_
  simp only [Act.put, List.setIfInBounds_toArray, List.set_cons_zero, List.set_cons_succ]
  refine @wpG_tk _ _ _ _ _ (some 31) (.tuple #[.agg #[.int .i64 0, .int .i64 0, .int .i64 0], .bool false]) _ _ rfl (.val (by rfl) (fun _ _ => rfl)) ?_
  simp only [Act.put, List.setIfInBounds_toArray, List.set_cons_zero, List.set_cons_succ]
  refine @wpG_tk _ _ _ _ _ (some 34) (.agg #[.int .i64 0, .int .i64 0, .int .i64 0]) _ _ rfl (.val (by rfl) (fun W hg => by go_simp)) ?_
  simp only [Act.put, List.setIfInBounds_toArray, List.set_cons_zero, List.set_cons_succ]
  refine @wpG_tk _ _ _ _ _ (some 35) (.bool false) _ _ rfl (.val (by rfl) (fun W hg => by go_simp)) ?_
  simp only [Act.put, List.setIfInBounds_toArray, List.set_cons_zero, List.set_cons_succ]
  refine wpG_val (some 11) rfl (by rfl) (fun W24 hg25 => ⟨.pointer (some ⟨W24.heap.size, 0, none⟩), W24.alloc (.cells #[.int .i64 0, .int .i64 0, .int .i64 0] 23), by (go_simp <;> rfl), ?_⟩)
  simp only [Act.put, List.setIfInBounds_toArray, List.set_cons_zero, List.set_cons_succ]
  refine wpG_store (none) rfl (by rfl) (fun W26 hg27 => ⟨_, run_store_mid 23 (.tmp 11) (.tmp 34) rfl (W24.heap.size) 0 #[.int .i64 0, .int .i64 0, .int .i64 0] rfl rfl (Row.room hg27 3 rfl) (by kernel_rfl) (by kernel_rfl), ?_⟩)
  simp only [Act.put]
  refine @wpG_tk _ _ _ _ _ (some 12) (.bool false) _ _ rfl (.val (by rfl) (fun _ _ => rfl)) ?_
  simp only [Act.put, List.setIfInBounds_toArray, List.set_cons_zero, List.set_cons_succ]
  refine wpG_done (fun V28 hv29 => ?_)
  have l31 : w.heap.size < W24.heap.size := (R11.out.below (GC23.out.trans hg25)).lt
  have l32 : w.heap.size + 1 < W24.heap.size := (R12.out.below (GC23.out.trans hg25)).lt
  have l33 : W1.heap.size < W24.heap.size := (R13.out.below (GC23.out.trans hg25)).lt
  have l34 : w.heap.size ≤ W24.heap.size := (Gr.to G7.out (GC23.out.trans hg25)).size
  have R35 := Lib.hid ((R11.out.below (GC23.out.trans hg25)).past hg27 hv29)
  have R36 := Lib.hid ((R12.out.below (GC23.out.trans hg25)).past hg27 hv29)
  have R37 := Lib.hid ((R13.out.below (GC23.out.trans hg25)).past hg27 hv29)
  have R38 := Lib.hid (Row.made (zs := [.int .i64 0, .int .i64 0, .int .i64 0]) (ds := [.int .i64 0, .int .i64 0, .int .i64 0]) rfl hg27 hv29)
  have G30 := Lib.hid (Gr.to (Gr.to G7.out (GC23.out.trans hg25)) (Gr.past hg27 hv29))
  clear hg27 hv29 
  go_upto_region 7 with fail
  refine wpG_region ?_
  refine @wpG_tk _ _ _ _ _ (some 36) (.bool false) _ _ rfl (.val (by rfl) (fun _ _ => rfl)) ?_
  simp only [Act.put, List.setIfInBounds_toArray, List.set_cons_zero, List.set_cons_succ]
  refine @wpG_tk _ _ _ _ _ (some 37) (.bool false) _ _ rfl (.val (by rfl) (fun _ _ => rfl)) ?_
  simp only [Act.put, List.setIfInBounds_toArray, List.set_cons_zero, List.set_cons_succ]
  refine @wpG_tk _ _ _ _ _ (some 38) (.bool false) _ _ rfl (.val (by rfl) (fun W hg => by go_simp)) ?_
  simp only [Act.put, List.setIfInBounds_toArray, List.set_cons_zero, List.set_cons_succ]
  refine @wpG_tk _ _ _ _ _ (some 39) (.bool false) _ _ rfl (.val (by rfl) (fun _ _ => rfl)) ?_
  simp only [Act.put, List.setIfInBounds_toArray, List.set_cons_zero, List.set_cons_succ]
  refine @wpG_tk _ _ _ _ _ (some 40) (.bool false) _ _ rfl (.val (by rfl) (fun _ _ => rfl)) ?_
  simp only [Act.put, List.setIfInBounds_toArray, List.set_cons_zero, List.set_cons_succ]
  refine @wpG_tk _ _ _ _ _ (some 41) (.bool false) _ _ rfl (.val (by rfl) (fun _ _ => rfl)) ?_
  simp only [Act.put, List.setIfInBounds_toArray, List.set_cons_zero, List.set_cons_succ]
  refine @wpG_tk _ _ _ _ _ (some 42) (undef) _ _ rfl (.no (by rfl)) ?_
  simp only [Act.put, List.setIfInBounds_toArray, List.set_cons_zero, List.set_cons_succ]
  refine @wpG_tk _ _ _ _ _ (some 43) (undef) _ _ rfl (.no (by rfl)) ?_
  simp only [Act.put, List.setIfInBounds_toArray, List.set_cons_zero, List.set_cons_succ]
  refine @wpG_tk _ _ _ _ _ (some 44) (undef) _ _ rfl (.no (by rfl)) ?_
  simp only [Act.put, List.setIfInBounds_toArray, List.set_cons_zero, List.set_cons_succ]
  refine @wpG_tk _ _ _ _ _ (some 45) (.bool false) _ _ rfl (.val (by rfl) (fun W hg => by go_simp)) ?_
  simp only [Act.put, List.setIfInBounds_toArray, List.set_cons_zero, List.set_cons_succ]
  refine @wpG_tk _ _ _ _ _ (some 46) (.bool false) _ _ rfl (.val (by rfl) (fun W hg => by go_simp)) ?_
  simp only [Act.put, List.setIfInBounds_toArray, List.set_cons_zero, List.set_cons_succ]
  refine wpG_done (fun V39 hv40 => ?_)
  have GC41 := Lib.hid hv40
  clear hv40
  go_upto_region 9 with fail
  refine wpG_region ?_
  refine @wpG_tk _ _ _ _ _ (some 47) (.agg #[.int .i64 b1, .int .i64 b2, .int .i64 b3]) _ _ rfl (.load_mid (by rfl) 23 (.tmp 4) rfl (w.heap.size + 1) 0 rfl [.int .i64 b1, .int .i64 b2, .int .i64 b3] _ (fun W hg => (R36.out.below (GC41.out.trans hg)).range) Try.underlying23 rfl (by kernel_rfl)) ?_
  simp only [Act.put, List.setIfInBounds_toArray, List.set_cons_zero, List.set_cons_succ]
  refine @wpG_tk _ _ _ _ _ (some 48) (.int .i64 y0) _ _ rfl (.call (f := 13) (args := #[.agg #[.int .i64 b1, .int .i64 b2, .int .i64 b3]]) (by rfl) (fun W => by go_simp) (fun W hg => (HY.out ▸ encode_any b1 b2 b3 W))) ?_
  simp only [Act.put, List.setIfInBounds_toArray, List.set_cons_zero, List.set_cons_succ]
  refine @wpG_tk _ _ _ _ _ (some 13) (.int .i64 y0) _ _ rfl (.val (by rfl) (fun _ _ => rfl)) ?_
  simp only [Act.put, List.setIfInBounds_toArray, List.set_cons_zero, List.set_cons_succ]
  refine wpG_done (fun V42 hv43 => ?_)
  have GC44 := Lib.hid (GC41.out.trans hv43)
  clear hv43
  go_upto_region 10 with fail
  refine wpG_region ?_
  refine @wpG_tk _ _ _ _ _ (some 49) (.agg #[.int .i64 a1, .int .i64 a2, .int .i64 a3]) _ _ rfl (.load_mid (by rfl) 23 (.tmp 3) rfl (w.heap.size) 0 rfl [.int .i64 a1, .int .i64 a2, .int .i64 a3] _ (fun W hg => (R35.out.below (GC44.out.trans hg)).range) Try.underlying23 rfl (by kernel_rfl)) ?_
  simp only [Act.put, List.setIfInBounds_toArray, List.set_cons_zero, List.set_cons_succ]
  refine @wpG_tk _ _ _ _ _ (some 50) (.agg #[.int .i64 b1, .int .i64 b2, .int .i64 b3]) _ _ rfl (.load_mid (by rfl) 23 (.tmp 4) rfl (w.heap.size + 1) 0 rfl [.int .i64 b1, .int .i64 b2, .int .i64 b3] _ (fun W hg => (R36.out.below (GC44.out.trans hg)).range) Try.underlying23 rfl (by kernel_rfl)) ?_
  simp only [Act.put, List.setIfInBounds_toArray, List.set_cons_zero, List.set_cons_succ]
  refine @wpG_tk _ _ _ _ _ (some 51) (.int .i64 (-1)) _ _ rfl (.call (f := 15) (args := #[.agg #[.int .i64 a1, .int .i64 a2, .int .i64 a3], .agg #[.int .i64 b1, .int .i64 b2, .int .i64 b3]]) (by rfl) (fun W => by go_simp) (fun W hg => (HC.out ▸ compare_any a1 a2 a3 b1 b2 b3 W))) ?_
  simp only [Act.put, List.setIfInBounds_toArray, List.set_cons_zero, List.set_cons_succ]
  refine @wpG_tk _ _ _ _ _ (some 14) (.int .i64 (-1)) _ _ rfl (.val (by rfl) (fun _ _ => rfl)) ?_
  simp only [Act.put, List.setIfInBounds_toArray, List.set_cons_zero, List.set_cons_succ]
  refine wpG_done (fun V45 hv46 => ?_)
  have GC47 := Lib.hid (GC44.out.trans hv46)
  clear hv46
  go_upto_region 11 with fail
  refine wpG_region ?_
  refine @wpG_tk _ _ _ _ _ (some 52) (.bool true) _ _ rfl (.call (f := 21) (args := #[]) (by rfl) (fun W => by go_simp) (fun W hg => sanity_any W)) ?_
  simp only [Act.put, List.setIfInBounds_toArray, List.set_cons_zero, List.set_cons_succ]
  refine @wpG_tk _ _ _ _ _ (some 53) (.bool true) _ _ rfl (.val (by rfl) (fun _ _ => rfl)) ?_
  simp only [Act.put, List.setIfInBounds_toArray, List.set_cons_zero, List.set_cons_succ]
  refine @wpG_tk _ _ _ _ _ (some 54) (.int .i64 (-1)) _ _ rfl (.val (by rfl) (fun _ _ => rfl)) ?_
  simp only [Act.put, List.setIfInBounds_toArray, List.set_cons_zero, List.set_cons_succ]
  refine @wpG_tk _ _ _ _ _ (some 55) (.bool true) _ _ rfl (.val (by rfl) (fun W hg => by have hq : ((-1) < 0) := (by omega); first | (go_simp; done) | (go_simp <;> omega))) ?_
  simp only [Act.put, List.setIfInBounds_toArray, List.set_cons_zero, List.set_cons_succ]
  refine @wpG_tk _ _ _ _ _ (some 56) (.int .i64 x0) _ _ rfl (.val (by rfl) (fun _ _ => rfl)) ?_
  simp only [Act.put, List.setIfInBounds_toArray, List.set_cons_zero, List.set_cons_succ]
  refine @wpG_tk _ _ _ _ _ (some 57) (.int .i64 y0) _ _ rfl (.val (by rfl) (fun _ _ => rfl)) ?_
  simp only [Act.put, List.setIfInBounds_toArray, List.set_cons_zero, List.set_cons_succ]
  refine @wpG_tk _ _ _ _ _ (some 58) (.bool true) _ _ rfl (.val (by rfl) (fun W hg => by have hq : (x0 < y0) := (by omega); first | (go_simp; done) | (go_simp <;> omega))) ?_
  simp only [Act.put, List.setIfInBounds_toArray, List.set_cons_zero, List.set_cons_succ]
  refine @wpG_tk _ _ _ _ _ (some 59) (.bool true) _ _ rfl (.val (by rfl) (fun W hg => by go_simp)) ?_
  simp only [Act.put, List.setIfInBounds_toArray, List.set_cons_zero, List.set_cons_succ]
  refine @wpG_tk _ _ _ _ _ (some 60) (.bool true) _ _ rfl (.val (by rfl) (fun W hg => by go_simp)) ?_
  simp only [Act.put, List.setIfInBounds_toArray, List.set_cons_zero, List.set_cons_succ]
  refine @wpG_tk _ _ _ _ _ (some 61) (.bool true) _ _ rfl (.val (by rfl) (fun _ _ => rfl)) ?_
  simp only [Act.put, List.setIfInBounds_toArray, List.set_cons_zero, List.set_cons_succ]
  refine @wpG_tk _ _ _ _ _ (some 62) (.int .i64 (-1)) _ _ rfl (.val (by rfl) (fun _ _ => rfl)) ?_
  simp only [Act.put, List.setIfInBounds_toArray, List.set_cons_zero, List.set_cons_succ]
  refine @wpG_tk _ _ _ _ _ (some 63) (.bool false) _ _ rfl (.val (by rfl) (fun W hg => by have hq : ¬ ((-1) = 0) := (by omega); first | (go_simp; done) | (go_simp <;> omega))) ?_
  simp only [Act.put, List.setIfInBounds_toArray, List.set_cons_zero, List.set_cons_succ]
  refine @wpG_tk _ _ _ _ _ (some 64) (.int .i64 x0) _ _ rfl (.val (by rfl) (fun _ _ => rfl)) ?_
  simp only [Act.put, List.setIfInBounds_toArray, List.set_cons_zero, List.set_cons_succ]
  refine @wpG_tk _ _ _ _ _ (some 65) (.int .i64 y0) _ _ rfl (.val (by rfl) (fun _ _ => rfl)) ?_
  simp only [Act.put, List.setIfInBounds_toArray, List.set_cons_zero, List.set_cons_succ]
  refine @wpG_tk _ _ _ _ _ (some 66) (.bool false) _ _ rfl (.val (by rfl) (fun W hg => by have hq : ¬ (x0 = y0) := (by omega); first | (go_simp; done) | (go_simp <;> omega))) ?_
  simp only [Act.put, List.setIfInBounds_toArray, List.set_cons_zero, List.set_cons_succ]
  refine @wpG_tk _ _ _ _ _ (some 67) (.bool true) _ _ rfl (.val (by rfl) (fun W hg => by go_simp)) ?_
  simp only [Act.put, List.setIfInBounds_toArray, List.set_cons_zero, List.set_cons_succ]
  refine @wpG_tk _ _ _ _ _ (some 68) (.bool true) _ _ rfl (.val (by rfl) (fun W hg => by go_simp)) ?_
  simp only [Act.put, List.setIfInBounds_toArray, List.set_cons_zero, List.set_cons_succ]
  refine @wpG_tk _ _ _ _ _ (some 69) (.bool true) _ _ rfl (.val (by rfl) (fun _ _ => rfl)) ?_
  simp only [Act.put, List.setIfInBounds_toArray, List.set_cons_zero, List.set_cons_succ]
  refine @wpG_tk _ _ _ _ _ (some 70) (.agg #[.int .i64 b1, .int .i64 b2, .int .i64 b3]) _ _ rfl (.load_mid (by rfl) 23 (.tmp 4) rfl (w.heap.size + 1) 0 rfl [.int .i64 b1, .int .i64 b2, .int .i64 b3] _ (fun W hg => (R36.out.below (GC47.out.trans hg)).range) Try.underlying23 rfl (by kernel_rfl)) ?_
  simp only [Act.put, List.setIfInBounds_toArray, List.set_cons_zero, List.set_cons_succ]
  refine @wpG_tk _ _ _ _ _ (some 71) (.agg #[.int .i64 a1, .int .i64 a2, .int .i64 a3]) _ _ rfl (.load_mid (by rfl) 23 (.tmp 3) rfl (w.heap.size) 0 rfl [.int .i64 a1, .int .i64 a2, .int .i64 a3] _ (fun W hg => (R35.out.below (GC47.out.trans hg)).range) Try.underlying23 rfl (by kernel_rfl)) ?_
  simp only [Act.put, List.setIfInBounds_toArray, List.set_cons_zero, List.set_cons_succ]
  refine @wpG_tk _ _ _ _ _ (some 72) (.int .i64 1) _ _ rfl (.call (f := 15) (args := #[.agg #[.int .i64 b1, .int .i64 b2, .int .i64 b3], .agg #[.int .i64 a1, .int .i64 a2, .int .i64 a3]]) (by rfl) (fun W => by go_simp) (fun W hg => (HC2.out ▸ compare_any b1 b2 b3 a1 a2 a3 W))) ?_
  simp only [Act.put, List.setIfInBounds_toArray, List.set_cons_zero, List.set_cons_succ]
  refine @wpG_tk _ _ _ _ _ (some 73) (.int .i64 (-1)) _ _ rfl (.val (by rfl) (fun _ _ => rfl)) ?_
  simp only [Act.put, List.setIfInBounds_toArray, List.set_cons_zero, List.set_cons_succ]
  refine @wpG_tk _ _ _ _ _ (some 74) (.int .i64 1) _ _ rfl (.val (by rfl) (fun W hg => by go_simp <;> rfl)) ?_
  simp only [Act.put, List.setIfInBounds_toArray, List.set_cons_zero, List.set_cons_succ]
  refine @wpG_tk _ _ _ _ _ (some 75) (.bool true) _ _ rfl (.val (by rfl) (fun W hg => by go_simp)) ?_
  simp only [Act.put, List.setIfInBounds_toArray, List.set_cons_zero, List.set_cons_succ]
  refine @wpG_tk _ _ _ _ _ (some 76) (.bool true) _ _ rfl (.val (by rfl) (fun W hg => by go_simp)) ?_
  simp only [Act.put, List.setIfInBounds_toArray, List.set_cons_zero, List.set_cons_succ]
  refine @wpG_tk _ _ _ _ _ (some 6) (.bool true) _ _ rfl (.val (by rfl) (fun _ _ => rfl)) ?_
  simp only [Act.put, List.setIfInBounds_toArray, List.set_cons_zero, List.set_cons_succ]
  refine wpG_done (fun V48 hv49 => ?_)
  have GC50 := Lib.hid (GC47.out.trans hv49)
  clear hv49
  go_wp2_with fail
  go_ret
  exact ⟨rfl, Gr.to G30.out GC50.out⟩
set_option maxRecDepth 1000000 in
set_option maxHeartbeats 4000000 in
theorem law3_fe (a1 a2 a3 b1 b2 b3 n : Int) (w : World) (hin : Mo.inB a1 a2 a3 = false) (hc : Mo.enc a1 a2 a3 = Mo.enc b1 b2 b3) :
    Calls Try.prog 5 #[.agg #[.int .i64 a1, .int .i64 a2, .int .i64 a3], .agg #[.int .i64 b1, .int .i64 b2, .int .i64 b3], .int .i64 n] w fun e w' => e = .returned (.bool true) ∧ Below w.heap.size w w' := by
  obtain ⟨x0, hx⟩ : ∃ x, x = Mo.enc a1 a2 a3 := ⟨_, rfl⟩
  obtain ⟨y0, hy⟩ : ∃ x, x = Mo.enc b1 b2 b3 := ⟨_, rfl⟩
  obtain ⟨k0, hk⟩ : ∃ k, k = Mo.okB n := ⟨_, rfl⟩
  obtain ⟨d0, hd0⟩ : ∃ d, d = Mo.dec 0 n := ⟨_, rfl⟩
  obtain ⟨d1, hd1⟩ : ∃ d, d = Mo.dec 1 n := ⟨_, rfl⟩
  obtain ⟨d2, hd2⟩ : ∃ d, d = Mo.dec 2 n := ⟨_, rfl⟩
  have hqn : ∀ c, c = (k0 && decide (Mo.enc d0 d1 d2 ≠ n)) → c = false := fun c hc => by
    rw [hc, hk, hd0, hd1, hd2]
    cases h : Mo.okB n with
    | false => rfl
    | true => rw [Mo.enc_dec h]; simp
  rw [← hx, ← hy] at hc
  have hcm : 0 = Mo.cmpI (Mo.enc a1 a2 a3) (Mo.enc b1 b2 b3) := by rw [← hx, ← hy, Mo.cmp_eq hc]
  have hcm2 : 0 = Mo.cmpI (Mo.enc b1 b2 b3) (Mo.enc a1 a2 a3) := by rw [← hx, ← hy, Mo.cmp_eq hc.symm]
  have he : (Mo.dec 0 x0 = 0 ∧ Mo.dec 1 x0 = 0 ∧ Mo.dec 2 x0 = 0) ∧ Mo.okB x0 = false := by
    rw [hx]
    exact ⟨⟨Mo.dec_out (Mo.okB_enc' hin), Mo.dec_out (Mo.okB_enc' hin), Mo.dec_out (Mo.okB_enc' hin)⟩, Mo.okB_enc' hin⟩
  have HQN := Lib.hid hqn
  have HIN := Lib.hid hin
  have HX := Lib.hid hx
  have HY := Lib.hid hy
  have HK := Lib.hid hk
  have HD0 := Lib.hid hd0
  have HD1 := Lib.hid hd1
  have HD2 := Lib.hid hd2
  have HC := Lib.hid hcm
  have HC2 := Lib.hid hcm2
  have HE0 := Lib.hid he.1.1
  have HE1 := Lib.hid he.1.2.1
  have HE2 := Lib.hid he.1.2.2
  have HEK := Lib.hid he.2
  clear hqn hin hx hy hk hd0 hd1 hd2 hcm hcm2 he
  obtain ⟨u, hu, r0, r1, g0⟩ := rows2 w [.int .i64 a1, .int .i64 a2, .int .i64 a3] 23 [.int .i64 b1, .int .i64 b2, .int .i64 b3] 23
  have R0 := Lib.hid r0
  have R1 := Lib.hid r1
  have G0 := Lib.hid g0
  have HU := Lib.hid hu
  clear hu g0 r0 r1
  go_enter Try.func5, Try.ntmps5
  go_upto_region 1 with fail
  rw [← HU.out]
  refine wpG_region ?_
  refine @wpG_tk _ _ _ _ _ (some 16) (.int .i64 n) _ _ rfl (.val (by rfl) (fun _ _ => rfl)) ?_
  simp only [Act.put, List.setIfInBounds_toArray, List.set_cons_zero, List.set_cons_succ]
  refine @wpG_tk _ _ _ _ _ (some 17) (.tuple #[.agg #[.int .i64 d0, .int .i64 d1, .int .i64 d2], .bool k0]) _ _ rfl (.call (f := 9) (args := #[.int .i64 n]) (by rfl) (fun W => by go_simp) (fun W hg => (HK.out ▸ HD0.out ▸ HD1.out ▸ HD2.out ▸ decode_any n W))) ?_
  simp only [Act.put, List.setIfInBounds_toArray, List.set_cons_zero, List.set_cons_succ]
  refine @wpG_tk _ _ _ _ _ (some 15) (.tuple #[.agg #[.int .i64 d0, .int .i64 d1, .int .i64 d2], .bool k0]) _ _ rfl (.val (by rfl) (fun _ _ => rfl)) ?_
  simp only [Act.put, List.setIfInBounds_toArray, List.set_cons_zero, List.set_cons_succ]
  refine @wpG_tk _ _ _ _ _ (some 18) (.agg #[.int .i64 d0, .int .i64 d1, .int .i64 d2]) _ _ rfl (.val (by rfl) (fun W hg => by go_simp)) ?_
  simp only [Act.put, List.setIfInBounds_toArray, List.set_cons_zero, List.set_cons_succ]
  refine @wpG_tk _ _ _ _ _ (some 19) (.bool k0) _ _ rfl (.val (by rfl) (fun W hg => by go_simp)) ?_
  simp only [Act.put, List.setIfInBounds_toArray, List.set_cons_zero, List.set_cons_succ]
  refine wpG_val (some 7) rfl (by rfl) (fun W1 hg2 => ⟨.pointer (some ⟨W1.heap.size, 0, none⟩), W1.alloc (.cells #[.int .i64 0, .int .i64 0, .int .i64 0] 23), by (go_simp <;> rfl), ?_⟩)
  simp only [Act.put, List.setIfInBounds_toArray, List.set_cons_zero, List.set_cons_succ]
  refine wpG_store (none) rfl (by rfl) (fun W3 hg4 => ⟨_, run_store_mid 23 (.tmp 7) (.tmp 18) rfl (W1.heap.size) 0 #[.int .i64 d0, .int .i64 d1, .int .i64 d2] rfl rfl (Row.room hg4 3 rfl) (by kernel_rfl) (by kernel_rfl), ?_⟩)
  simp only [Act.put]
  refine @wpG_tk _ _ _ _ _ (some 8) (.bool k0) _ _ rfl (.val (by rfl) (fun _ _ => rfl)) ?_
  simp only [Act.put, List.setIfInBounds_toArray, List.set_cons_zero, List.set_cons_succ]
  refine wpG_done (fun V5 hv6 => ?_)
  have l8 : w.heap.size < W1.heap.size := (R0.out.below hg2).lt
  have l9 : w.heap.size + 1 < W1.heap.size := (R1.out.below hg2).lt
  have l10 : w.heap.size ≤ W1.heap.size := (Gr.to G0.out hg2).size
  have R11 := Lib.hid ((R0.out.below hg2).past hg4 hv6)
  have R12 := Lib.hid ((R1.out.below hg2).past hg4 hv6)
  have R13 := Lib.hid (Row.made (zs := [.int .i64 0, .int .i64 0, .int .i64 0]) (ds := [.int .i64 d0, .int .i64 d1, .int .i64 d2]) rfl hg4 hv6)
  have G7 := Lib.hid (Gr.to (Gr.to G0.out hg2) (Gr.past hg4 hv6))
  clear hg4 hv6 
  go_upto_region 2 with fail
  refine wpG_region ?_
  refine @wpG_tk _ _ _ _ _ (some 20) (.bool k0) _ _ rfl (.val (by rfl) (fun _ _ => rfl)) ?_
  simp only [Act.put, List.setIfInBounds_toArray, List.set_cons_zero, List.set_cons_succ]
  refine @wpG_tk _ _ _ _ _ (some 21) (.bool k0) _ _ rfl (.val (by rfl) (fun _ _ => rfl)) ?_
  simp only [Act.put, List.setIfInBounds_toArray, List.set_cons_zero, List.set_cons_succ]
  refine @wpG_tk _ _ _ _ _ (some 22) ((bif k0 then .agg #[.int .i64 d0, .int .i64 d1, .int .i64 d2] else undef)) _ _ rfl (by cases k0 with | false => exact .no (by rfl) | true => exact (.load_mid (by rfl) 23 (.tmp 7) rfl (W1.heap.size) 0 rfl [.int .i64 d0, .int .i64 d1, .int .i64 d2] _ (fun W hg => (R13.out.below hg).range) Try.underlying23 rfl (by kernel_rfl))) ?_
  simp only [Act.put, List.setIfInBounds_toArray, List.set_cons_zero, List.set_cons_succ]
  refine @wpG_tk _ _ _ _ _ (some 23) ((bif k0 then .int .i64 (Mo.enc d0 d1 d2) else undef)) _ _ rfl (by cases k0 with | false => exact .no (by rfl) | true => exact (.call (f := 13) (args := #[.agg #[.int .i64 d0, .int .i64 d1, .int .i64 d2]]) (by rfl) (fun W => by go_simp) (fun W hg => encode_any d0 d1 d2 W))) ?_
  simp only [Act.put, List.setIfInBounds_toArray, List.set_cons_zero, List.set_cons_succ]
  refine @wpG_tk _ _ _ _ _ (some 24) ((bif k0 then .int .i64 n else undef)) _ _ rfl (by cases k0 with | false => exact .no (by rfl) | true => exact (.val (by rfl) (fun _ _ => rfl))) ?_
  simp only [Act.put, List.setIfInBounds_toArray, List.set_cons_zero, List.set_cons_succ]
  refine @wpG_tk _ _ _ _ _ (some 25) ((bif k0 then .bool (decide (Mo.enc d0 d1 d2 ≠ n)) else undef)) _ _ rfl (by cases k0 with | false => exact .no (by rfl) | true => exact (.val (by rfl) (fun W hg => by go_simp; first | rfl | (simp [bne]; done)))) ?_
  simp only [Act.put, List.setIfInBounds_toArray, List.set_cons_zero, List.set_cons_succ]
  refine @wpG_tk _ _ _ _ _ (some 26) (.bool (k0 && (decide (Mo.enc d0 d1 d2 ≠ n)))) _ _ rfl (.val (by rfl) (fun W hg => by cases k0 <;> go_simp)) ?_
  simp only [Act.put, List.setIfInBounds_toArray, List.set_cons_zero, List.set_cons_succ]
  obtain ⟨c14, hc14⟩ : ∃ b, b = (k0 && (decide (Mo.enc d0 d1 d2 ≠ n))) := ⟨_, rfl⟩
  rw [← hc14]
  have Hc14 := Lib.hid hc14
  clear hc14
  refine wpG_done (fun V15 hv16 => ?_)
  have GC17 := Lib.hid hv16
  clear hv16
  rw [show c14 = false from HQN.out _ Hc14.out]
  go_upto_region 4 with fail
  refine wpG_region ?_
  refine @wpG_tk _ _ _ _ _ (some 27) (.agg #[.int .i64 a1, .int .i64 a2, .int .i64 a3]) _ _ rfl (.load_mid (by rfl) 23 (.tmp 3) rfl (w.heap.size) 0 rfl [.int .i64 a1, .int .i64 a2, .int .i64 a3] _ (fun W hg => (R11.out.below (GC17.out.trans hg)).range) Try.underlying23 rfl (by kernel_rfl)) ?_
  simp only [Act.put, List.setIfInBounds_toArray, List.set_cons_zero, List.set_cons_succ]
  refine @wpG_tk _ _ _ _ _ (some 28) (.bool false) _ _ rfl (.call (f := 30) (args := #[.agg #[.int .i64 a1, .int .i64 a2, .int .i64 a3]]) (by rfl) (fun W => by go_simp) (fun W hg => (HIN.out ▸ rinside_b a1 a2 a3 W))) ?_
  simp only [Act.put, List.setIfInBounds_toArray, List.set_cons_zero, List.set_cons_succ]
  refine @wpG_tk _ _ _ _ _ (some 9) (.bool false) _ _ rfl (.val (by rfl) (fun _ _ => rfl)) ?_
  simp only [Act.put, List.setIfInBounds_toArray, List.set_cons_zero, List.set_cons_succ]
  refine wpG_done (fun V18 hv19 => ?_)
  have GC20 := Lib.hid (GC17.out.trans hv19)
  clear hv19
  go_upto_region 5 with fail
  refine wpG_region ?_
  refine @wpG_tk _ _ _ _ _ (some 29) (.agg #[.int .i64 a1, .int .i64 a2, .int .i64 a3]) _ _ rfl (.load_mid (by rfl) 23 (.tmp 3) rfl (w.heap.size) 0 rfl [.int .i64 a1, .int .i64 a2, .int .i64 a3] _ (fun W hg => (R11.out.below (GC20.out.trans hg)).range) Try.underlying23 rfl (by kernel_rfl)) ?_
  simp only [Act.put, List.setIfInBounds_toArray, List.set_cons_zero, List.set_cons_succ]
  refine @wpG_tk _ _ _ _ _ (some 30) (.int .i64 x0) _ _ rfl (.call (f := 13) (args := #[.agg #[.int .i64 a1, .int .i64 a2, .int .i64 a3]]) (by rfl) (fun W => by go_simp) (fun W hg => (HX.out ▸ encode_any a1 a2 a3 W))) ?_
  simp only [Act.put, List.setIfInBounds_toArray, List.set_cons_zero, List.set_cons_succ]
  refine @wpG_tk _ _ _ _ _ (some 10) (.int .i64 x0) _ _ rfl (.val (by rfl) (fun _ _ => rfl)) ?_
  simp only [Act.put, List.setIfInBounds_toArray, List.set_cons_zero, List.set_cons_succ]
  refine wpG_done (fun V21 hv22 => ?_)
  have GC23 := Lib.hid (GC20.out.trans hv22)
  clear hv22
  go_upto_region 6 with fail
  refine wpG_region ?_
  refine @wpG_tk _ _ _ _ _ (some 32) (.int .i64 x0) _ _ rfl (.val (by rfl) (fun _ _ => rfl)) ?_
  simp only [Act.put, List.setIfInBounds_toArray, List.set_cons_zero, List.set_cons_succ]
  refine @wpG_tk _ _ _ _ _ (some 33) (.tuple #[.agg #[.int .i64 0, .int .i64 0, .int .i64 0], .bool false]) _ _ rfl (.call (f := 9) (args := #[.int .i64 x0]) (by rfl) (fun W => by go_simp) (fun W hg => rename (decode_any x0 W) (by rw [HE0.out, HE1.out, HE2.out, HEK.out]))) ?_
  simp only [Act.put, List.setIfInBounds_toArray, List.set_cons_zero, List.set_cons_succ]
  refine @wpG_tk _ _ _ _ _ (some 31) (.tuple #[.agg #[.int .i64 0, .int .i64 0, .int .i64 0], .bool false]) _ _ rfl (.val (by rfl) (fun _ _ => rfl)) ?_
  simp only [Act.put, List.setIfInBounds_toArray, List.set_cons_zero, List.set_cons_succ]
  refine @wpG_tk _ _ _ _ _ (some 34) (.agg #[.int .i64 0, .int .i64 0, .int .i64 0]) _ _ rfl (.val (by rfl) (fun W hg => by go_simp)) ?_
  simp only [Act.put, List.setIfInBounds_toArray, List.set_cons_zero, List.set_cons_succ]
  refine @wpG_tk _ _ _ _ _ (some 35) (.bool false) _ _ rfl (.val (by rfl) (fun W hg => by go_simp)) ?_
  simp only [Act.put, List.setIfInBounds_toArray, List.set_cons_zero, List.set_cons_succ]
  refine wpG_val (some 11) rfl (by rfl) (fun W24 hg25 => ⟨.pointer (some ⟨W24.heap.size, 0, none⟩), W24.alloc (.cells #[.int .i64 0, .int .i64 0, .int .i64 0] 23), by (go_simp <;> rfl), ?_⟩)
  simp only [Act.put, List.setIfInBounds_toArray, List.set_cons_zero, List.set_cons_succ]
  refine wpG_store (none) rfl (by rfl) (fun W26 hg27 => ⟨_, run_store_mid 23 (.tmp 11) (.tmp 34) rfl (W24.heap.size) 0 #[.int .i64 0, .int .i64 0, .int .i64 0] rfl rfl (Row.room hg27 3 rfl) (by kernel_rfl) (by kernel_rfl), ?_⟩)
  simp only [Act.put]
  refine @wpG_tk _ _ _ _ _ (some 12) (.bool false) _ _ rfl (.val (by rfl) (fun _ _ => rfl)) ?_
  simp only [Act.put, List.setIfInBounds_toArray, List.set_cons_zero, List.set_cons_succ]
  refine wpG_done (fun V28 hv29 => ?_)
  have l31 : w.heap.size < W24.heap.size := (R11.out.below (GC23.out.trans hg25)).lt
  have l32 : w.heap.size + 1 < W24.heap.size := (R12.out.below (GC23.out.trans hg25)).lt
  have l33 : W1.heap.size < W24.heap.size := (R13.out.below (GC23.out.trans hg25)).lt
  have l34 : w.heap.size ≤ W24.heap.size := (Gr.to G7.out (GC23.out.trans hg25)).size
  have R35 := Lib.hid ((R11.out.below (GC23.out.trans hg25)).past hg27 hv29)
  have R36 := Lib.hid ((R12.out.below (GC23.out.trans hg25)).past hg27 hv29)
  have R37 := Lib.hid ((R13.out.below (GC23.out.trans hg25)).past hg27 hv29)
  have R38 := Lib.hid (Row.made (zs := [.int .i64 0, .int .i64 0, .int .i64 0]) (ds := [.int .i64 0, .int .i64 0, .int .i64 0]) rfl hg27 hv29)
  have G30 := Lib.hid (Gr.to (Gr.to G7.out (GC23.out.trans hg25)) (Gr.past hg27 hv29))
  clear hg27 hv29 
  go_upto_region 7 with fail
  refine wpG_region ?_
  refine @wpG_tk _ _ _ _ _ (some 36) (.bool false) _ _ rfl (.val (by rfl) (fun _ _ => rfl)) ?_
  simp only [Act.put, List.setIfInBounds_toArray, List.set_cons_zero, List.set_cons_succ]
  refine @wpG_tk _ _ _ _ _ (some 37) (.bool false) _ _ rfl (.val (by rfl) (fun _ _ => rfl)) ?_
  simp only [Act.put, List.setIfInBounds_toArray, List.set_cons_zero, List.set_cons_succ]
  refine @wpG_tk _ _ _ _ _ (some 38) (.bool false) _ _ rfl (.val (by rfl) (fun W hg => by go_simp)) ?_
  simp only [Act.put, List.setIfInBounds_toArray, List.set_cons_zero, List.set_cons_succ]
  refine @wpG_tk _ _ _ _ _ (some 39) (.bool false) _ _ rfl (.val (by rfl) (fun _ _ => rfl)) ?_
  simp only [Act.put, List.setIfInBounds_toArray, List.set_cons_zero, List.set_cons_succ]
  refine @wpG_tk _ _ _ _ _ (some 40) (.bool false) _ _ rfl (.val (by rfl) (fun _ _ => rfl)) ?_
  simp only [Act.put, List.setIfInBounds_toArray, List.set_cons_zero, List.set_cons_succ]
  refine @wpG_tk _ _ _ _ _ (some 41) (.bool false) _ _ rfl (.val (by rfl) (fun _ _ => rfl)) ?_
  simp only [Act.put, List.setIfInBounds_toArray, List.set_cons_zero, List.set_cons_succ]
  refine @wpG_tk _ _ _ _ _ (some 42) (undef) _ _ rfl (.no (by rfl)) ?_
  simp only [Act.put, List.setIfInBounds_toArray, List.set_cons_zero, List.set_cons_succ]
  refine @wpG_tk _ _ _ _ _ (some 43) (undef) _ _ rfl (.no (by rfl)) ?_
  simp only [Act.put, List.setIfInBounds_toArray, List.set_cons_zero, List.set_cons_succ]
  refine @wpG_tk _ _ _ _ _ (some 44) (undef) _ _ rfl (.no (by rfl)) ?_
  simp only [Act.put, List.setIfInBounds_toArray, List.set_cons_zero, List.set_cons_succ]
  refine @wpG_tk _ _ _ _ _ (some 45) (.bool false) _ _ rfl (.val (by rfl) (fun W hg => by go_simp)) ?_
  simp only [Act.put, List.setIfInBounds_toArray, List.set_cons_zero, List.set_cons_succ]
  refine @wpG_tk _ _ _ _ _ (some 46) (.bool false) _ _ rfl (.val (by rfl) (fun W hg => by go_simp)) ?_
  simp only [Act.put, List.setIfInBounds_toArray, List.set_cons_zero, List.set_cons_succ]
  refine wpG_done (fun V39 hv40 => ?_)
  have GC41 := Lib.hid hv40
  clear hv40
  go_upto_region 9 with fail
  refine wpG_region ?_
  refine @wpG_tk _ _ _ _ _ (some 47) (.agg #[.int .i64 b1, .int .i64 b2, .int .i64 b3]) _ _ rfl (.load_mid (by rfl) 23 (.tmp 4) rfl (w.heap.size + 1) 0 rfl [.int .i64 b1, .int .i64 b2, .int .i64 b3] _ (fun W hg => (R36.out.below (GC41.out.trans hg)).range) Try.underlying23 rfl (by kernel_rfl)) ?_
  simp only [Act.put, List.setIfInBounds_toArray, List.set_cons_zero, List.set_cons_succ]
  refine @wpG_tk _ _ _ _ _ (some 48) (.int .i64 y0) _ _ rfl (.call (f := 13) (args := #[.agg #[.int .i64 b1, .int .i64 b2, .int .i64 b3]]) (by rfl) (fun W => by go_simp) (fun W hg => (HY.out ▸ encode_any b1 b2 b3 W))) ?_
  simp only [Act.put, List.setIfInBounds_toArray, List.set_cons_zero, List.set_cons_succ]
  refine @wpG_tk _ _ _ _ _ (some 13) (.int .i64 y0) _ _ rfl (.val (by rfl) (fun _ _ => rfl)) ?_
  simp only [Act.put, List.setIfInBounds_toArray, List.set_cons_zero, List.set_cons_succ]
  refine wpG_done (fun V42 hv43 => ?_)
  have GC44 := Lib.hid (GC41.out.trans hv43)
  clear hv43
  go_upto_region 10 with fail
  refine wpG_region ?_
  refine @wpG_tk _ _ _ _ _ (some 49) (.agg #[.int .i64 a1, .int .i64 a2, .int .i64 a3]) _ _ rfl (.load_mid (by rfl) 23 (.tmp 3) rfl (w.heap.size) 0 rfl [.int .i64 a1, .int .i64 a2, .int .i64 a3] _ (fun W hg => (R35.out.below (GC44.out.trans hg)).range) Try.underlying23 rfl (by kernel_rfl)) ?_
  simp only [Act.put, List.setIfInBounds_toArray, List.set_cons_zero, List.set_cons_succ]
  refine @wpG_tk _ _ _ _ _ (some 50) (.agg #[.int .i64 b1, .int .i64 b2, .int .i64 b3]) _ _ rfl (.load_mid (by rfl) 23 (.tmp 4) rfl (w.heap.size + 1) 0 rfl [.int .i64 b1, .int .i64 b2, .int .i64 b3] _ (fun W hg => (R36.out.below (GC44.out.trans hg)).range) Try.underlying23 rfl (by kernel_rfl)) ?_
  simp only [Act.put, List.setIfInBounds_toArray, List.set_cons_zero, List.set_cons_succ]
  refine @wpG_tk _ _ _ _ _ (some 51) (.int .i64 0) _ _ rfl (.call (f := 15) (args := #[.agg #[.int .i64 a1, .int .i64 a2, .int .i64 a3], .agg #[.int .i64 b1, .int .i64 b2, .int .i64 b3]]) (by rfl) (fun W => by go_simp) (fun W hg => (HC.out ▸ compare_any a1 a2 a3 b1 b2 b3 W))) ?_
  simp only [Act.put, List.setIfInBounds_toArray, List.set_cons_zero, List.set_cons_succ]
  refine @wpG_tk _ _ _ _ _ (some 14) (.int .i64 0) _ _ rfl (.val (by rfl) (fun _ _ => rfl)) ?_
  simp only [Act.put, List.setIfInBounds_toArray, List.set_cons_zero, List.set_cons_succ]
  refine wpG_done (fun V45 hv46 => ?_)
  have GC47 := Lib.hid (GC44.out.trans hv46)
  clear hv46
  go_upto_region 11 with fail
  refine wpG_region ?_
  refine @wpG_tk _ _ _ _ _ (some 52) (.bool true) _ _ rfl (.call (f := 21) (args := #[]) (by rfl) (fun W => by go_simp) (fun W hg => sanity_any W)) ?_
  simp only [Act.put, List.setIfInBounds_toArray, List.set_cons_zero, List.set_cons_succ]
  refine @wpG_tk _ _ _ _ _ (some 53) (.bool true) _ _ rfl (.val (by rfl) (fun _ _ => rfl)) ?_
  simp only [Act.put, List.setIfInBounds_toArray, List.set_cons_zero, List.set_cons_succ]
  refine @wpG_tk _ _ _ _ _ (some 54) (.int .i64 0) _ _ rfl (.val (by rfl) (fun _ _ => rfl)) ?_
  simp only [Act.put, List.setIfInBounds_toArray, List.set_cons_zero, List.set_cons_succ]
  refine @wpG_tk _ _ _ _ _ (some 55) (.bool false) _ _ rfl (.val (by rfl) (fun W hg => by go_simp)) ?_
  simp only [Act.put, List.setIfInBounds_toArray, List.set_cons_zero, List.set_cons_succ]
  refine @wpG_tk _ _ _ _ _ (some 56) (.int .i64 x0) _ _ rfl (.val (by rfl) (fun _ _ => rfl)) ?_
  simp only [Act.put, List.setIfInBounds_toArray, List.set_cons_zero, List.set_cons_succ]
  refine @wpG_tk _ _ _ _ _ (some 57) (.int .i64 y0) _ _ rfl (.val (by rfl) (fun _ _ => rfl)) ?_
  simp only [Act.put, List.setIfInBounds_toArray, List.set_cons_zero, List.set_cons_succ]
  refine @wpG_tk _ _ _ _ _ (some 58) (.bool false) _ _ rfl (.val (by rfl) (fun W hg => by have hq : ¬ (x0 < y0) := (by omega); first | (go_simp; done) | (go_simp <;> omega))) ?_
  simp only [Act.put, List.setIfInBounds_toArray, List.set_cons_zero, List.set_cons_succ]
  refine @wpG_tk _ _ _ _ _ (some 59) (.bool true) _ _ rfl (.val (by rfl) (fun W hg => by go_simp)) ?_
  simp only [Act.put, List.setIfInBounds_toArray, List.set_cons_zero, List.set_cons_succ]
  refine @wpG_tk _ _ _ _ _ (some 60) (.bool true) _ _ rfl (.val (by rfl) (fun W hg => by go_simp)) ?_
  simp only [Act.put, List.setIfInBounds_toArray, List.set_cons_zero, List.set_cons_succ]
  refine @wpG_tk _ _ _ _ _ (some 61) (.bool true) _ _ rfl (.val (by rfl) (fun _ _ => rfl)) ?_
  simp only [Act.put, List.setIfInBounds_toArray, List.set_cons_zero, List.set_cons_succ]
  refine @wpG_tk _ _ _ _ _ (some 62) (.int .i64 0) _ _ rfl (.val (by rfl) (fun _ _ => rfl)) ?_
  simp only [Act.put, List.setIfInBounds_toArray, List.set_cons_zero, List.set_cons_succ]
  refine @wpG_tk _ _ _ _ _ (some 63) (.bool true) _ _ rfl (.val (by rfl) (fun W hg => by go_simp)) ?_
  simp only [Act.put, List.setIfInBounds_toArray, List.set_cons_zero, List.set_cons_succ]
  refine @wpG_tk _ _ _ _ _ (some 64) (.int .i64 x0) _ _ rfl (.val (by rfl) (fun _ _ => rfl)) ?_
  simp only [Act.put, List.setIfInBounds_toArray, List.set_cons_zero, List.set_cons_succ]
  refine @wpG_tk _ _ _ _ _ (some 65) (.int .i64 y0) _ _ rfl (.val (by rfl) (fun _ _ => rfl)) ?_
  simp only [Act.put, List.setIfInBounds_toArray, List.set_cons_zero, List.set_cons_succ]
  refine @wpG_tk _ _ _ _ _ (some 66) (.bool true) _ _ rfl (.val (by rfl) (fun W hg => by have hq : (x0 = y0) := (by omega); first | (go_simp; done) | (go_simp <;> omega))) ?_
  simp only [Act.put, List.setIfInBounds_toArray, List.set_cons_zero, List.set_cons_succ]
  refine @wpG_tk _ _ _ _ _ (some 67) (.bool true) _ _ rfl (.val (by rfl) (fun W hg => by go_simp)) ?_
  simp only [Act.put, List.setIfInBounds_toArray, List.set_cons_zero, List.set_cons_succ]
  refine @wpG_tk _ _ _ _ _ (some 68) (.bool true) _ _ rfl (.val (by rfl) (fun W hg => by go_simp)) ?_
  simp only [Act.put, List.setIfInBounds_toArray, List.set_cons_zero, List.set_cons_succ]
  refine @wpG_tk _ _ _ _ _ (some 69) (.bool true) _ _ rfl (.val (by rfl) (fun _ _ => rfl)) ?_
  simp only [Act.put, List.setIfInBounds_toArray, List.set_cons_zero, List.set_cons_succ]
  refine @wpG_tk _ _ _ _ _ (some 70) (.agg #[.int .i64 b1, .int .i64 b2, .int .i64 b3]) _ _ rfl (.load_mid (by rfl) 23 (.tmp 4) rfl (w.heap.size + 1) 0 rfl [.int .i64 b1, .int .i64 b2, .int .i64 b3] _ (fun W hg => (R36.out.below (GC47.out.trans hg)).range) Try.underlying23 rfl (by kernel_rfl)) ?_
  simp only [Act.put, List.setIfInBounds_toArray, List.set_cons_zero, List.set_cons_succ]
  refine @wpG_tk _ _ _ _ _ (some 71) (.agg #[.int .i64 a1, .int .i64 a2, .int .i64 a3]) _ _ rfl (.load_mid (by rfl) 23 (.tmp 3) rfl (w.heap.size) 0 rfl [.int .i64 a1, .int .i64 a2, .int .i64 a3] _ (fun W hg => (R35.out.below (GC47.out.trans hg)).range) Try.underlying23 rfl (by kernel_rfl)) ?_
  simp only [Act.put, List.setIfInBounds_toArray, List.set_cons_zero, List.set_cons_succ]
  refine @wpG_tk _ _ _ _ _ (some 72) (.int .i64 0) _ _ rfl (.call (f := 15) (args := #[.agg #[.int .i64 b1, .int .i64 b2, .int .i64 b3], .agg #[.int .i64 a1, .int .i64 a2, .int .i64 a3]]) (by rfl) (fun W => by go_simp) (fun W hg => (HC2.out ▸ compare_any b1 b2 b3 a1 a2 a3 W))) ?_
  simp only [Act.put, List.setIfInBounds_toArray, List.set_cons_zero, List.set_cons_succ]
  refine @wpG_tk _ _ _ _ _ (some 73) (.int .i64 0) _ _ rfl (.val (by rfl) (fun _ _ => rfl)) ?_
  simp only [Act.put, List.setIfInBounds_toArray, List.set_cons_zero, List.set_cons_succ]
  refine @wpG_tk _ _ _ _ _ (some 74) (.int .i64 0) _ _ rfl (.val (by rfl) (fun W hg => by go_simp <;> rfl)) ?_
  simp only [Act.put, List.setIfInBounds_toArray, List.set_cons_zero, List.set_cons_succ]
  refine @wpG_tk _ _ _ _ _ (some 75) (.bool true) _ _ rfl (.val (by rfl) (fun W hg => by go_simp)) ?_
  simp only [Act.put, List.setIfInBounds_toArray, List.set_cons_zero, List.set_cons_succ]
  refine @wpG_tk _ _ _ _ _ (some 76) (.bool true) _ _ rfl (.val (by rfl) (fun W hg => by go_simp)) ?_
  simp only [Act.put, List.setIfInBounds_toArray, List.set_cons_zero, List.set_cons_succ]
  refine @wpG_tk _ _ _ _ _ (some 6) (.bool true) _ _ rfl (.val (by rfl) (fun _ _ => rfl)) ?_
  simp only [Act.put, List.setIfInBounds_toArray, List.set_cons_zero, List.set_cons_succ]
  refine wpG_done (fun V48 hv49 => ?_)
  have GC50 := Lib.hid (GC47.out.trans hv49)
  clear hv49
  go_wp2_with fail
  go_ret
  exact ⟨rfl, Gr.to G30.out GC50.out⟩
set_option maxRecDepth 1000000 in
set_option maxHeartbeats 4000000 in
theorem law3_fg (a1 a2 a3 b1 b2 b3 n : Int) (w : World) (hin : Mo.inB a1 a2 a3 = false) (hc : Mo.enc b1 b2 b3 < Mo.enc a1 a2 a3) :
    Calls Try.prog 5 #[.agg #[.int .i64 a1, .int .i64 a2, .int .i64 a3], .agg #[.int .i64 b1, .int .i64 b2, .int .i64 b3], .int .i64 n] w fun e w' => e = .returned (.bool true) ∧ Below w.heap.size w w' := by
  obtain ⟨x0, hx⟩ : ∃ x, x = Mo.enc a1 a2 a3 := ⟨_, rfl⟩
  obtain ⟨y0, hy⟩ : ∃ x, x = Mo.enc b1 b2 b3 := ⟨_, rfl⟩
  obtain ⟨k0, hk⟩ : ∃ k, k = Mo.okB n := ⟨_, rfl⟩
  obtain ⟨d0, hd0⟩ : ∃ d, d = Mo.dec 0 n := ⟨_, rfl⟩
  obtain ⟨d1, hd1⟩ : ∃ d, d = Mo.dec 1 n := ⟨_, rfl⟩
  obtain ⟨d2, hd2⟩ : ∃ d, d = Mo.dec 2 n := ⟨_, rfl⟩
  have hqn : ∀ c, c = (k0 && decide (Mo.enc d0 d1 d2 ≠ n)) → c = false := fun c hc => by
    rw [hc, hk, hd0, hd1, hd2]
    cases h : Mo.okB n with
    | false => rfl
    | true => rw [Mo.enc_dec h]; simp
  rw [← hx, ← hy] at hc
  have hcm : 1 = Mo.cmpI (Mo.enc a1 a2 a3) (Mo.enc b1 b2 b3) := by rw [← hx, ← hy, Mo.cmp_gt hc]
  have hcm2 : (-1) = Mo.cmpI (Mo.enc b1 b2 b3) (Mo.enc a1 a2 a3) := by rw [← hx, ← hy, Mo.cmp_lt hc]
  have he : (Mo.dec 0 x0 = 0 ∧ Mo.dec 1 x0 = 0 ∧ Mo.dec 2 x0 = 0) ∧ Mo.okB x0 = false := by
    rw [hx]
    exact ⟨⟨Mo.dec_out (Mo.okB_enc' hin), Mo.dec_out (Mo.okB_enc' hin), Mo.dec_out (Mo.okB_enc' hin)⟩, Mo.okB_enc' hin⟩
  have HQN := Lib.hid hqn
  have HIN := Lib.hid hin
  have HX := Lib.hid hx
  have HY := Lib.hid hy
  have HK := Lib.hid hk
  have HD0 := Lib.hid hd0
  have HD1 := Lib.hid hd1
  have HD2 := Lib.hid hd2
  have HC := Lib.hid hcm
  have HC2 := Lib.hid hcm2
  have HE0 := Lib.hid he.1.1
  have HE1 := Lib.hid he.1.2.1
  have HE2 := Lib.hid he.1.2.2
  have HEK := Lib.hid he.2
  clear hqn hin hx hy hk hd0 hd1 hd2 hcm hcm2 he
  obtain ⟨u, hu, r0, r1, g0⟩ := rows2 w [.int .i64 a1, .int .i64 a2, .int .i64 a3] 23 [.int .i64 b1, .int .i64 b2, .int .i64 b3] 23
  have R0 := Lib.hid r0
  have R1 := Lib.hid r1
  have G0 := Lib.hid g0
  have HU := Lib.hid hu
  clear hu g0 r0 r1
  go_enter Try.func5, Try.ntmps5
  go_upto_region 1 with fail
  rw [← HU.out]
  refine wpG_region ?_
  refine @wpG_tk _ _ _ _ _ (some 16) (.int .i64 n) _ _ rfl (.val (by rfl) (fun _ _ => rfl)) ?_
  simp only [Act.put, List.setIfInBounds_toArray, List.set_cons_zero, List.set_cons_succ]
  refine @wpG_tk _ _ _ _ _ (some 17) (.tuple #[.agg #[.int .i64 d0, .int .i64 d1, .int .i64 d2], .bool k0]) _ _ rfl (.call (f := 9) (args := #[.int .i64 n]) (by rfl) (fun W => by go_simp) (fun W hg => (HK.out ▸ HD0.out ▸ HD1.out ▸ HD2.out ▸ decode_any n W))) ?_
  simp only [Act.put, List.setIfInBounds_toArray, List.set_cons_zero, List.set_cons_succ]
  refine @wpG_tk _ _ _ _ _ (some 15) (.tuple #[.agg #[.int .i64 d0, .int .i64 d1, .int .i64 d2], .bool k0]) _ _ rfl (.val (by rfl) (fun _ _ => rfl)) ?_
  simp only [Act.put, List.setIfInBounds_toArray, List.set_cons_zero, List.set_cons_succ]
  refine @wpG_tk _ _ _ _ _ (some 18) (.agg #[.int .i64 d0, .int .i64 d1, .int .i64 d2]) _ _ rfl (.val (by rfl) (fun W hg => by go_simp)) ?_
  simp only [Act.put, List.setIfInBounds_toArray, List.set_cons_zero, List.set_cons_succ]
  refine @wpG_tk _ _ _ _ _ (some 19) (.bool k0) _ _ rfl (.val (by rfl) (fun W hg => by go_simp)) ?_
  simp only [Act.put, List.setIfInBounds_toArray, List.set_cons_zero, List.set_cons_succ]
  refine wpG_val (some 7) rfl (by rfl) (fun W1 hg2 => ⟨.pointer (some ⟨W1.heap.size, 0, none⟩), W1.alloc (.cells #[.int .i64 0, .int .i64 0, .int .i64 0] 23), by (go_simp <;> rfl), ?_⟩)
  simp only [Act.put, List.setIfInBounds_toArray, List.set_cons_zero, List.set_cons_succ]
  refine wpG_store (none) rfl (by rfl) (fun W3 hg4 => ⟨_, run_store_mid 23 (.tmp 7) (.tmp 18) rfl (W1.heap.size) 0 #[.int .i64 d0, .int .i64 d1, .int .i64 d2] rfl rfl (Row.room hg4 3 rfl) (by kernel_rfl) (by kernel_rfl), ?_⟩)
  simp only [Act.put]
  refine @wpG_tk _ _ _ _ _ (some 8) (.bool k0) _ _ rfl (.val (by rfl) (fun _ _ => rfl)) ?_
  simp only [Act.put, List.setIfInBounds_toArray, List.set_cons_zero, List.set_cons_succ]
  refine wpG_done (fun V5 hv6 => ?_)
  have l8 : w.heap.size < W1.heap.size := (R0.out.below hg2).lt
  have l9 : w.heap.size + 1 < W1.heap.size := (R1.out.below hg2).lt
  have l10 : w.heap.size ≤ W1.heap.size := (Gr.to G0.out hg2).size
  have R11 := Lib.hid ((R0.out.below hg2).past hg4 hv6)
  have R12 := Lib.hid ((R1.out.below hg2).past hg4 hv6)
  have R13 := Lib.hid (Row.made (zs := [.int .i64 0, .int .i64 0, .int .i64 0]) (ds := [.int .i64 d0, .int .i64 d1, .int .i64 d2]) rfl hg4 hv6)
  have G7 := Lib.hid (Gr.to (Gr.to G0.out hg2) (Gr.past hg4 hv6))
  clear hg4 hv6 
  go_upto_region 2 with fail
  refine wpG_region ?_
  refine @wpG_tk _ _ _ _ _ (some 20) (.bool k0) _ _ rfl (.val (by rfl) (fun _ _ => rfl)) ?_
  simp only [Act.put, List.setIfInBounds_toArray, List.set_cons_zero, List.set_cons_succ]
  refine @wpG_tk _ _ _ _ _ (some 21) (.bool k0) _ _ rfl (.val (by rfl) (fun _ _ => rfl)) ?_
  simp only [Act.put, List.setIfInBounds_toArray, List.set_cons_zero, List.set_cons_succ]
  refine @wpG_tk _ _ _ _ _ (some 22) ((bif k0 then .agg #[.int .i64 d0, .int .i64 d1, .int .i64 d2] else undef)) _ _ rfl (by cases k0 with | false => exact .no (by rfl) | true => exact (.load_mid (by rfl) 23 (.tmp 7) rfl (W1.heap.size) 0 rfl [.int .i64 d0, .int .i64 d1, .int .i64 d2] _ (fun W hg => (R13.out.below hg).range) Try.underlying23 rfl (by kernel_rfl))) ?_
  simp only [Act.put, List.setIfInBounds_toArray, List.set_cons_zero, List.set_cons_succ]
  refine @wpG_tk _ _ _ _ _ (some 23) ((bif k0 then .int .i64 (Mo.enc d0 d1 d2) else undef)) _ _ rfl (by cases k0 with | false => exact .no (by rfl) | true => exact (.call (f := 13) (args := #[.agg #[.int .i64 d0, .int .i64 d1, .int .i64 d2]]) (by rfl) (fun W => by go_simp) (fun W hg => encode_any d0 d1 d2 W))) ?_
  simp only [Act.put, List.setIfInBounds_toArray, List.set_cons_zero, List.set_cons_succ]
  refine @wpG_tk _ _ _ _ _ (some 24) ((bif k0 then .int .i64 n else undef)) _ _ rfl (by cases k0 with | false => exact .no (by rfl) | true => exact (.val (by rfl) (fun _ _ => rfl))) ?_
  simp only [Act.put, List.setIfInBounds_toArray, List.set_cons_zero, List.set_cons_succ]
  refine @wpG_tk _ _ _ _ _ (some 25) ((bif k0 then .bool (decide (Mo.enc d0 d1 d2 ≠ n)) else undef)) _ _ rfl (by cases k0 with | false => exact .no (by rfl) | true => exact (.val (by rfl) (fun W hg => by go_simp; first | rfl | (simp [bne]; done)))) ?_
  simp only [Act.put, List.setIfInBounds_toArray, List.set_cons_zero, List.set_cons_succ]
  refine @wpG_tk _ _ _ _ _ (some 26) (.bool (k0 && (decide (Mo.enc d0 d1 d2 ≠ n)))) _ _ rfl (.val (by rfl) (fun W hg => by cases k0 <;> go_simp)) ?_
  simp only [Act.put, List.setIfInBounds_toArray, List.set_cons_zero, List.set_cons_succ]
  obtain ⟨c14, hc14⟩ : ∃ b, b = (k0 && (decide (Mo.enc d0 d1 d2 ≠ n))) := ⟨_, rfl⟩
  rw [← hc14]
  have Hc14 := Lib.hid hc14
  clear hc14
  refine wpG_done (fun V15 hv16 => ?_)
  have GC17 := Lib.hid hv16
  clear hv16
  rw [show c14 = false from HQN.out _ Hc14.out]
  go_upto_region 4 with fail
  refine wpG_region ?_
  refine @wpG_tk _ _ _ _ _ (some 27) (.agg #[.int .i64 a1, .int .i64 a2, .int .i64 a3]) _ _ rfl (.load_mid (by rfl) 23 (.tmp 3) rfl (w.heap.size) 0 rfl [.int .i64 a1, .int .i64 a2, .int .i64 a3] _ (fun W hg => (R11.out.below (GC17.out.trans hg)).range) Try.underlying23 rfl (by kernel_rfl)) ?_
  simp only [Act.put, List.setIfInBounds_toArray, List.set_cons_zero, List.set_cons_succ]
  refine @wpG_tk _ _ _ _ _ (some 28) (.bool false) _ _ rfl (.call (f := 30) (args := #[.agg #[.int .i64 a1, .int .i64 a2, .int .i64 a3]]) (by rfl) (fun W => by go_simp) (fun W hg => (HIN.out ▸ rinside_b a1 a2 a3 W))) ?_
  simp only [Act.put, List.setIfInBounds_toArray, List.set_cons_zero, List.set_cons_succ]
  refine @wpG_tk _ _ _ _ _ (some 9) (.bool false) _ _ rfl (.val (by rfl) (fun _ _ => rfl)) ?_
  simp only [Act.put, List.setIfInBounds_toArray, List.set_cons_zero, List.set_cons_succ]
  refine wpG_done (fun V18 hv19 => ?_)
  have GC20 := Lib.hid (GC17.out.trans hv19)
  clear hv19
  go_upto_region 5 with fail
  refine wpG_region ?_
  refine @wpG_tk _ _ _ _ _ (some 29) (.agg #[.int .i64 a1, .int .i64 a2, .int .i64 a3]) _ _ rfl (.load_mid (by rfl) 23 (.tmp 3) rfl (w.heap.size) 0 rfl [.int .i64 a1, .int .i64 a2, .int .i64 a3] _ (fun W hg => (R11.out.below (GC20.out.trans hg)).range) Try.underlying23 rfl (by kernel_rfl)) ?_
  simp only [Act.put, List.setIfInBounds_toArray, List.set_cons_zero, List.set_cons_succ]
  refine @wpG_tk _ _ _ _ _ (some 30) (.int .i64 x0) _ _ rfl (.call (f := 13) (args := #[.agg #[.int .i64 a1, .int .i64 a2, .int .i64 a3]]) (by rfl) (fun W => by go_simp) (fun W hg => (HX.out ▸ encode_any a1 a2 a3 W))) ?_
  simp only [Act.put, List.setIfInBounds_toArray, List.set_cons_zero, List.set_cons_succ]
  refine @wpG_tk _ _ _ _ _ (some 10) (.int .i64 x0) _ _ rfl (.val (by rfl) (fun _ _ => rfl)) ?_
  simp only [Act.put, List.setIfInBounds_toArray, List.set_cons_zero, List.set_cons_succ]
  refine wpG_done (fun V21 hv22 => ?_)
  have GC23 := Lib.hid (GC20.out.trans hv22)
  clear hv22
  go_upto_region 6 with fail
  refine wpG_region ?_
  refine @wpG_tk _ _ _ _ _ (some 32) (.int .i64 x0) _ _ rfl (.val (by rfl) (fun _ _ => rfl)) ?_
  simp only [Act.put, List.setIfInBounds_toArray, List.set_cons_zero, List.set_cons_succ]
  refine @wpG_tk _ _ _ _ _ (some 33) (.tuple #[.agg #[.int .i64 0, .int .i64 0, .int .i64 0], .bool false]) _ _ rfl (.call (f := 9) (args := #[.int .i64 x0]) (by rfl) (fun W => by go_simp) (fun W hg => rename (decode_any x0 W) (by rw [HE0.out, HE1.out, HE2.out, HEK.out]))) ?_
  simp only [Act.put, List.setIfInBounds_toArray, List.set_cons_zero, List.set_cons_succ]
  refine @wpG_tk _ _ _ _ _ (some 31) (.tuple #[.agg #[.int .i64 0, .int .i64 0, .int .i64 0], .bool false]) _ _ rfl (.val (by rfl) (fun _ _ => rfl)) ?_
  simp only [Act.put, List.setIfInBounds_toArray, List.set_cons_zero, List.set_cons_succ]
  refine @wpG_tk _ _ _ _ _ (some 34) (.agg #[.int .i64 0, .int .i64 0, .int .i64 0]) _ _ rfl (.val (by rfl) (fun W hg => by go_simp)) ?_
  simp only [Act.put, List.setIfInBounds_toArray, List.set_cons_zero, List.set_cons_succ]
  refine @wpG_tk _ _ _ _ _ (some 35) (.bool false) _ _ rfl (.val (by rfl) (fun W hg => by go_simp)) ?_
  simp only [Act.put, List.setIfInBounds_toArray, List.set_cons_zero, List.set_cons_succ]
  refine wpG_val (some 11) rfl (by rfl) (fun W24 hg25 => ⟨.pointer (some ⟨W24.heap.size, 0, none⟩), W24.alloc (.cells #[.int .i64 0, .int .i64 0, .int .i64 0] 23), by (go_simp <;> rfl), ?_⟩)
  simp only [Act.put, List.setIfInBounds_toArray, List.set_cons_zero, List.set_cons_succ]
  refine wpG_store (none) rfl (by rfl) (fun W26 hg27 => ⟨_, run_store_mid 23 (.tmp 11) (.tmp 34) rfl (W24.heap.size) 0 #[.int .i64 0, .int .i64 0, .int .i64 0] rfl rfl (Row.room hg27 3 rfl) (by kernel_rfl) (by kernel_rfl), ?_⟩)
  simp only [Act.put]
  refine @wpG_tk _ _ _ _ _ (some 12) (.bool false) _ _ rfl (.val (by rfl) (fun _ _ => rfl)) ?_
  simp only [Act.put, List.setIfInBounds_toArray, List.set_cons_zero, List.set_cons_succ]
  refine wpG_done (fun V28 hv29 => ?_)
  have l31 : w.heap.size < W24.heap.size := (R11.out.below (GC23.out.trans hg25)).lt
  have l32 : w.heap.size + 1 < W24.heap.size := (R12.out.below (GC23.out.trans hg25)).lt
  have l33 : W1.heap.size < W24.heap.size := (R13.out.below (GC23.out.trans hg25)).lt
  have l34 : w.heap.size ≤ W24.heap.size := (Gr.to G7.out (GC23.out.trans hg25)).size
  have R35 := Lib.hid ((R11.out.below (GC23.out.trans hg25)).past hg27 hv29)
  have R36 := Lib.hid ((R12.out.below (GC23.out.trans hg25)).past hg27 hv29)
  have R37 := Lib.hid ((R13.out.below (GC23.out.trans hg25)).past hg27 hv29)
  have R38 := Lib.hid (Row.made (zs := [.int .i64 0, .int .i64 0, .int .i64 0]) (ds := [.int .i64 0, .int .i64 0, .int .i64 0]) rfl hg27 hv29)
  have G30 := Lib.hid (Gr.to (Gr.to G7.out (GC23.out.trans hg25)) (Gr.past hg27 hv29))
  clear hg27 hv29 
  go_upto_region 7 with fail
  refine wpG_region ?_
  refine @wpG_tk _ _ _ _ _ (some 36) (.bool false) _ _ rfl (.val (by rfl) (fun _ _ => rfl)) ?_
  simp only [Act.put, List.setIfInBounds_toArray, List.set_cons_zero, List.set_cons_succ]
  refine @wpG_tk _ _ _ _ _ (some 37) (.bool false) _ _ rfl (.val (by rfl) (fun _ _ => rfl)) ?_
  simp only [Act.put, List.setIfInBounds_toArray, List.set_cons_zero, List.set_cons_succ]
  refine @wpG_tk _ _ _ _ _ (some 38) (.bool false) _ _ rfl (.val (by rfl) (fun W hg => by go_simp)) ?_
  simp only [Act.put, List.setIfInBounds_toArray, List.set_cons_zero, List.set_cons_succ]
  refine @wpG_tk _ _ _ _ _ (some 39) (.bool false) _ _ rfl (.val (by rfl) (fun _ _ => rfl)) ?_
  simp only [Act.put, List.setIfInBounds_toArray, List.set_cons_zero, List.set_cons_succ]
  refine @wpG_tk _ _ _ _ _ (some 40) (.bool false) _ _ rfl (.val (by rfl) (fun _ _ => rfl)) ?_
  simp only [Act.put, List.setIfInBounds_toArray, List.set_cons_zero, List.set_cons_succ]
  refine @wpG_tk _ _ _ _ _ (some 41) (.bool false) _ _ rfl (.val (by rfl) (fun _ _ => rfl)) ?_
  simp only [Act.put, List.setIfInBounds_toArray, List.set_cons_zero, List.set_cons_succ]
  refine @wpG_tk _ _ _ _ _ (some 42) (undef) _ _ rfl (.no (by rfl)) ?_
  simp only [Act.put, List.setIfInBounds_toArray, List.set_cons_zero, List.set_cons_succ]
  refine @wpG_tk _ _ _ _ _ (some 43) (undef) _ _ rfl (.no (by rfl)) ?_
  simp only [Act.put, List.setIfInBounds_toArray, List.set_cons_zero, List.set_cons_succ]
  refine @wpG_tk _ _ _ _ _ (some 44) (undef) _ _ rfl (.no (by rfl)) ?_
  simp only [Act.put, List.setIfInBounds_toArray, List.set_cons_zero, List.set_cons_succ]
  refine @wpG_tk _ _ _ _ _ (some 45) (.bool false) _ _ rfl (.val (by rfl) (fun W hg => by go_simp)) ?_
  simp only [Act.put, List.setIfInBounds_toArray, List.set_cons_zero, List.set_cons_succ]
  refine @wpG_tk _ _ _ _ _ (some 46) (.bool false) _ _ rfl (.val (by rfl) (fun W hg => by go_simp)) ?_
  simp only [Act.put, List.setIfInBounds_toArray, List.set_cons_zero, List.set_cons_succ]
  refine wpG_done (fun V39 hv40 => ?_)
  have GC41 := Lib.hid hv40
  clear hv40
  go_upto_region 9 with fail
  refine wpG_region ?_
  refine @wpG_tk _ _ _ _ _ (some 47) (.agg #[.int .i64 b1, .int .i64 b2, .int .i64 b3]) _ _ rfl (.load_mid (by rfl) 23 (.tmp 4) rfl (w.heap.size + 1) 0 rfl [.int .i64 b1, .int .i64 b2, .int .i64 b3] _ (fun W hg => (R36.out.below (GC41.out.trans hg)).range) Try.underlying23 rfl (by kernel_rfl)) ?_
  simp only [Act.put, List.setIfInBounds_toArray, List.set_cons_zero, List.set_cons_succ]
  refine @wpG_tk _ _ _ _ _ (some 48) (.int .i64 y0) _ _ rfl (.call (f := 13) (args := #[.agg #[.int .i64 b1, .int .i64 b2, .int .i64 b3]]) (by rfl) (fun W => by go_simp) (fun W hg => (HY.out ▸ encode_any b1 b2 b3 W))) ?_
  simp only [Act.put, List.setIfInBounds_toArray, List.set_cons_zero, List.set_cons_succ]
  refine @wpG_tk _ _ _ _ _ (some 13) (.int .i64 y0) _ _ rfl (.val (by rfl) (fun _ _ => rfl)) ?_
  simp only [Act.put, List.setIfInBounds_toArray, List.set_cons_zero, List.set_cons_succ]
  refine wpG_done (fun V42 hv43 => ?_)
  have GC44 := Lib.hid (GC41.out.trans hv43)
  clear hv43
  go_upto_region 10 with fail
  refine wpG_region ?_
  refine @wpG_tk _ _ _ _ _ (some 49) (.agg #[.int .i64 a1, .int .i64 a2, .int .i64 a3]) _ _ rfl (.load_mid (by rfl) 23 (.tmp 3) rfl (w.heap.size) 0 rfl [.int .i64 a1, .int .i64 a2, .int .i64 a3] _ (fun W hg => (R35.out.below (GC44.out.trans hg)).range) Try.underlying23 rfl (by kernel_rfl)) ?_
  simp only [Act.put, List.setIfInBounds_toArray, List.set_cons_zero, List.set_cons_succ]
  refine @wpG_tk _ _ _ _ _ (some 50) (.agg #[.int .i64 b1, .int .i64 b2, .int .i64 b3]) _ _ rfl (.load_mid (by rfl) 23 (.tmp 4) rfl (w.heap.size + 1) 0 rfl [.int .i64 b1, .int .i64 b2, .int .i64 b3] _ (fun W hg => (R36.out.below (GC44.out.trans hg)).range) Try.underlying23 rfl (by kernel_rfl)) ?_
  simp only [Act.put, List.setIfInBounds_toArray, List.set_cons_zero, List.set_cons_succ]
  refine @wpG_tk _ _ _ _ _ (some 51) (.int .i64 1) _ _ rfl (.call (f := 15) (args := #[.agg #[.int .i64 a1, .int .i64 a2, .int .i64 a3], .agg #[.int .i64 b1, .int .i64 b2, .int .i64 b3]]) (by rfl) (fun W => by go_simp) (fun W hg => (HC.out ▸ compare_any a1 a2 a3 b1 b2 b3 W))) ?_
  simp only [Act.put, List.setIfInBounds_toArray, List.set_cons_zero, List.set_cons_succ]
  refine @wpG_tk _ _ _ _ _ (some 14) (.int .i64 1) _ _ rfl (.val (by rfl) (fun _ _ => rfl)) ?_
  simp only [Act.put, List.setIfInBounds_toArray, List.set_cons_zero, List.set_cons_succ]
  refine wpG_done (fun V45 hv46 => ?_)
  have GC47 := Lib.hid (GC44.out.trans hv46)
  clear hv46
  go_upto_region 11 with fail
  refine wpG_region ?_
  refine @wpG_tk _ _ _ _ _ (some 52) (.bool true) _ _ rfl (.call (f := 21) (args := #[]) (by rfl) (fun W => by go_simp) (fun W hg => sanity_any W)) ?_
  simp only [Act.put, List.setIfInBounds_toArray, List.set_cons_zero, List.set_cons_succ]
  refine @wpG_tk _ _ _ _ _ (some 53) (.bool true) _ _ rfl (.val (by rfl) (fun _ _ => rfl)) ?_
  simp only [Act.put, List.setIfInBounds_toArray, List.set_cons_zero, List.set_cons_succ]
  refine @wpG_tk _ _ _ _ _ (some 54) (.int .i64 1) _ _ rfl (.val (by rfl) (fun _ _ => rfl)) ?_
  simp only [Act.put, List.setIfInBounds_toArray, List.set_cons_zero, List.set_cons_succ]
  refine @wpG_tk _ _ _ _ _ (some 55) (.bool false) _ _ rfl (.val (by rfl) (fun W hg => by go_simp)) ?_
  simp only [Act.put, List.setIfInBounds_toArray, List.set_cons_zero, List.set_cons_succ]
  refine @wpG_tk _ _ _ _ _ (some 56) (.int .i64 x0) _ _ rfl (.val (by rfl) (fun _ _ => rfl)) ?_
  simp only [Act.put, List.setIfInBounds_toArray, List.set_cons_zero, List.set_cons_succ]
  refine @wpG_tk _ _ _ _ _ (some 57) (.int .i64 y0) _ _ rfl (.val (by rfl) (fun _ _ => rfl)) ?_
  simp only [Act.put, List.setIfInBounds_toArray, List.set_cons_zero, List.set_cons_succ]
  refine @wpG_tk _ _ _ _ _ (some 58) (.bool false) _ _ rfl (.val (by rfl) (fun W hg => by have hq : ¬ (x0 < y0) := (by omega); first | (go_simp; done) | (go_simp <;> omega))) ?_
  simp only [Act.put, List.setIfInBounds_toArray, List.set_cons_zero, List.set_cons_succ]
  refine @wpG_tk _ _ _ _ _ (some 59) (.bool true) _ _ rfl (.val (by rfl) (fun W hg => by go_simp)) ?_
  simp only [Act.put, List.setIfInBounds_toArray, List.set_cons_zero, List.set_cons_succ]
  refine @wpG_tk _ _ _ _ _ (some 60) (.bool true) _ _ rfl (.val (by rfl) (fun W hg => by go_simp)) ?_
  simp only [Act.put, List.setIfInBounds_toArray, List.set_cons_zero, List.set_cons_succ]
  refine @wpG_tk _ _ _ _ _ (some 61) (.bool true) _ _ rfl (.val (by rfl) (fun _ _ => rfl)) ?_
  simp only [Act.put, List.setIfInBounds_toArray, List.set_cons_zero, List.set_cons_succ]
  refine @wpG_tk _ _ _ _ _ (some 62) (.int .i64 1) _ _ rfl (.val (by rfl) (fun _ _ => rfl)) ?_
  simp only [Act.put, List.setIfInBounds_toArray, List.set_cons_zero, List.set_cons_succ]
  refine @wpG_tk _ _ _ _ _ (some 63) (.bool false) _ _ rfl (.val (by rfl) (fun W hg => by have hq : ¬ (1 = 0) := (by omega); first | (go_simp; done) | (go_simp <;> omega))) ?_
  simp only [Act.put, List.setIfInBounds_toArray, List.set_cons_zero, List.set_cons_succ]
  refine @wpG_tk _ _ _ _ _ (some 64) (.int .i64 x0) _ _ rfl (.val (by rfl) (fun _ _ => rfl)) ?_
  simp only [Act.put, List.setIfInBounds_toArray, List.set_cons_zero, List.set_cons_succ]
  refine @wpG_tk _ _ _ _ _ (some 65) (.int .i64 y0) _ _ rfl (.val (by rfl) (fun _ _ => rfl)) ?_
  simp only [Act.put, List.setIfInBounds_toArray, List.set_cons_zero, List.set_cons_succ]
  refine @wpG_tk _ _ _ _ _ (some 66) (.bool false) _ _ rfl (.val (by rfl) (fun W hg => by have hq : ¬ (x0 = y0) := (by omega); first | (go_simp; done) | (go_simp <;> omega))) ?_
  simp only [Act.put, List.setIfInBounds_toArray, List.set_cons_zero, List.set_cons_succ]
  refine @wpG_tk _ _ _ _ _ (some 67) (.bool true) _ _ rfl (.val (by rfl) (fun W hg => by go_simp)) ?_
  simp only [Act.put, List.setIfInBounds_toArray, List.set_cons_zero, List.set_cons_succ]
  refine @wpG_tk _ _ _ _ _ (some 68) (.bool true) _ _ rfl (.val (by rfl) (fun W hg => by go_simp)) ?_
  simp only [Act.put, List.setIfInBounds_toArray, List.set_cons_zero, List.set_cons_succ]
  refine @wpG_tk _ _ _ _ _ (some 69) (.bool true) _ _ rfl (.val (by rfl) (fun _ _ => rfl)) ?_
  simp only [Act.put, List.setIfInBounds_toArray, List.set_cons_zero, List.set_cons_succ]
  refine @wpG_tk _ _ _ _ _ (some 70) (.agg #[.int .i64 b1, .int .i64 b2, .int .i64 b3]) _ _ rfl (.load_mid (by rfl) 23 (.tmp 4) rfl (w.heap.size + 1) 0 rfl [.int .i64 b1, .int .i64 b2, .int .i64 b3] _ (fun W hg => (R36.out.below (GC47.out.trans hg)).range) Try.underlying23 rfl (by kernel_rfl)) ?_
  simp only [Act.put, List.setIfInBounds_toArray, List.set_cons_zero, List.set_cons_succ]
  refine @wpG_tk _ _ _ _ _ (some 71) (.agg #[.int .i64 a1, .int .i64 a2, .int .i64 a3]) _ _ rfl (.load_mid (by rfl) 23 (.tmp 3) rfl (w.heap.size) 0 rfl [.int .i64 a1, .int .i64 a2, .int .i64 a3] _ (fun W hg => (R35.out.below (GC47.out.trans hg)).range) Try.underlying23 rfl (by kernel_rfl)) ?_
  simp only [Act.put, List.setIfInBounds_toArray, List.set_cons_zero, List.set_cons_succ]
  refine @wpG_tk _ _ _ _ _ (some 72) (.int .i64 (-1)) _ _ rfl (.call (f := 15) (args := #[.agg #[.int .i64 b1, .int .i64 b2, .int .i64 b3], .agg #[.int .i64 a1, .int .i64 a2, .int .i64 a3]]) (by rfl) (fun W => by go_simp) (fun W hg => (HC2.out ▸ compare_any b1 b2 b3 a1 a2 a3 W))) ?_
  simp only [Act.put, List.setIfInBounds_toArray, List.set_cons_zero, List.set_cons_succ]
  refine @wpG_tk _ _ _ _ _ (some 73) (.int .i64 1) _ _ rfl (.val (by rfl) (fun _ _ => rfl)) ?_
  simp only [Act.put, List.setIfInBounds_toArray, List.set_cons_zero, List.set_cons_succ]
  refine @wpG_tk _ _ _ _ _ (some 74) (.int .i64 (-1)) _ _ rfl (.val (by rfl) (fun W hg => by go_simp <;> rfl)) ?_
  simp only [Act.put, List.setIfInBounds_toArray, List.set_cons_zero, List.set_cons_succ]
  refine @wpG_tk _ _ _ _ _ (some 75) (.bool true) _ _ rfl (.val (by rfl) (fun W hg => by go_simp)) ?_
  simp only [Act.put, List.setIfInBounds_toArray, List.set_cons_zero, List.set_cons_succ]
  refine @wpG_tk _ _ _ _ _ (some 76) (.bool true) _ _ rfl (.val (by rfl) (fun W hg => by go_simp)) ?_
  simp only [Act.put, List.setIfInBounds_toArray, List.set_cons_zero, List.set_cons_succ]
  refine @wpG_tk _ _ _ _ _ (some 6) (.bool true) _ _ rfl (.val (by rfl) (fun _ _ => rfl)) ?_
  simp only [Act.put, List.setIfInBounds_toArray, List.set_cons_zero, List.set_cons_succ]
  refine wpG_done (fun V48 hv49 => ?_)
  have GC50 := Lib.hid (GC47.out.trans hv49)
  clear hv49
  go_wp2_with fail
  go_ret
  exact ⟨rfl, Gr.to G30.out GC50.out⟩
set_option maxRecDepth 1000000 in
set_option maxHeartbeats 4000000 in
theorem law3 (a1 a2 a3 b1 b2 b3 n : Int) (w : World) :
    Calls Try.prog 5 #[.agg #[.int .i64 a1, .int .i64 a2, .int .i64 a3], .agg #[.int .i64 b1, .int .i64 b2, .int .i64 b3], .int .i64 n] w fun e w' => e = .returned (.bool true) ∧ Below w.heap.size w w' := by
  cases hin : Mo.inB a1 a2 a3 <;> rcases Int.lt_trichotomy (Mo.enc a1 a2 a3) (Mo.enc b1 b2 b3) with h | h | h
  · exact law3_fl a1 a2 a3 b1 b2 b3 n w hin h
  · exact law3_fe a1 a2 a3 b1 b2 b3 n w hin h
  · exact law3_fg a1 a2 a3 b1 b2 b3 n w hin h
  · exact law3_tl a1 a2 a3 b1 b2 b3 n w hin h
  · exact law3_te a1 a2 a3 b1 b2 b3 n w hin h
  · exact law3_tg a1 a2 a3 b1 b2 b3 n w hin h

end Go.Proofs.Ytmjjkloeipoefaa
