/-
  The examples of the documentation: the law's own check answers true.
-/
import Derived.Test.YtmjjkloeipoefaaMob9
import Derived.Handy
namespace Go.Proofs.Ytmjjkloeipoefaa
open Go.RowKit
set_option linter.unusedVariables false
set_option maxRecDepth 1000000 in
set_option maxHeartbeats 4000000 in
theorem at_any (x y z : Int) (w : World) :
    Calls Try.prog 32 #[.int .i64 x, .int .i64 y, .int .i64 z] w fun e w' => e = .returned (.agg #[.int .i64 x, .int .i64 y, .int .i64 z]) ∧ Below w.heap.size w w' := by
  obtain ⟨u, hu, r0, g0⟩ := rows1 w [.int .i64 0, .int .i64 0, .int .i64 0] 23
  have R0 := Lib.hid r0
  have G0 := Lib.hid g0
  have HU := Lib.hid hu
  clear hu g0 r0
  go_enter Try.func32, Try.ntmps32
  go_upto_region 1 with fail
  rw [← HU.out]
  refine wpG_region ?_
  refine @wpG_tk _ _ _ _ _ (some 7) (.int .i64 x) _ _ rfl (.val (by rfl) (fun _ _ => rfl)) ?_
  simp only [Act.put, List.setIfInBounds_toArray, List.set_cons_zero, List.set_cons_succ]
  refine @wpG_tk _ _ _ _ _ (some 8) (.int .i64 y) _ _ rfl (.val (by rfl) (fun _ _ => rfl)) ?_
  simp only [Act.put, List.setIfInBounds_toArray, List.set_cons_zero, List.set_cons_succ]
  refine @wpG_tk _ _ _ _ _ (some 9) (.int .i64 z) _ _ rfl (.val (by rfl) (fun _ _ => rfl)) ?_
  simp only [Act.put, List.setIfInBounds_toArray, List.set_cons_zero, List.set_cons_succ]
  refine @wpG_tk _ _ _ _ _ (some 10) (.agg #[.int .i64 x, .int .i64 y, .int .i64 z]) _ _ rfl (.val (by rfl) (fun W hg => by go_simp)) ?_
  simp only [Act.put, List.setIfInBounds_toArray, List.set_cons_zero, List.set_cons_succ]
  refine wpG_store (none) rfl (by rfl) (fun W1 hg2 => ⟨_, run_store_mid 23 (.tmp 6) (.tmp 10) rfl (w.heap.size) 0 #[.int .i64 x, .int .i64 y, .int .i64 z] rfl rfl (((R0.out.below hg2).there 0 3 (by simp))) (by kernel_rfl) (by kernel_rfl), ?_⟩)
  simp only [Act.put]
  refine wpG_done (fun V3 hv4 => ?_)
  have R6 := Lib.hid (Row.put (ds := [.int .i64 x, .int .i64 y, .int .i64 z]) R0.out hg2 rfl hv4)
  have G5 := Lib.hid (Gr.put G0.out hg2 (by omega) hv4)
  go_wp2_with fail
  refine bodyPost_ret (results_cell_mid rfl _ _ _ (w.heap.size) 0 [.int .i64 x, .int .i64 y, .int .i64 z] _ rfl R6.out.range Try.underlying23 rfl (by kernel_rfl)) rfl ?_
  exact ⟨rfl, G5.out⟩
theorem sv0 : Mo.dec 0 143 = 3 := by decide +kernel
theorem sv1 : Mo.dec 1 143 = 5 := by decide +kernel
theorem sv2 : Mo.dec 2 143 = 1 := by decide +kernel
theorem sv3 : Mo.okB 143 = true := by decide +kernel
theorem sv4 : Mo.com 0 0 0 0 3 5 1 = 0 := by decide +kernel
theorem sv5 : Mo.com 1 0 0 0 3 5 1 = 0 := by decide +kernel
theorem sv6 : Mo.com 2 0 0 0 3 5 1 = 0 := by decide +kernel
theorem sv7 : Mo.com 3 0 0 0 3 5 1 = 3 := by decide +kernel
theorem sv8 : (Mo.inB 0 0 0 && Mo.inB 3 5 1) = true := by decide +kernel
theorem sv9 : Mo.enc 3 5 1 = 143 := by decide +kernel
theorem sv10 : Mo.enc (-1) 0 0 = (-1) := by decide +kernel
theorem sv11 : Mo.cmpI (Mo.enc 1 0 0) (Mo.enc 0 1 0) = (-1) := by decide +kernel
theorem sv12 : Mo.oct 3 5 1 0 = 7 := by decide +kernel
theorem sv13 : Mo.oct 3 5 1 2 = 2 := by decide +kernel
theorem sv14 : Mo.nb 143 0 true = 198 := by decide +kernel
theorem sv15 : Mo.nb 0 2 false = (-1) := by decide +kernel
theorem sv16 : nextI 0 0 0 2 2 3 9 = 32 := by decide +kernel
theorem sv17 : nextI 0 0 0 2 2 3 36 = (-1) := by decide +kernel
theorem svC : Mo.cubesA 0 0 0 2 2 3 = [(0, 0, 0, 1), (0, 0, 2, 0), (1, 0, 2, 0), (0, 1, 2, 0), (1, 1, 2, 0)] := by decide +kernel
theorem svE : Mo.cubesE 0 0 0 2 2 3 = 0 := by decide +kernel
theorem svR : Mo.runsA 0 0 0 2 2 3 = [(0, 7), (32, 35)] := by decide +kernel
set_option maxRecDepth 1000000 in
set_option maxHeartbeats 4000000 in
theorem sanity_any (w : World) :
    Calls Try.prog 21 #[] w fun e w' => e = .returned (.bool true) ∧ Below w.heap.size w w' := by
  have G0 := Lib.hid (Below.refl w.heap.size w)
  go_enter Try.func21, Try.ntmps21
  go_upto_region 1 with fail
  refine wpG_region ?_
  refine @wpG_tk _ _ _ _ _ (some 14) (.tuple #[.agg #[.int .i64 3, .int .i64 5, .int .i64 1], .bool true]) _ _ rfl (.call (f := 9) (args := #[.int .i64 143]) (by rfl) (fun W => by go_simp) (fun W hg => (rename (decode_any 143 W) (by rw [sv0, sv1, sv2, sv3])))) ?_
  simp only [Act.put, List.setIfInBounds_toArray, List.set_cons_zero, List.set_cons_succ]
  refine @wpG_tk _ _ _ _ _ (some 13) (.tuple #[.agg #[.int .i64 3, .int .i64 5, .int .i64 1], .bool true]) _ _ rfl (.val (by rfl) (fun _ _ => rfl)) ?_
  simp only [Act.put, List.setIfInBounds_toArray, List.set_cons_zero, List.set_cons_succ]
  refine @wpG_tk _ _ _ _ _ (some 15) (.agg #[.int .i64 3, .int .i64 5, .int .i64 1]) _ _ rfl (.val (by rfl) (fun W hg => by go_simp)) ?_
  simp only [Act.put, List.setIfInBounds_toArray, List.set_cons_zero, List.set_cons_succ]
  refine @wpG_tk _ _ _ _ _ (some 16) (.bool true) _ _ rfl (.val (by rfl) (fun W hg => by go_simp)) ?_
  simp only [Act.put, List.setIfInBounds_toArray, List.set_cons_zero, List.set_cons_succ]
  refine wpG_val (some 1) rfl (by rfl) (fun W1 hg2 => ⟨.pointer (some ⟨W1.heap.size, 0, none⟩), W1.alloc (.cells #[.int .i64 0, .int .i64 0, .int .i64 0] 23), by (go_simp <;> rfl), ?_⟩)
  simp only [Act.put, List.setIfInBounds_toArray, List.set_cons_zero, List.set_cons_succ]
  refine wpG_store (none) rfl (by rfl) (fun W3 hg4 => ⟨_, run_store_mid 23 (.tmp 1) (.tmp 15) rfl (W1.heap.size) 0 #[.int .i64 3, .int .i64 5, .int .i64 1] rfl rfl (Row.room hg4 3 rfl) (by kernel_rfl) (by kernel_rfl), ?_⟩)
  simp only [Act.put]
  refine @wpG_tk _ _ _ _ _ (some 2) (.bool true) _ _ rfl (.val (by rfl) (fun _ _ => rfl)) ?_
  simp only [Act.put, List.setIfInBounds_toArray, List.set_cons_zero, List.set_cons_succ]
  refine wpG_done (fun V5 hv6 => ?_)
  have l8 : w.heap.size ≤ W1.heap.size := (Gr.to G0.out hg2).size
  have R9 := Lib.hid (Row.made (zs := [.int .i64 0, .int .i64 0, .int .i64 0]) (ds := [.int .i64 3, .int .i64 5, .int .i64 1]) rfl hg4 hv6)
  have G7 := Lib.hid (Gr.to (Gr.to G0.out hg2) (Gr.past hg4 hv6))
  clear hg4 hv6 
  go_upto_region 2 with fail
  refine wpG_region ?_
  refine @wpG_tk _ _ _ _ _ (some 18) (.agg #[.int .i64 0, .int .i64 0, .int .i64 0]) _ _ rfl (.call (f := 32) (args := #[.int .i64 0, .int .i64 0, .int .i64 0]) (by rfl) (fun W => by go_simp) (fun W hg => at_any 0 0 0 W)) ?_
  simp only [Act.put, List.setIfInBounds_toArray, List.set_cons_zero, List.set_cons_succ]
  refine @wpG_tk _ _ _ _ _ (some 19) (.agg #[.int .i64 3, .int .i64 5, .int .i64 1]) _ _ rfl (.call (f := 32) (args := #[.int .i64 3, .int .i64 5, .int .i64 1]) (by rfl) (fun W => by go_simp) (fun W hg => at_any 3 5 1 W)) ?_
  simp only [Act.put, List.setIfInBounds_toArray, List.set_cons_zero, List.set_cons_succ]
  refine @wpG_tk _ _ _ _ _ (some 20) (.tuple #[.agg #[.int .i64 0, .int .i64 0, .int .i64 0, .int .i64 3], .bool true]) _ _ rfl (.call (f := 11) (args := #[.agg #[.int .i64 0, .int .i64 0, .int .i64 0], .agg #[.int .i64 3, .int .i64 5, .int .i64 1]]) (by rfl) (fun W => by go_simp) (fun W hg => (rename (common_any 0 0 0 3 5 1 W) (by rw [sv4, sv5, sv6, sv7, sv8])))) ?_
  simp only [Act.put, List.setIfInBounds_toArray, List.set_cons_zero, List.set_cons_succ]
  refine @wpG_tk _ _ _ _ _ (some 17) (.tuple #[.agg #[.int .i64 0, .int .i64 0, .int .i64 0, .int .i64 3], .bool true]) _ _ rfl (.val (by rfl) (fun _ _ => rfl)) ?_
  simp only [Act.put, List.setIfInBounds_toArray, List.set_cons_zero, List.set_cons_succ]
  refine @wpG_tk _ _ _ _ _ (some 21) (.agg #[.int .i64 0, .int .i64 0, .int .i64 0, .int .i64 3]) _ _ rfl (.val (by rfl) (fun W hg => by go_simp)) ?_
  simp only [Act.put, List.setIfInBounds_toArray, List.set_cons_zero, List.set_cons_succ]
  refine @wpG_tk _ _ _ _ _ (some 22) (.bool true) _ _ rfl (.val (by rfl) (fun W hg => by go_simp)) ?_
  simp only [Act.put, List.setIfInBounds_toArray, List.set_cons_zero, List.set_cons_succ]
  refine wpG_val (some 3) rfl (by rfl) (fun W10 hg11 => ⟨.pointer (some ⟨W10.heap.size, 0, none⟩), W10.alloc (.cells #[.int .i64 0, .int .i64 0, .int .i64 0, .int .i64 0] 27), by (go_simp <;> rfl), ?_⟩)
  simp only [Act.put, List.setIfInBounds_toArray, List.set_cons_zero, List.set_cons_succ]
  refine wpG_store (none) rfl (by rfl) (fun W12 hg13 => ⟨_, run_store_mid 27 (.tmp 3) (.tmp 21) rfl (W10.heap.size) 0 #[.int .i64 0, .int .i64 0, .int .i64 0, .int .i64 3] rfl rfl (Row.room hg13 4 rfl) (by kernel_rfl) (by kernel_rfl), ?_⟩)
  simp only [Act.put]
  refine @wpG_tk _ _ _ _ _ (some 4) (.bool true) _ _ rfl (.val (by rfl) (fun _ _ => rfl)) ?_
  simp only [Act.put, List.setIfInBounds_toArray, List.set_cons_zero, List.set_cons_succ]
  refine wpG_done (fun V14 hv15 => ?_)
  have l17 : W1.heap.size < W10.heap.size := (R9.out.below hg11).lt
  have l18 : w.heap.size ≤ W10.heap.size := (Gr.to G7.out hg11).size
  have R19 := Lib.hid ((R9.out.below hg11).past hg13 hv15)
  have R20 := Lib.hid (Row.made (zs := [.int .i64 0, .int .i64 0, .int .i64 0, .int .i64 0]) (ds := [.int .i64 0, .int .i64 0, .int .i64 0, .int .i64 3]) rfl hg13 hv15)
  have G16 := Lib.hid (Gr.to (Gr.to G7.out hg11) (Gr.past hg13 hv15))
  clear hg13 hv15 
  go_upto_region 3 with fail
  refine wpG_region ?_
  refine @wpG_tk _ _ _ _ _ (some 23) (.agg #[.int .i64 2, .int .i64 2, .int .i64 3]) _ _ rfl (.call (f := 32) (args := #[.int .i64 2, .int .i64 2, .int .i64 3]) (by rfl) (fun W => by go_simp) (fun W hg => at_any 2 2 3 W)) ?_
  simp only [Act.put, List.setIfInBounds_toArray, List.set_cons_zero, List.set_cons_succ]
  refine @wpG_tk _ _ _ _ _ (some 24) (.agg #[.int .i64 0, .int .i64 0, .int .i64 0, .int .i64 2, .int .i64 2, .int .i64 3]) _ _ rfl (.val (by rfl) (fun W hg => by go_simp)) ?_
  simp only [Act.put, List.setIfInBounds_toArray, List.set_cons_zero, List.set_cons_succ]
  refine wpG_val (some 5) rfl (by rfl) (fun W21 hg22 => ⟨.pointer (some ⟨W21.heap.size, 0, none⟩), W21.alloc (.cells #[.int .i64 0, .int .i64 0, .int .i64 0, .int .i64 0, .int .i64 0, .int .i64 0] 37), by (go_simp <;> rfl), ?_⟩)
  simp only [Act.put, List.setIfInBounds_toArray, List.set_cons_zero, List.set_cons_succ]
  refine wpG_store (none) rfl (by rfl) (fun W23 hg24 => ⟨_, run_store_mid 37 (.tmp 5) (.tmp 24) rfl (W21.heap.size) 0 #[.int .i64 0, .int .i64 0, .int .i64 0, .int .i64 2, .int .i64 2, .int .i64 3] rfl rfl (Row.room hg24 6 rfl) (by kernel_rfl) (by kernel_rfl), ?_⟩)
  simp only [Act.put]
  refine wpG_done (fun V25 hv26 => ?_)
  have l28 : W1.heap.size < W21.heap.size := (R19.out.below hg22).lt
  have l29 : W10.heap.size < W21.heap.size := (R20.out.below hg22).lt
  have l30 : w.heap.size ≤ W21.heap.size := (Gr.to G16.out hg22).size
  have R31 := Lib.hid ((R19.out.below hg22).past hg24 hv26)
  have R32 := Lib.hid ((R20.out.below hg22).past hg24 hv26)
  have R33 := Lib.hid (Row.made (zs := [.int .i64 0, .int .i64 0, .int .i64 0, .int .i64 0, .int .i64 0, .int .i64 0]) (ds := [.int .i64 0, .int .i64 0, .int .i64 0, .int .i64 2, .int .i64 2, .int .i64 3]) rfl hg24 hv26)
  have G27 := Lib.hid (Gr.to (Gr.to G16.out hg22) (Gr.past hg24 hv26))
  clear hg24 hv26 
  go_upto_region 4 with fail
  refine wpG_region ?_
  refine @wpG_tk _ _ _ _ _ (some 26) (.agg #[.int .i64 0, .int .i64 0, .int .i64 0, .int .i64 2, .int .i64 2, .int .i64 3]) _ _ rfl (.load_mid (by rfl) 37 (.tmp 5) rfl (W21.heap.size) 0 rfl [.int .i64 0, .int .i64 0, .int .i64 0, .int .i64 2, .int .i64 2, .int .i64 3] _ (fun W hg => (R33.out.below hg).range) Try.underlying37 rfl (by kernel_rfl)) ?_
  simp only [Act.put, List.setIfInBounds_toArray, List.set_cons_zero, List.set_cons_succ]
  refine wpG_call (some 27) 22 #[.agg #[.int .i64 0, .int .i64 0, .int .i64 0, .int .i64 2, .int .i64 2, .int .i64 3]] rfl (by rfl) (fun W => by go_simp) (fun W34 hg35 => ?_)
  refine (cubes_any 0 0 0 2 2 3 W34).mono ?_
  rintro e w36 ⟨A, n, c, rfl, hn, own, bel⟩
  refine ⟨_, rfl, ?_⟩
  rw [svC] at hn own
  rw [svE]
  obtain rfl : n = 5 := hn
  have hGW := Gr.to G27.out hg35
  have R38 := Lib.hid ((R31.out.below hg35).below bel)
  have R39 := Lib.hid ((R32.out.below hg35).below bel)
  have R40 := Lib.hid ((R33.out.below hg35).below bel)
  have G37 := Lib.hid (hGW.trans (bel.mono hGW.size))
  have OW41 := Lib.hid own
  clear own bel hGW hg35
  simp only [Act.put, List.setIfInBounds_toArray, List.set_cons_zero, List.set_cons_succ]
  refine @wpG_tk _ _ _ _ _ (some 25) (.tuple #[.slice A 5 c, .int .i64 0]) _ _ rfl (.val (by rfl) (fun _ _ => rfl)) ?_
  simp only [Act.put, List.setIfInBounds_toArray, List.set_cons_zero, List.set_cons_succ]
  refine @wpG_tk _ _ _ _ _ (some 28) (.slice A 5 c) _ _ rfl (.val (by rfl) (fun W hg => by go_simp)) ?_
  simp only [Act.put, List.setIfInBounds_toArray, List.set_cons_zero, List.set_cons_succ]
  refine @wpG_tk _ _ _ _ _ (some 29) (.int .i64 0) _ _ rfl (.val (by rfl) (fun W hg => by go_simp)) ?_
  simp only [Act.put, List.setIfInBounds_toArray, List.set_cons_zero, List.set_cons_succ]
  refine @wpG_tk _ _ _ _ _ (some 6) (.slice A 5 c) _ _ rfl (.val (by rfl) (fun _ _ => rfl)) ?_
  simp only [Act.put, List.setIfInBounds_toArray, List.set_cons_zero, List.set_cons_succ]
  refine @wpG_tk _ _ _ _ _ (some 7) (.int .i64 0) _ _ rfl (.val (by rfl) (fun _ _ => rfl)) ?_
  simp only [Act.put, List.setIfInBounds_toArray, List.set_cons_zero, List.set_cons_succ]
  refine wpG_done (fun V42 hv43 => ?_)
  have GC44 := Lib.hid hv43
  clear hv43
  go_upto_region 5 with fail
  refine wpG_region ?_
  refine @wpG_tk _ _ _ _ _ (some 31) (.agg #[.int .i64 0, .int .i64 0, .int .i64 0, .int .i64 2, .int .i64 2, .int .i64 3]) _ _ rfl (.load_mid (by rfl) 37 (.tmp 5) rfl (W21.heap.size) 0 rfl [.int .i64 0, .int .i64 0, .int .i64 0, .int .i64 2, .int .i64 2, .int .i64 3] _ (fun W hg => (R40.out.below (GC44.out.trans hg)).range) Try.underlying37 rfl (by kernel_rfl)) ?_
  simp only [Act.put, List.setIfInBounds_toArray, List.set_cons_zero, List.set_cons_succ]
  refine wpG_call (some 32) 24 #[.agg #[.int .i64 0, .int .i64 0, .int .i64 0, .int .i64 2, .int .i64 2, .int .i64 3]] rfl (by rfl) (fun W => by go_simp) (fun W45 hg46 => ?_)
  refine (runs_any 0 0 0 2 2 3 W45).mono ?_
  rintro e w47 ⟨A2, n, c2, rfl, hn, own, bel⟩
  refine ⟨_, rfl, ?_⟩
  rw [svR] at hn own
  rw [svE]
  obtain rfl : n = 2 := hn
  have hGW := Gr.to G37.out (GC44.out.trans hg46)
  have R49 := Lib.hid ((R38.out.below (GC44.out.trans hg46)).below bel)
  have R50 := Lib.hid ((R39.out.below (GC44.out.trans hg46)).below bel)
  have R51 := Lib.hid ((R40.out.below (GC44.out.trans hg46)).below bel)
  have OW52 := Lib.hid (own_gr (own_gr OW41.out (GC44.out.trans hg46)) bel)
  have G48 := Lib.hid (hGW.trans (bel.mono hGW.size))
  have OW53 := Lib.hid own
  clear own bel hGW hg46
  simp only [Act.put, List.setIfInBounds_toArray, List.set_cons_zero, List.set_cons_succ]
  refine @wpG_tk _ _ _ _ _ (some 30) (.tuple #[.slice A2 2 c2, .int .i64 0]) _ _ rfl (.val (by rfl) (fun _ _ => rfl)) ?_
  simp only [Act.put, List.setIfInBounds_toArray, List.set_cons_zero, List.set_cons_succ]
  refine @wpG_tk _ _ _ _ _ (some 33) (.slice A2 2 c2) _ _ rfl (.val (by rfl) (fun W hg => by go_simp)) ?_
  simp only [Act.put, List.setIfInBounds_toArray, List.set_cons_zero, List.set_cons_succ]
  refine @wpG_tk _ _ _ _ _ (some 34) (.int .i64 0) _ _ rfl (.val (by rfl) (fun W hg => by go_simp)) ?_
  simp only [Act.put, List.setIfInBounds_toArray, List.set_cons_zero, List.set_cons_succ]
  refine @wpG_tk _ _ _ _ _ (some 8) (.slice A2 2 c2) _ _ rfl (.val (by rfl) (fun _ _ => rfl)) ?_
  simp only [Act.put, List.setIfInBounds_toArray, List.set_cons_zero, List.set_cons_succ]
  refine @wpG_tk _ _ _ _ _ (some 9) (.int .i64 0) _ _ rfl (.val (by rfl) (fun _ _ => rfl)) ?_
  simp only [Act.put, List.setIfInBounds_toArray, List.set_cons_zero, List.set_cons_succ]
  refine wpG_done (fun V54 hv55 => ?_)
  have GC56 := Lib.hid hv55
  clear hv55
  go_upto_region 6 with fail
  refine wpG_region ?_
  refine @wpG_tk _ _ _ _ _ (some 35) (.slice A 5 c) _ _ rfl (.val (by rfl) (fun _ _ => rfl)) ?_
  simp only [Act.put, List.setIfInBounds_toArray, List.set_cons_zero, List.set_cons_succ]
  refine @wpG_tk _ _ _ _ _ (some 36) (.agg #[.int .i64 0, .int .i64 0, .int .i64 0, .int .i64 1]) _ _ rfl (.val (by rfl) (fun W hg => by go_simp)) ?_
  simp only [Act.put, List.setIfInBounds_toArray, List.set_cons_zero, List.set_cons_succ]
  refine @wpG_tk _ _ _ _ _ (some 37) (.agg #[.int .i64 0, .int .i64 0, .int .i64 2]) _ _ rfl (.call (f := 32) (args := #[.int .i64 0, .int .i64 0, .int .i64 2]) (by rfl) (fun W => by go_simp) (fun W hg => at_any 0 0 2 W)) ?_
  simp only [Act.put, List.setIfInBounds_toArray, List.set_cons_zero, List.set_cons_succ]
  refine @wpG_tk _ _ _ _ _ (some 38) (.agg #[.int .i64 0, .int .i64 0, .int .i64 2, .int .i64 0]) _ _ rfl (.val (by rfl) (fun W hg => by go_simp)) ?_
  simp only [Act.put, List.setIfInBounds_toArray, List.set_cons_zero, List.set_cons_succ]
  refine @wpG_tk _ _ _ _ _ (some 39) (.agg #[.int .i64 1, .int .i64 0, .int .i64 2]) _ _ rfl (.call (f := 32) (args := #[.int .i64 1, .int .i64 0, .int .i64 2]) (by rfl) (fun W => by go_simp) (fun W hg => at_any 1 0 2 W)) ?_
  simp only [Act.put, List.setIfInBounds_toArray, List.set_cons_zero, List.set_cons_succ]
  refine @wpG_tk _ _ _ _ _ (some 40) (.agg #[.int .i64 1, .int .i64 0, .int .i64 2, .int .i64 0]) _ _ rfl (.val (by rfl) (fun W hg => by go_simp)) ?_
  simp only [Act.put, List.setIfInBounds_toArray, List.set_cons_zero, List.set_cons_succ]
  refine @wpG_tk _ _ _ _ _ (some 41) (.agg #[.int .i64 0, .int .i64 1, .int .i64 2]) _ _ rfl (.call (f := 32) (args := #[.int .i64 0, .int .i64 1, .int .i64 2]) (by rfl) (fun W => by go_simp) (fun W hg => at_any 0 1 2 W)) ?_
  simp only [Act.put, List.setIfInBounds_toArray, List.set_cons_zero, List.set_cons_succ]
  refine @wpG_tk _ _ _ _ _ (some 42) (.agg #[.int .i64 0, .int .i64 1, .int .i64 2, .int .i64 0]) _ _ rfl (.val (by rfl) (fun W hg => by go_simp)) ?_
  simp only [Act.put, List.setIfInBounds_toArray, List.set_cons_zero, List.set_cons_succ]
  refine @wpG_tk _ _ _ _ _ (some 43) (.agg #[.int .i64 1, .int .i64 1, .int .i64 2]) _ _ rfl (.call (f := 32) (args := #[.int .i64 1, .int .i64 1, .int .i64 2]) (by rfl) (fun W => by go_simp) (fun W hg => at_any 1 1 2 W)) ?_
  simp only [Act.put, List.setIfInBounds_toArray, List.set_cons_zero, List.set_cons_succ]
  refine @wpG_tk _ _ _ _ _ (some 44) (.agg #[.int .i64 1, .int .i64 1, .int .i64 2, .int .i64 0]) _ _ rfl (.val (by rfl) (fun W hg => by go_simp)) ?_
  simp only [Act.put, List.setIfInBounds_toArray, List.set_cons_zero, List.set_cons_succ]
  refine wpG_val (some 45) rfl (by rfl) (fun W57 hg58 => ⟨.slice (some ⟨W57.heap.size, 0, none⟩) 5 5, W57.alloc (.cells #[.int .i64 0, .int .i64 0, .int .i64 0, .int .i64 1, .int .i64 0, .int .i64 0, .int .i64 2, .int .i64 0, .int .i64 1, .int .i64 0, .int .i64 2, .int .i64 0, .int .i64 0, .int .i64 1, .int .i64 2, .int .i64 0, .int .i64 1, .int .i64 1, .int .i64 2, .int .i64 0] 27), by (go_simp <;> rfl), ?_⟩)
  simp only [Act.put, List.setIfInBounds_toArray, List.set_cons_zero, List.set_cons_succ]
  obtain ⟨U59, hu, rn, gn⟩ : ∃ zw, zw = W57.alloc (.cells #[.int .i64 0, .int .i64 0, .int .i64 0, .int .i64 1, .int .i64 0, .int .i64 0, .int .i64 2, .int .i64 0, .int .i64 1, .int .i64 0, .int .i64 2, .int .i64 0, .int .i64 0, .int .i64 1, .int .i64 2, .int .i64 0, .int .i64 1, .int .i64 1, .int .i64 2, .int .i64 0] 27) ∧ Row W57.heap.size [.int .i64 0, .int .i64 0, .int .i64 0, .int .i64 1, .int .i64 0, .int .i64 0, .int .i64 2, .int .i64 0, .int .i64 1, .int .i64 0, .int .i64 2, .int .i64 0, .int .i64 0, .int .i64 1, .int .i64 2, .int .i64 0, .int .i64 1, .int .i64 1, .int .i64 2, .int .i64 0] zw ∧ Gr W57 zw := ⟨_, rfl, Row.newl W57 [.int .i64 0, .int .i64 0, .int .i64 0, .int .i64 1, .int .i64 0, .int .i64 0, .int .i64 2, .int .i64 0, .int .i64 1, .int .i64 0, .int .i64 2, .int .i64 0, .int .i64 0, .int .i64 1, .int .i64 2, .int .i64 0, .int .i64 1, .int .i64 1, .int .i64 2, .int .i64 0] 27, Gr.al _ _⟩
  rw [← hu]
  have RN60 := Lib.hid rn
  have GB61 := Lib.hid (Gr.trans (GC56.out.trans hg58) gn)
  clear hu rn gn hg58
  refine @wpG_tk _ _ _ _ _ (some 46) (.bool true) _ _ rfl (.call (f := 26) (args := #[.slice A 5 c, .slice (some ⟨W57.heap.size, 0, none⟩) 5 5]) (by rfl) (fun W => by go_simp) (fun W hg => samecubes_t A (some ⟨W57.heap.size, 0, none⟩) 5 c 5 [(0, 0, 0, 1), (0, 0, 2, 0), (1, 0, 2, 0), (0, 1, 2, 0), (1, 1, 2, 0)] W rfl (by omega) (fun _ => own_addr OW52.out (by omega)) (fun _ => ⟨_, rfl⟩) ((own_lies OW52.out).below (GB61.out.trans hg)) (.inr ⟨_, 0, rfl, fun j u hj => by rw [Nat.zero_add]; exact ((RN60.out.below hg) j u hj).1⟩))) ?_
  simp only [Act.put, List.setIfInBounds_toArray, List.set_cons_zero, List.set_cons_succ]
  refine @wpG_tk _ _ _ _ _ (some 47) (.bool true) _ _ rfl (.val (by rfl) (fun _ _ => rfl)) ?_
  simp only [Act.put, List.setIfInBounds_toArray, List.set_cons_zero, List.set_cons_succ]
  refine @wpG_tk _ _ _ _ _ (some 48) (.slice A2 2 c2) _ _ rfl (.val (by rfl) (fun _ _ => rfl)) ?_
  simp only [Act.put, List.setIfInBounds_toArray, List.set_cons_zero, List.set_cons_succ]
  refine @wpG_tk _ _ _ _ _ (some 49) (.agg #[.int .i64 0, .int .i64 7]) _ _ rfl (.val (by rfl) (fun W hg => by go_simp)) ?_
  simp only [Act.put, List.setIfInBounds_toArray, List.set_cons_zero, List.set_cons_succ]
  refine @wpG_tk _ _ _ _ _ (some 50) (.agg #[.int .i64 32, .int .i64 35]) _ _ rfl (.val (by rfl) (fun W hg => by go_simp)) ?_
  simp only [Act.put, List.setIfInBounds_toArray, List.set_cons_zero, List.set_cons_succ]
  refine wpG_val (some 51) rfl (by rfl) (fun W62 hg63 => ⟨.slice (some ⟨W62.heap.size, 0, none⟩) 2 2, W62.alloc (.cells #[.int .i64 0, .int .i64 7, .int .i64 32, .int .i64 35] 54), by (go_simp <;> rfl), ?_⟩)
  simp only [Act.put, List.setIfInBounds_toArray, List.set_cons_zero, List.set_cons_succ]
  obtain ⟨U64, hu, rn, gn⟩ : ∃ zw, zw = W62.alloc (.cells #[.int .i64 0, .int .i64 7, .int .i64 32, .int .i64 35] 54) ∧ Row W62.heap.size [.int .i64 0, .int .i64 7, .int .i64 32, .int .i64 35] zw ∧ Gr W62 zw := ⟨_, rfl, Row.newl W62 [.int .i64 0, .int .i64 7, .int .i64 32, .int .i64 35] 54, Gr.al _ _⟩
  rw [← hu]
  have RN65 := Lib.hid rn
  have GB66 := Lib.hid (Gr.trans (GB61.out.trans hg63) gn)
  clear hu rn gn hg63
  refine @wpG_tk _ _ _ _ _ (some 52) (.bool true) _ _ rfl (.call (f := 27) (args := #[.slice A2 2 c2, .slice (some ⟨W62.heap.size, 0, none⟩) 2 2]) (by rfl) (fun W => by go_simp) (fun W hg => sameruns_t A2 (some ⟨W62.heap.size, 0, none⟩) 2 c2 2 [(0, 7), (32, 35)] W rfl (by omega) (fun _ => own_addr OW53.out (by omega)) (fun _ => ⟨_, rfl⟩) ((own_lies OW53.out).below (GB66.out.trans hg)) (.inr ⟨_, 0, rfl, fun j u hj => by rw [Nat.zero_add]; exact ((RN65.out.below hg) j u hj).1⟩))) ?_
  simp only [Act.put, List.setIfInBounds_toArray, List.set_cons_zero, List.set_cons_succ]
  refine @wpG_tk _ _ _ _ _ (some 53) (.bool true) _ _ rfl (.val (by rfl) (fun W hg => by go_simp)) ?_
  simp only [Act.put, List.setIfInBounds_toArray, List.set_cons_zero, List.set_cons_succ]
  refine @wpG_tk _ _ _ _ _ (some 10) (.bool true) _ _ rfl (.val (by rfl) (fun _ _ => rfl)) ?_
  simp only [Act.put, List.setIfInBounds_toArray, List.set_cons_zero, List.set_cons_succ]
  refine wpG_done (fun V67 hv68 => ?_)
  have GC69 := Lib.hid (GB66.out.trans hv68)
  clear hv68
  go_upto_region 7 with fail
  refine wpK_region (by kernel_rfl) ?_
  refine wpK_tk (i := 0) (some 54) (v := .agg #[.int .i64 3, .int .i64 5, .int .i64 1]) rfl rfl (by kernel_rfl) (fun _ _ _ h => h) (.call (f := 32) (args := #[.int .i64 3, .int .i64 5, .int .i64 1]) (by rfl) (fun W => by go_simp) (fun W hg => at_any 3 5 1 W)) ?_
  simp only [Act.put, List.setIfInBounds_toArray, List.set_cons_zero, List.set_cons_succ]
  refine wpK_tk (i := 1) (some 55) (v := .int .i64 143) rfl rfl (by kernel_rfl) (fun _ _ _ h => h) (.call (f := 13) (args := #[.agg #[.int .i64 3, .int .i64 5, .int .i64 1]]) (by rfl) (fun W => by go_simp) (fun W hg => (rename (encode_any 3 5 1 W) (by rw [sv9])))) ?_
  simp only [Act.put, List.setIfInBounds_toArray, List.set_cons_zero, List.set_cons_succ]
  refine wpK_ta (i := 2) (some 56) (v := .bool true) rfl rfl (by kernel_rfl) (fun _ _ _ h => h) (Or.inl ⟨by rfl, fun W => by go_simp⟩) ?_
  simp only [Act.put, List.setIfInBounds_toArray, List.set_cons_zero, List.set_cons_succ]
  refine wpK_ta (i := 3) (some 57) (v := .bool true) rfl rfl (by kernel_rfl) (fun _ _ _ h => h) (Or.inl ⟨rfl, fun _ => rfl⟩) ?_
  simp only [Act.put, List.setIfInBounds_toArray, List.set_cons_zero, List.set_cons_succ]
  refine wpK_tk (i := 4) (some 58) (v := .agg #[.int .i64 (-1), .int .i64 0, .int .i64 0]) rfl rfl (by kernel_rfl) (fun _ _ _ h => h) (.call (f := 32) (args := #[.int .i64 (-1), .int .i64 0, .int .i64 0]) (by rfl) (fun W => by go_simp) (fun W hg => at_any (-1) 0 0 W)) ?_
  simp only [Act.put, List.setIfInBounds_toArray, List.set_cons_zero, List.set_cons_succ]
  refine wpK_tk (i := 5) (some 59) (v := .int .i64 (-1)) rfl rfl (by kernel_rfl) (fun _ _ _ h => h) (.call (f := 13) (args := #[.agg #[.int .i64 (-1), .int .i64 0, .int .i64 0]]) (by rfl) (fun W => by go_simp) (fun W hg => (rename (encode_any (-1) 0 0 W) (by rw [sv10])))) ?_
  simp only [Act.put, List.setIfInBounds_toArray, List.set_cons_zero, List.set_cons_succ]
  refine wpK_ta (i := 6) (some 60) (v := .bool true) rfl rfl (by kernel_rfl) (fun _ _ _ h => h) (Or.inl ⟨by rfl, fun W => by go_simp⟩) ?_
  simp only [Act.put, List.setIfInBounds_toArray, List.set_cons_zero, List.set_cons_succ]
  refine wpK_ta (i := 7) (some 61) (v := .bool true) rfl rfl (by kernel_rfl) (fun _ _ _ h => h) (Or.inl ⟨by rfl, fun W => by go_simp⟩) ?_
  simp only [Act.put, List.setIfInBounds_toArray, List.set_cons_zero, List.set_cons_succ]
  refine wpK_ta (i := 8) (some 62) (v := .bool true) rfl rfl (by kernel_rfl) (fun _ _ _ h => h) (Or.inl ⟨rfl, fun _ => rfl⟩) ?_
  simp only [Act.put, List.setIfInBounds_toArray, List.set_cons_zero, List.set_cons_succ]
  refine wpK_tk (i := 9) (some 63) (v := .agg #[.int .i64 3, .int .i64 5, .int .i64 1]) rfl rfl (by kernel_rfl) (fun _ _ _ h => h) (.load_mid (by rfl) 23 (.tmp 1) rfl (W1.heap.size) 0 rfl [.int .i64 3, .int .i64 5, .int .i64 1] _ (fun W hg => (R49.out.below (GC69.out.trans (Gr.un hg))).range) Try.underlying23 rfl (by kernel_rfl)) ?_
  simp only [Act.put, List.setIfInBounds_toArray, List.set_cons_zero, List.set_cons_succ]
  refine wpK_tk (i := 10) (some 64) (v := .agg #[.int .i64 3, .int .i64 5, .int .i64 1]) rfl rfl (by kernel_rfl) (fun _ _ _ h => h) (.call (f := 32) (args := #[.int .i64 3, .int .i64 5, .int .i64 1]) (by rfl) (fun W => by go_simp) (fun W hg => at_any 3 5 1 W)) ?_
  simp only [Act.put, List.setIfInBounds_toArray, List.set_cons_zero, List.set_cons_succ]
  refine wpK_ta (i := 11) (some 65) (v := .bool true) rfl rfl (by kernel_rfl) (fun _ _ _ h => h) (Or.inl ⟨by rfl, fun W => by (go_simp <;> first | omega | ((repeat' split) <;> first | rfl | (exfalso; omega)))⟩) ?_
  simp only [Act.put, List.setIfInBounds_toArray, List.set_cons_zero, List.set_cons_succ]
  refine wpK_ta (i := 12) (some 66) (v := .bool true) rfl rfl (by kernel_rfl) (fun _ _ _ h => h) (Or.inl ⟨by rfl, fun W => by go_simp⟩) ?_
  simp only [Act.put, List.setIfInBounds_toArray, List.set_cons_zero, List.set_cons_succ]
  refine wpK_ta (i := 13) (some 67) (v := .bool true) rfl rfl (by kernel_rfl) (fun _ _ _ h => h) (Or.inl ⟨rfl, fun _ => rfl⟩) ?_
  simp only [Act.put, List.setIfInBounds_toArray, List.set_cons_zero, List.set_cons_succ]
  refine wpK_ta (i := 14) (some 68) (v := .bool true) rfl rfl (by kernel_rfl) (fun _ _ _ h => h) (Or.inl ⟨rfl, fun _ => rfl⟩) ?_
  simp only [Act.put, List.setIfInBounds_toArray, List.set_cons_zero, List.set_cons_succ]
  refine wpK_ta (i := 15) (some 69) (v := .bool true) rfl rfl (by kernel_rfl) (fun _ _ _ h => h) (Or.inl ⟨by rfl, fun W => by go_simp⟩) ?_
  simp only [Act.put, List.setIfInBounds_toArray, List.set_cons_zero, List.set_cons_succ]
  refine wpK_ta (i := 16) (some 70) (v := .bool true) rfl rfl (by kernel_rfl) (fun _ _ _ h => h) (Or.inl ⟨rfl, fun _ => rfl⟩) ?_
  simp only [Act.put, List.setIfInBounds_toArray, List.set_cons_zero, List.set_cons_succ]
  refine wpK_tk (i := 17) (some 71) (v := .agg #[.int .i64 0, .int .i64 0, .int .i64 0, .int .i64 3]) rfl rfl (by kernel_rfl) (fun _ _ _ h => h) (.load_mid (by rfl) 27 (.tmp 3) rfl (W10.heap.size) 0 rfl [.int .i64 0, .int .i64 0, .int .i64 0, .int .i64 3] _ (fun W hg => (R50.out.below (GC69.out.trans (Gr.un hg))).range) Try.underlying27 rfl (by kernel_rfl)) ?_
  simp only [Act.put, List.setIfInBounds_toArray, List.set_cons_zero, List.set_cons_succ]
  refine wpK_ta (i := 18) (some 72) (v := .agg #[.int .i64 0, .int .i64 0, .int .i64 0, .int .i64 3]) rfl rfl (by kernel_rfl) (fun _ _ _ h => h) (Or.inl ⟨by rfl, fun W => by go_simp⟩) ?_
  simp only [Act.put, List.setIfInBounds_toArray, List.set_cons_zero, List.set_cons_succ]
  refine wpK_ta (i := 19) (some 73) (v := .bool true) rfl rfl (by kernel_rfl) (fun _ _ _ h => h) (Or.inl ⟨by rfl, fun W => by (go_simp <;> first | omega | ((repeat' split) <;> first | rfl | (exfalso; omega)))⟩) ?_
  simp only [Act.put, List.setIfInBounds_toArray, List.set_cons_zero, List.set_cons_succ]
  refine wpK_ta (i := 20) (some 74) (v := .bool true) rfl rfl (by kernel_rfl) (fun _ _ _ h => h) (Or.inl ⟨by rfl, fun W => by go_simp⟩) ?_
  simp only [Act.put, List.setIfInBounds_toArray, List.set_cons_zero, List.set_cons_succ]
  refine wpK_ta (i := 21) (some 75) (v := .bool true) rfl rfl (by kernel_rfl) (fun _ _ _ h => h) (Or.inl ⟨rfl, fun _ => rfl⟩) ?_
  simp only [Act.put, List.setIfInBounds_toArray, List.set_cons_zero, List.set_cons_succ]
  refine wpK_ta (i := 22) (some 76) (v := .bool true) rfl rfl (by kernel_rfl) (fun _ _ _ h => h) (Or.inl ⟨rfl, fun _ => rfl⟩) ?_
  simp only [Act.put, List.setIfInBounds_toArray, List.set_cons_zero, List.set_cons_succ]
  refine wpK_ta (i := 23) (some 77) (v := .bool true) rfl rfl (by kernel_rfl) (fun _ _ _ h => h) (Or.inl ⟨by rfl, fun W => by go_simp⟩) ?_
  simp only [Act.put, List.setIfInBounds_toArray, List.set_cons_zero, List.set_cons_succ]
  refine wpK_ta (i := 24) (some 78) (v := .bool true) rfl rfl (by kernel_rfl) (fun _ _ _ h => h) (Or.inl ⟨rfl, fun _ => rfl⟩) ?_
  simp only [Act.put, List.setIfInBounds_toArray, List.set_cons_zero, List.set_cons_succ]
  refine wpK_ta (i := 25) (some 79) (v := .int .i64 0) rfl rfl (by kernel_rfl) (fun _ _ _ h => h) (Or.inl ⟨rfl, fun _ => rfl⟩) ?_
  simp only [Act.put, List.setIfInBounds_toArray, List.set_cons_zero, List.set_cons_succ]
  refine wpK_ta (i := 26) (some 80) (v := .bool true) rfl rfl (by kernel_rfl) (fun _ _ _ h => h) (Or.inl ⟨by rfl, fun W => by go_simp⟩) ?_
  simp only [Act.put, List.setIfInBounds_toArray, List.set_cons_zero, List.set_cons_succ]
  refine wpK_ta (i := 27) (some 81) (v := .bool true) rfl rfl (by kernel_rfl) (fun _ _ _ h => h) (Or.inl ⟨by rfl, fun W => by go_simp⟩) ?_
  simp only [Act.put, List.setIfInBounds_toArray, List.set_cons_zero, List.set_cons_succ]
  refine wpK_ta (i := 28) (some 82) (v := .bool true) rfl rfl (by kernel_rfl) (fun _ _ _ h => h) (Or.inl ⟨rfl, fun _ => rfl⟩) ?_
  simp only [Act.put, List.setIfInBounds_toArray, List.set_cons_zero, List.set_cons_succ]
  refine wpK_ta (i := 29) (some 83) (v := .int .i64 0) rfl rfl (by kernel_rfl) (fun _ _ _ h => h) (Or.inl ⟨rfl, fun _ => rfl⟩) ?_
  simp only [Act.put, List.setIfInBounds_toArray, List.set_cons_zero, List.set_cons_succ]
  refine wpK_ta (i := 30) (some 84) (v := .bool true) rfl rfl (by kernel_rfl) (fun _ _ _ h => h) (Or.inl ⟨by rfl, fun W => by go_simp⟩) ?_
  simp only [Act.put, List.setIfInBounds_toArray, List.set_cons_zero, List.set_cons_succ]
  refine wpK_ta (i := 31) (some 85) (v := .bool true) rfl rfl (by kernel_rfl) (fun _ _ _ h => h) (Or.inl ⟨by rfl, fun W => by go_simp⟩) ?_
  simp only [Act.put, List.setIfInBounds_toArray, List.set_cons_zero, List.set_cons_succ]
  refine wpK_ta (i := 32) (some 11) (v := .bool true) rfl rfl (by kernel_rfl) (fun _ _ _ h => h) (Or.inl ⟨rfl, fun _ => rfl⟩) ?_
  simp only [Act.put, List.setIfInBounds_toArray, List.set_cons_zero, List.set_cons_succ]
  refine wpK_done (by kernel_rfl) (fun V70 hv71 => ?_) _
  have GC72 := Lib.hid (GC69.out.trans (Gr.un hv71))
  clear hv71
  go_upto_region 8 with fail
  refine wpG_region ?_
  refine @wpG_tk _ _ _ _ _ (some 86) (.agg #[.int .i64 1, .int .i64 0, .int .i64 0]) _ _ rfl (.call (f := 32) (args := #[.int .i64 1, .int .i64 0, .int .i64 0]) (by rfl) (fun W => by go_simp) (fun W hg => at_any 1 0 0 W)) ?_
  simp only [Act.put, List.setIfInBounds_toArray, List.set_cons_zero, List.set_cons_succ]
  refine @wpG_tk _ _ _ _ _ (some 87) (.agg #[.int .i64 0, .int .i64 1, .int .i64 0]) _ _ rfl (.call (f := 32) (args := #[.int .i64 0, .int .i64 1, .int .i64 0]) (by rfl) (fun W => by go_simp) (fun W hg => at_any 0 1 0 W)) ?_
  simp only [Act.put, List.setIfInBounds_toArray, List.set_cons_zero, List.set_cons_succ]
  refine @wpG_tk _ _ _ _ _ (some 88) (.int .i64 (-1)) _ _ rfl (.call (f := 15) (args := #[.agg #[.int .i64 1, .int .i64 0, .int .i64 0], .agg #[.int .i64 0, .int .i64 1, .int .i64 0]]) (by rfl) (fun W => by go_simp) (fun W hg => (rename (compare_any 1 0 0 0 1 0 W) (by rw [sv11])))) ?_
  simp only [Act.put, List.setIfInBounds_toArray, List.set_cons_zero, List.set_cons_succ]
  refine @wpG_tk _ _ _ _ _ (some 89) (.bool true) _ _ rfl (.val (by rfl) (fun W hg => by go_simp)) ?_
  simp only [Act.put, List.setIfInBounds_toArray, List.set_cons_zero, List.set_cons_succ]
  refine @wpG_tk _ _ _ _ _ (some 90) (.bool true) _ _ rfl (.val (by rfl) (fun _ _ => rfl)) ?_
  simp only [Act.put, List.setIfInBounds_toArray, List.set_cons_zero, List.set_cons_succ]
  refine @wpG_tk _ _ _ _ _ (some 91) (.agg #[.int .i64 3, .int .i64 5, .int .i64 1]) _ _ rfl (.call (f := 32) (args := #[.int .i64 3, .int .i64 5, .int .i64 1]) (by rfl) (fun W => by go_simp) (fun W hg => at_any 3 5 1 W)) ?_
  simp only [Act.put, List.setIfInBounds_toArray, List.set_cons_zero, List.set_cons_succ]
  refine @wpG_tk _ _ _ _ _ (some 92) (.int .i64 7) _ _ rfl (.call (f := 17) (args := #[.agg #[.int .i64 3, .int .i64 5, .int .i64 1], .int .i64 0]) (by rfl) (fun W => by go_simp) (fun W hg => (rename (octant_any 3 5 1 0 W) (by rw [sv12])))) ?_
  simp only [Act.put, List.setIfInBounds_toArray, List.set_cons_zero, List.set_cons_succ]
  refine @wpG_tk _ _ _ _ _ (some 93) (.bool true) _ _ rfl (.val (by rfl) (fun W hg => by go_simp)) ?_
  simp only [Act.put, List.setIfInBounds_toArray, List.set_cons_zero, List.set_cons_succ]
  refine @wpG_tk _ _ _ _ _ (some 94) (.bool true) _ _ rfl (.val (by rfl) (fun W hg => by go_simp)) ?_
  simp only [Act.put, List.setIfInBounds_toArray, List.set_cons_zero, List.set_cons_succ]
  refine @wpG_tk _ _ _ _ _ (some 95) (.bool true) _ _ rfl (.val (by rfl) (fun _ _ => rfl)) ?_
  simp only [Act.put, List.setIfInBounds_toArray, List.set_cons_zero, List.set_cons_succ]
  refine @wpG_tk _ _ _ _ _ (some 96) (.agg #[.int .i64 3, .int .i64 5, .int .i64 1]) _ _ rfl (.call (f := 32) (args := #[.int .i64 3, .int .i64 5, .int .i64 1]) (by rfl) (fun W => by go_simp) (fun W hg => at_any 3 5 1 W)) ?_
  simp only [Act.put, List.setIfInBounds_toArray, List.set_cons_zero, List.set_cons_succ]
  refine @wpG_tk _ _ _ _ _ (some 97) (.int .i64 2) _ _ rfl (.call (f := 17) (args := #[.agg #[.int .i64 3, .int .i64 5, .int .i64 1], .int .i64 2]) (by rfl) (fun W => by go_simp) (fun W hg => (rename (octant_any 3 5 1 2 W) (by rw [sv13])))) ?_
  simp only [Act.put, List.setIfInBounds_toArray, List.set_cons_zero, List.set_cons_succ]
  refine @wpG_tk _ _ _ _ _ (some 98) (.bool true) _ _ rfl (.val (by rfl) (fun W hg => by go_simp)) ?_
  simp only [Act.put, List.setIfInBounds_toArray, List.set_cons_zero, List.set_cons_succ]
  refine @wpG_tk _ _ _ _ _ (some 99) (.bool true) _ _ rfl (.val (by rfl) (fun W hg => by go_simp)) ?_
  simp only [Act.put, List.setIfInBounds_toArray, List.set_cons_zero, List.set_cons_succ]
  refine @wpG_tk _ _ _ _ _ (some 100) (.bool true) _ _ rfl (.val (by rfl) (fun _ _ => rfl)) ?_
  simp only [Act.put, List.setIfInBounds_toArray, List.set_cons_zero, List.set_cons_succ]
  refine @wpG_tk _ _ _ _ _ (some 101) (.int .i64 198) _ _ rfl (.call (f := 19) (args := #[.int .i64 143, .int .i64 0, .bool true]) (by rfl) (fun W => by go_simp) (fun W hg => (rename (neighbour_any 143 0 true W) (by rw [sv14])))) ?_
  simp only [Act.put, List.setIfInBounds_toArray, List.set_cons_zero, List.set_cons_succ]
  refine @wpG_tk _ _ _ _ _ (some 102) (.bool true) _ _ rfl (.val (by rfl) (fun W hg => by go_simp)) ?_
  simp only [Act.put, List.setIfInBounds_toArray, List.set_cons_zero, List.set_cons_succ]
  refine @wpG_tk _ _ _ _ _ (some 103) (.bool true) _ _ rfl (.val (by rfl) (fun W hg => by go_simp)) ?_
  simp only [Act.put, List.setIfInBounds_toArray, List.set_cons_zero, List.set_cons_succ]
  refine @wpG_tk _ _ _ _ _ (some 104) (.bool true) _ _ rfl (.val (by rfl) (fun _ _ => rfl)) ?_
  simp only [Act.put, List.setIfInBounds_toArray, List.set_cons_zero, List.set_cons_succ]
  refine @wpG_tk _ _ _ _ _ (some 105) (.int .i64 (-1)) _ _ rfl (.call (f := 19) (args := #[.int .i64 0, .int .i64 2, .bool false]) (by rfl) (fun W => by go_simp) (fun W hg => (rename (neighbour_any 0 2 false W) (by rw [sv15])))) ?_
  simp only [Act.put, List.setIfInBounds_toArray, List.set_cons_zero, List.set_cons_succ]
  refine @wpG_tk _ _ _ _ _ (some 106) (.bool true) _ _ rfl (.val (by rfl) (fun W hg => by go_simp)) ?_
  simp only [Act.put, List.setIfInBounds_toArray, List.set_cons_zero, List.set_cons_succ]
  refine @wpG_tk _ _ _ _ _ (some 107) (.bool true) _ _ rfl (.val (by rfl) (fun W hg => by go_simp)) ?_
  simp only [Act.put, List.setIfInBounds_toArray, List.set_cons_zero, List.set_cons_succ]
  refine @wpG_tk _ _ _ _ _ (some 12) (.bool true) _ _ rfl (.val (by rfl) (fun _ _ => rfl)) ?_
  simp only [Act.put, List.setIfInBounds_toArray, List.set_cons_zero, List.set_cons_succ]
  refine wpG_done (fun V73 hv74 => ?_)
  have GC75 := Lib.hid (GC72.out.trans hv74)
  clear hv74
  go_upto_region 9 with fail
  refine wpG_region ?_
  refine @wpG_tk _ _ _ _ _ (some 108) (.bool true) _ _ rfl (.val (by rfl) (fun _ _ => rfl)) ?_
  simp only [Act.put, List.setIfInBounds_toArray, List.set_cons_zero, List.set_cons_succ]
  refine @wpG_tk _ _ _ _ _ (some 109) (.bool true) _ _ rfl (.val (by rfl) (fun _ _ => rfl)) ?_
  simp only [Act.put, List.setIfInBounds_toArray, List.set_cons_zero, List.set_cons_succ]
  refine @wpG_tk _ _ _ _ _ (some 110) (.bool true) _ _ rfl (.val (by rfl) (fun _ _ => rfl)) ?_
  simp only [Act.put, List.setIfInBounds_toArray, List.set_cons_zero, List.set_cons_succ]
  refine @wpG_tk _ _ _ _ _ (some 111) (.bool true) _ _ rfl (.val (by rfl) (fun W hg => by go_simp)) ?_
  simp only [Act.put, List.setIfInBounds_toArray, List.set_cons_zero, List.set_cons_succ]
  refine @wpG_tk _ _ _ _ _ (some 112) (.bool true) _ _ rfl (.val (by rfl) (fun _ _ => rfl)) ?_
  simp only [Act.put, List.setIfInBounds_toArray, List.set_cons_zero, List.set_cons_succ]
  refine @wpG_tk _ _ _ _ _ (some 113) (.bool true) _ _ rfl (.val (by rfl) (fun _ _ => rfl)) ?_
  simp only [Act.put, List.setIfInBounds_toArray, List.set_cons_zero, List.set_cons_succ]
  refine @wpG_tk _ _ _ _ _ (some 114) (.bool true) _ _ rfl (.val (by rfl) (fun W hg => by go_simp)) ?_
  simp only [Act.put, List.setIfInBounds_toArray, List.set_cons_zero, List.set_cons_succ]
  refine @wpG_tk _ _ _ _ _ (some 115) (.bool true) _ _ rfl (.val (by rfl) (fun _ _ => rfl)) ?_
  simp only [Act.put, List.setIfInBounds_toArray, List.set_cons_zero, List.set_cons_succ]
  refine @wpG_tk _ _ _ _ _ (some 116) (.agg #[.int .i64 0, .int .i64 0, .int .i64 0, .int .i64 2, .int .i64 2, .int .i64 3]) _ _ rfl (.load_mid (by rfl) 37 (.tmp 5) rfl (W21.heap.size) 0 rfl [.int .i64 0, .int .i64 0, .int .i64 0, .int .i64 2, .int .i64 2, .int .i64 3] _ (fun W hg => (R51.out.below (GC75.out.trans hg)).range) Try.underlying37 rfl (by kernel_rfl)) ?_
  simp only [Act.put, List.setIfInBounds_toArray, List.set_cons_zero, List.set_cons_succ]
  refine @wpG_tk _ _ _ _ _ (some 117) (.int .i64 32) _ _ rfl (.call (f := 28) (args := #[.agg #[.int .i64 0, .int .i64 0, .int .i64 0, .int .i64 2, .int .i64 2, .int .i64 3], .int .i64 9]) (by rfl) (fun W => by go_simp) (fun W hg => (rename (next_any 0 0 0 2 2 3 9 W) (by rw [sv16])))) ?_
  simp only [Act.put, List.setIfInBounds_toArray, List.set_cons_zero, List.set_cons_succ]
  refine @wpG_tk _ _ _ _ _ (some 118) (.bool true) _ _ rfl (.val (by rfl) (fun W hg => by go_simp)) ?_
  simp only [Act.put, List.setIfInBounds_toArray, List.set_cons_zero, List.set_cons_succ]
  refine @wpG_tk _ _ _ _ _ (some 119) (.bool true) _ _ rfl (.val (by rfl) (fun W hg => by go_simp)) ?_
  simp only [Act.put, List.setIfInBounds_toArray, List.set_cons_zero, List.set_cons_succ]
  refine @wpG_tk _ _ _ _ _ (some 120) (.bool true) _ _ rfl (.val (by rfl) (fun _ _ => rfl)) ?_
  simp only [Act.put, List.setIfInBounds_toArray, List.set_cons_zero, List.set_cons_succ]
  refine @wpG_tk _ _ _ _ _ (some 121) (.agg #[.int .i64 0, .int .i64 0, .int .i64 0, .int .i64 2, .int .i64 2, .int .i64 3]) _ _ rfl (.load_mid (by rfl) 37 (.tmp 5) rfl (W21.heap.size) 0 rfl [.int .i64 0, .int .i64 0, .int .i64 0, .int .i64 2, .int .i64 2, .int .i64 3] _ (fun W hg => (R51.out.below (GC75.out.trans hg)).range) Try.underlying37 rfl (by kernel_rfl)) ?_
  simp only [Act.put, List.setIfInBounds_toArray, List.set_cons_zero, List.set_cons_succ]
  refine @wpG_tk _ _ _ _ _ (some 122) (.int .i64 (-1)) _ _ rfl (.call (f := 28) (args := #[.agg #[.int .i64 0, .int .i64 0, .int .i64 0, .int .i64 2, .int .i64 2, .int .i64 3], .int .i64 36]) (by rfl) (fun W => by go_simp) (fun W hg => (rename (next_any 0 0 0 2 2 3 36 W) (by rw [sv17])))) ?_
  simp only [Act.put, List.setIfInBounds_toArray, List.set_cons_zero, List.set_cons_succ]
  refine @wpG_tk _ _ _ _ _ (some 123) (.bool true) _ _ rfl (.val (by rfl) (fun W hg => by go_simp)) ?_
  simp only [Act.put, List.setIfInBounds_toArray, List.set_cons_zero, List.set_cons_succ]
  refine @wpG_tk _ _ _ _ _ (some 124) (.bool true) _ _ rfl (.val (by rfl) (fun W hg => by go_simp)) ?_
  simp only [Act.put, List.setIfInBounds_toArray, List.set_cons_zero, List.set_cons_succ]
  refine @wpG_tk _ _ _ _ _ (some 125) (.bool true) _ _ rfl (.val (by rfl) (fun _ _ => rfl)) ?_
  simp only [Act.put, List.setIfInBounds_toArray, List.set_cons_zero, List.set_cons_succ]
  refine @wpG_tk _ _ _ _ _ (some 126) (.bool true) _ _ rfl (.val (by rfl) (fun W hg => by go_simp)) ?_
  simp only [Act.put, List.setIfInBounds_toArray, List.set_cons_zero, List.set_cons_succ]
  refine @wpG_tk _ _ _ _ _ (some 127) (.bool true) _ _ rfl (.val (by rfl) (fun _ _ => rfl)) ?_
  simp only [Act.put, List.setIfInBounds_toArray, List.set_cons_zero, List.set_cons_succ]
  refine @wpG_tk _ _ _ _ _ (some 128) (.bool true) _ _ rfl (.val (by rfl) (fun W hg => by go_simp)) ?_
  simp only [Act.put, List.setIfInBounds_toArray, List.set_cons_zero, List.set_cons_succ]
  refine @wpG_tk _ _ _ _ _ (some 0) (.bool true) _ _ rfl (.val (by rfl) (fun _ _ => rfl)) ?_
  simp only [Act.put, List.setIfInBounds_toArray, List.set_cons_zero]
  refine wpG_done (fun V76 hv77 => ?_)
  have GC78 := Lib.hid (GC75.out.trans hv77)
  clear hv77
  go_wp2_with fail
  go_ret
  exact ⟨rfl, Gr.to G48.out GC78.out⟩

end Go.Proofs.Ytmjjkloeipoefaa
