/-
  voxellaw05.MortonMatchesSpec, its walk.
-/
import Derived.Test.YtmjjkloeipoefaaMosan
import Derived.Handy
namespace Go.Proofs.Ytmjjkloeipoefaa
open Go.RowKit
set_option linter.unusedVariables false
set_option maxRecDepth 1000000 in
set_option maxHeartbeats 4000000 in
theorem law1 (a1 a2 a3 b1 b2 b3 n l a : Int) (ub : Bool) (w : World) :
    Calls Try.prog 3 #[.agg #[.int .i64 a1, .int .i64 a2, .int .i64 a3], .agg #[.int .i64 b1, .int .i64 b2, .int .i64 b3], .int .i64 n, .int .i64 l, .int .i64 a, .bool ub] w fun e w' => e = .returned (.bool true) ∧ Below w.heap.size w w' := by
  obtain ⟨u, hu, r0, r1, g0⟩ := rows2 w [.int .i64 a1, .int .i64 a2, .int .i64 a3] 23 [.int .i64 b1, .int .i64 b2, .int .i64 b3] 23
  have R0 := Lib.hid r0
  have R1 := Lib.hid r1
  have G0 := Lib.hid g0
  have HU := Lib.hid hu
  clear hu g0 r0 r1
  go_enter Try.func3, Try.ntmps3
  go_upto_region 1 with fail
  rw [← HU.out]
  refine wpG_region ?_
  refine @wpG_tk _ _ _ _ _ (some 24) (.int .i64 n) _ _ rfl (.val (by rfl) (fun _ _ => rfl)) ?_
  simp only [Act.put, List.setIfInBounds_toArray, List.set_cons_zero, List.set_cons_succ]
  refine @wpG_tk _ _ _ _ _ (some 25) (.tuple #[.agg #[.int .i64 (Mo.dec 0 n), .int .i64 (Mo.dec 1 n), .int .i64 (Mo.dec 2 n)], .bool (Mo.okB n)]) _ _ rfl (.call (f := 9) (args := #[.int .i64 n]) (by rfl) (fun W => by go_simp) (fun W hg => decode_any n W)) ?_
  simp only [Act.put, List.setIfInBounds_toArray, List.set_cons_zero, List.set_cons_succ]
  refine @wpG_tk _ _ _ _ _ (some 23) (.tuple #[.agg #[.int .i64 (Mo.dec 0 n), .int .i64 (Mo.dec 1 n), .int .i64 (Mo.dec 2 n)], .bool (Mo.okB n)]) _ _ rfl (.val (by rfl) (fun _ _ => rfl)) ?_
  simp only [Act.put, List.setIfInBounds_toArray, List.set_cons_zero, List.set_cons_succ]
  refine @wpG_tk _ _ _ _ _ (some 26) (.agg #[.int .i64 (Mo.dec 0 n), .int .i64 (Mo.dec 1 n), .int .i64 (Mo.dec 2 n)]) _ _ rfl (.val (by rfl) (fun W hg => by go_simp)) ?_
  simp only [Act.put, List.setIfInBounds_toArray, List.set_cons_zero, List.set_cons_succ]
  refine @wpG_tk _ _ _ _ _ (some 27) (.bool (Mo.okB n)) _ _ rfl (.val (by rfl) (fun W hg => by go_simp)) ?_
  simp only [Act.put, List.setIfInBounds_toArray, List.set_cons_zero, List.set_cons_succ]
  refine wpG_val (some 13) rfl (by rfl) (fun W1 hg2 => ⟨.pointer (some ⟨W1.heap.size, 0, none⟩), W1.alloc (.cells #[.int .i64 0, .int .i64 0, .int .i64 0] 23), by (go_simp <;> rfl), ?_⟩)
  simp only [Act.put, List.setIfInBounds_toArray, List.set_cons_zero, List.set_cons_succ]
  refine wpG_store (none) rfl (by rfl) (fun W3 hg4 => ⟨_, run_store_mid 23 (.tmp 13) (.tmp 26) rfl (W1.heap.size) 0 #[.int .i64 (Mo.dec 0 n), .int .i64 (Mo.dec 1 n), .int .i64 (Mo.dec 2 n)] rfl rfl (Row.room hg4 3 rfl) (by kernel_rfl) (by kernel_rfl), ?_⟩)
  simp only [Act.put]
  refine @wpG_tk _ _ _ _ _ (some 14) (.bool (Mo.okB n)) _ _ rfl (.val (by rfl) (fun _ _ => rfl)) ?_
  simp only [Act.put, List.setIfInBounds_toArray, List.set_cons_zero, List.set_cons_succ]
  refine wpG_done (fun V5 hv6 => ?_)
  have l8 : w.heap.size < W1.heap.size := (R0.out.below hg2).lt
  have l9 : w.heap.size + 1 < W1.heap.size := (R1.out.below hg2).lt
  have l10 : w.heap.size ≤ W1.heap.size := (Gr.to G0.out hg2).size
  have R11 := Lib.hid ((R0.out.below hg2).past hg4 hv6)
  have R12 := Lib.hid ((R1.out.below hg2).past hg4 hv6)
  have R13 := Lib.hid (Row.made (zs := [.int .i64 0, .int .i64 0, .int .i64 0]) (ds := [.int .i64 (Mo.dec 0 n), .int .i64 (Mo.dec 1 n), .int .i64 (Mo.dec 2 n)]) rfl hg4 hv6)
  have G7 := Lib.hid (Gr.to (Gr.to G0.out hg2) (Gr.past hg4 hv6))
  clear hg4 hv6 
  go_upto_region 2 with fail
  refine wpG_region ?_
  refine @wpG_tk _ _ _ _ _ (some 29) (.int .i64 n) _ _ rfl (.val (by rfl) (fun _ _ => rfl)) ?_
  simp only [Act.put, List.setIfInBounds_toArray, List.set_cons_zero, List.set_cons_succ]
  refine @wpG_tk _ _ _ _ _ (some 30) (.tuple #[.agg #[.int .i64 (Mo.dec 0 n), .int .i64 (Mo.dec 1 n), .int .i64 (Mo.dec 2 n)], .bool (Mo.okB n)]) _ _ rfl (.call (f := 10) (args := #[.int .i64 n]) (by rfl) (fun W => by go_simp) (fun W hg => rdecode_any n W)) ?_
  simp only [Act.put, List.setIfInBounds_toArray, List.set_cons_zero, List.set_cons_succ]
  refine @wpG_tk _ _ _ _ _ (some 28) (.tuple #[.agg #[.int .i64 (Mo.dec 0 n), .int .i64 (Mo.dec 1 n), .int .i64 (Mo.dec 2 n)], .bool (Mo.okB n)]) _ _ rfl (.val (by rfl) (fun _ _ => rfl)) ?_
  simp only [Act.put, List.setIfInBounds_toArray, List.set_cons_zero, List.set_cons_succ]
  refine @wpG_tk _ _ _ _ _ (some 31) (.agg #[.int .i64 (Mo.dec 0 n), .int .i64 (Mo.dec 1 n), .int .i64 (Mo.dec 2 n)]) _ _ rfl (.val (by rfl) (fun W hg => by go_simp)) ?_
  simp only [Act.put, List.setIfInBounds_toArray, List.set_cons_zero, List.set_cons_succ]
  refine @wpG_tk _ _ _ _ _ (some 32) (.bool (Mo.okB n)) _ _ rfl (.val (by rfl) (fun W hg => by go_simp)) ?_
  simp only [Act.put, List.setIfInBounds_toArray, List.set_cons_zero, List.set_cons_succ]
  refine wpG_val (some 15) rfl (by rfl) (fun W14 hg15 => ⟨.pointer (some ⟨W14.heap.size, 0, none⟩), W14.alloc (.cells #[.int .i64 0, .int .i64 0, .int .i64 0] 23), by (go_simp <;> rfl), ?_⟩)
  simp only [Act.put, List.setIfInBounds_toArray, List.set_cons_zero, List.set_cons_succ]
  refine wpG_store (none) rfl (by rfl) (fun W16 hg17 => ⟨_, run_store_mid 23 (.tmp 15) (.tmp 31) rfl (W14.heap.size) 0 #[.int .i64 (Mo.dec 0 n), .int .i64 (Mo.dec 1 n), .int .i64 (Mo.dec 2 n)] rfl rfl (Row.room hg17 3 rfl) (by kernel_rfl) (by kernel_rfl), ?_⟩)
  simp only [Act.put]
  refine @wpG_tk _ _ _ _ _ (some 16) (.bool (Mo.okB n)) _ _ rfl (.val (by rfl) (fun _ _ => rfl)) ?_
  simp only [Act.put, List.setIfInBounds_toArray, List.set_cons_zero, List.set_cons_succ]
  refine wpG_done (fun V18 hv19 => ?_)
  have l21 : w.heap.size < W14.heap.size := (R11.out.below hg15).lt
  have l22 : w.heap.size + 1 < W14.heap.size := (R12.out.below hg15).lt
  have l23 : W1.heap.size < W14.heap.size := (R13.out.below hg15).lt
  have l24 : w.heap.size ≤ W14.heap.size := (Gr.to G7.out hg15).size
  have R25 := Lib.hid ((R11.out.below hg15).past hg17 hv19)
  have R26 := Lib.hid ((R12.out.below hg15).past hg17 hv19)
  have R27 := Lib.hid ((R13.out.below hg15).past hg17 hv19)
  have R28 := Lib.hid (Row.made (zs := [.int .i64 0, .int .i64 0, .int .i64 0]) (ds := [.int .i64 (Mo.dec 0 n), .int .i64 (Mo.dec 1 n), .int .i64 (Mo.dec 2 n)]) rfl hg17 hv19)
  have G20 := Lib.hid (Gr.to (Gr.to G7.out hg15) (Gr.past hg17 hv19))
  clear hg17 hv19 
  go_upto_region 3 with fail
  refine wpG_region ?_
  refine @wpG_tk _ _ _ _ _ (some 34) (.agg #[.int .i64 a1, .int .i64 a2, .int .i64 a3]) _ _ rfl (.load_mid (by rfl) 23 (.tmp 6) rfl (w.heap.size) 0 rfl [.int .i64 a1, .int .i64 a2, .int .i64 a3] _ (fun W hg => (R25.out.below hg).range) Try.underlying23 rfl (by kernel_rfl)) ?_
  simp only [Act.put, List.setIfInBounds_toArray, List.set_cons_zero, List.set_cons_succ]
  refine @wpG_tk _ _ _ _ _ (some 35) (.agg #[.int .i64 b1, .int .i64 b2, .int .i64 b3]) _ _ rfl (.load_mid (by rfl) 23 (.tmp 7) rfl (w.heap.size + 1) 0 rfl [.int .i64 b1, .int .i64 b2, .int .i64 b3] _ (fun W hg => (R26.out.below hg).range) Try.underlying23 rfl (by kernel_rfl)) ?_
  simp only [Act.put, List.setIfInBounds_toArray, List.set_cons_zero, List.set_cons_succ]
  refine @wpG_tk _ _ _ _ _ (some 36) (.tuple #[.agg #[.int .i64 (Mo.com 0 a1 a2 a3 b1 b2 b3), .int .i64 (Mo.com 1 a1 a2 a3 b1 b2 b3), .int .i64 (Mo.com 2 a1 a2 a3 b1 b2 b3), .int .i64 (Mo.com 3 a1 a2 a3 b1 b2 b3)], .bool (Mo.inB a1 a2 a3 && Mo.inB b1 b2 b3)]) _ _ rfl (.call (f := 11) (args := #[.agg #[.int .i64 a1, .int .i64 a2, .int .i64 a3], .agg #[.int .i64 b1, .int .i64 b2, .int .i64 b3]]) (by rfl) (fun W => by go_simp) (fun W hg => common_any a1 a2 a3 b1 b2 b3 W)) ?_
  simp only [Act.put, List.setIfInBounds_toArray, List.set_cons_zero, List.set_cons_succ]
  refine @wpG_tk _ _ _ _ _ (some 33) (.tuple #[.agg #[.int .i64 (Mo.com 0 a1 a2 a3 b1 b2 b3), .int .i64 (Mo.com 1 a1 a2 a3 b1 b2 b3), .int .i64 (Mo.com 2 a1 a2 a3 b1 b2 b3), .int .i64 (Mo.com 3 a1 a2 a3 b1 b2 b3)], .bool (Mo.inB a1 a2 a3 && Mo.inB b1 b2 b3)]) _ _ rfl (.val (by rfl) (fun _ _ => rfl)) ?_
  simp only [Act.put, List.setIfInBounds_toArray, List.set_cons_zero, List.set_cons_succ]
  refine @wpG_tk _ _ _ _ _ (some 37) (.agg #[.int .i64 (Mo.com 0 a1 a2 a3 b1 b2 b3), .int .i64 (Mo.com 1 a1 a2 a3 b1 b2 b3), .int .i64 (Mo.com 2 a1 a2 a3 b1 b2 b3), .int .i64 (Mo.com 3 a1 a2 a3 b1 b2 b3)]) _ _ rfl (.val (by rfl) (fun W hg => by go_simp)) ?_
  simp only [Act.put, List.setIfInBounds_toArray, List.set_cons_zero, List.set_cons_succ]
  refine @wpG_tk _ _ _ _ _ (some 38) (.bool (Mo.inB a1 a2 a3 && Mo.inB b1 b2 b3)) _ _ rfl (.val (by rfl) (fun W hg => by go_simp)) ?_
  simp only [Act.put, List.setIfInBounds_toArray, List.set_cons_zero, List.set_cons_succ]
  refine wpG_val (some 17) rfl (by rfl) (fun W29 hg30 => ⟨.pointer (some ⟨W29.heap.size, 0, none⟩), W29.alloc (.cells #[.int .i64 0, .int .i64 0, .int .i64 0, .int .i64 0] 27), by (go_simp <;> rfl), ?_⟩)
  simp only [Act.put, List.setIfInBounds_toArray, List.set_cons_zero, List.set_cons_succ]
  refine wpG_store (none) rfl (by rfl) (fun W31 hg32 => ⟨_, run_store_mid 27 (.tmp 17) (.tmp 37) rfl (W29.heap.size) 0 #[.int .i64 (Mo.com 0 a1 a2 a3 b1 b2 b3), .int .i64 (Mo.com 1 a1 a2 a3 b1 b2 b3), .int .i64 (Mo.com 2 a1 a2 a3 b1 b2 b3), .int .i64 (Mo.com 3 a1 a2 a3 b1 b2 b3)] rfl rfl (Row.room hg32 4 rfl) (by kernel_rfl) (by kernel_rfl), ?_⟩)
  simp only [Act.put]
  refine @wpG_tk _ _ _ _ _ (some 18) (.bool (Mo.inB a1 a2 a3 && Mo.inB b1 b2 b3)) _ _ rfl (.val (by rfl) (fun _ _ => rfl)) ?_
  simp only [Act.put, List.setIfInBounds_toArray, List.set_cons_zero, List.set_cons_succ]
  refine wpG_done (fun V33 hv34 => ?_)
  have l36 : w.heap.size < W29.heap.size := (R25.out.below hg30).lt
  have l37 : w.heap.size + 1 < W29.heap.size := (R26.out.below hg30).lt
  have l38 : W1.heap.size < W29.heap.size := (R27.out.below hg30).lt
  have l39 : W14.heap.size < W29.heap.size := (R28.out.below hg30).lt
  have l40 : w.heap.size ≤ W29.heap.size := (Gr.to G20.out hg30).size
  have R41 := Lib.hid ((R25.out.below hg30).past hg32 hv34)
  have R42 := Lib.hid ((R26.out.below hg30).past hg32 hv34)
  have R43 := Lib.hid ((R27.out.below hg30).past hg32 hv34)
  have R44 := Lib.hid ((R28.out.below hg30).past hg32 hv34)
  have R45 := Lib.hid (Row.made (zs := [.int .i64 0, .int .i64 0, .int .i64 0, .int .i64 0]) (ds := [.int .i64 (Mo.com 0 a1 a2 a3 b1 b2 b3), .int .i64 (Mo.com 1 a1 a2 a3 b1 b2 b3), .int .i64 (Mo.com 2 a1 a2 a3 b1 b2 b3), .int .i64 (Mo.com 3 a1 a2 a3 b1 b2 b3)]) rfl hg32 hv34)
  have G35 := Lib.hid (Gr.to (Gr.to G20.out hg30) (Gr.past hg32 hv34))
  clear hg32 hv34 
  go_upto_region 4 with fail
  refine wpG_region ?_
  refine @wpG_tk _ _ _ _ _ (some 40) (.agg #[.int .i64 a1, .int .i64 a2, .int .i64 a3]) _ _ rfl (.load_mid (by rfl) 23 (.tmp 6) rfl (w.heap.size) 0 rfl [.int .i64 a1, .int .i64 a2, .int .i64 a3] _ (fun W hg => (R41.out.below hg).range) Try.underlying23 rfl (by kernel_rfl)) ?_
  simp only [Act.put, List.setIfInBounds_toArray, List.set_cons_zero, List.set_cons_succ]
  refine @wpG_tk _ _ _ _ _ (some 41) (.agg #[.int .i64 b1, .int .i64 b2, .int .i64 b3]) _ _ rfl (.load_mid (by rfl) 23 (.tmp 7) rfl (w.heap.size + 1) 0 rfl [.int .i64 b1, .int .i64 b2, .int .i64 b3] _ (fun W hg => (R42.out.below hg).range) Try.underlying23 rfl (by kernel_rfl)) ?_
  simp only [Act.put, List.setIfInBounds_toArray, List.set_cons_zero, List.set_cons_succ]
  refine @wpG_tk _ _ _ _ _ (some 42) (.tuple #[.agg #[.int .i64 (Mo.com 0 a1 a2 a3 b1 b2 b3), .int .i64 (Mo.com 1 a1 a2 a3 b1 b2 b3), .int .i64 (Mo.com 2 a1 a2 a3 b1 b2 b3), .int .i64 (Mo.com 3 a1 a2 a3 b1 b2 b3)], .bool (Mo.inB a1 a2 a3 && Mo.inB b1 b2 b3)]) _ _ rfl (.call (f := 12) (args := #[.agg #[.int .i64 a1, .int .i64 a2, .int .i64 a3], .agg #[.int .i64 b1, .int .i64 b2, .int .i64 b3]]) (by rfl) (fun W => by go_simp) (fun W hg => rcommon_any a1 a2 a3 b1 b2 b3 W)) ?_
  simp only [Act.put, List.setIfInBounds_toArray, List.set_cons_zero, List.set_cons_succ]
  refine @wpG_tk _ _ _ _ _ (some 39) (.tuple #[.agg #[.int .i64 (Mo.com 0 a1 a2 a3 b1 b2 b3), .int .i64 (Mo.com 1 a1 a2 a3 b1 b2 b3), .int .i64 (Mo.com 2 a1 a2 a3 b1 b2 b3), .int .i64 (Mo.com 3 a1 a2 a3 b1 b2 b3)], .bool (Mo.inB a1 a2 a3 && Mo.inB b1 b2 b3)]) _ _ rfl (.val (by rfl) (fun _ _ => rfl)) ?_
  simp only [Act.put, List.setIfInBounds_toArray, List.set_cons_zero, List.set_cons_succ]
  refine @wpG_tk _ _ _ _ _ (some 43) (.agg #[.int .i64 (Mo.com 0 a1 a2 a3 b1 b2 b3), .int .i64 (Mo.com 1 a1 a2 a3 b1 b2 b3), .int .i64 (Mo.com 2 a1 a2 a3 b1 b2 b3), .int .i64 (Mo.com 3 a1 a2 a3 b1 b2 b3)]) _ _ rfl (.val (by rfl) (fun W hg => by go_simp)) ?_
  simp only [Act.put, List.setIfInBounds_toArray, List.set_cons_zero, List.set_cons_succ]
  refine @wpG_tk _ _ _ _ _ (some 44) (.bool (Mo.inB a1 a2 a3 && Mo.inB b1 b2 b3)) _ _ rfl (.val (by rfl) (fun W hg => by go_simp)) ?_
  simp only [Act.put, List.setIfInBounds_toArray, List.set_cons_zero, List.set_cons_succ]
  refine wpG_val (some 19) rfl (by rfl) (fun W46 hg47 => ⟨.pointer (some ⟨W46.heap.size, 0, none⟩), W46.alloc (.cells #[.int .i64 0, .int .i64 0, .int .i64 0, .int .i64 0] 27), by (go_simp <;> rfl), ?_⟩)
  simp only [Act.put, List.setIfInBounds_toArray, List.set_cons_zero, List.set_cons_succ]
  refine wpG_store (none) rfl (by rfl) (fun W48 hg49 => ⟨_, run_store_mid 27 (.tmp 19) (.tmp 43) rfl (W46.heap.size) 0 #[.int .i64 (Mo.com 0 a1 a2 a3 b1 b2 b3), .int .i64 (Mo.com 1 a1 a2 a3 b1 b2 b3), .int .i64 (Mo.com 2 a1 a2 a3 b1 b2 b3), .int .i64 (Mo.com 3 a1 a2 a3 b1 b2 b3)] rfl rfl (Row.room hg49 4 rfl) (by kernel_rfl) (by kernel_rfl), ?_⟩)
  simp only [Act.put]
  refine @wpG_tk _ _ _ _ _ (some 20) (.bool (Mo.inB a1 a2 a3 && Mo.inB b1 b2 b3)) _ _ rfl (.val (by rfl) (fun _ _ => rfl)) ?_
  simp only [Act.put, List.setIfInBounds_toArray, List.set_cons_zero, List.set_cons_succ]
  refine wpG_done (fun V50 hv51 => ?_)
  have l53 : w.heap.size < W46.heap.size := (R41.out.below hg47).lt
  have l54 : w.heap.size + 1 < W46.heap.size := (R42.out.below hg47).lt
  have l55 : W1.heap.size < W46.heap.size := (R43.out.below hg47).lt
  have l56 : W14.heap.size < W46.heap.size := (R44.out.below hg47).lt
  have l57 : W29.heap.size < W46.heap.size := (R45.out.below hg47).lt
  have l58 : w.heap.size ≤ W46.heap.size := (Gr.to G35.out hg47).size
  have R59 := Lib.hid ((R41.out.below hg47).past hg49 hv51)
  have R60 := Lib.hid ((R42.out.below hg47).past hg49 hv51)
  have R61 := Lib.hid ((R43.out.below hg47).past hg49 hv51)
  have R62 := Lib.hid ((R44.out.below hg47).past hg49 hv51)
  have R63 := Lib.hid ((R45.out.below hg47).past hg49 hv51)
  have R64 := Lib.hid (Row.made (zs := [.int .i64 0, .int .i64 0, .int .i64 0, .int .i64 0]) (ds := [.int .i64 (Mo.com 0 a1 a2 a3 b1 b2 b3), .int .i64 (Mo.com 1 a1 a2 a3 b1 b2 b3), .int .i64 (Mo.com 2 a1 a2 a3 b1 b2 b3), .int .i64 (Mo.com 3 a1 a2 a3 b1 b2 b3)]) rfl hg49 hv51)
  have G52 := Lib.hid (Gr.to (Gr.to G35.out hg47) (Gr.past hg49 hv51))
  clear hg49 hv51 
  go_upto_region 5 with fail
  refine wpK_region (by kernel_rfl) ?_
  refine wpK_tk (i := 0) (some 45) (v := .agg #[.int .i64 a1, .int .i64 a2, .int .i64 a3]) rfl rfl (by kernel_rfl) (fun _ _ _ h => h) (.load_mid (by rfl) 23 (.tmp 6) rfl (w.heap.size) 0 rfl [.int .i64 a1, .int .i64 a2, .int .i64 a3] _ (fun W hg => (R59.out.below (Gr.un hg)).range) Try.underlying23 rfl (by kernel_rfl)) ?_
  simp only [Act.put, List.setIfInBounds_toArray, List.set_cons_zero, List.set_cons_succ]
  refine wpK_tk (i := 1) (some 46) (v := .int .i64 (Mo.enc a1 a2 a3)) rfl rfl (by kernel_rfl) (fun _ _ _ h => h) (.call (f := 13) (args := #[.agg #[.int .i64 a1, .int .i64 a2, .int .i64 a3]]) (by rfl) (fun W => by go_simp) (fun W hg => encode_any a1 a2 a3 W)) ?_
  simp only [Act.put, List.setIfInBounds_toArray, List.set_cons_zero, List.set_cons_succ]
  refine wpK_tk (i := 2) (some 47) (v := .agg #[.int .i64 a1, .int .i64 a2, .int .i64 a3]) rfl rfl (by kernel_rfl) (fun _ _ _ h => h) (.load_mid (by rfl) 23 (.tmp 6) rfl (w.heap.size) 0 rfl [.int .i64 a1, .int .i64 a2, .int .i64 a3] _ (fun W hg => (R59.out.below (Gr.un hg)).range) Try.underlying23 rfl (by kernel_rfl)) ?_
  simp only [Act.put, List.setIfInBounds_toArray, List.set_cons_zero, List.set_cons_succ]
  refine wpK_tk (i := 3) (some 48) (v := .int .i64 (Mo.enc a1 a2 a3)) rfl rfl (by kernel_rfl) (fun _ _ _ h => h) (.call (f := 14) (args := #[.agg #[.int .i64 a1, .int .i64 a2, .int .i64 a3]]) (by rfl) (fun W => by go_simp) (fun W hg => rencode_any a1 a2 a3 W)) ?_
  simp only [Act.put, List.setIfInBounds_toArray, List.set_cons_zero, List.set_cons_succ]
  refine wpK_ta (i := 4) (some 49) (v := .bool true) rfl rfl (by kernel_rfl) (fun _ _ _ h => h) (Or.inl ⟨by rfl, fun W => by go_simp⟩) ?_
  simp only [Act.put, List.setIfInBounds_toArray, List.set_cons_zero, List.set_cons_succ]
  refine wpK_ta (i := 5) (some 50) (v := .bool true) rfl rfl (by kernel_rfl) (fun _ _ _ h => h) (Or.inl ⟨rfl, fun _ => rfl⟩) ?_
  simp only [Act.put, List.setIfInBounds_toArray, List.set_cons_zero, List.set_cons_succ]
  refine wpK_tk (i := 6) (some 51) (v := .agg #[.int .i64 (Mo.dec 0 n), .int .i64 (Mo.dec 1 n), .int .i64 (Mo.dec 2 n)]) rfl rfl (by kernel_rfl) (fun _ _ _ h => h) (.load_mid (by rfl) 23 (.tmp 13) rfl (W1.heap.size) 0 rfl [.int .i64 (Mo.dec 0 n), .int .i64 (Mo.dec 1 n), .int .i64 (Mo.dec 2 n)] _ (fun W hg => (R61.out.below (Gr.un hg)).range) Try.underlying23 rfl (by kernel_rfl)) ?_
  simp only [Act.put, List.setIfInBounds_toArray, List.set_cons_zero, List.set_cons_succ]
  refine wpK_tk (i := 7) (some 52) (v := .agg #[.int .i64 (Mo.dec 0 n), .int .i64 (Mo.dec 1 n), .int .i64 (Mo.dec 2 n)]) rfl rfl (by kernel_rfl) (fun _ _ _ h => h) (.load_mid (by rfl) 23 (.tmp 15) rfl (W14.heap.size) 0 rfl [.int .i64 (Mo.dec 0 n), .int .i64 (Mo.dec 1 n), .int .i64 (Mo.dec 2 n)] _ (fun W hg => (R62.out.below (Gr.un hg)).range) Try.underlying23 rfl (by kernel_rfl)) ?_
  simp only [Act.put, List.setIfInBounds_toArray, List.set_cons_zero, List.set_cons_succ]
  refine wpK_ta (i := 8) (some 53) (v := .bool true) rfl rfl (by kernel_rfl) (fun _ _ _ h => h) (Or.inl ⟨by rfl, fun W => by (go_simp <;> first | omega | ((repeat' split) <;> first | rfl | (exfalso; omega)))⟩) ?_
  simp only [Act.put, List.setIfInBounds_toArray, List.set_cons_zero, List.set_cons_succ]
  refine wpK_ta (i := 9) (some 54) (v := .bool true) rfl rfl (by kernel_rfl) (fun _ _ _ h => h) (Or.inl ⟨by rfl, fun W => by go_simp⟩) ?_
  simp only [Act.put, List.setIfInBounds_toArray, List.set_cons_zero, List.set_cons_succ]
  refine wpK_ta (i := 10) (some 55) (v := .bool true) rfl rfl (by kernel_rfl) (fun _ _ _ h => h) (Or.inl ⟨rfl, fun _ => rfl⟩) ?_
  simp only [Act.put, List.setIfInBounds_toArray, List.set_cons_zero, List.set_cons_succ]
  refine wpK_ta (i := 11) (some 56) (v := .bool (Mo.okB n)) rfl rfl (by kernel_rfl) (fun _ _ _ h => h) (Or.inl ⟨rfl, fun _ => rfl⟩) ?_
  simp only [Act.put, List.setIfInBounds_toArray, List.set_cons_zero, List.set_cons_succ]
  refine wpK_ta (i := 12) (some 57) (v := .bool (Mo.okB n)) rfl rfl (by kernel_rfl) (fun _ _ _ h => h) (Or.inl ⟨rfl, fun _ => rfl⟩) ?_
  simp only [Act.put, List.setIfInBounds_toArray, List.set_cons_zero, List.set_cons_succ]
  refine wpK_ta (i := 13) (some 58) (v := .bool true) rfl rfl (by kernel_rfl) (fun _ _ _ h => h) (Or.inl ⟨by rfl, fun W => by go_simp⟩) ?_
  simp only [Act.put, List.setIfInBounds_toArray, List.set_cons_zero, List.set_cons_succ]
  refine wpK_ta (i := 14) (some 59) (v := .bool true) rfl rfl (by kernel_rfl) (fun _ _ _ h => h) (Or.inl ⟨by rfl, fun W => by go_simp⟩) ?_
  simp only [Act.put, List.setIfInBounds_toArray, List.set_cons_zero, List.set_cons_succ]
  refine wpK_ta (i := 15) (some 60) (v := .bool true) rfl rfl (by kernel_rfl) (fun _ _ _ h => h) (Or.inl ⟨rfl, fun _ => rfl⟩) ?_
  simp only [Act.put, List.setIfInBounds_toArray, List.set_cons_zero, List.set_cons_succ]
  refine wpK_tk (i := 16) (some 61) (v := .agg #[.int .i64 a1, .int .i64 a2, .int .i64 a3]) rfl rfl (by kernel_rfl) (fun _ _ _ h => h) (.load_mid (by rfl) 23 (.tmp 6) rfl (w.heap.size) 0 rfl [.int .i64 a1, .int .i64 a2, .int .i64 a3] _ (fun W hg => (R59.out.below (Gr.un hg)).range) Try.underlying23 rfl (by kernel_rfl)) ?_
  simp only [Act.put, List.setIfInBounds_toArray, List.set_cons_zero, List.set_cons_succ]
  refine wpK_tk (i := 17) (some 62) (v := .agg #[.int .i64 b1, .int .i64 b2, .int .i64 b3]) rfl rfl (by kernel_rfl) (fun _ _ _ h => h) (.load_mid (by rfl) 23 (.tmp 7) rfl (w.heap.size + 1) 0 rfl [.int .i64 b1, .int .i64 b2, .int .i64 b3] _ (fun W hg => (R60.out.below (Gr.un hg)).range) Try.underlying23 rfl (by kernel_rfl)) ?_
  simp only [Act.put, List.setIfInBounds_toArray, List.set_cons_zero, List.set_cons_succ]
  refine wpK_tk (i := 18) (some 63) (v := .int .i64 (Mo.cmpI (Mo.enc a1 a2 a3) (Mo.enc b1 b2 b3))) rfl rfl (by kernel_rfl) (fun _ _ _ h => h) (.call (f := 15) (args := #[.agg #[.int .i64 a1, .int .i64 a2, .int .i64 a3], .agg #[.int .i64 b1, .int .i64 b2, .int .i64 b3]]) (by rfl) (fun W => by go_simp) (fun W hg => compare_any a1 a2 a3 b1 b2 b3 W)) ?_
  simp only [Act.put, List.setIfInBounds_toArray, List.set_cons_zero, List.set_cons_succ]
  refine wpK_tk (i := 19) (some 64) (v := .agg #[.int .i64 a1, .int .i64 a2, .int .i64 a3]) rfl rfl (by kernel_rfl) (fun _ _ _ h => h) (.load_mid (by rfl) 23 (.tmp 6) rfl (w.heap.size) 0 rfl [.int .i64 a1, .int .i64 a2, .int .i64 a3] _ (fun W hg => (R59.out.below (Gr.un hg)).range) Try.underlying23 rfl (by kernel_rfl)) ?_
  simp only [Act.put, List.setIfInBounds_toArray, List.set_cons_zero, List.set_cons_succ]
  refine wpK_tk (i := 20) (some 65) (v := .agg #[.int .i64 b1, .int .i64 b2, .int .i64 b3]) rfl rfl (by kernel_rfl) (fun _ _ _ h => h) (.load_mid (by rfl) 23 (.tmp 7) rfl (w.heap.size + 1) 0 rfl [.int .i64 b1, .int .i64 b2, .int .i64 b3] _ (fun W hg => (R60.out.below (Gr.un hg)).range) Try.underlying23 rfl (by kernel_rfl)) ?_
  simp only [Act.put, List.setIfInBounds_toArray, List.set_cons_zero, List.set_cons_succ]
  refine wpK_tk (i := 21) (some 66) (v := .int .i64 (Mo.cmpI (Mo.enc a1 a2 a3) (Mo.enc b1 b2 b3))) rfl rfl (by kernel_rfl) (fun _ _ _ h => h) (.call (f := 16) (args := #[.agg #[.int .i64 a1, .int .i64 a2, .int .i64 a3], .agg #[.int .i64 b1, .int .i64 b2, .int .i64 b3]]) (by rfl) (fun W => by go_simp) (fun W hg => rcompare_any a1 a2 a3 b1 b2 b3 W)) ?_
  simp only [Act.put, List.setIfInBounds_toArray, List.set_cons_zero, List.set_cons_succ]
  refine wpK_ta (i := 22) (some 67) (v := .bool true) rfl rfl (by kernel_rfl) (fun _ _ _ h => h) (Or.inl ⟨by rfl, fun W => by go_simp⟩) ?_
  simp only [Act.put, List.setIfInBounds_toArray, List.set_cons_zero, List.set_cons_succ]
  refine wpK_ta (i := 23) (some 68) (v := .bool true) rfl rfl (by kernel_rfl) (fun _ _ _ h => h) (Or.inl ⟨by rfl, fun W => by go_simp⟩) ?_
  simp only [Act.put, List.setIfInBounds_toArray, List.set_cons_zero, List.set_cons_succ]
  refine wpK_ta (i := 24) (some 21) (v := .bool true) rfl rfl (by kernel_rfl) (fun _ _ _ h => h) (Or.inl ⟨rfl, fun _ => rfl⟩) ?_
  simp only [Act.put, List.setIfInBounds_toArray, List.set_cons_zero, List.set_cons_succ]
  refine wpK_done (by kernel_rfl) (fun V65 hv66 => ?_) _
  have GC67 := Lib.hid (Gr.un hv66)
  clear hv66
  go_upto_region 6 with fail
  refine wpK_region (by kernel_rfl) ?_
  refine wpK_tk (i := 0) (some 69) (v := .agg #[.int .i64 a1, .int .i64 a2, .int .i64 a3]) rfl rfl (by kernel_rfl) (fun _ _ _ h => h) (.load_mid (by rfl) 23 (.tmp 6) rfl (w.heap.size) 0 rfl [.int .i64 a1, .int .i64 a2, .int .i64 a3] _ (fun W hg => (R59.out.below (GC67.out.trans (Gr.un hg))).range) Try.underlying23 rfl (by kernel_rfl)) ?_
  simp only [Act.put, List.setIfInBounds_toArray, List.set_cons_zero, List.set_cons_succ]
  refine wpK_ta (i := 1) (some 70) (v := .int .i64 l) rfl rfl (by kernel_rfl) (fun _ _ _ h => h) (Or.inl ⟨rfl, fun _ => rfl⟩) ?_
  simp only [Act.put, List.setIfInBounds_toArray, List.set_cons_zero, List.set_cons_succ]
  refine wpK_tk (i := 2) (some 71) (v := .int .i64 (Mo.oct a1 a2 a3 l)) rfl rfl (by kernel_rfl) (fun _ _ _ h => h) (.call (f := 17) (args := #[.agg #[.int .i64 a1, .int .i64 a2, .int .i64 a3], .int .i64 l]) (by rfl) (fun W => by go_simp) (fun W hg => octant_any a1 a2 a3 l W)) ?_
  simp only [Act.put, List.setIfInBounds_toArray, List.set_cons_zero, List.set_cons_succ]
  refine wpK_tk (i := 3) (some 72) (v := .agg #[.int .i64 a1, .int .i64 a2, .int .i64 a3]) rfl rfl (by kernel_rfl) (fun _ _ _ h => h) (.load_mid (by rfl) 23 (.tmp 6) rfl (w.heap.size) 0 rfl [.int .i64 a1, .int .i64 a2, .int .i64 a3] _ (fun W hg => (R59.out.below (GC67.out.trans (Gr.un hg))).range) Try.underlying23 rfl (by kernel_rfl)) ?_
  simp only [Act.put, List.setIfInBounds_toArray, List.set_cons_zero, List.set_cons_succ]
  refine wpK_ta (i := 4) (some 73) (v := .int .i64 l) rfl rfl (by kernel_rfl) (fun _ _ _ h => h) (Or.inl ⟨rfl, fun _ => rfl⟩) ?_
  simp only [Act.put, List.setIfInBounds_toArray, List.set_cons_zero, List.set_cons_succ]
  refine wpK_tk (i := 5) (some 74) (v := .int .i64 (Mo.oct a1 a2 a3 l)) rfl rfl (by kernel_rfl) (fun _ _ _ h => h) (.call (f := 18) (args := #[.agg #[.int .i64 a1, .int .i64 a2, .int .i64 a3], .int .i64 l]) (by rfl) (fun W => by go_simp) (fun W hg => roctant_any a1 a2 a3 l W)) ?_
  simp only [Act.put, List.setIfInBounds_toArray, List.set_cons_zero, List.set_cons_succ]
  refine wpK_ta (i := 6) (some 75) (v := .bool true) rfl rfl (by kernel_rfl) (fun _ _ _ h => h) (Or.inl ⟨by rfl, fun W => by go_simp⟩) ?_
  simp only [Act.put, List.setIfInBounds_toArray, List.set_cons_zero, List.set_cons_succ]
  refine wpK_ta (i := 7) (some 76) (v := .bool true) rfl rfl (by kernel_rfl) (fun _ _ _ h => h) (Or.inl ⟨rfl, fun _ => rfl⟩) ?_
  simp only [Act.put, List.setIfInBounds_toArray, List.set_cons_zero, List.set_cons_succ]
  refine wpK_ta (i := 8) (some 77) (v := .int .i64 n) rfl rfl (by kernel_rfl) (fun _ _ _ h => h) (Or.inl ⟨rfl, fun _ => rfl⟩) ?_
  simp only [Act.put, List.setIfInBounds_toArray, List.set_cons_zero, List.set_cons_succ]
  refine wpK_ta (i := 9) (some 78) (v := .int .i64 a) rfl rfl (by kernel_rfl) (fun _ _ _ h => h) (Or.inl ⟨rfl, fun _ => rfl⟩) ?_
  simp only [Act.put, List.setIfInBounds_toArray, List.set_cons_zero, List.set_cons_succ]
  refine wpK_ta (i := 10) (some 79) (v := .bool ub) rfl rfl (by kernel_rfl) (fun _ _ _ h => h) (Or.inl ⟨rfl, fun _ => rfl⟩) ?_
  simp only [Act.put, List.setIfInBounds_toArray, List.set_cons_zero, List.set_cons_succ]
  refine wpK_tk (i := 11) (some 80) (v := .int .i64 (Mo.nb n a ub)) rfl rfl (by kernel_rfl) (fun _ _ _ h => h) (.call (f := 19) (args := #[.int .i64 n, .int .i64 a, .bool ub]) (by rfl) (fun W => by go_simp) (fun W hg => neighbour_any n a ub W)) ?_
  simp only [Act.put, List.setIfInBounds_toArray, List.set_cons_zero, List.set_cons_succ]
  refine wpK_ta (i := 12) (some 81) (v := .int .i64 n) rfl rfl (by kernel_rfl) (fun _ _ _ h => h) (Or.inl ⟨rfl, fun _ => rfl⟩) ?_
  simp only [Act.put, List.setIfInBounds_toArray, List.set_cons_zero, List.set_cons_succ]
  refine wpK_ta (i := 13) (some 82) (v := .int .i64 a) rfl rfl (by kernel_rfl) (fun _ _ _ h => h) (Or.inl ⟨rfl, fun _ => rfl⟩) ?_
  simp only [Act.put, List.setIfInBounds_toArray, List.set_cons_zero, List.set_cons_succ]
  refine wpK_ta (i := 14) (some 83) (v := .bool ub) rfl rfl (by kernel_rfl) (fun _ _ _ h => h) (Or.inl ⟨rfl, fun _ => rfl⟩) ?_
  simp only [Act.put, List.setIfInBounds_toArray, List.set_cons_zero, List.set_cons_succ]
  refine wpK_tk (i := 15) (some 84) (v := .int .i64 (Mo.nb n a ub)) rfl rfl (by kernel_rfl) (fun _ _ _ h => h) (.call (f := 20) (args := #[.int .i64 n, .int .i64 a, .bool ub]) (by rfl) (fun W => by go_simp) (fun W hg => rneighbour_any n a ub W)) ?_
  simp only [Act.put, List.setIfInBounds_toArray, List.set_cons_zero, List.set_cons_succ]
  refine wpK_ta (i := 16) (some 85) (v := .bool true) rfl rfl (by kernel_rfl) (fun _ _ _ h => h) (Or.inl ⟨by rfl, fun W => by go_simp⟩) ?_
  simp only [Act.put, List.setIfInBounds_toArray, List.set_cons_zero, List.set_cons_succ]
  refine wpK_ta (i := 17) (some 86) (v := .bool true) rfl rfl (by kernel_rfl) (fun _ _ _ h => h) (Or.inl ⟨by rfl, fun W => by go_simp⟩) ?_
  simp only [Act.put, List.setIfInBounds_toArray, List.set_cons_zero, List.set_cons_succ]
  refine wpK_ta (i := 18) (some 87) (v := .bool true) rfl rfl (by kernel_rfl) (fun _ _ _ h => h) (Or.inl ⟨rfl, fun _ => rfl⟩) ?_
  simp only [Act.put, List.setIfInBounds_toArray, List.set_cons_zero, List.set_cons_succ]
  refine wpK_tk (i := 19) (some 88) (v := .agg #[.int .i64 (Mo.com 0 a1 a2 a3 b1 b2 b3), .int .i64 (Mo.com 1 a1 a2 a3 b1 b2 b3), .int .i64 (Mo.com 2 a1 a2 a3 b1 b2 b3), .int .i64 (Mo.com 3 a1 a2 a3 b1 b2 b3)]) rfl rfl (by kernel_rfl) (fun _ _ _ h => h) (.load_mid (by rfl) 27 (.tmp 17) rfl (W29.heap.size) 0 rfl [.int .i64 (Mo.com 0 a1 a2 a3 b1 b2 b3), .int .i64 (Mo.com 1 a1 a2 a3 b1 b2 b3), .int .i64 (Mo.com 2 a1 a2 a3 b1 b2 b3), .int .i64 (Mo.com 3 a1 a2 a3 b1 b2 b3)] _ (fun W hg => (R63.out.below (GC67.out.trans (Gr.un hg))).range) Try.underlying27 rfl (by kernel_rfl)) ?_
  simp only [Act.put, List.setIfInBounds_toArray, List.set_cons_zero, List.set_cons_succ]
  refine wpK_tk (i := 20) (some 89) (v := .agg #[.int .i64 (Mo.com 0 a1 a2 a3 b1 b2 b3), .int .i64 (Mo.com 1 a1 a2 a3 b1 b2 b3), .int .i64 (Mo.com 2 a1 a2 a3 b1 b2 b3), .int .i64 (Mo.com 3 a1 a2 a3 b1 b2 b3)]) rfl rfl (by kernel_rfl) (fun _ _ _ h => h) (.load_mid (by rfl) 27 (.tmp 19) rfl (W46.heap.size) 0 rfl [.int .i64 (Mo.com 0 a1 a2 a3 b1 b2 b3), .int .i64 (Mo.com 1 a1 a2 a3 b1 b2 b3), .int .i64 (Mo.com 2 a1 a2 a3 b1 b2 b3), .int .i64 (Mo.com 3 a1 a2 a3 b1 b2 b3)] _ (fun W hg => (R64.out.below (GC67.out.trans (Gr.un hg))).range) Try.underlying27 rfl (by kernel_rfl)) ?_
  simp only [Act.put, List.setIfInBounds_toArray, List.set_cons_zero, List.set_cons_succ]
  refine wpK_ta (i := 21) (some 90) (v := .bool true) rfl rfl (by kernel_rfl) (fun _ _ _ h => h) (Or.inl ⟨by rfl, fun W => by (go_simp <;> first | omega | ((repeat' split) <;> first | rfl | (exfalso; omega)))⟩) ?_
  simp only [Act.put, List.setIfInBounds_toArray, List.set_cons_zero, List.set_cons_succ]
  refine wpK_ta (i := 22) (some 91) (v := .bool true) rfl rfl (by kernel_rfl) (fun _ _ _ h => h) (Or.inl ⟨by rfl, fun W => by go_simp⟩) ?_
  simp only [Act.put, List.setIfInBounds_toArray, List.set_cons_zero, List.set_cons_succ]
  refine wpK_ta (i := 23) (some 92) (v := .bool true) rfl rfl (by kernel_rfl) (fun _ _ _ h => h) (Or.inl ⟨rfl, fun _ => rfl⟩) ?_
  simp only [Act.put, List.setIfInBounds_toArray, List.set_cons_zero, List.set_cons_succ]
  refine wpK_ta (i := 24) (some 93) (v := .bool (Mo.inB a1 a2 a3 && Mo.inB b1 b2 b3)) rfl rfl (by kernel_rfl) (fun _ _ _ h => h) (Or.inl ⟨rfl, fun _ => rfl⟩) ?_
  simp only [Act.put, List.setIfInBounds_toArray, List.set_cons_zero, List.set_cons_succ]
  refine wpK_ta (i := 25) (some 94) (v := .bool (Mo.inB a1 a2 a3 && Mo.inB b1 b2 b3)) rfl rfl (by kernel_rfl) (fun _ _ _ h => h) (Or.inl ⟨rfl, fun _ => rfl⟩) ?_
  simp only [Act.put, List.setIfInBounds_toArray, List.set_cons_zero, List.set_cons_succ]
  refine wpK_ta (i := 26) (some 95) (v := .bool true) rfl rfl (by kernel_rfl) (fun _ _ _ h => h) (Or.inl ⟨by rfl, fun W => by go_simp⟩) ?_
  simp only [Act.put, List.setIfInBounds_toArray, List.set_cons_zero, List.set_cons_succ]
  refine wpK_ta (i := 27) (some 96) (v := .bool true) rfl rfl (by kernel_rfl) (fun _ _ _ h => h) (Or.inl ⟨by rfl, fun W => by go_simp⟩) ?_
  simp only [Act.put, List.setIfInBounds_toArray, List.set_cons_zero, List.set_cons_succ]
  refine wpK_ta (i := 28) (some 22) (v := .bool true) rfl rfl (by kernel_rfl) (fun _ _ _ h => h) (Or.inl ⟨rfl, fun _ => rfl⟩) ?_
  simp only [Act.put, List.setIfInBounds_toArray, List.set_cons_zero, List.set_cons_succ]
  refine wpK_done (by kernel_rfl) (fun V68 hv69 => ?_) _
  have GC70 := Lib.hid (GC67.out.trans (Gr.un hv69))
  clear hv69
  go_upto_region 7 with fail
  refine wpG_region ?_
  refine @wpG_tk _ _ _ _ _ (some 97) (.bool true) _ _ rfl (.call (f := 21) (args := #[]) (by rfl) (fun W => by go_simp) (fun W hg => sanity_any W)) ?_
  simp only [Act.put, List.setIfInBounds_toArray, List.set_cons_zero, List.set_cons_succ]
  refine @wpG_tk _ _ _ _ _ (some 98) (.bool true) _ _ rfl (.val (by rfl) (fun _ _ => rfl)) ?_
  simp only [Act.put, List.setIfInBounds_toArray, List.set_cons_zero, List.set_cons_succ]
  refine @wpG_tk _ _ _ _ _ (some 99) (.bool true) _ _ rfl (.val (by rfl) (fun _ _ => rfl)) ?_
  simp only [Act.put, List.setIfInBounds_toArray, List.set_cons_zero, List.set_cons_succ]
  refine @wpG_tk _ _ _ _ _ (some 100) (.bool true) _ _ rfl (.val (by rfl) (fun W hg => by go_simp)) ?_
  simp only [Act.put, List.setIfInBounds_toArray, List.set_cons_zero, List.set_cons_succ]
  refine @wpG_tk _ _ _ _ _ (some 101) (.bool true) _ _ rfl (.val (by rfl) (fun _ _ => rfl)) ?_
  simp only [Act.put, List.setIfInBounds_toArray, List.set_cons_zero, List.set_cons_succ]
  refine @wpG_tk _ _ _ _ _ (some 102) (.bool true) _ _ rfl (.val (by rfl) (fun _ _ => rfl)) ?_
  simp only [Act.put, List.setIfInBounds_toArray, List.set_cons_zero, List.set_cons_succ]
  refine @wpG_tk _ _ _ _ _ (some 103) (.bool true) _ _ rfl (.val (by rfl) (fun W hg => by go_simp)) ?_
  simp only [Act.put, List.setIfInBounds_toArray, List.set_cons_zero, List.set_cons_succ]
  refine @wpG_tk _ _ _ _ _ (some 12) (.bool true) _ _ rfl (.val (by rfl) (fun _ _ => rfl)) ?_
  simp only [Act.put, List.setIfInBounds_toArray, List.set_cons_zero, List.set_cons_succ]
  refine wpG_done (fun V71 hv72 => ?_)
  have GC73 := Lib.hid (GC70.out.trans hv72)
  clear hv72
  go_wp2_with fail
  go_ret
  exact ⟨rfl, Gr.to G52.out GC73.out⟩

end Go.Proofs.Ytmjjkloeipoefaa
