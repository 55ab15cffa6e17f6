/-
  Contracts of the specification: what is inside, the code of a point.
-/
import Derived.Test.YtmjjkloeipoefaaMoa
import Derived.Test.YtmjjkloeipoefaaMob
import Derived.Test.YtmjjkloeipoefaaMo2
import Derived.Handy
namespace Go.Proofs.Ytmjjkloeipoefaa
open Go.RowKit
set_option linter.unusedVariables false
set_option maxRecDepth 1000000 in
set_option maxHeartbeats 4000000 in
theorem rinside_0 (x y z : Int) (w : World) (h0 : ¬ 0 ≤ x) :
    Calls Try.prog 30 #[.agg #[.int .i64 x, .int .i64 y, .int .i64 z]] w fun e w' => e = .returned (.bool false) ∧ Below w.heap.size w w' := by
  obtain ⟨u, hu, r0, g0⟩ := rows1 w [.int .i64 x, .int .i64 y, .int .i64 z] 23
  have R0 := Lib.hid r0
  have G0 := Lib.hid g0
  have HU := Lib.hid hu
  clear hu g0 r0
  go_enter Try.func30, Try.ntmps30
  go_upto_region 1 with fail
  rw [← HU.out]
  refine wpG_region ?_
  refine wpG_tk (some 3) (v := .pointer (some ⟨w.heap.size, 0, none⟩)) rfl (.val (by rfl) (fun W hg => by go_simp)) ?_
  simp only [Act.put, List.setIfInBounds_toArray, List.set_cons_zero, List.set_cons_succ]
  refine wpG_tk (some 4) (v := .int .i64 x) rfl (.val (by rfl) (fun W hg => by have c := (R0.out.below hg 0 _ rfl).1; go_simp)) ?_
  simp only [Act.put, List.setIfInBounds_toArray, List.set_cons_zero, List.set_cons_succ]
  refine wpG_tk (some 5) (v := .bool false) rfl (.val (by rfl) (fun W hg => by have hq : ¬ (x ≥ 0) := (by omega); first | (go_simp; done) | (go_simp <;> omega))) ?_
  simp only [Act.put, List.setIfInBounds_toArray, List.set_cons_zero, List.set_cons_succ]
  refine wpG_tk (some 6) (v := .bool false) rfl (.val (by rfl) (fun _ _ => rfl)) ?_
  simp only [Act.put, List.setIfInBounds_toArray, List.set_cons_zero, List.set_cons_succ]
  refine wpG_tk (some 7) (v := undef) rfl (.no (by rfl)) ?_
  simp only [Act.put, List.setIfInBounds_toArray, List.set_cons_zero, List.set_cons_succ]
  refine wpG_tk (some 8) (v := undef) rfl (.no (by rfl)) ?_
  simp only [Act.put, List.setIfInBounds_toArray, List.set_cons_zero, List.set_cons_succ]
  refine wpG_tk (some 9) (v := undef) rfl (.no (by rfl)) ?_
  simp only [Act.put, List.setIfInBounds_toArray, List.set_cons_zero, List.set_cons_succ]
  refine wpG_tk (some 10) (v := .bool false) rfl (.val (by rfl) (fun W hg => by go_simp)) ?_
  simp only [Act.put, List.setIfInBounds_toArray, List.set_cons_zero, List.set_cons_succ]
  refine wpG_tk (some 11) (v := .bool false) rfl (.val (by rfl) (fun _ _ => rfl)) ?_
  simp only [Act.put, List.setIfInBounds_toArray, List.set_cons_zero, List.set_cons_succ]
  refine wpG_tk (some 12) (v := undef) rfl (.no (by rfl)) ?_
  simp only [Act.put, List.setIfInBounds_toArray, List.set_cons_zero, List.set_cons_succ]
  refine wpG_tk (some 13) (v := undef) rfl (.no (by rfl)) ?_
  simp only [Act.put, List.setIfInBounds_toArray, List.set_cons_zero, List.set_cons_succ]
  refine wpG_tk (some 14) (v := undef) rfl (.no (by rfl)) ?_
  simp only [Act.put, List.setIfInBounds_toArray, List.set_cons_zero, List.set_cons_succ]
  refine wpG_tk (some 15) (v := .bool false) rfl (.val (by rfl) (fun W hg => by go_simp)) ?_
  simp only [Act.put, List.setIfInBounds_toArray, List.set_cons_zero, List.set_cons_succ]
  refine wpG_tk (some 16) (v := .bool false) rfl (.val (by rfl) (fun _ _ => rfl)) ?_
  simp only [Act.put, List.setIfInBounds_toArray, List.set_cons_zero, List.set_cons_succ]
  refine wpG_tk (some 17) (v := undef) rfl (.no (by rfl)) ?_
  simp only [Act.put, List.setIfInBounds_toArray, List.set_cons_zero, List.set_cons_succ]
  refine wpG_tk (some 18) (v := undef) rfl (.no (by rfl)) ?_
  simp only [Act.put, List.setIfInBounds_toArray, List.set_cons_zero, List.set_cons_succ]
  refine wpG_tk (some 19) (v := undef) rfl (.no (by rfl)) ?_
  simp only [Act.put, List.setIfInBounds_toArray, List.set_cons_zero, List.set_cons_succ]
  refine wpG_tk (some 20) (v := .bool false) rfl (.val (by rfl) (fun W hg => by go_simp)) ?_
  simp only [Act.put, List.setIfInBounds_toArray, List.set_cons_zero, List.set_cons_succ]
  refine wpG_tk (some 21) (v := .bool false) rfl (.val (by rfl) (fun _ _ => rfl)) ?_
  simp only [Act.put, List.setIfInBounds_toArray, List.set_cons_zero, List.set_cons_succ]
  refine wpG_tk (some 22) (v := undef) rfl (.no (by rfl)) ?_
  simp only [Act.put, List.setIfInBounds_toArray, List.set_cons_zero, List.set_cons_succ]
  refine wpG_tk (some 23) (v := undef) rfl (.no (by rfl)) ?_
  simp only [Act.put, List.setIfInBounds_toArray, List.set_cons_zero, List.set_cons_succ]
  refine wpG_tk (some 24) (v := undef) rfl (.no (by rfl)) ?_
  simp only [Act.put, List.setIfInBounds_toArray, List.set_cons_zero, List.set_cons_succ]
  refine wpG_tk (some 25) (v := .bool false) rfl (.val (by rfl) (fun W hg => by go_simp)) ?_
  simp only [Act.put, List.setIfInBounds_toArray, List.set_cons_zero, List.set_cons_succ]
  refine wpG_tk (some 26) (v := .bool false) rfl (.val (by rfl) (fun _ _ => rfl)) ?_
  simp only [Act.put, List.setIfInBounds_toArray, List.set_cons_zero, List.set_cons_succ]
  refine wpG_tk (some 27) (v := undef) rfl (.no (by rfl)) ?_
  simp only [Act.put, List.setIfInBounds_toArray, List.set_cons_zero, List.set_cons_succ]
  refine wpG_tk (some 28) (v := undef) rfl (.no (by rfl)) ?_
  simp only [Act.put, List.setIfInBounds_toArray, List.set_cons_zero, List.set_cons_succ]
  refine wpG_tk (some 29) (v := undef) rfl (.no (by rfl)) ?_
  simp only [Act.put, List.setIfInBounds_toArray, List.set_cons_zero, List.set_cons_succ]
  refine wpG_tk (some 30) (v := .bool false) rfl (.val (by rfl) (fun W hg => by go_simp)) ?_
  simp only [Act.put, List.setIfInBounds_toArray, List.set_cons_zero, List.set_cons_succ]
  refine wpG_tk (some 2) (v := .bool false) rfl (.val (by rfl) (fun _ _ => rfl)) ?_
  simp only [Act.put, List.setIfInBounds_toArray, List.set_cons_zero, List.set_cons_succ]
  refine wpG_done (fun V1 hv2 => ?_)
  have GC3 := Lib.hid hv2
  clear hv2
  go_wp2_with fail
  go_ret
  exact ⟨rfl, Gr.to G0.out GC3.out⟩
set_option maxRecDepth 1000000 in
set_option maxHeartbeats 4000000 in
theorem rinside_1 (x y z : Int) (w : World) (h0 : 0 ≤ x) (h1 : ¬ 0 ≤ y) :
    Calls Try.prog 30 #[.agg #[.int .i64 x, .int .i64 y, .int .i64 z]] w fun e w' => e = .returned (.bool false) ∧ Below w.heap.size w w' := by
  obtain ⟨u, hu, r0, g0⟩ := rows1 w [.int .i64 x, .int .i64 y, .int .i64 z] 23
  have R0 := Lib.hid r0
  have G0 := Lib.hid g0
  have HU := Lib.hid hu
  clear hu g0 r0
  go_enter Try.func30, Try.ntmps30
  go_upto_region 1 with fail
  rw [← HU.out]
  refine wpG_region ?_
  refine wpG_tk (some 3) (v := .pointer (some ⟨w.heap.size, 0, none⟩)) rfl (.val (by rfl) (fun W hg => by go_simp)) ?_
  simp only [Act.put, List.setIfInBounds_toArray, List.set_cons_zero, List.set_cons_succ]
  refine wpG_tk (some 4) (v := .int .i64 x) rfl (.val (by rfl) (fun W hg => by have c := (R0.out.below hg 0 _ rfl).1; go_simp)) ?_
  simp only [Act.put, List.setIfInBounds_toArray, List.set_cons_zero, List.set_cons_succ]
  refine wpG_tk (some 5) (v := .bool true) rfl (.val (by rfl) (fun W hg => by have hq : (x ≥ 0) := (by omega); first | (go_simp; done) | (go_simp <;> omega))) ?_
  simp only [Act.put, List.setIfInBounds_toArray, List.set_cons_zero, List.set_cons_succ]
  refine wpG_tk (some 6) (v := .bool true) rfl (.val (by rfl) (fun _ _ => rfl)) ?_
  simp only [Act.put, List.setIfInBounds_toArray, List.set_cons_zero, List.set_cons_succ]
  refine wpG_tk (some 7) (v := .pointer (some ⟨w.heap.size, 1, none⟩)) rfl (.val (by rfl) (fun W hg => by go_simp)) ?_
  simp only [Act.put, List.setIfInBounds_toArray, List.set_cons_zero, List.set_cons_succ]
  refine wpG_tk (some 8) (v := .int .i64 y) rfl (.val (by rfl) (fun W hg => by have c := (R0.out.below hg 1 _ rfl).1; go_simp)) ?_
  simp only [Act.put, List.setIfInBounds_toArray, List.set_cons_zero, List.set_cons_succ]
  refine wpG_tk (some 9) (v := .bool false) rfl (.val (by rfl) (fun W hg => by have hq : ¬ (y ≥ 0) := (by omega); first | (go_simp; done) | (go_simp <;> omega))) ?_
  simp only [Act.put, List.setIfInBounds_toArray, List.set_cons_zero, List.set_cons_succ]
  refine wpG_tk (some 10) (v := .bool false) rfl (.val (by rfl) (fun W hg => by go_simp)) ?_
  simp only [Act.put, List.setIfInBounds_toArray, List.set_cons_zero, List.set_cons_succ]
  refine wpG_tk (some 11) (v := .bool false) rfl (.val (by rfl) (fun _ _ => rfl)) ?_
  simp only [Act.put, List.setIfInBounds_toArray, List.set_cons_zero, List.set_cons_succ]
  refine wpG_tk (some 12) (v := undef) rfl (.no (by rfl)) ?_
  simp only [Act.put, List.setIfInBounds_toArray, List.set_cons_zero, List.set_cons_succ]
  refine wpG_tk (some 13) (v := undef) rfl (.no (by rfl)) ?_
  simp only [Act.put, List.setIfInBounds_toArray, List.set_cons_zero, List.set_cons_succ]
  refine wpG_tk (some 14) (v := undef) rfl (.no (by rfl)) ?_
  simp only [Act.put, List.setIfInBounds_toArray, List.set_cons_zero, List.set_cons_succ]
  refine wpG_tk (some 15) (v := .bool false) rfl (.val (by rfl) (fun W hg => by go_simp)) ?_
  simp only [Act.put, List.setIfInBounds_toArray, List.set_cons_zero, List.set_cons_succ]
  refine wpG_tk (some 16) (v := .bool false) rfl (.val (by rfl) (fun _ _ => rfl)) ?_
  simp only [Act.put, List.setIfInBounds_toArray, List.set_cons_zero, List.set_cons_succ]
  refine wpG_tk (some 17) (v := undef) rfl (.no (by rfl)) ?_
  simp only [Act.put, List.setIfInBounds_toArray, List.set_cons_zero, List.set_cons_succ]
  refine wpG_tk (some 18) (v := undef) rfl (.no (by rfl)) ?_
  simp only [Act.put, List.setIfInBounds_toArray, List.set_cons_zero, List.set_cons_succ]
  refine wpG_tk (some 19) (v := undef) rfl (.no (by rfl)) ?_
  simp only [Act.put, List.setIfInBounds_toArray, List.set_cons_zero, List.set_cons_succ]
  refine wpG_tk (some 20) (v := .bool false) rfl (.val (by rfl) (fun W hg => by go_simp)) ?_
  simp only [Act.put, List.setIfInBounds_toArray, List.set_cons_zero, List.set_cons_succ]
  refine wpG_tk (some 21) (v := .bool false) rfl (.val (by rfl) (fun _ _ => rfl)) ?_
  simp only [Act.put, List.setIfInBounds_toArray, List.set_cons_zero, List.set_cons_succ]
  refine wpG_tk (some 22) (v := undef) rfl (.no (by rfl)) ?_
  simp only [Act.put, List.setIfInBounds_toArray, List.set_cons_zero, List.set_cons_succ]
  refine wpG_tk (some 23) (v := undef) rfl (.no (by rfl)) ?_
  simp only [Act.put, List.setIfInBounds_toArray, List.set_cons_zero, List.set_cons_succ]
  refine wpG_tk (some 24) (v := undef) rfl (.no (by rfl)) ?_
  simp only [Act.put, List.setIfInBounds_toArray, List.set_cons_zero, List.set_cons_succ]
  refine wpG_tk (some 25) (v := .bool false) rfl (.val (by rfl) (fun W hg => by go_simp)) ?_
  simp only [Act.put, List.setIfInBounds_toArray, List.set_cons_zero, List.set_cons_succ]
  refine wpG_tk (some 26) (v := .bool false) rfl (.val (by rfl) (fun _ _ => rfl)) ?_
  simp only [Act.put, List.setIfInBounds_toArray, List.set_cons_zero, List.set_cons_succ]
  refine wpG_tk (some 27) (v := undef) rfl (.no (by rfl)) ?_
  simp only [Act.put, List.setIfInBounds_toArray, List.set_cons_zero, List.set_cons_succ]
  refine wpG_tk (some 28) (v := undef) rfl (.no (by rfl)) ?_
  simp only [Act.put, List.setIfInBounds_toArray, List.set_cons_zero, List.set_cons_succ]
  refine wpG_tk (some 29) (v := undef) rfl (.no (by rfl)) ?_
  simp only [Act.put, List.setIfInBounds_toArray, List.set_cons_zero, List.set_cons_succ]
  refine wpG_tk (some 30) (v := .bool false) rfl (.val (by rfl) (fun W hg => by go_simp)) ?_
  simp only [Act.put, List.setIfInBounds_toArray, List.set_cons_zero, List.set_cons_succ]
  refine wpG_tk (some 2) (v := .bool false) rfl (.val (by rfl) (fun _ _ => rfl)) ?_
  simp only [Act.put, List.setIfInBounds_toArray, List.set_cons_zero, List.set_cons_succ]
  refine wpG_done (fun V1 hv2 => ?_)
  have GC3 := Lib.hid hv2
  clear hv2
  go_wp2_with fail
  go_ret
  exact ⟨rfl, Gr.to G0.out GC3.out⟩
set_option maxRecDepth 1000000 in
set_option maxHeartbeats 4000000 in
theorem rinside_2 (x y z : Int) (w : World) (h0 : 0 ≤ x) (h1 : 0 ≤ y) (h2 : ¬ 0 ≤ z) :
    Calls Try.prog 30 #[.agg #[.int .i64 x, .int .i64 y, .int .i64 z]] w fun e w' => e = .returned (.bool false) ∧ Below w.heap.size w w' := by
  obtain ⟨u, hu, r0, g0⟩ := rows1 w [.int .i64 x, .int .i64 y, .int .i64 z] 23
  have R0 := Lib.hid r0
  have G0 := Lib.hid g0
  have HU := Lib.hid hu
  clear hu g0 r0
  go_enter Try.func30, Try.ntmps30
  go_upto_region 1 with fail
  rw [← HU.out]
  refine wpG_region ?_
  refine wpG_tk (some 3) (v := .pointer (some ⟨w.heap.size, 0, none⟩)) rfl (.val (by rfl) (fun W hg => by go_simp)) ?_
  simp only [Act.put, List.setIfInBounds_toArray, List.set_cons_zero, List.set_cons_succ]
  refine wpG_tk (some 4) (v := .int .i64 x) rfl (.val (by rfl) (fun W hg => by have c := (R0.out.below hg 0 _ rfl).1; go_simp)) ?_
  simp only [Act.put, List.setIfInBounds_toArray, List.set_cons_zero, List.set_cons_succ]
  refine wpG_tk (some 5) (v := .bool true) rfl (.val (by rfl) (fun W hg => by have hq : (x ≥ 0) := (by omega); first | (go_simp; done) | (go_simp <;> omega))) ?_
  simp only [Act.put, List.setIfInBounds_toArray, List.set_cons_zero, List.set_cons_succ]
  refine wpG_tk (some 6) (v := .bool true) rfl (.val (by rfl) (fun _ _ => rfl)) ?_
  simp only [Act.put, List.setIfInBounds_toArray, List.set_cons_zero, List.set_cons_succ]
  refine wpG_tk (some 7) (v := .pointer (some ⟨w.heap.size, 1, none⟩)) rfl (.val (by rfl) (fun W hg => by go_simp)) ?_
  simp only [Act.put, List.setIfInBounds_toArray, List.set_cons_zero, List.set_cons_succ]
  refine wpG_tk (some 8) (v := .int .i64 y) rfl (.val (by rfl) (fun W hg => by have c := (R0.out.below hg 1 _ rfl).1; go_simp)) ?_
  simp only [Act.put, List.setIfInBounds_toArray, List.set_cons_zero, List.set_cons_succ]
  refine wpG_tk (some 9) (v := .bool true) rfl (.val (by rfl) (fun W hg => by have hq : (y ≥ 0) := (by omega); first | (go_simp; done) | (go_simp <;> omega))) ?_
  simp only [Act.put, List.setIfInBounds_toArray, List.set_cons_zero, List.set_cons_succ]
  refine wpG_tk (some 10) (v := .bool true) rfl (.val (by rfl) (fun W hg => by go_simp)) ?_
  simp only [Act.put, List.setIfInBounds_toArray, List.set_cons_zero, List.set_cons_succ]
  refine wpG_tk (some 11) (v := .bool true) rfl (.val (by rfl) (fun _ _ => rfl)) ?_
  simp only [Act.put, List.setIfInBounds_toArray, List.set_cons_zero, List.set_cons_succ]
  refine wpG_tk (some 12) (v := .pointer (some ⟨w.heap.size, 2, none⟩)) rfl (.val (by rfl) (fun W hg => by go_simp)) ?_
  simp only [Act.put, List.setIfInBounds_toArray, List.set_cons_zero, List.set_cons_succ]
  refine wpG_tk (some 13) (v := .int .i64 z) rfl (.val (by rfl) (fun W hg => by have c := (R0.out.below hg 2 _ rfl).1; go_simp)) ?_
  simp only [Act.put, List.setIfInBounds_toArray, List.set_cons_zero, List.set_cons_succ]
  refine wpG_tk (some 14) (v := .bool false) rfl (.val (by rfl) (fun W hg => by have hq : ¬ (z ≥ 0) := (by omega); first | (go_simp; done) | (go_simp <;> omega))) ?_
  simp only [Act.put, List.setIfInBounds_toArray, List.set_cons_zero, List.set_cons_succ]
  refine wpG_tk (some 15) (v := .bool false) rfl (.val (by rfl) (fun W hg => by go_simp)) ?_
  simp only [Act.put, List.setIfInBounds_toArray, List.set_cons_zero, List.set_cons_succ]
  refine wpG_tk (some 16) (v := .bool false) rfl (.val (by rfl) (fun _ _ => rfl)) ?_
  simp only [Act.put, List.setIfInBounds_toArray, List.set_cons_zero, List.set_cons_succ]
  refine wpG_tk (some 17) (v := undef) rfl (.no (by rfl)) ?_
  simp only [Act.put, List.setIfInBounds_toArray, List.set_cons_zero, List.set_cons_succ]
  refine wpG_tk (some 18) (v := undef) rfl (.no (by rfl)) ?_
  simp only [Act.put, List.setIfInBounds_toArray, List.set_cons_zero, List.set_cons_succ]
  refine wpG_tk (some 19) (v := undef) rfl (.no (by rfl)) ?_
  simp only [Act.put, List.setIfInBounds_toArray, List.set_cons_zero, List.set_cons_succ]
  refine wpG_tk (some 20) (v := .bool false) rfl (.val (by rfl) (fun W hg => by go_simp)) ?_
  simp only [Act.put, List.setIfInBounds_toArray, List.set_cons_zero, List.set_cons_succ]
  refine wpG_tk (some 21) (v := .bool false) rfl (.val (by rfl) (fun _ _ => rfl)) ?_
  simp only [Act.put, List.setIfInBounds_toArray, List.set_cons_zero, List.set_cons_succ]
  refine wpG_tk (some 22) (v := undef) rfl (.no (by rfl)) ?_
  simp only [Act.put, List.setIfInBounds_toArray, List.set_cons_zero, List.set_cons_succ]
  refine wpG_tk (some 23) (v := undef) rfl (.no (by rfl)) ?_
  simp only [Act.put, List.setIfInBounds_toArray, List.set_cons_zero, List.set_cons_succ]
  refine wpG_tk (some 24) (v := undef) rfl (.no (by rfl)) ?_
  simp only [Act.put, List.setIfInBounds_toArray, List.set_cons_zero, List.set_cons_succ]
  refine wpG_tk (some 25) (v := .bool false) rfl (.val (by rfl) (fun W hg => by go_simp)) ?_
  simp only [Act.put, List.setIfInBounds_toArray, List.set_cons_zero, List.set_cons_succ]
  refine wpG_tk (some 26) (v := .bool false) rfl (.val (by rfl) (fun _ _ => rfl)) ?_
  simp only [Act.put, List.setIfInBounds_toArray, List.set_cons_zero, List.set_cons_succ]
  refine wpG_tk (some 27) (v := undef) rfl (.no (by rfl)) ?_
  simp only [Act.put, List.setIfInBounds_toArray, List.set_cons_zero, List.set_cons_succ]
  refine wpG_tk (some 28) (v := undef) rfl (.no (by rfl)) ?_
  simp only [Act.put, List.setIfInBounds_toArray, List.set_cons_zero, List.set_cons_succ]
  refine wpG_tk (some 29) (v := undef) rfl (.no (by rfl)) ?_
  simp only [Act.put, List.setIfInBounds_toArray, List.set_cons_zero, List.set_cons_succ]
  refine wpG_tk (some 30) (v := .bool false) rfl (.val (by rfl) (fun W hg => by go_simp)) ?_
  simp only [Act.put, List.setIfInBounds_toArray, List.set_cons_zero, List.set_cons_succ]
  refine wpG_tk (some 2) (v := .bool false) rfl (.val (by rfl) (fun _ _ => rfl)) ?_
  simp only [Act.put, List.setIfInBounds_toArray, List.set_cons_zero, List.set_cons_succ]
  refine wpG_done (fun V1 hv2 => ?_)
  have GC3 := Lib.hid hv2
  clear hv2
  go_wp2_with fail
  go_ret
  exact ⟨rfl, Gr.to G0.out GC3.out⟩
set_option maxRecDepth 1000000 in
set_option maxHeartbeats 4000000 in
theorem rinside_3 (x y z : Int) (w : World) (h0 : 0 ≤ x) (h1 : 0 ≤ y) (h2 : 0 ≤ z) (h3 : ¬ x < 16384) :
    Calls Try.prog 30 #[.agg #[.int .i64 x, .int .i64 y, .int .i64 z]] w fun e w' => e = .returned (.bool false) ∧ Below w.heap.size w w' := by
  obtain ⟨u, hu, r0, g0⟩ := rows1 w [.int .i64 x, .int .i64 y, .int .i64 z] 23
  have R0 := Lib.hid r0
  have G0 := Lib.hid g0
  have HU := Lib.hid hu
  clear hu g0 r0
  go_enter Try.func30, Try.ntmps30
  go_upto_region 1 with fail
  rw [← HU.out]
  refine wpG_region ?_
  refine wpG_tk (some 3) (v := .pointer (some ⟨w.heap.size, 0, none⟩)) rfl (.val (by rfl) (fun W hg => by go_simp)) ?_
  simp only [Act.put, List.setIfInBounds_toArray, List.set_cons_zero, List.set_cons_succ]
  refine wpG_tk (some 4) (v := .int .i64 x) rfl (.val (by rfl) (fun W hg => by have c := (R0.out.below hg 0 _ rfl).1; go_simp)) ?_
  simp only [Act.put, List.setIfInBounds_toArray, List.set_cons_zero, List.set_cons_succ]
  refine wpG_tk (some 5) (v := .bool true) rfl (.val (by rfl) (fun W hg => by have hq : (x ≥ 0) := (by omega); first | (go_simp; done) | (go_simp <;> omega))) ?_
  simp only [Act.put, List.setIfInBounds_toArray, List.set_cons_zero, List.set_cons_succ]
  refine wpG_tk (some 6) (v := .bool true) rfl (.val (by rfl) (fun _ _ => rfl)) ?_
  simp only [Act.put, List.setIfInBounds_toArray, List.set_cons_zero, List.set_cons_succ]
  refine wpG_tk (some 7) (v := .pointer (some ⟨w.heap.size, 1, none⟩)) rfl (.val (by rfl) (fun W hg => by go_simp)) ?_
  simp only [Act.put, List.setIfInBounds_toArray, List.set_cons_zero, List.set_cons_succ]
  refine wpG_tk (some 8) (v := .int .i64 y) rfl (.val (by rfl) (fun W hg => by have c := (R0.out.below hg 1 _ rfl).1; go_simp)) ?_
  simp only [Act.put, List.setIfInBounds_toArray, List.set_cons_zero, List.set_cons_succ]
  refine wpG_tk (some 9) (v := .bool true) rfl (.val (by rfl) (fun W hg => by have hq : (y ≥ 0) := (by omega); first | (go_simp; done) | (go_simp <;> omega))) ?_
  simp only [Act.put, List.setIfInBounds_toArray, List.set_cons_zero, List.set_cons_succ]
  refine wpG_tk (some 10) (v := .bool true) rfl (.val (by rfl) (fun W hg => by go_simp)) ?_
  simp only [Act.put, List.setIfInBounds_toArray, List.set_cons_zero, List.set_cons_succ]
  refine wpG_tk (some 11) (v := .bool true) rfl (.val (by rfl) (fun _ _ => rfl)) ?_
  simp only [Act.put, List.setIfInBounds_toArray, List.set_cons_zero, List.set_cons_succ]
  refine wpG_tk (some 12) (v := .pointer (some ⟨w.heap.size, 2, none⟩)) rfl (.val (by rfl) (fun W hg => by go_simp)) ?_
  simp only [Act.put, List.setIfInBounds_toArray, List.set_cons_zero, List.set_cons_succ]
  refine wpG_tk (some 13) (v := .int .i64 z) rfl (.val (by rfl) (fun W hg => by have c := (R0.out.below hg 2 _ rfl).1; go_simp)) ?_
  simp only [Act.put, List.setIfInBounds_toArray, List.set_cons_zero, List.set_cons_succ]
  refine wpG_tk (some 14) (v := .bool true) rfl (.val (by rfl) (fun W hg => by have hq : (z ≥ 0) := (by omega); first | (go_simp; done) | (go_simp <;> omega))) ?_
  simp only [Act.put, List.setIfInBounds_toArray, List.set_cons_zero, List.set_cons_succ]
  refine wpG_tk (some 15) (v := .bool true) rfl (.val (by rfl) (fun W hg => by go_simp)) ?_
  simp only [Act.put, List.setIfInBounds_toArray, List.set_cons_zero, List.set_cons_succ]
  refine wpG_tk (some 16) (v := .bool true) rfl (.val (by rfl) (fun _ _ => rfl)) ?_
  simp only [Act.put, List.setIfInBounds_toArray, List.set_cons_zero, List.set_cons_succ]
  refine wpG_tk (some 17) (v := .pointer (some ⟨w.heap.size, 0, none⟩)) rfl (.val (by rfl) (fun W hg => by go_simp)) ?_
  simp only [Act.put, List.setIfInBounds_toArray, List.set_cons_zero, List.set_cons_succ]
  refine wpG_tk (some 18) (v := .int .i64 x) rfl (.val (by rfl) (fun W hg => by have c := (R0.out.below hg 0 _ rfl).1; go_simp)) ?_
  simp only [Act.put, List.setIfInBounds_toArray, List.set_cons_zero, List.set_cons_succ]
  refine wpG_tk (some 19) (v := .bool false) rfl (.val (by rfl) (fun W hg => by have hq : ¬ (x < 16384) := (by omega); first | (go_simp; done) | (go_simp <;> omega))) ?_
  simp only [Act.put, List.setIfInBounds_toArray, List.set_cons_zero, List.set_cons_succ]
  refine wpG_tk (some 20) (v := .bool false) rfl (.val (by rfl) (fun W hg => by go_simp)) ?_
  simp only [Act.put, List.setIfInBounds_toArray, List.set_cons_zero, List.set_cons_succ]
  refine wpG_tk (some 21) (v := .bool false) rfl (.val (by rfl) (fun _ _ => rfl)) ?_
  simp only [Act.put, List.setIfInBounds_toArray, List.set_cons_zero, List.set_cons_succ]
  refine wpG_tk (some 22) (v := undef) rfl (.no (by rfl)) ?_
  simp only [Act.put, List.setIfInBounds_toArray, List.set_cons_zero, List.set_cons_succ]
  refine wpG_tk (some 23) (v := undef) rfl (.no (by rfl)) ?_
  simp only [Act.put, List.setIfInBounds_toArray, List.set_cons_zero, List.set_cons_succ]
  refine wpG_tk (some 24) (v := undef) rfl (.no (by rfl)) ?_
  simp only [Act.put, List.setIfInBounds_toArray, List.set_cons_zero, List.set_cons_succ]
  refine wpG_tk (some 25) (v := .bool false) rfl (.val (by rfl) (fun W hg => by go_simp)) ?_
  simp only [Act.put, List.setIfInBounds_toArray, List.set_cons_zero, List.set_cons_succ]
  refine wpG_tk (some 26) (v := .bool false) rfl (.val (by rfl) (fun _ _ => rfl)) ?_
  simp only [Act.put, List.setIfInBounds_toArray, List.set_cons_zero, List.set_cons_succ]
  refine wpG_tk (some 27) (v := undef) rfl (.no (by rfl)) ?_
  simp only [Act.put, List.setIfInBounds_toArray, List.set_cons_zero, List.set_cons_succ]
  refine wpG_tk (some 28) (v := undef) rfl (.no (by rfl)) ?_
  simp only [Act.put, List.setIfInBounds_toArray, List.set_cons_zero, List.set_cons_succ]
  refine wpG_tk (some 29) (v := undef) rfl (.no (by rfl)) ?_
  simp only [Act.put, List.setIfInBounds_toArray, List.set_cons_zero, List.set_cons_succ]
  refine wpG_tk (some 30) (v := .bool false) rfl (.val (by rfl) (fun W hg => by go_simp)) ?_
  simp only [Act.put, List.setIfInBounds_toArray, List.set_cons_zero, List.set_cons_succ]
  refine wpG_tk (some 2) (v := .bool false) rfl (.val (by rfl) (fun _ _ => rfl)) ?_
  simp only [Act.put, List.setIfInBounds_toArray, List.set_cons_zero, List.set_cons_succ]
  refine wpG_done (fun V1 hv2 => ?_)
  have GC3 := Lib.hid hv2
  clear hv2
  go_wp2_with fail
  go_ret
  exact ⟨rfl, Gr.to G0.out GC3.out⟩
set_option maxRecDepth 1000000 in
set_option maxHeartbeats 4000000 in
theorem rinside_4 (x y z : Int) (w : World) (h0 : 0 ≤ x) (h1 : 0 ≤ y) (h2 : 0 ≤ z) (h3 : x < 16384) (h4 : ¬ y < 16384) :
    Calls Try.prog 30 #[.agg #[.int .i64 x, .int .i64 y, .int .i64 z]] w fun e w' => e = .returned (.bool false) ∧ Below w.heap.size w w' := by
  obtain ⟨u, hu, r0, g0⟩ := rows1 w [.int .i64 x, .int .i64 y, .int .i64 z] 23
  have R0 := Lib.hid r0
  have G0 := Lib.hid g0
  have HU := Lib.hid hu
  clear hu g0 r0
  go_enter Try.func30, Try.ntmps30
  go_upto_region 1 with fail
  rw [← HU.out]
  refine wpG_region ?_
  refine wpG_tk (some 3) (v := .pointer (some ⟨w.heap.size, 0, none⟩)) rfl (.val (by rfl) (fun W hg => by go_simp)) ?_
  simp only [Act.put, List.setIfInBounds_toArray, List.set_cons_zero, List.set_cons_succ]
  refine wpG_tk (some 4) (v := .int .i64 x) rfl (.val (by rfl) (fun W hg => by have c := (R0.out.below hg 0 _ rfl).1; go_simp)) ?_
  simp only [Act.put, List.setIfInBounds_toArray, List.set_cons_zero, List.set_cons_succ]
  refine wpG_tk (some 5) (v := .bool true) rfl (.val (by rfl) (fun W hg => by have hq : (x ≥ 0) := (by omega); first | (go_simp; done) | (go_simp <;> omega))) ?_
  simp only [Act.put, List.setIfInBounds_toArray, List.set_cons_zero, List.set_cons_succ]
  refine wpG_tk (some 6) (v := .bool true) rfl (.val (by rfl) (fun _ _ => rfl)) ?_
  simp only [Act.put, List.setIfInBounds_toArray, List.set_cons_zero, List.set_cons_succ]
  refine wpG_tk (some 7) (v := .pointer (some ⟨w.heap.size, 1, none⟩)) rfl (.val (by rfl) (fun W hg => by go_simp)) ?_
  simp only [Act.put, List.setIfInBounds_toArray, List.set_cons_zero, List.set_cons_succ]
  refine wpG_tk (some 8) (v := .int .i64 y) rfl (.val (by rfl) (fun W hg => by have c := (R0.out.below hg 1 _ rfl).1; go_simp)) ?_
  simp only [Act.put, List.setIfInBounds_toArray, List.set_cons_zero, List.set_cons_succ]
  refine wpG_tk (some 9) (v := .bool true) rfl (.val (by rfl) (fun W hg => by have hq : (y ≥ 0) := (by omega); first | (go_simp; done) | (go_simp <;> omega))) ?_
  simp only [Act.put, List.setIfInBounds_toArray, List.set_cons_zero, List.set_cons_succ]
  refine wpG_tk (some 10) (v := .bool true) rfl (.val (by rfl) (fun W hg => by go_simp)) ?_
  simp only [Act.put, List.setIfInBounds_toArray, List.set_cons_zero, List.set_cons_succ]
  refine wpG_tk (some 11) (v := .bool true) rfl (.val (by rfl) (fun _ _ => rfl)) ?_
  simp only [Act.put, List.setIfInBounds_toArray, List.set_cons_zero, List.set_cons_succ]
  refine wpG_tk (some 12) (v := .pointer (some ⟨w.heap.size, 2, none⟩)) rfl (.val (by rfl) (fun W hg => by go_simp)) ?_
  simp only [Act.put, List.setIfInBounds_toArray, List.set_cons_zero, List.set_cons_succ]
  refine wpG_tk (some 13) (v := .int .i64 z) rfl (.val (by rfl) (fun W hg => by have c := (R0.out.below hg 2 _ rfl).1; go_simp)) ?_
  simp only [Act.put, List.setIfInBounds_toArray, List.set_cons_zero, List.set_cons_succ]
  refine wpG_tk (some 14) (v := .bool true) rfl (.val (by rfl) (fun W hg => by have hq : (z ≥ 0) := (by omega); first | (go_simp; done) | (go_simp <;> omega))) ?_
  simp only [Act.put, List.setIfInBounds_toArray, List.set_cons_zero, List.set_cons_succ]
  refine wpG_tk (some 15) (v := .bool true) rfl (.val (by rfl) (fun W hg => by go_simp)) ?_
  simp only [Act.put, List.setIfInBounds_toArray, List.set_cons_zero, List.set_cons_succ]
  refine wpG_tk (some 16) (v := .bool true) rfl (.val (by rfl) (fun _ _ => rfl)) ?_
  simp only [Act.put, List.setIfInBounds_toArray, List.set_cons_zero, List.set_cons_succ]
  refine wpG_tk (some 17) (v := .pointer (some ⟨w.heap.size, 0, none⟩)) rfl (.val (by rfl) (fun W hg => by go_simp)) ?_
  simp only [Act.put, List.setIfInBounds_toArray, List.set_cons_zero, List.set_cons_succ]
  refine wpG_tk (some 18) (v := .int .i64 x) rfl (.val (by rfl) (fun W hg => by have c := (R0.out.below hg 0 _ rfl).1; go_simp)) ?_
  simp only [Act.put, List.setIfInBounds_toArray, List.set_cons_zero, List.set_cons_succ]
  refine wpG_tk (some 19) (v := .bool true) rfl (.val (by rfl) (fun W hg => by have hq : (x < 16384) := (by omega); first | (go_simp; done) | (go_simp <;> omega))) ?_
  simp only [Act.put, List.setIfInBounds_toArray, List.set_cons_zero, List.set_cons_succ]
  refine wpG_tk (some 20) (v := .bool true) rfl (.val (by rfl) (fun W hg => by go_simp)) ?_
  simp only [Act.put, List.setIfInBounds_toArray, List.set_cons_zero, List.set_cons_succ]
  refine wpG_tk (some 21) (v := .bool true) rfl (.val (by rfl) (fun _ _ => rfl)) ?_
  simp only [Act.put, List.setIfInBounds_toArray, List.set_cons_zero, List.set_cons_succ]
  refine wpG_tk (some 22) (v := .pointer (some ⟨w.heap.size, 1, none⟩)) rfl (.val (by rfl) (fun W hg => by go_simp)) ?_
  simp only [Act.put, List.setIfInBounds_toArray, List.set_cons_zero, List.set_cons_succ]
  refine wpG_tk (some 23) (v := .int .i64 y) rfl (.val (by rfl) (fun W hg => by have c := (R0.out.below hg 1 _ rfl).1; go_simp)) ?_
  simp only [Act.put, List.setIfInBounds_toArray, List.set_cons_zero, List.set_cons_succ]
  refine wpG_tk (some 24) (v := .bool false) rfl (.val (by rfl) (fun W hg => by have hq : ¬ (y < 16384) := (by omega); first | (go_simp; done) | (go_simp <;> omega))) ?_
  simp only [Act.put, List.setIfInBounds_toArray, List.set_cons_zero, List.set_cons_succ]
  refine wpG_tk (some 25) (v := .bool false) rfl (.val (by rfl) (fun W hg => by go_simp)) ?_
  simp only [Act.put, List.setIfInBounds_toArray, List.set_cons_zero, List.set_cons_succ]
  refine wpG_tk (some 26) (v := .bool false) rfl (.val (by rfl) (fun _ _ => rfl)) ?_
  simp only [Act.put, List.setIfInBounds_toArray, List.set_cons_zero, List.set_cons_succ]
  refine wpG_tk (some 27) (v := undef) rfl (.no (by rfl)) ?_
  simp only [Act.put, List.setIfInBounds_toArray, List.set_cons_zero, List.set_cons_succ]
  refine wpG_tk (some 28) (v := undef) rfl (.no (by rfl)) ?_
  simp only [Act.put, List.setIfInBounds_toArray, List.set_cons_zero, List.set_cons_succ]
  refine wpG_tk (some 29) (v := undef) rfl (.no (by rfl)) ?_
  simp only [Act.put, List.setIfInBounds_toArray, List.set_cons_zero, List.set_cons_succ]
  refine wpG_tk (some 30) (v := .bool false) rfl (.val (by rfl) (fun W hg => by go_simp)) ?_
  simp only [Act.put, List.setIfInBounds_toArray, List.set_cons_zero, List.set_cons_succ]
  refine wpG_tk (some 2) (v := .bool false) rfl (.val (by rfl) (fun _ _ => rfl)) ?_
  simp only [Act.put, List.setIfInBounds_toArray, List.set_cons_zero, List.set_cons_succ]
  refine wpG_done (fun V1 hv2 => ?_)
  have GC3 := Lib.hid hv2
  clear hv2
  go_wp2_with fail
  go_ret
  exact ⟨rfl, Gr.to G0.out GC3.out⟩
set_option maxRecDepth 1000000 in
set_option maxHeartbeats 4000000 in
theorem rinside_5 (x y z : Int) (w : World) (h0 : 0 ≤ x) (h1 : 0 ≤ y) (h2 : 0 ≤ z) (h3 : x < 16384) (h4 : y < 16384) (h5 : ¬ z < 16384) :
    Calls Try.prog 30 #[.agg #[.int .i64 x, .int .i64 y, .int .i64 z]] w fun e w' => e = .returned (.bool false) ∧ Below w.heap.size w w' := by
  obtain ⟨u, hu, r0, g0⟩ := rows1 w [.int .i64 x, .int .i64 y, .int .i64 z] 23
  have R0 := Lib.hid r0
  have G0 := Lib.hid g0
  have HU := Lib.hid hu
  clear hu g0 r0
  go_enter Try.func30, Try.ntmps30
  go_upto_region 1 with fail
  rw [← HU.out]
  refine wpG_region ?_
  refine wpG_tk (some 3) (v := .pointer (some ⟨w.heap.size, 0, none⟩)) rfl (.val (by rfl) (fun W hg => by go_simp)) ?_
  simp only [Act.put, List.setIfInBounds_toArray, List.set_cons_zero, List.set_cons_succ]
  refine wpG_tk (some 4) (v := .int .i64 x) rfl (.val (by rfl) (fun W hg => by have c := (R0.out.below hg 0 _ rfl).1; go_simp)) ?_
  simp only [Act.put, List.setIfInBounds_toArray, List.set_cons_zero, List.set_cons_succ]
  refine wpG_tk (some 5) (v := .bool true) rfl (.val (by rfl) (fun W hg => by have hq : (x ≥ 0) := (by omega); first | (go_simp; done) | (go_simp <;> omega))) ?_
  simp only [Act.put, List.setIfInBounds_toArray, List.set_cons_zero, List.set_cons_succ]
  refine wpG_tk (some 6) (v := .bool true) rfl (.val (by rfl) (fun _ _ => rfl)) ?_
  simp only [Act.put, List.setIfInBounds_toArray, List.set_cons_zero, List.set_cons_succ]
  refine wpG_tk (some 7) (v := .pointer (some ⟨w.heap.size, 1, none⟩)) rfl (.val (by rfl) (fun W hg => by go_simp)) ?_
  simp only [Act.put, List.setIfInBounds_toArray, List.set_cons_zero, List.set_cons_succ]
  refine wpG_tk (some 8) (v := .int .i64 y) rfl (.val (by rfl) (fun W hg => by have c := (R0.out.below hg 1 _ rfl).1; go_simp)) ?_
  simp only [Act.put, List.setIfInBounds_toArray, List.set_cons_zero, List.set_cons_succ]
  refine wpG_tk (some 9) (v := .bool true) rfl (.val (by rfl) (fun W hg => by have hq : (y ≥ 0) := (by omega); first | (go_simp; done) | (go_simp <;> omega))) ?_
  simp only [Act.put, List.setIfInBounds_toArray, List.set_cons_zero, List.set_cons_succ]
  refine wpG_tk (some 10) (v := .bool true) rfl (.val (by rfl) (fun W hg => by go_simp)) ?_
  simp only [Act.put, List.setIfInBounds_toArray, List.set_cons_zero, List.set_cons_succ]
  refine wpG_tk (some 11) (v := .bool true) rfl (.val (by rfl) (fun _ _ => rfl)) ?_
  simp only [Act.put, List.setIfInBounds_toArray, List.set_cons_zero, List.set_cons_succ]
  refine wpG_tk (some 12) (v := .pointer (some ⟨w.heap.size, 2, none⟩)) rfl (.val (by rfl) (fun W hg => by go_simp)) ?_
  simp only [Act.put, List.setIfInBounds_toArray, List.set_cons_zero, List.set_cons_succ]
  refine wpG_tk (some 13) (v := .int .i64 z) rfl (.val (by rfl) (fun W hg => by have c := (R0.out.below hg 2 _ rfl).1; go_simp)) ?_
  simp only [Act.put, List.setIfInBounds_toArray, List.set_cons_zero, List.set_cons_succ]
  refine wpG_tk (some 14) (v := .bool true) rfl (.val (by rfl) (fun W hg => by have hq : (z ≥ 0) := (by omega); first | (go_simp; done) | (go_simp <;> omega))) ?_
  simp only [Act.put, List.setIfInBounds_toArray, List.set_cons_zero, List.set_cons_succ]
  refine wpG_tk (some 15) (v := .bool true) rfl (.val (by rfl) (fun W hg => by go_simp)) ?_
  simp only [Act.put, List.setIfInBounds_toArray, List.set_cons_zero, List.set_cons_succ]
  refine wpG_tk (some 16) (v := .bool true) rfl (.val (by rfl) (fun _ _ => rfl)) ?_
  simp only [Act.put, List.setIfInBounds_toArray, List.set_cons_zero, List.set_cons_succ]
  refine wpG_tk (some 17) (v := .pointer (some ⟨w.heap.size, 0, none⟩)) rfl (.val (by rfl) (fun W hg => by go_simp)) ?_
  simp only [Act.put, List.setIfInBounds_toArray, List.set_cons_zero, List.set_cons_succ]
  refine wpG_tk (some 18) (v := .int .i64 x) rfl (.val (by rfl) (fun W hg => by have c := (R0.out.below hg 0 _ rfl).1; go_simp)) ?_
  simp only [Act.put, List.setIfInBounds_toArray, List.set_cons_zero, List.set_cons_succ]
  refine wpG_tk (some 19) (v := .bool true) rfl (.val (by rfl) (fun W hg => by have hq : (x < 16384) := (by omega); first | (go_simp; done) | (go_simp <;> omega))) ?_
  simp only [Act.put, List.setIfInBounds_toArray, List.set_cons_zero, List.set_cons_succ]
  refine wpG_tk (some 20) (v := .bool true) rfl (.val (by rfl) (fun W hg => by go_simp)) ?_
  simp only [Act.put, List.setIfInBounds_toArray, List.set_cons_zero, List.set_cons_succ]
  refine wpG_tk (some 21) (v := .bool true) rfl (.val (by rfl) (fun _ _ => rfl)) ?_
  simp only [Act.put, List.setIfInBounds_toArray, List.set_cons_zero, List.set_cons_succ]
  refine wpG_tk (some 22) (v := .pointer (some ⟨w.heap.size, 1, none⟩)) rfl (.val (by rfl) (fun W hg => by go_simp)) ?_
  simp only [Act.put, List.setIfInBounds_toArray, List.set_cons_zero, List.set_cons_succ]
  refine wpG_tk (some 23) (v := .int .i64 y) rfl (.val (by rfl) (fun W hg => by have c := (R0.out.below hg 1 _ rfl).1; go_simp)) ?_
  simp only [Act.put, List.setIfInBounds_toArray, List.set_cons_zero, List.set_cons_succ]
  refine wpG_tk (some 24) (v := .bool true) rfl (.val (by rfl) (fun W hg => by have hq : (y < 16384) := (by omega); first | (go_simp; done) | (go_simp <;> omega))) ?_
  simp only [Act.put, List.setIfInBounds_toArray, List.set_cons_zero, List.set_cons_succ]
  refine wpG_tk (some 25) (v := .bool true) rfl (.val (by rfl) (fun W hg => by go_simp)) ?_
  simp only [Act.put, List.setIfInBounds_toArray, List.set_cons_zero, List.set_cons_succ]
  refine wpG_tk (some 26) (v := .bool true) rfl (.val (by rfl) (fun _ _ => rfl)) ?_
  simp only [Act.put, List.setIfInBounds_toArray, List.set_cons_zero, List.set_cons_succ]
  refine wpG_tk (some 27) (v := .pointer (some ⟨w.heap.size, 2, none⟩)) rfl (.val (by rfl) (fun W hg => by go_simp)) ?_
  simp only [Act.put, List.setIfInBounds_toArray, List.set_cons_zero, List.set_cons_succ]
  refine wpG_tk (some 28) (v := .int .i64 z) rfl (.val (by rfl) (fun W hg => by have c := (R0.out.below hg 2 _ rfl).1; go_simp)) ?_
  simp only [Act.put, List.setIfInBounds_toArray, List.set_cons_zero, List.set_cons_succ]
  refine wpG_tk (some 29) (v := .bool false) rfl (.val (by rfl) (fun W hg => by have hq : ¬ (z < 16384) := (by omega); first | (go_simp; done) | (go_simp <;> omega))) ?_
  simp only [Act.put, List.setIfInBounds_toArray, List.set_cons_zero, List.set_cons_succ]
  refine wpG_tk (some 30) (v := .bool false) rfl (.val (by rfl) (fun W hg => by go_simp)) ?_
  simp only [Act.put, List.setIfInBounds_toArray, List.set_cons_zero, List.set_cons_succ]
  refine wpG_tk (some 2) (v := .bool false) rfl (.val (by rfl) (fun _ _ => rfl)) ?_
  simp only [Act.put, List.setIfInBounds_toArray, List.set_cons_zero, List.set_cons_succ]
  refine wpG_done (fun V1 hv2 => ?_)
  have GC3 := Lib.hid hv2
  clear hv2
  go_wp2_with fail
  go_ret
  exact ⟨rfl, Gr.to G0.out GC3.out⟩
set_option maxRecDepth 1000000 in
set_option maxHeartbeats 4000000 in
theorem rinside_6 (x y z : Int) (w : World) (h0 : 0 ≤ x) (h1 : 0 ≤ y) (h2 : 0 ≤ z) (h3 : x < 16384) (h4 : y < 16384) (h5 : z < 16384) :
    Calls Try.prog 30 #[.agg #[.int .i64 x, .int .i64 y, .int .i64 z]] w fun e w' => e = .returned (.bool true) ∧ Below w.heap.size w w' := by
  obtain ⟨u, hu, r0, g0⟩ := rows1 w [.int .i64 x, .int .i64 y, .int .i64 z] 23
  have R0 := Lib.hid r0
  have G0 := Lib.hid g0
  have HU := Lib.hid hu
  clear hu g0 r0
  go_enter Try.func30, Try.ntmps30
  go_upto_region 1 with fail
  rw [← HU.out]
  refine wpG_region ?_
  refine wpG_tk (some 3) (v := .pointer (some ⟨w.heap.size, 0, none⟩)) rfl (.val (by rfl) (fun W hg => by go_simp)) ?_
  simp only [Act.put, List.setIfInBounds_toArray, List.set_cons_zero, List.set_cons_succ]
  refine wpG_tk (some 4) (v := .int .i64 x) rfl (.val (by rfl) (fun W hg => by have c := (R0.out.below hg 0 _ rfl).1; go_simp)) ?_
  simp only [Act.put, List.setIfInBounds_toArray, List.set_cons_zero, List.set_cons_succ]
  refine wpG_tk (some 5) (v := .bool true) rfl (.val (by rfl) (fun W hg => by have hq : (x ≥ 0) := (by omega); first | (go_simp; done) | (go_simp <;> omega))) ?_
  simp only [Act.put, List.setIfInBounds_toArray, List.set_cons_zero, List.set_cons_succ]
  refine wpG_tk (some 6) (v := .bool true) rfl (.val (by rfl) (fun _ _ => rfl)) ?_
  simp only [Act.put, List.setIfInBounds_toArray, List.set_cons_zero, List.set_cons_succ]
  refine wpG_tk (some 7) (v := .pointer (some ⟨w.heap.size, 1, none⟩)) rfl (.val (by rfl) (fun W hg => by go_simp)) ?_
  simp only [Act.put, List.setIfInBounds_toArray, List.set_cons_zero, List.set_cons_succ]
  refine wpG_tk (some 8) (v := .int .i64 y) rfl (.val (by rfl) (fun W hg => by have c := (R0.out.below hg 1 _ rfl).1; go_simp)) ?_
  simp only [Act.put, List.setIfInBounds_toArray, List.set_cons_zero, List.set_cons_succ]
  refine wpG_tk (some 9) (v := .bool true) rfl (.val (by rfl) (fun W hg => by have hq : (y ≥ 0) := (by omega); first | (go_simp; done) | (go_simp <;> omega))) ?_
  simp only [Act.put, List.setIfInBounds_toArray, List.set_cons_zero, List.set_cons_succ]
  refine wpG_tk (some 10) (v := .bool true) rfl (.val (by rfl) (fun W hg => by go_simp)) ?_
  simp only [Act.put, List.setIfInBounds_toArray, List.set_cons_zero, List.set_cons_succ]
  refine wpG_tk (some 11) (v := .bool true) rfl (.val (by rfl) (fun _ _ => rfl)) ?_
  simp only [Act.put, List.setIfInBounds_toArray, List.set_cons_zero, List.set_cons_succ]
  refine wpG_tk (some 12) (v := .pointer (some ⟨w.heap.size, 2, none⟩)) rfl (.val (by rfl) (fun W hg => by go_simp)) ?_
  simp only [Act.put, List.setIfInBounds_toArray, List.set_cons_zero, List.set_cons_succ]
  refine wpG_tk (some 13) (v := .int .i64 z) rfl (.val (by rfl) (fun W hg => by have c := (R0.out.below hg 2 _ rfl).1; go_simp)) ?_
  simp only [Act.put, List.setIfInBounds_toArray, List.set_cons_zero, List.set_cons_succ]
  refine wpG_tk (some 14) (v := .bool true) rfl (.val (by rfl) (fun W hg => by have hq : (z ≥ 0) := (by omega); first | (go_simp; done) | (go_simp <;> omega))) ?_
  simp only [Act.put, List.setIfInBounds_toArray, List.set_cons_zero, List.set_cons_succ]
  refine wpG_tk (some 15) (v := .bool true) rfl (.val (by rfl) (fun W hg => by go_simp)) ?_
  simp only [Act.put, List.setIfInBounds_toArray, List.set_cons_zero, List.set_cons_succ]
  refine wpG_tk (some 16) (v := .bool true) rfl (.val (by rfl) (fun _ _ => rfl)) ?_
  simp only [Act.put, List.setIfInBounds_toArray, List.set_cons_zero, List.set_cons_succ]
  refine wpG_tk (some 17) (v := .pointer (some ⟨w.heap.size, 0, none⟩)) rfl (.val (by rfl) (fun W hg => by go_simp)) ?_
  simp only [Act.put, List.setIfInBounds_toArray, List.set_cons_zero, List.set_cons_succ]
  refine wpG_tk (some 18) (v := .int .i64 x) rfl (.val (by rfl) (fun W hg => by have c := (R0.out.below hg 0 _ rfl).1; go_simp)) ?_
  simp only [Act.put, List.setIfInBounds_toArray, List.set_cons_zero, List.set_cons_succ]
  refine wpG_tk (some 19) (v := .bool true) rfl (.val (by rfl) (fun W hg => by have hq : (x < 16384) := (by omega); first | (go_simp; done) | (go_simp <;> omega))) ?_
  simp only [Act.put, List.setIfInBounds_toArray, List.set_cons_zero, List.set_cons_succ]
  refine wpG_tk (some 20) (v := .bool true) rfl (.val (by rfl) (fun W hg => by go_simp)) ?_
  simp only [Act.put, List.setIfInBounds_toArray, List.set_cons_zero, List.set_cons_succ]
  refine wpG_tk (some 21) (v := .bool true) rfl (.val (by rfl) (fun _ _ => rfl)) ?_
  simp only [Act.put, List.setIfInBounds_toArray, List.set_cons_zero, List.set_cons_succ]
  refine wpG_tk (some 22) (v := .pointer (some ⟨w.heap.size, 1, none⟩)) rfl (.val (by rfl) (fun W hg => by go_simp)) ?_
  simp only [Act.put, List.setIfInBounds_toArray, List.set_cons_zero, List.set_cons_succ]
  refine wpG_tk (some 23) (v := .int .i64 y) rfl (.val (by rfl) (fun W hg => by have c := (R0.out.below hg 1 _ rfl).1; go_simp)) ?_
  simp only [Act.put, List.setIfInBounds_toArray, List.set_cons_zero, List.set_cons_succ]
  refine wpG_tk (some 24) (v := .bool true) rfl (.val (by rfl) (fun W hg => by have hq : (y < 16384) := (by omega); first | (go_simp; done) | (go_simp <;> omega))) ?_
  simp only [Act.put, List.setIfInBounds_toArray, List.set_cons_zero, List.set_cons_succ]
  refine wpG_tk (some 25) (v := .bool true) rfl (.val (by rfl) (fun W hg => by go_simp)) ?_
  simp only [Act.put, List.setIfInBounds_toArray, List.set_cons_zero, List.set_cons_succ]
  refine wpG_tk (some 26) (v := .bool true) rfl (.val (by rfl) (fun _ _ => rfl)) ?_
  simp only [Act.put, List.setIfInBounds_toArray, List.set_cons_zero, List.set_cons_succ]
  refine wpG_tk (some 27) (v := .pointer (some ⟨w.heap.size, 2, none⟩)) rfl (.val (by rfl) (fun W hg => by go_simp)) ?_
  simp only [Act.put, List.setIfInBounds_toArray, List.set_cons_zero, List.set_cons_succ]
  refine wpG_tk (some 28) (v := .int .i64 z) rfl (.val (by rfl) (fun W hg => by have c := (R0.out.below hg 2 _ rfl).1; go_simp)) ?_
  simp only [Act.put, List.setIfInBounds_toArray, List.set_cons_zero, List.set_cons_succ]
  refine wpG_tk (some 29) (v := .bool true) rfl (.val (by rfl) (fun W hg => by have hq : (z < 16384) := (by omega); first | (go_simp; done) | (go_simp <;> omega))) ?_
  simp only [Act.put, List.setIfInBounds_toArray, List.set_cons_zero, List.set_cons_succ]
  refine wpG_tk (some 30) (v := .bool true) rfl (.val (by rfl) (fun W hg => by go_simp)) ?_
  simp only [Act.put, List.setIfInBounds_toArray, List.set_cons_zero, List.set_cons_succ]
  refine wpG_tk (some 2) (v := .bool true) rfl (.val (by rfl) (fun _ _ => rfl)) ?_
  simp only [Act.put, List.setIfInBounds_toArray, List.set_cons_zero, List.set_cons_succ]
  refine wpG_done (fun V1 hv2 => ?_)
  have GC3 := Lib.hid hv2
  clear hv2
  go_wp2_with fail
  go_ret
  exact ⟨rfl, Gr.to G0.out GC3.out⟩
set_option maxRecDepth 1000000 in
set_option maxHeartbeats 4000000 in
theorem rinside_b (x y z : Int) (w : World) :
    Calls Try.prog 30 #[.agg #[.int .i64 x, .int .i64 y, .int .i64 z]] w fun e w' => e = .returned (.bool (Mo.inB x y z)) ∧ Below w.heap.size w w' := by
  unfold Mo.inB
  by_cases h0 : 0 ≤ x
  rotate_left
  · rw [decide_eq_false (by omega)]; exact rinside_0 x y z w h0
  by_cases h1 : 0 ≤ y
  rotate_left
  · rw [decide_eq_false (by omega)]; exact rinside_1 x y z w h0 h1
  by_cases h2 : 0 ≤ z
  rotate_left
  · rw [decide_eq_false (by omega)]; exact rinside_2 x y z w h0 h1 h2
  by_cases h3 : x < 16384
  rotate_left
  · rw [decide_eq_false (by omega)]; exact rinside_3 x y z w h0 h1 h2 h3
  by_cases h4 : y < 16384
  rotate_left
  · rw [decide_eq_false (by omega)]; exact rinside_4 x y z w h0 h1 h2 h3 h4
  by_cases h5 : z < 16384
  rotate_left
  · rw [decide_eq_false (by omega)]; exact rinside_5 x y z w h0 h1 h2 h3 h4 h5
  rw [decide_eq_true (by omega)]; exact rinside_6 x y z w h0 h1 h2 h3 h4 h5
end Go.Proofs.Ytmjjkloeipoefaa
