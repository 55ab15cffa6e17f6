/-
  voxelref05.Small.
-/
import Derived.Test.YtmjjkloeipoefaaMosan
import Derived.Test.YtmjjkloeipoefaaMo13
import Derived.Handy
namespace Go.Proofs.Ytmjjkloeipoefaa
open Go.RowKit
set_option linter.unusedVariables false
set_option maxRecDepth 1000000 in
set_option maxHeartbeats 4000000 in
theorem small_any (b1 b2 b3 b4 b5 b6 : Int) (w : World) :
    Calls Try.prog 31 #[.agg #[.int .i64 b1, .int .i64 b2, .int .i64 b3, .int .i64 b4, .int .i64 b5, .int .i64 b6]] w fun e w' => e = .returned (.bool (Mo.smallB b1 b2 b3 b4 b5 b6)) ∧ Below w.heap.size w w' := by
  obtain ⟨u, hu, r0, g0⟩ := rows1 w [.int .i64 b1, .int .i64 b2, .int .i64 b3, .int .i64 b4, .int .i64 b5, .int .i64 b6] 37
  have R0 := Lib.hid r0
  have G0 := Lib.hid g0
  have HU := Lib.hid hu
  clear hu g0 r0
  go_enter Try.func31, Try.ntmps31
  go_upto_region 1 with fail
  rw [← HU.out]
  refine wpG_region ?_
  refine @wpG_tk _ _ _ _ _ (some 3) (.pointer (some ⟨w.heap.size, 0, none⟩)) _ _ rfl (.val (by rfl) (fun W hg => by go_simp)) ?_
  simp only [Act.put, List.setIfInBounds_toArray, List.set_cons_zero, List.set_cons_succ]
  refine @wpG_tk _ _ _ _ _ (some 4) (.pointer (some ⟨w.heap.size, 0, none⟩)) _ _ rfl (.val (by rfl) (fun W hg => by go_simp)) ?_
  simp only [Act.put, List.setIfInBounds_toArray, List.set_cons_zero, List.set_cons_succ]
  refine @wpG_tk _ _ _ _ _ (some 5) (.int .i64 b1) _ _ rfl (.val (by rfl) (fun W hg => by have c := (R0.out.below hg 0 _ rfl).1; go_simp)) ?_
  simp only [Act.put, List.setIfInBounds_toArray, List.set_cons_zero, List.set_cons_succ]
  refine @wpG_tk _ _ _ _ _ (some 6) (.bool (decide (b1 ≥ (-100000)))) _ _ rfl (.val (by rfl) (fun W hg => by go_simp)) ?_
  simp only [Act.put, List.setIfInBounds_toArray, List.set_cons_zero, List.set_cons_succ]
  obtain ⟨c1, hc1⟩ : ∃ b, b = (decide (b1 ≥ (-100000))) := ⟨_, rfl⟩
  rw [← hc1]
  have Hc1 := Lib.hid hc1
  clear hc1
  refine @wpG_tk _ _ _ _ _ (some 7) (.bool c1) _ _ rfl (.val (by rfl) (fun _ _ => rfl)) ?_
  simp only [Act.put, List.setIfInBounds_toArray, List.set_cons_zero, List.set_cons_succ]
  refine @wpG_tk _ _ _ _ _ (some 8) ((bif c1 then .pointer (some ⟨w.heap.size, 0, none⟩) else undef)) _ _ rfl (by cases c1 with | false => exact .no (by rfl) | true => exact (.val (by rfl) (fun W hg => by go_simp))) ?_
  simp only [Act.put, List.setIfInBounds_toArray, List.set_cons_zero, List.set_cons_succ]
  refine @wpG_tk _ _ _ _ _ (some 9) ((bif c1 then .pointer (some ⟨w.heap.size, 1, none⟩) else undef)) _ _ rfl (by cases c1 with | false => exact .no (by rfl) | true => exact (.val (by rfl) (fun W hg => by go_simp))) ?_
  simp only [Act.put, List.setIfInBounds_toArray, List.set_cons_zero, List.set_cons_succ]
  refine @wpG_tk _ _ _ _ _ (some 10) ((bif c1 then .int .i64 b2 else undef)) _ _ rfl (by cases c1 with | false => exact .no (by rfl) | true => exact (.val (by rfl) (fun W hg => by have c := (R0.out.below hg 1 _ rfl).1; go_simp))) ?_
  simp only [Act.put, List.setIfInBounds_toArray, List.set_cons_zero, List.set_cons_succ]
  refine @wpG_tk _ _ _ _ _ (some 11) ((bif c1 then .bool (decide (b2 ≥ (-100000))) else undef)) _ _ rfl (by cases c1 with | false => exact .no (by rfl) | true => exact (.val (by rfl) (fun W hg => by go_simp))) ?_
  simp only [Act.put, List.setIfInBounds_toArray, List.set_cons_zero, List.set_cons_succ]
  refine @wpG_tk _ _ _ _ _ (some 12) (.bool (c1 && (decide (b2 ≥ (-100000))))) _ _ rfl (.val (by rfl) (fun W hg => by cases c1 <;> go_simp)) ?_
  simp only [Act.put, List.setIfInBounds_toArray, List.set_cons_zero, List.set_cons_succ]
  obtain ⟨c2, hc2⟩ : ∃ b, b = (c1 && (decide (b2 ≥ (-100000)))) := ⟨_, rfl⟩
  rw [← hc2]
  have Hc2 := Lib.hid hc2
  clear hc2
  refine @wpG_tk _ _ _ _ _ (some 13) (.bool c2) _ _ rfl (.val (by rfl) (fun _ _ => rfl)) ?_
  simp only [Act.put, List.setIfInBounds_toArray, List.set_cons_zero, List.set_cons_succ]
  refine @wpG_tk _ _ _ _ _ (some 14) ((bif c2 then .pointer (some ⟨w.heap.size, 0, none⟩) else undef)) _ _ rfl (by cases c2 with | false => exact .no (by rfl) | true => exact (.val (by rfl) (fun W hg => by go_simp))) ?_
  simp only [Act.put, List.setIfInBounds_toArray, List.set_cons_zero, List.set_cons_succ]
  refine @wpG_tk _ _ _ _ _ (some 15) ((bif c2 then .pointer (some ⟨w.heap.size, 2, none⟩) else undef)) _ _ rfl (by cases c2 with | false => exact .no (by rfl) | true => exact (.val (by rfl) (fun W hg => by go_simp))) ?_
  simp only [Act.put, List.setIfInBounds_toArray, List.set_cons_zero, List.set_cons_succ]
  refine @wpG_tk _ _ _ _ _ (some 16) ((bif c2 then .int .i64 b3 else undef)) _ _ rfl (by cases c2 with | false => exact .no (by rfl) | true => exact (.val (by rfl) (fun W hg => by have c := (R0.out.below hg 2 _ rfl).1; go_simp))) ?_
  simp only [Act.put, List.setIfInBounds_toArray, List.set_cons_zero, List.set_cons_succ]
  refine @wpG_tk _ _ _ _ _ (some 17) ((bif c2 then .bool (decide (b3 ≥ (-100000))) else undef)) _ _ rfl (by cases c2 with | false => exact .no (by rfl) | true => exact (.val (by rfl) (fun W hg => by go_simp))) ?_
  simp only [Act.put, List.setIfInBounds_toArray, List.set_cons_zero, List.set_cons_succ]
  refine @wpG_tk _ _ _ _ _ (some 18) (.bool (c2 && (decide (b3 ≥ (-100000))))) _ _ rfl (.val (by rfl) (fun W hg => by cases c2 <;> go_simp)) ?_
  simp only [Act.put, List.setIfInBounds_toArray, List.set_cons_zero, List.set_cons_succ]
  obtain ⟨c3, hc3⟩ : ∃ b, b = (c2 && (decide (b3 ≥ (-100000)))) := ⟨_, rfl⟩
  rw [← hc3]
  have Hc3 := Lib.hid hc3
  clear hc3
  refine @wpG_tk _ _ _ _ _ (some 19) (.bool c3) _ _ rfl (.val (by rfl) (fun _ _ => rfl)) ?_
  simp only [Act.put, List.setIfInBounds_toArray, List.set_cons_zero, List.set_cons_succ]
  refine @wpG_tk _ _ _ _ _ (some 20) ((bif c3 then .pointer (some ⟨w.heap.size, 3, none⟩) else undef)) _ _ rfl (by cases c3 with | false => exact .no (by rfl) | true => exact (.val (by rfl) (fun W hg => by go_simp))) ?_
  simp only [Act.put, List.setIfInBounds_toArray, List.set_cons_zero, List.set_cons_succ]
  refine @wpG_tk _ _ _ _ _ (some 21) ((bif c3 then .pointer (some ⟨w.heap.size, 3, none⟩) else undef)) _ _ rfl (by cases c3 with | false => exact .no (by rfl) | true => exact (.val (by rfl) (fun W hg => by go_simp))) ?_
  simp only [Act.put, List.setIfInBounds_toArray, List.set_cons_zero, List.set_cons_succ]
  refine @wpG_tk _ _ _ _ _ (some 22) ((bif c3 then .int .i64 b4 else undef)) _ _ rfl (by cases c3 with | false => exact .no (by rfl) | true => exact (.val (by rfl) (fun W hg => by have c := (R0.out.below hg 3 _ rfl).1; go_simp))) ?_
  simp only [Act.put, List.setIfInBounds_toArray, List.set_cons_zero, List.set_cons_succ]
  refine @wpG_tk _ _ _ _ _ (some 23) ((bif c3 then .bool (decide (b4 ≤ 100000)) else undef)) _ _ rfl (by cases c3 with | false => exact .no (by rfl) | true => exact (.val (by rfl) (fun W hg => by go_simp))) ?_
  simp only [Act.put, List.setIfInBounds_toArray, List.set_cons_zero, List.set_cons_succ]
  refine @wpG_tk _ _ _ _ _ (some 24) (.bool (c3 && (decide (b4 ≤ 100000)))) _ _ rfl (.val (by rfl) (fun W hg => by cases c3 <;> go_simp)) ?_
  simp only [Act.put, List.setIfInBounds_toArray, List.set_cons_zero, List.set_cons_succ]
  obtain ⟨c4, hc4⟩ : ∃ b, b = (c3 && (decide (b4 ≤ 100000))) := ⟨_, rfl⟩
  rw [← hc4]
  have Hc4 := Lib.hid hc4
  clear hc4
  refine @wpG_tk _ _ _ _ _ (some 25) (.bool c4) _ _ rfl (.val (by rfl) (fun _ _ => rfl)) ?_
  simp only [Act.put, List.setIfInBounds_toArray, List.set_cons_zero, List.set_cons_succ]
  refine @wpG_tk _ _ _ _ _ (some 26) ((bif c4 then .pointer (some ⟨w.heap.size, 3, none⟩) else undef)) _ _ rfl (by cases c4 with | false => exact .no (by rfl) | true => exact (.val (by rfl) (fun W hg => by go_simp))) ?_
  simp only [Act.put, List.setIfInBounds_toArray, List.set_cons_zero, List.set_cons_succ]
  refine @wpG_tk _ _ _ _ _ (some 27) ((bif c4 then .pointer (some ⟨w.heap.size, 4, none⟩) else undef)) _ _ rfl (by cases c4 with | false => exact .no (by rfl) | true => exact (.val (by rfl) (fun W hg => by go_simp))) ?_
  simp only [Act.put, List.setIfInBounds_toArray, List.set_cons_zero, List.set_cons_succ]
  refine @wpG_tk _ _ _ _ _ (some 28) ((bif c4 then .int .i64 b5 else undef)) _ _ rfl (by cases c4 with | false => exact .no (by rfl) | true => exact (.val (by rfl) (fun W hg => by have c := (R0.out.below hg 4 _ rfl).1; go_simp))) ?_
  simp only [Act.put, List.setIfInBounds_toArray, List.set_cons_zero, List.set_cons_succ]
  refine @wpG_tk _ _ _ _ _ (some 29) ((bif c4 then .bool (decide (b5 ≤ 100000)) else undef)) _ _ rfl (by cases c4 with | false => exact .no (by rfl) | true => exact (.val (by rfl) (fun W hg => by go_simp))) ?_
  simp only [Act.put, List.setIfInBounds_toArray, List.set_cons_zero, List.set_cons_succ]
  refine @wpG_tk _ _ _ _ _ (some 30) (.bool (c4 && (decide (b5 ≤ 100000)))) _ _ rfl (.val (by rfl) (fun W hg => by cases c4 <;> go_simp)) ?_
  simp only [Act.put, List.setIfInBounds_toArray, List.set_cons_zero, List.set_cons_succ]
  obtain ⟨c5, hc5⟩ : ∃ b, b = (c4 && (decide (b5 ≤ 100000))) := ⟨_, rfl⟩
  rw [← hc5]
  have Hc5 := Lib.hid hc5
  clear hc5
  refine @wpG_tk _ _ _ _ _ (some 31) (.bool c5) _ _ rfl (.val (by rfl) (fun _ _ => rfl)) ?_
  simp only [Act.put, List.setIfInBounds_toArray, List.set_cons_zero, List.set_cons_succ]
  refine @wpG_tk _ _ _ _ _ (some 32) ((bif c5 then .pointer (some ⟨w.heap.size, 3, none⟩) else undef)) _ _ rfl (by cases c5 with | false => exact .no (by rfl) | true => exact (.val (by rfl) (fun W hg => by go_simp))) ?_
  simp only [Act.put, List.setIfInBounds_toArray, List.set_cons_zero, List.set_cons_succ]
  refine @wpG_tk _ _ _ _ _ (some 33) ((bif c5 then .pointer (some ⟨w.heap.size, 5, none⟩) else undef)) _ _ rfl (by cases c5 with | false => exact .no (by rfl) | true => exact (.val (by rfl) (fun W hg => by go_simp))) ?_
  simp only [Act.put, List.setIfInBounds_toArray, List.set_cons_zero, List.set_cons_succ]
  refine @wpG_tk _ _ _ _ _ (some 34) ((bif c5 then .int .i64 b6 else undef)) _ _ rfl (by cases c5 with | false => exact .no (by rfl) | true => exact (.val (by rfl) (fun W hg => by have c := (R0.out.below hg 5 _ rfl).1; go_simp))) ?_
  simp only [Act.put, List.setIfInBounds_toArray, List.set_cons_zero, List.set_cons_succ]
  refine @wpG_tk _ _ _ _ _ (some 35) ((bif c5 then .bool (decide (b6 ≤ 100000)) else undef)) _ _ rfl (by cases c5 with | false => exact .no (by rfl) | true => exact (.val (by rfl) (fun W hg => by go_simp))) ?_
  simp only [Act.put, List.setIfInBounds_toArray, List.set_cons_zero, List.set_cons_succ]
  refine @wpG_tk _ _ _ _ _ (some 36) (.bool (c5 && (decide (b6 ≤ 100000)))) _ _ rfl (.val (by rfl) (fun W hg => by cases c5 <;> go_simp)) ?_
  simp only [Act.put, List.setIfInBounds_toArray, List.set_cons_zero, List.set_cons_succ]
  obtain ⟨c6, hc6⟩ : ∃ b, b = (c5 && (decide (b6 ≤ 100000))) := ⟨_, rfl⟩
  rw [← hc6]
  have Hc6 := Lib.hid hc6
  clear hc6
  refine @wpG_tk _ _ _ _ _ (some 37) (.bool c6) _ _ rfl (.val (by rfl) (fun _ _ => rfl)) ?_
  simp only [Act.put, List.setIfInBounds_toArray, List.set_cons_zero, List.set_cons_succ]
  refine @wpG_tk _ _ _ _ _ (some 38) ((bif c6 then .pointer (some ⟨w.heap.size, 3, none⟩) else undef)) _ _ rfl (by cases c6 with | false => exact .no (by rfl) | true => exact (.val (by rfl) (fun W hg => by go_simp))) ?_
  simp only [Act.put, List.setIfInBounds_toArray, List.set_cons_zero, List.set_cons_succ]
  refine @wpG_tk _ _ _ _ _ (some 39) ((bif c6 then .pointer (some ⟨w.heap.size, 3, none⟩) else undef)) _ _ rfl (by cases c6 with | false => exact .no (by rfl) | true => exact (.val (by rfl) (fun W hg => by go_simp))) ?_
  simp only [Act.put, List.setIfInBounds_toArray, List.set_cons_zero, List.set_cons_succ]
  refine @wpG_tk _ _ _ _ _ (some 40) ((bif c6 then .int .i64 b4 else undef)) _ _ rfl (by cases c6 with | false => exact .no (by rfl) | true => exact (.val (by rfl) (fun W hg => by have c := (R0.out.below hg 3 _ rfl).1; go_simp))) ?_
  simp only [Act.put, List.setIfInBounds_toArray, List.set_cons_zero, List.set_cons_succ]
  refine @wpG_tk _ _ _ _ _ (some 41) ((bif c6 then .pointer (some ⟨w.heap.size, 0, none⟩) else undef)) _ _ rfl (by cases c6 with | false => exact .no (by rfl) | true => exact (.val (by rfl) (fun W hg => by go_simp))) ?_
  simp only [Act.put, List.setIfInBounds_toArray, List.set_cons_zero, List.set_cons_succ]
  refine @wpG_tk _ _ _ _ _ (some 42) ((bif c6 then .pointer (some ⟨w.heap.size, 0, none⟩) else undef)) _ _ rfl (by cases c6 with | false => exact .no (by rfl) | true => exact (.val (by rfl) (fun W hg => by go_simp))) ?_
  simp only [Act.put, List.setIfInBounds_toArray, List.set_cons_zero, List.set_cons_succ]
  refine @wpG_tk _ _ _ _ _ (some 43) ((bif c6 then .int .i64 b1 else undef)) _ _ rfl (by cases c6 with | false => exact .no (by rfl) | true => exact (.val (by rfl) (fun W hg => by have c := (R0.out.below hg 0 _ rfl).1; go_simp))) ?_
  simp only [Act.put, List.setIfInBounds_toArray, List.set_cons_zero, List.set_cons_succ]
  refine @wpG_tk _ _ _ _ _ (some 44) ((bif c6 then .int .i64 (IntKind.i64.wrap (b4 - b1)) else undef)) _ _ rfl (by cases c6 with | false => exact .no (by rfl) | true => exact (.val (by rfl) (fun W hg => by go_simp))) ?_
  simp only [Act.put, List.setIfInBounds_toArray, List.set_cons_zero, List.set_cons_succ]
  refine @wpG_tk _ _ _ _ _ (some 45) ((bif c6 then .bool (decide (IntKind.i64.wrap (b4 - b1) ≤ 20)) else undef)) _ _ rfl (by cases c6 with | false => exact .no (by rfl) | true => exact (.val (by rfl) (fun W hg => by go_simp))) ?_
  simp only [Act.put, List.setIfInBounds_toArray, List.set_cons_zero, List.set_cons_succ]
  refine @wpG_tk _ _ _ _ _ (some 46) (.bool (c6 && (decide (IntKind.i64.wrap (b4 - b1) ≤ 20)))) _ _ rfl (.val (by rfl) (fun W hg => by cases c6 <;> go_simp)) ?_
  simp only [Act.put, List.setIfInBounds_toArray, List.set_cons_zero, List.set_cons_succ]
  obtain ⟨c7, hc7⟩ : ∃ b, b = (c6 && (decide (IntKind.i64.wrap (b4 - b1) ≤ 20))) := ⟨_, rfl⟩
  rw [← hc7]
  have Hc7 := Lib.hid hc7
  clear hc7
  refine @wpG_tk _ _ _ _ _ (some 47) (.bool c7) _ _ rfl (.val (by rfl) (fun _ _ => rfl)) ?_
  simp only [Act.put, List.setIfInBounds_toArray, List.set_cons_zero, List.set_cons_succ]
  refine @wpG_tk _ _ _ _ _ (some 48) ((bif c7 then .pointer (some ⟨w.heap.size, 3, none⟩) else undef)) _ _ rfl (by cases c7 with | false => exact .no (by rfl) | true => exact (.val (by rfl) (fun W hg => by go_simp))) ?_
  simp only [Act.put, List.setIfInBounds_toArray, List.set_cons_zero, List.set_cons_succ]
  refine @wpG_tk _ _ _ _ _ (some 49) ((bif c7 then .pointer (some ⟨w.heap.size, 4, none⟩) else undef)) _ _ rfl (by cases c7 with | false => exact .no (by rfl) | true => exact (.val (by rfl) (fun W hg => by go_simp))) ?_
  simp only [Act.put, List.setIfInBounds_toArray, List.set_cons_zero, List.set_cons_succ]
  refine @wpG_tk _ _ _ _ _ (some 50) ((bif c7 then .int .i64 b5 else undef)) _ _ rfl (by cases c7 with | false => exact .no (by rfl) | true => exact (.val (by rfl) (fun W hg => by have c := (R0.out.below hg 4 _ rfl).1; go_simp))) ?_
  simp only [Act.put, List.setIfInBounds_toArray, List.set_cons_zero, List.set_cons_succ]
  refine @wpG_tk _ _ _ _ _ (some 51) ((bif c7 then .pointer (some ⟨w.heap.size, 0, none⟩) else undef)) _ _ rfl (by cases c7 with | false => exact .no (by rfl) | true => exact (.val (by rfl) (fun W hg => by go_simp))) ?_
  simp only [Act.put, List.setIfInBounds_toArray, List.set_cons_zero, List.set_cons_succ]
  refine @wpG_tk _ _ _ _ _ (some 52) ((bif c7 then .pointer (some ⟨w.heap.size, 1, none⟩) else undef)) _ _ rfl (by cases c7 with | false => exact .no (by rfl) | true => exact (.val (by rfl) (fun W hg => by go_simp))) ?_
  simp only [Act.put, List.setIfInBounds_toArray, List.set_cons_zero, List.set_cons_succ]
  refine @wpG_tk _ _ _ _ _ (some 53) ((bif c7 then .int .i64 b2 else undef)) _ _ rfl (by cases c7 with | false => exact .no (by rfl) | true => exact (.val (by rfl) (fun W hg => by have c := (R0.out.below hg 1 _ rfl).1; go_simp))) ?_
  simp only [Act.put, List.setIfInBounds_toArray, List.set_cons_zero, List.set_cons_succ]
  refine @wpG_tk _ _ _ _ _ (some 54) ((bif c7 then .int .i64 (IntKind.i64.wrap (b5 - b2)) else undef)) _ _ rfl (by cases c7 with | false => exact .no (by rfl) | true => exact (.val (by rfl) (fun W hg => by go_simp))) ?_
  simp only [Act.put, List.setIfInBounds_toArray, List.set_cons_zero, List.set_cons_succ]
  refine @wpG_tk _ _ _ _ _ (some 55) ((bif c7 then .bool (decide (IntKind.i64.wrap (b5 - b2) ≤ 20)) else undef)) _ _ rfl (by cases c7 with | false => exact .no (by rfl) | true => exact (.val (by rfl) (fun W hg => by go_simp))) ?_
  simp only [Act.put, List.setIfInBounds_toArray, List.set_cons_zero, List.set_cons_succ]
  refine @wpG_tk _ _ _ _ _ (some 56) (.bool (c7 && (decide (IntKind.i64.wrap (b5 - b2) ≤ 20)))) _ _ rfl (.val (by rfl) (fun W hg => by cases c7 <;> go_simp)) ?_
  simp only [Act.put, List.setIfInBounds_toArray, List.set_cons_zero, List.set_cons_succ]
  obtain ⟨c8, hc8⟩ : ∃ b, b = (c7 && (decide (IntKind.i64.wrap (b5 - b2) ≤ 20))) := ⟨_, rfl⟩
  rw [← hc8]
  have Hc8 := Lib.hid hc8
  clear hc8
  refine @wpG_tk _ _ _ _ _ (some 57) (.bool c8) _ _ rfl (.val (by rfl) (fun _ _ => rfl)) ?_
  simp only [Act.put, List.setIfInBounds_toArray, List.set_cons_zero, List.set_cons_succ]
  refine @wpG_tk _ _ _ _ _ (some 58) ((bif c8 then .pointer (some ⟨w.heap.size, 3, none⟩) else undef)) _ _ rfl (by cases c8 with | false => exact .no (by rfl) | true => exact (.val (by rfl) (fun W hg => by go_simp))) ?_
  simp only [Act.put, List.setIfInBounds_toArray, List.set_cons_zero, List.set_cons_succ]
  refine @wpG_tk _ _ _ _ _ (some 59) ((bif c8 then .pointer (some ⟨w.heap.size, 5, none⟩) else undef)) _ _ rfl (by cases c8 with | false => exact .no (by rfl) | true => exact (.val (by rfl) (fun W hg => by go_simp))) ?_
  simp only [Act.put, List.setIfInBounds_toArray, List.set_cons_zero, List.set_cons_succ]
  refine @wpG_tk _ _ _ _ _ (some 60) ((bif c8 then .int .i64 b6 else undef)) _ _ rfl (by cases c8 with | false => exact .no (by rfl) | true => exact (.val (by rfl) (fun W hg => by have c := (R0.out.below hg 5 _ rfl).1; go_simp))) ?_
  simp only [Act.put, List.setIfInBounds_toArray, List.set_cons_zero, List.set_cons_succ]
  refine @wpG_tk _ _ _ _ _ (some 61) ((bif c8 then .pointer (some ⟨w.heap.size, 0, none⟩) else undef)) _ _ rfl (by cases c8 with | false => exact .no (by rfl) | true => exact (.val (by rfl) (fun W hg => by go_simp))) ?_
  simp only [Act.put, List.setIfInBounds_toArray, List.set_cons_zero, List.set_cons_succ]
  refine @wpG_tk _ _ _ _ _ (some 62) ((bif c8 then .pointer (some ⟨w.heap.size, 2, none⟩) else undef)) _ _ rfl (by cases c8 with | false => exact .no (by rfl) | true => exact (.val (by rfl) (fun W hg => by go_simp))) ?_
  simp only [Act.put, List.setIfInBounds_toArray, List.set_cons_zero, List.set_cons_succ]
  refine @wpG_tk _ _ _ _ _ (some 63) ((bif c8 then .int .i64 b3 else undef)) _ _ rfl (by cases c8 with | false => exact .no (by rfl) | true => exact (.val (by rfl) (fun W hg => by have c := (R0.out.below hg 2 _ rfl).1; go_simp))) ?_
  simp only [Act.put, List.setIfInBounds_toArray, List.set_cons_zero, List.set_cons_succ]
  refine @wpG_tk _ _ _ _ _ (some 64) ((bif c8 then .int .i64 (IntKind.i64.wrap (b6 - b3)) else undef)) _ _ rfl (by cases c8 with | false => exact .no (by rfl) | true => exact (.val (by rfl) (fun W hg => by go_simp))) ?_
  simp only [Act.put, List.setIfInBounds_toArray, List.set_cons_zero, List.set_cons_succ]
  refine @wpG_tk _ _ _ _ _ (some 65) ((bif c8 then .bool (decide (IntKind.i64.wrap (b6 - b3) ≤ 20)) else undef)) _ _ rfl (by cases c8 with | false => exact .no (by rfl) | true => exact (.val (by rfl) (fun W hg => by go_simp))) ?_
  simp only [Act.put, List.setIfInBounds_toArray, List.set_cons_zero, List.set_cons_succ]
  refine @wpG_tk _ _ _ _ _ (some 66) (.bool (c8 && (decide (IntKind.i64.wrap (b6 - b3) ≤ 20)))) _ _ rfl (.val (by rfl) (fun W hg => by cases c8 <;> go_simp)) ?_
  simp only [Act.put, List.setIfInBounds_toArray, List.set_cons_zero, List.set_cons_succ]
  obtain ⟨c9, hc9⟩ : ∃ b, b = (c8 && (decide (IntKind.i64.wrap (b6 - b3) ≤ 20))) := ⟨_, rfl⟩
  rw [← hc9]
  have Hc9 := Lib.hid hc9
  clear hc9
  refine @wpG_tk _ _ _ _ _ (some 2) (.bool c9) _ _ rfl (.val (by rfl) (fun _ _ => rfl)) ?_
  simp only [Act.put, List.setIfInBounds_toArray, List.set_cons_zero, List.set_cons_succ]
  refine wpG_done (fun V10 hv11 => ?_)
  have GC12 := Lib.hid hv11
  clear hv11
  go_wp2_with fail
  go_ret
  exact ⟨ret_bool (by rw [Hc9.out, Hc8.out, Hc7.out, Hc6.out, Hc5.out, Hc4.out, Hc3.out, Hc2.out, Hc1.out]; rfl), Gr.to G0.out GC12.out⟩

end Go.Proofs.Ytmjjkloeipoefaa
