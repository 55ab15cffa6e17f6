/-
  voxellaw05.MortonNextVisits, its walk.
-/
import Derived.Test.YtmjjkloeipoefaaMosan
import Derived.Test.YtmjjkloeipoefaaMo13
import Derived.Handy
namespace Go.Proofs.Ytmjjkloeipoefaa
open Go.RowKit
set_option linter.unusedVariables false
set_option maxRecDepth 1000000 in
set_option maxHeartbeats 4000000 in
theorem small_any (b1 b2 b3 b4 b5 b6 : Int) (w : World) :
    Calls Try.prog 31 #[.agg #[.int .i64 b1, .int .i64 b2, .int .i64 b3, .int .i64 b4, .int .i64 b5, .int .i64 b6]] w fun e w' => e = .returned (.bool (Mo.smallB b1 b2 b3 b4 b5 b6)) ∧ Below w.heap.size w w' := by
  obtain ⟨u, hu, r0, g0⟩ := rows1 w [.int .i64 b1, .int .i64 b2, .int .i64 b3, .int .i64 b4, .int .i64 b5, .int .i64 b6] 37
  have R0 := Lib.hid r0
  have G0 := Lib.hid g0
  have HU := Lib.hid hu
  clear hu g0 r0
  go_enter Try.func31, Try.ntmps31
  go_upto_region 1 with fail
  rw [← HU.out]
  refine wpG_region ?_
  refine @wpG_tk _ _ _ _ _ (some 3) (.pointer (some ⟨w.heap.size, 0, none⟩)) _ _ rfl (.val (by rfl) (fun W hg => by go_simp)) ?_
  simp only [Act.put, List.setIfInBounds_toArray, List.set_cons_zero, List.set_cons_succ]
  refine @wpG_tk _ _ _ _ _ (some 4) (.pointer (some ⟨w.heap.size, 0, none⟩)) _ _ rfl (.val (by rfl) (fun W hg => by go_simp)) ?_
  simp only [Act.put, List.setIfInBounds_toArray, List.set_cons_zero, List.set_cons_succ]
  refine @wpG_tk _ _ _ _ _ (some 5) (.int .i64 b1) _ _ rfl (.val (by rfl) (fun W hg => by have c := (R0.out.below hg 0 _ rfl).1; go_simp)) ?_
  simp only [Act.put, List.setIfInBounds_toArray, List.set_cons_zero, List.set_cons_succ]
  refine @wpG_tk _ _ _ _ _ (some 6) (.bool (decide (b1 ≥ (-100000)))) _ _ rfl (.val (by rfl) (fun W hg => by go_simp)) ?_
  simp only [Act.put, List.setIfInBounds_toArray, List.set_cons_zero, List.set_cons_succ]
  obtain ⟨c1, hc1⟩ : ∃ b, b = (decide (b1 ≥ (-100000))) := ⟨_, rfl⟩
  rw [← hc1]
  have Hc1 := Lib.hid hc1
  clear hc1
  refine @wpG_tk _ _ _ _ _ (some 7) (.bool c1) _ _ rfl (.val (by rfl) (fun _ _ => rfl)) ?_
  simp only [Act.put, List.setIfInBounds_toArray, List.set_cons_zero, List.set_cons_succ]
  refine @wpG_tk _ _ _ _ _ (some 8) ((bif c1 then .pointer (some ⟨w.heap.size, 0, none⟩) else undef)) _ _ rfl (by cases c1 with | false => exact .no (by rfl) | true => exact (.val (by rfl) (fun W hg => by go_simp))) ?_
  simp only [Act.put, List.setIfInBounds_toArray, List.set_cons_zero, List.set_cons_succ]
  refine @wpG_tk _ _ _ _ _ (some 9) ((bif c1 then .pointer (some ⟨w.heap.size, 1, none⟩) else undef)) _ _ rfl (by cases c1 with | false => exact .no (by rfl) | true => exact (.val (by rfl) (fun W hg => by go_simp))) ?_
  simp only [Act.put, List.setIfInBounds_toArray, List.set_cons_zero, List.set_cons_succ]
  refine @wpG_tk _ _ _ _ _ (some 10) ((bif c1 then .int .i64 b2 else undef)) _ _ rfl (by cases c1 with | false => exact .no (by rfl) | true => exact (.val (by rfl) (fun W hg => by have c := (R0.out.below hg 1 _ rfl).1; go_simp))) ?_
  simp only [Act.put, List.setIfInBounds_toArray, List.set_cons_zero, List.set_cons_succ]
  refine @wpG_tk _ _ _ _ _ (some 11) ((bif c1 then .bool (decide (b2 ≥ (-100000))) else undef)) _ _ rfl (by cases c1 with | false => exact .no (by rfl) | true => exact (.val (by rfl) (fun W hg => by go_simp))) ?_
  simp only [Act.put, List.setIfInBounds_toArray, List.set_cons_zero, List.set_cons_succ]
  refine @wpG_tk _ _ _ _ _ (some 12) (.bool (c1 && (decide (b2 ≥ (-100000))))) _ _ rfl (.val (by rfl) (fun W hg => by cases c1 <;> go_simp)) ?_
  simp only [Act.put, List.setIfInBounds_toArray, List.set_cons_zero, List.set_cons_succ]
  obtain ⟨c2, hc2⟩ : ∃ b, b = (c1 && (decide (b2 ≥ (-100000)))) := ⟨_, rfl⟩
  rw [← hc2]
  have Hc2 := Lib.hid hc2
  clear hc2
  refine @wpG_tk _ _ _ _ _ (some 13) (.bool c2) _ _ rfl (.val (by rfl) (fun _ _ => rfl)) ?_
  simp only [Act.put, List.setIfInBounds_toArray, List.set_cons_zero, List.set_cons_succ]
  refine @wpG_tk _ _ _ _ _ (some 14) ((bif c2 then .pointer (some ⟨w.heap.size, 0, none⟩) else undef)) _ _ rfl (by cases c2 with | false => exact .no (by rfl) | true => exact (.val (by rfl) (fun W hg => by go_simp))) ?_
  simp only [Act.put, List.setIfInBounds_toArray, List.set_cons_zero, List.set_cons_succ]
  refine @wpG_tk _ _ _ _ _ (some 15) ((bif c2 then .pointer (some ⟨w.heap.size, 2, none⟩) else undef)) _ _ rfl (by cases c2 with | false => exact .no (by rfl) | true => exact (.val (by rfl) (fun W hg => by go_simp))) ?_
  simp only [Act.put, List.setIfInBounds_toArray, List.set_cons_zero, List.set_cons_succ]
  refine @wpG_tk _ _ _ _ _ (some 16) ((bif c2 then .int .i64 b3 else undef)) _ _ rfl (by cases c2 with | false => exact .no (by rfl) | true => exact (.val (by rfl) (fun W hg => by have c := (R0.out.below hg 2 _ rfl).1; go_simp))) ?_
  simp only [Act.put, List.setIfInBounds_toArray, List.set_cons_zero, List.set_cons_succ]
  refine @wpG_tk _ _ _ _ _ (some 17) ((bif c2 then .bool (decide (b3 ≥ (-100000))) else undef)) _ _ rfl (by cases c2 with | false => exact .no (by rfl) | true => exact (.val (by rfl) (fun W hg => by go_simp))) ?_
  simp only [Act.put, List.setIfInBounds_toArray, List.set_cons_zero, List.set_cons_succ]
  refine @wpG_tk _ _ _ _ _ (some 18) (.bool (c2 && (decide (b3 ≥ (-100000))))) _ _ rfl (.val (by rfl) (fun W hg => by cases c2 <;> go_simp)) ?_
  simp only [Act.put, List.setIfInBounds_toArray, List.set_cons_zero, List.set_cons_succ]
  obtain ⟨c3, hc3⟩ : ∃ b, b = (c2 && (decide (b3 ≥ (-100000)))) := ⟨_, rfl⟩
  rw [← hc3]
  have Hc3 := Lib.hid hc3
  clear hc3
  refine @wpG_tk _ _ _ _ _ (some 19) (.bool c3) _ _ rfl (.val (by rfl) (fun _ _ => rfl)) ?_
  simp only [Act.put, List.setIfInBounds_toArray, List.set_cons_zero, List.set_cons_succ]
  refine @wpG_tk _ _ _ _ _ (some 20) ((bif c3 then .pointer (some ⟨w.heap.size, 3, none⟩) else undef)) _ _ rfl (by cases c3 with | false => exact .no (by rfl) | true => exact (.val (by rfl) (fun W hg => by go_simp))) ?_
  simp only [Act.put, List.setIfInBounds_toArray, List.set_cons_zero, List.set_cons_succ]
  refine @wpG_tk _ _ _ _ _ (some 21) ((bif c3 then .pointer (some ⟨w.heap.size, 3, none⟩) else undef)) _ _ rfl (by cases c3 with | false => exact .no (by rfl) | true => exact (.val (by rfl) (fun W hg => by go_simp))) ?_
  simp only [Act.put, List.setIfInBounds_toArray, List.set_cons_zero, List.set_cons_succ]
  refine @wpG_tk _ _ _ _ _ (some 22) ((bif c3 then .int .i64 b4 else undef)) _ _ rfl (by cases c3 with | false => exact .no (by rfl) | true => exact (.val (by rfl) (fun W hg => by have c := (R0.out.below hg 3 _ rfl).1; go_simp))) ?_
  simp only [Act.put, List.setIfInBounds_toArray, List.set_cons_zero, List.set_cons_succ]
  refine @wpG_tk _ _ _ _ _ (some 23) ((bif c3 then .bool (decide (b4 ≤ 100000)) else undef)) _ _ rfl (by cases c3 with | false => exact .no (by rfl) | true => exact (.val (by rfl) (fun W hg => by go_simp))) ?_
  simp only [Act.put, List.setIfInBounds_toArray, List.set_cons_zero, List.set_cons_succ]
  refine @wpG_tk _ _ _ _ _ (some 24) (.bool (c3 && (decide (b4 ≤ 100000)))) _ _ rfl (.val (by rfl) (fun W hg => by cases c3 <;> go_simp)) ?_
  simp only [Act.put, List.setIfInBounds_toArray, List.set_cons_zero, List.set_cons_succ]
  obtain ⟨c4, hc4⟩ : ∃ b, b = (c3 && (decide (b4 ≤ 100000))) := ⟨_, rfl⟩
  rw [← hc4]
  have Hc4 := Lib.hid hc4
  clear hc4
  refine @wpG_tk _ _ _ _ _ (some 25) (.bool c4) _ _ rfl (.val (by rfl) (fun _ _ => rfl)) ?_
  simp only [Act.put, List.setIfInBounds_toArray, List.set_cons_zero, List.set_cons_succ]
  refine @wpG_tk _ _ _ _ _ (some 26) ((bif c4 then .pointer (some ⟨w.heap.size, 3, none⟩) else undef)) _ _ rfl (by cases c4 with | false => exact .no (by rfl) | true => exact (.val (by rfl) (fun W hg => by go_simp))) ?_
  simp only [Act.put, List.setIfInBounds_toArray, List.set_cons_zero, List.set_cons_succ]
  refine @wpG_tk _ _ _ _ _ (some 27) ((bif c4 then .pointer (some ⟨w.heap.size, 4, none⟩) else undef)) _ _ rfl (by cases c4 with | false => exact .no (by rfl) | true => exact (.val (by rfl) (fun W hg => by go_simp))) ?_
  simp only [Act.put, List.setIfInBounds_toArray, List.set_cons_zero, List.set_cons_succ]
  refine @wpG_tk _ _ _ _ _ (some 28) ((bif c4 then .int .i64 b5 else undef)) _ _ rfl (by cases c4 with | false => exact .no (by rfl) | true => exact (.val (by rfl) (fun W hg => by have c := (R0.out.below hg 4 _ rfl).1; go_simp))) ?_
  simp only [Act.put, List.setIfInBounds_toArray, List.set_cons_zero, List.set_cons_succ]
  refine @wpG_tk _ _ _ _ _ (some 29) ((bif c4 then .bool (decide (b5 ≤ 100000)) else undef)) _ _ rfl (by cases c4 with | false => exact .no (by rfl) | true => exact (.val (by rfl) (fun W hg => by go_simp))) ?_
  simp only [Act.put, List.setIfInBounds_toArray, List.set_cons_zero, List.set_cons_succ]
  refine @wpG_tk _ _ _ _ _ (some 30) (.bool (c4 && (decide (b5 ≤ 100000)))) _ _ rfl (.val (by rfl) (fun W hg => by cases c4 <;> go_simp)) ?_
  simp only [Act.put, List.setIfInBounds_toArray, List.set_cons_zero, List.set_cons_succ]
  obtain ⟨c5, hc5⟩ : ∃ b, b = (c4 && (decide (b5 ≤ 100000))) := ⟨_, rfl⟩
  rw [← hc5]
  have Hc5 := Lib.hid hc5
  clear hc5
  refine @wpG_tk _ _ _ _ _ (some 31) (.bool c5) _ _ rfl (.val (by rfl) (fun _ _ => rfl)) ?_
  simp only [Act.put, List.setIfInBounds_toArray, List.set_cons_zero, List.set_cons_succ]
  refine @wpG_tk _ _ _ _ _ (some 32) ((bif c5 then .pointer (some ⟨w.heap.size, 3, none⟩) else undef)) _ _ rfl (by cases c5 with | false => exact .no (by rfl) | true => exact (.val (by rfl) (fun W hg => by go_simp))) ?_
  simp only [Act.put, List.setIfInBounds_toArray, List.set_cons_zero, List.set_cons_succ]
  refine @wpG_tk _ _ _ _ _ (some 33) ((bif c5 then .pointer (some ⟨w.heap.size, 5, none⟩) else undef)) _ _ rfl (by cases c5 with | false => exact .no (by rfl) | true => exact (.val (by rfl) (fun W hg => by go_simp))) ?_
  simp only [Act.put, List.setIfInBounds_toArray, List.set_cons_zero, List.set_cons_succ]
  refine @wpG_tk _ _ _ _ _ (some 34) ((bif c5 then .int .i64 b6 else undef)) _ _ rfl (by cases c5 with | false => exact .no (by rfl) | true => exact (.val (by rfl) (fun W hg => by have c := (R0.out.below hg 5 _ rfl).1; go_simp))) ?_
  simp only [Act.put, List.setIfInBounds_toArray, List.set_cons_zero, List.set_cons_succ]
  refine @wpG_tk _ _ _ _ _ (some 35) ((bif c5 then .bool (decide (b6 ≤ 100000)) else undef)) _ _ rfl (by cases c5 with | false => exact .no (by rfl) | true => exact (.val (by rfl) (fun W hg => by go_simp))) ?_
  simp only [Act.put, List.setIfInBounds_toArray, List.set_cons_zero, List.set_cons_succ]
  refine @wpG_tk _ _ _ _ _ (some 36) (.bool (c5 && (decide (b6 ≤ 100000)))) _ _ rfl (.val (by rfl) (fun W hg => by cases c5 <;> go_simp)) ?_
  simp only [Act.put, List.setIfInBounds_toArray, List.set_cons_zero, List.set_cons_succ]
  obtain ⟨c6, hc6⟩ : ∃ b, b = (c5 && (decide (b6 ≤ 100000))) := ⟨_, rfl⟩
  rw [← hc6]
  have Hc6 := Lib.hid hc6
  clear hc6
  refine @wpG_tk _ _ _ _ _ (some 37) (.bool c6) _ _ rfl (.val (by rfl) (fun _ _ => rfl)) ?_
  simp only [Act.put, List.setIfInBounds_toArray, List.set_cons_zero, List.set_cons_succ]
  refine @wpG_tk _ _ _ _ _ (some 38) ((bif c6 then .pointer (some ⟨w.heap.size, 3, none⟩) else undef)) _ _ rfl (by cases c6 with | false => exact .no (by rfl) | true => exact (.val (by rfl) (fun W hg => by go_simp))) ?_
  simp only [Act.put, List.setIfInBounds_toArray, List.set_cons_zero, List.set_cons_succ]
  refine @wpG_tk _ _ _ _ _ (some 39) ((bif c6 then .pointer (some ⟨w.heap.size, 3, none⟩) else undef)) _ _ rfl (by cases c6 with | false => exact .no (by rfl) | true => exact (.val (by rfl) (fun W hg => by go_simp))) ?_
  simp only [Act.put, List.setIfInBounds_toArray, List.set_cons_zero, List.set_cons_succ]
  refine @wpG_tk _ _ _ _ _ (some 40) ((bif c6 then .int .i64 b4 else undef)) _ _ rfl (by cases c6 with | false => exact .no (by rfl) | true => exact (.val (by rfl) (fun W hg => by have c := (R0.out.below hg 3 _ rfl).1; go_simp))) ?_
  simp only [Act.put, List.setIfInBounds_toArray, List.set_cons_zero, List.set_cons_succ]
  refine @wpG_tk _ _ _ _ _ (some 41) ((bif c6 then .pointer (some ⟨w.heap.size, 0, none⟩) else undef)) _ _ rfl (by cases c6 with | false => exact .no (by rfl) | true => exact (.val (by rfl) (fun W hg => by go_simp))) ?_
  simp only [Act.put, List.setIfInBounds_toArray, List.set_cons_zero, List.set_cons_succ]
  refine @wpG_tk _ _ _ _ _ (some 42) ((bif c6 then .pointer (some ⟨w.heap.size, 0, none⟩) else undef)) _ _ rfl (by cases c6 with | false => exact .no (by rfl) | true => exact (.val (by rfl) (fun W hg => by go_simp))) ?_
  simp only [Act.put, List.setIfInBounds_toArray, List.set_cons_zero, List.set_cons_succ]
  refine @wpG_tk _ _ _ _ _ (some 43) ((bif c6 then .int .i64 b1 else undef)) _ _ rfl (by cases c6 with | false => exact .no (by rfl) | true => exact (.val (by rfl) (fun W hg => by have c := (R0.out.below hg 0 _ rfl).1; go_simp))) ?_
  simp only [Act.put, List.setIfInBounds_toArray, List.set_cons_zero, List.set_cons_succ]
  refine @wpG_tk _ _ _ _ _ (some 44) ((bif c6 then .int .i64 (IntKind.i64.wrap (b4 - b1)) else undef)) _ _ rfl (by cases c6 with | false => exact .no (by rfl) | true => exact (.val (by rfl) (fun W hg => by go_simp))) ?_
  simp only [Act.put, List.setIfInBounds_toArray, List.set_cons_zero, List.set_cons_succ]
  refine @wpG_tk _ _ _ _ _ (some 45) ((bif c6 then .bool (decide (IntKind.i64.wrap (b4 - b1) ≤ 20)) else undef)) _ _ rfl (by cases c6 with | false => exact .no (by rfl) | true => exact (.val (by rfl) (fun W hg => by go_simp))) ?_
  simp only [Act.put, List.setIfInBounds_toArray, List.set_cons_zero, List.set_cons_succ]
  refine @wpG_tk _ _ _ _ _ (some 46) (.bool (c6 && (decide (IntKind.i64.wrap (b4 - b1) ≤ 20)))) _ _ rfl (.val (by rfl) (fun W hg => by cases c6 <;> go_simp)) ?_
  simp only [Act.put, List.setIfInBounds_toArray, List.set_cons_zero, List.set_cons_succ]
  obtain ⟨c7, hc7⟩ : ∃ b, b = (c6 && (decide (IntKind.i64.wrap (b4 - b1) ≤ 20))) := ⟨_, rfl⟩
  rw [← hc7]
  have Hc7 := Lib.hid hc7
  clear hc7
  refine @wpG_tk _ _ _ _ _ (some 47) (.bool c7) _ _ rfl (.val (by rfl) (fun _ _ => rfl)) ?_
  simp only [Act.put, List.setIfInBounds_toArray, List.set_cons_zero, List.set_cons_succ]
  refine @wpG_tk _ _ _ _ _ (some 48) ((bif c7 then .pointer (some ⟨w.heap.size, 3, none⟩) else undef)) _ _ rfl (by cases c7 with | false => exact .no (by rfl) | true => exact (.val (by rfl) (fun W hg => by go_simp))) ?_
  simp only [Act.put, List.setIfInBounds_toArray, List.set_cons_zero, List.set_cons_succ]
  refine @wpG_tk _ _ _ _ _ (some 49) ((bif c7 then .pointer (some ⟨w.heap.size, 4, none⟩) else undef)) _ _ rfl (by cases c7 with | false => exact .no (by rfl) | true => exact (.val (by rfl) (fun W hg => by go_simp))) ?_
  simp only [Act.put, List.setIfInBounds_toArray, List.set_cons_zero, List.set_cons_succ]
  refine @wpG_tk _ _ _ _ _ (some 50) ((bif c7 then .int .i64 b5 else undef)) _ _ rfl (by cases c7 with | false => exact .no (by rfl) | true => exact (.val (by rfl) (fun W hg => by have c := (R0.out.below hg 4 _ rfl).1; go_simp))) ?_
  simp only [Act.put, List.setIfInBounds_toArray, List.set_cons_zero, List.set_cons_succ]
  refine @wpG_tk _ _ _ _ _ (some 51) ((bif c7 then .pointer (some ⟨w.heap.size, 0, none⟩) else undef)) _ _ rfl (by cases c7 with | false => exact .no (by rfl) | true => exact (.val (by rfl) (fun W hg => by go_simp))) ?_
  simp only [Act.put, List.setIfInBounds_toArray, List.set_cons_zero, List.set_cons_succ]
  refine @wpG_tk _ _ _ _ _ (some 52) ((bif c7 then .pointer (some ⟨w.heap.size, 1, none⟩) else undef)) _ _ rfl (by cases c7 with | false => exact .no (by rfl) | true => exact (.val (by rfl) (fun W hg => by go_simp))) ?_
  simp only [Act.put, List.setIfInBounds_toArray, List.set_cons_zero, List.set_cons_succ]
  refine @wpG_tk _ _ _ _ _ (some 53) ((bif c7 then .int .i64 b2 else undef)) _ _ rfl (by cases c7 with | false => exact .no (by rfl) | true => exact (.val (by rfl) (fun W hg => by have c := (R0.out.below hg 1 _ rfl).1; go_simp))) ?_
  simp only [Act.put, List.setIfInBounds_toArray, List.set_cons_zero, List.set_cons_succ]
  refine @wpG_tk _ _ _ _ _ (some 54) ((bif c7 then .int .i64 (IntKind.i64.wrap (b5 - b2)) else undef)) _ _ rfl (by cases c7 with | false => exact .no (by rfl) | true => exact (.val (by rfl) (fun W hg => by go_simp))) ?_
  simp only [Act.put, List.setIfInBounds_toArray, List.set_cons_zero, List.set_cons_succ]
  refine @wpG_tk _ _ _ _ _ (some 55) ((bif c7 then .bool (decide (IntKind.i64.wrap (b5 - b2) ≤ 20)) else undef)) _ _ rfl (by cases c7 with | false => exact .no (by rfl) | true => exact (.val (by rfl) (fun W hg => by go_simp))) ?_
  simp only [Act.put, List.setIfInBounds_toArray, List.set_cons_zero, List.set_cons_succ]
  refine @wpG_tk _ _ _ _ _ (some 56) (.bool (c7 && (decide (IntKind.i64.wrap (b5 - b2) ≤ 20)))) _ _ rfl (.val (by rfl) (fun W hg => by cases c7 <;> go_simp)) ?_
  simp only [Act.put, List.setIfInBounds_toArray, List.set_cons_zero, List.set_cons_succ]
  obtain ⟨c8, hc8⟩ : ∃ b, b = (c7 && (decide (IntKind.i64.wrap (b5 - b2) ≤ 20))) := ⟨_, rfl⟩
  rw [← hc8]
  have Hc8 := Lib.hid hc8
  clear hc8
  refine @wpG_tk _ _ _ _ _ (some 57) (.bool c8) _ _ rfl (.val (by rfl) (fun _ _ => rfl)) ?_
  simp only [Act.put, List.setIfInBounds_toArray, List.set_cons_zero, List.set_cons_succ]
  refine @wpG_tk _ _ _ _ _ (some 58) ((bif c8 then .pointer (some ⟨w.heap.size, 3, none⟩) else undef)) _ _ rfl (by cases c8 with | false => exact .no (by rfl) | true => exact (.val (by rfl) (fun W hg => by go_simp))) ?_
  simp only [Act.put, List.setIfInBounds_toArray, List.set_cons_zero, List.set_cons_succ]
  refine @wpG_tk _ _ _ _ _ (some 59) ((bif c8 then .pointer (some ⟨w.heap.size, 5, none⟩) else undef)) _ _ rfl (by cases c8 with | false => exact .no (by rfl) | true => exact (.val (by rfl) (fun W hg => by go_simp))) ?_
  simp only [Act.put, List.setIfInBounds_toArray, List.set_cons_zero, List.set_cons_succ]
  refine @wpG_tk _ _ _ _ _ (some 60) ((bif c8 then .int .i64 b6 else undef)) _ _ rfl (by cases c8 with | false => exact .no (by rfl) | true => exact (.val (by rfl) (fun W hg => by have c := (R0.out.below hg 5 _ rfl).1; go_simp))) ?_
  simp only [Act.put, List.setIfInBounds_toArray, List.set_cons_zero, List.set_cons_succ]
  refine @wpG_tk _ _ _ _ _ (some 61) ((bif c8 then .pointer (some ⟨w.heap.size, 0, none⟩) else undef)) _ _ rfl (by cases c8 with | false => exact .no (by rfl) | true => exact (.val (by rfl) (fun W hg => by go_simp))) ?_
  simp only [Act.put, List.setIfInBounds_toArray, List.set_cons_zero, List.set_cons_succ]
  refine @wpG_tk _ _ _ _ _ (some 62) ((bif c8 then .pointer (some ⟨w.heap.size, 2, none⟩) else undef)) _ _ rfl (by cases c8 with | false => exact .no (by rfl) | true => exact (.val (by rfl) (fun W hg => by go_simp))) ?_
  simp only [Act.put, List.setIfInBounds_toArray, List.set_cons_zero, List.set_cons_succ]
  refine @wpG_tk _ _ _ _ _ (some 63) ((bif c8 then .int .i64 b3 else undef)) _ _ rfl (by cases c8 with | false => exact .no (by rfl) | true => exact (.val (by rfl) (fun W hg => by have c := (R0.out.below hg 2 _ rfl).1; go_simp))) ?_
  simp only [Act.put, List.setIfInBounds_toArray, List.set_cons_zero, List.set_cons_succ]
  refine @wpG_tk _ _ _ _ _ (some 64) ((bif c8 then .int .i64 (IntKind.i64.wrap (b6 - b3)) else undef)) _ _ rfl (by cases c8 with | false => exact .no (by rfl) | true => exact (.val (by rfl) (fun W hg => by go_simp))) ?_
  simp only [Act.put, List.setIfInBounds_toArray, List.set_cons_zero, List.set_cons_succ]
  refine @wpG_tk _ _ _ _ _ (some 65) ((bif c8 then .bool (decide (IntKind.i64.wrap (b6 - b3) ≤ 20)) else undef)) _ _ rfl (by cases c8 with | false => exact .no (by rfl) | true => exact (.val (by rfl) (fun W hg => by go_simp))) ?_
  simp only [Act.put, List.setIfInBounds_toArray, List.set_cons_zero, List.set_cons_succ]
  refine @wpG_tk _ _ _ _ _ (some 66) (.bool (c8 && (decide (IntKind.i64.wrap (b6 - b3) ≤ 20)))) _ _ rfl (.val (by rfl) (fun W hg => by cases c8 <;> go_simp)) ?_
  simp only [Act.put, List.setIfInBounds_toArray, List.set_cons_zero, List.set_cons_succ]
  obtain ⟨c9, hc9⟩ : ∃ b, b = (c8 && (decide (IntKind.i64.wrap (b6 - b3) ≤ 20))) := ⟨_, rfl⟩
  rw [← hc9]
  have Hc9 := Lib.hid hc9
  clear hc9
  refine @wpG_tk _ _ _ _ _ (some 2) (.bool c9) _ _ rfl (.val (by rfl) (fun _ _ => rfl)) ?_
  simp only [Act.put, List.setIfInBounds_toArray, List.set_cons_zero, List.set_cons_succ]
  refine wpG_done (fun V10 hv11 => ?_)
  have GC12 := Lib.hid hv11
  clear hv11
  go_wp2_with fail
  go_ret
  exact ⟨ret_bool (by rw [Hc9.out, Hc8.out, Hc7.out, Hc6.out, Hc5.out, Hc4.out, Hc3.out, Hc2.out, Hc1.out]; rfl), Gr.to G0.out GC12.out⟩
set_option maxRecDepth 1000000 in
set_option maxHeartbeats 4000000 in
theorem law5_s (b1 b2 b3 b4 b5 b6 : Int) (w : World) (hsm : Mo.smallB b1 b2 b3 b4 b5 b6 = false) :
    Calls Try.prog 7 #[.agg #[.int .i64 b1, .int .i64 b2, .int .i64 b3, .int .i64 b4, .int .i64 b5, .int .i64 b6]] w fun e w' => e = .returned (.bool true) ∧ Below w.heap.size w w' := by
  have HSM := Lib.hid hsm
  clear hsm
  obtain ⟨u, hu, r0, g0⟩ := rows1 w [.int .i64 b1, .int .i64 b2, .int .i64 b3, .int .i64 b4, .int .i64 b5, .int .i64 b6] 37
  have R0 := Lib.hid r0
  have G0 := Lib.hid g0
  have HU := Lib.hid hu
  clear hu g0 r0
  go_enter Try.func7, Try.ntmps7
  go_upto_region 1 with fail
  rw [← HU.out]
  refine wpG_region ?_
  refine @wpG_tk _ _ _ _ _ (some 15) (.agg #[.int .i64 b1, .int .i64 b2, .int .i64 b3, .int .i64 b4, .int .i64 b5, .int .i64 b6]) _ _ rfl (.load_mid (by rfl) 37 (.tmp 1) rfl (w.heap.size) 0 rfl [.int .i64 b1, .int .i64 b2, .int .i64 b3, .int .i64 b4, .int .i64 b5, .int .i64 b6] _ (fun W hg => (R0.out.below hg).range) Try.underlying37 rfl (by kernel_rfl)) ?_
  simp only [Act.put, List.setIfInBounds_toArray, List.set_cons_zero, List.set_cons_succ]
  refine @wpG_tk _ _ _ _ _ (some 16) (.bool false) _ _ rfl (.call (f := 31) (args := #[.agg #[.int .i64 b1, .int .i64 b2, .int .i64 b3, .int .i64 b4, .int .i64 b5, .int .i64 b6]]) (by rfl) (fun W => by go_simp) (fun W hg => (HSM.out ▸ small_any b1 b2 b3 b4 b5 b6 W))) ?_
  simp only [Act.put, List.setIfInBounds_toArray, List.set_cons_zero, List.set_cons_succ]
  refine @wpG_tk _ _ _ _ _ (some 3) (.bool false) _ _ rfl (.val (by rfl) (fun _ _ => rfl)) ?_
  simp only [Act.put, List.setIfInBounds_toArray, List.set_cons_zero, List.set_cons_succ]
  refine wpG_done (fun V1 hv2 => ?_)
  have GC3 := Lib.hid hv2
  clear hv2
  go_upto_region 2 with fail
  refine wpG_region ?_
  refine @wpG_tk _ _ _ _ _ (some 17) (.bool false) _ _ rfl (.val (by rfl) (fun _ _ => rfl)) ?_
  simp only [Act.put, List.setIfInBounds_toArray, List.set_cons_zero, List.set_cons_succ]
  refine @wpG_tk _ _ _ _ _ (some 18) (.bool true) _ _ rfl (.val (by rfl) (fun W hg => by go_simp)) ?_
  simp only [Act.put, List.setIfInBounds_toArray, List.set_cons_zero, List.set_cons_succ]
  refine @wpG_tk _ _ _ _ _ (some 19) (.bool true) _ _ rfl (.val (by rfl) (fun _ _ => rfl)) ?_
  simp only [Act.put, List.setIfInBounds_toArray, List.set_cons_zero, List.set_cons_succ]
  refine @wpG_tk _ _ _ _ _ (some 20) (undef) _ _ rfl (.no (by rfl)) ?_
  simp only [Act.put, List.setIfInBounds_toArray, List.set_cons_zero, List.set_cons_succ]
  refine @wpG_tk _ _ _ _ _ (some 21) (undef) _ _ rfl (.no (by rfl)) ?_
  simp only [Act.put, List.setIfInBounds_toArray, List.set_cons_zero, List.set_cons_succ]
  refine @wpG_tk _ _ _ _ _ (some 22) (undef) _ _ rfl (.no (by rfl)) ?_
  simp only [Act.put, List.setIfInBounds_toArray, List.set_cons_zero, List.set_cons_succ]
  refine @wpG_tk _ _ _ _ _ (some 23) (undef) _ _ rfl (.no (by rfl)) ?_
  simp only [Act.put, List.setIfInBounds_toArray, List.set_cons_zero, List.set_cons_succ]
  refine @wpG_tk _ _ _ _ _ (some 24) (undef) _ _ rfl (.no (by rfl)) ?_
  simp only [Act.put, List.setIfInBounds_toArray, List.set_cons_zero, List.set_cons_succ]
  refine @wpG_tk _ _ _ _ _ (some 25) (undef) _ _ rfl (.no (by rfl)) ?_
  simp only [Act.put, List.setIfInBounds_toArray, List.set_cons_zero, List.set_cons_succ]
  refine @wpG_tk _ _ _ _ _ (some 26) (undef) _ _ rfl (.no (by rfl)) ?_
  simp only [Act.put, List.setIfInBounds_toArray, List.set_cons_zero, List.set_cons_succ]
  refine @wpG_tk _ _ _ _ _ (some 27) (undef) _ _ rfl (.no (by rfl)) ?_
  simp only [Act.put, List.setIfInBounds_toArray, List.set_cons_zero, List.set_cons_succ]
  refine @wpG_tk _ _ _ _ _ (some 28) (.bool true) _ _ rfl (.val (by rfl) (fun W hg => by go_simp)) ?_
  simp only [Act.put, List.setIfInBounds_toArray, List.set_cons_zero, List.set_cons_succ]
  refine @wpG_tk _ _ _ _ _ (some 29) (.bool true) _ _ rfl (.val (by rfl) (fun _ _ => rfl)) ?_
  simp only [Act.put, List.setIfInBounds_toArray, List.set_cons_zero, List.set_cons_succ]
  refine @wpG_tk _ _ _ _ _ (some 30) (undef) _ _ rfl (.no (by rfl)) ?_
  simp only [Act.put, List.setIfInBounds_toArray, List.set_cons_zero, List.set_cons_succ]
  refine @wpG_tk _ _ _ _ _ (some 31) (undef) _ _ rfl (.no (by rfl)) ?_
  simp only [Act.put, List.setIfInBounds_toArray, List.set_cons_zero, List.set_cons_succ]
  refine @wpG_tk _ _ _ _ _ (some 32) (undef) _ _ rfl (.no (by rfl)) ?_
  simp only [Act.put, List.setIfInBounds_toArray, List.set_cons_zero, List.set_cons_succ]
  refine @wpG_tk _ _ _ _ _ (some 33) (undef) _ _ rfl (.no (by rfl)) ?_
  simp only [Act.put, List.setIfInBounds_toArray, List.set_cons_zero, List.set_cons_succ]
  refine @wpG_tk _ _ _ _ _ (some 34) (undef) _ _ rfl (.no (by rfl)) ?_
  simp only [Act.put, List.setIfInBounds_toArray, List.set_cons_zero, List.set_cons_succ]
  refine @wpG_tk _ _ _ _ _ (some 35) (undef) _ _ rfl (.no (by rfl)) ?_
  simp only [Act.put, List.setIfInBounds_toArray, List.set_cons_zero, List.set_cons_succ]
  refine @wpG_tk _ _ _ _ _ (some 36) (undef) _ _ rfl (.no (by rfl)) ?_
  simp only [Act.put, List.setIfInBounds_toArray, List.set_cons_zero, List.set_cons_succ]
  refine @wpG_tk _ _ _ _ _ (some 37) (undef) _ _ rfl (.no (by rfl)) ?_
  simp only [Act.put, List.setIfInBounds_toArray, List.set_cons_zero, List.set_cons_succ]
  refine @wpG_tk _ _ _ _ _ (some 38) (.bool true) _ _ rfl (.val (by rfl) (fun W hg => by go_simp)) ?_
  simp only [Act.put, List.setIfInBounds_toArray, List.set_cons_zero, List.set_cons_succ]
  refine @wpG_tk _ _ _ _ _ (some 39) (.bool true) _ _ rfl (.val (by rfl) (fun _ _ => rfl)) ?_
  simp only [Act.put, List.setIfInBounds_toArray, List.set_cons_zero, List.set_cons_succ]
  refine @wpG_tk _ _ _ _ _ (some 40) (undef) _ _ rfl (.no (by rfl)) ?_
  simp only [Act.put, List.setIfInBounds_toArray, List.set_cons_zero, List.set_cons_succ]
  refine @wpG_tk _ _ _ _ _ (some 41) (undef) _ _ rfl (.no (by rfl)) ?_
  simp only [Act.put, List.setIfInBounds_toArray, List.set_cons_zero, List.set_cons_succ]
  refine @wpG_tk _ _ _ _ _ (some 42) (undef) _ _ rfl (.no (by rfl)) ?_
  simp only [Act.put, List.setIfInBounds_toArray, List.set_cons_zero, List.set_cons_succ]
  refine @wpG_tk _ _ _ _ _ (some 43) (undef) _ _ rfl (.no (by rfl)) ?_
  simp only [Act.put, List.setIfInBounds_toArray, List.set_cons_zero, List.set_cons_succ]
  refine @wpG_tk _ _ _ _ _ (some 44) (undef) _ _ rfl (.no (by rfl)) ?_
  simp only [Act.put, List.setIfInBounds_toArray, List.set_cons_zero, List.set_cons_succ]
  refine @wpG_tk _ _ _ _ _ (some 45) (undef) _ _ rfl (.no (by rfl)) ?_
  simp only [Act.put, List.setIfInBounds_toArray, List.set_cons_zero, List.set_cons_succ]
  refine @wpG_tk _ _ _ _ _ (some 46) (undef) _ _ rfl (.no (by rfl)) ?_
  simp only [Act.put, List.setIfInBounds_toArray, List.set_cons_zero, List.set_cons_succ]
  refine @wpG_tk _ _ _ _ _ (some 47) (undef) _ _ rfl (.no (by rfl)) ?_
  simp only [Act.put, List.setIfInBounds_toArray, List.set_cons_zero, List.set_cons_succ]
  refine @wpG_tk _ _ _ _ _ (some 48) (.bool true) _ _ rfl (.val (by rfl) (fun W hg => by go_simp)) ?_
  simp only [Act.put, List.setIfInBounds_toArray, List.set_cons_zero, List.set_cons_succ]
  refine wpG_done (fun V4 hv5 => ?_)
  have GC6 := Lib.hid (GC3.out.trans hv5)
  clear hv5
  go_upto_region 3 with fail
  refine wpG_region ?_
  refine @wpG_tk _ _ _ _ _ (some 49) (.bool true) _ _ rfl (.call (f := 21) (args := #[]) (by rfl) (fun W => by go_simp) (fun W hg => sanity_any W)) ?_
  simp only [Act.put, List.setIfInBounds_toArray, List.set_cons_zero, List.set_cons_succ]
  refine @wpG_tk _ _ _ _ _ (some 2) (.bool true) _ _ rfl (.val (by rfl) (fun _ _ => rfl)) ?_
  simp only [Act.put, List.setIfInBounds_toArray, List.set_cons_zero, List.set_cons_succ]
  refine wpG_done (fun V7 hv8 => ?_)
  have GC9 := Lib.hid (GC6.out.trans hv8)
  clear hv8
  go_wp2_with fail
  go_ret
  exact ⟨rfl, Gr.to G0.out GC9.out⟩
set_option maxRecDepth 1000000 in
set_option maxHeartbeats 4000000 in
theorem law5_0 (b1 b2 b3 b4 b5 b6 : Int) (w : World) (hsm : Mo.smallB b1 b2 b3 b4 b5 b6 = true) (h0 : IntKind.i64.wrap (b4 - b1) > 10) :
    Calls Try.prog 7 #[.agg #[.int .i64 b1, .int .i64 b2, .int .i64 b3, .int .i64 b4, .int .i64 b5, .int .i64 b6]] w fun e w' => e = .returned (.bool true) ∧ Below w.heap.size w w' := by
  have HSM := Lib.hid hsm
  clear hsm
  obtain ⟨u, hu, r0, g0⟩ := rows1 w [.int .i64 b1, .int .i64 b2, .int .i64 b3, .int .i64 b4, .int .i64 b5, .int .i64 b6] 37
  have R0 := Lib.hid r0
  have G0 := Lib.hid g0
  have HU := Lib.hid hu
  clear hu g0 r0
  go_enter Try.func7, Try.ntmps7
  go_upto_region 1 with fail
  rw [← HU.out]
  refine wpG_region ?_
  refine @wpG_tk _ _ _ _ _ (some 15) (.agg #[.int .i64 b1, .int .i64 b2, .int .i64 b3, .int .i64 b4, .int .i64 b5, .int .i64 b6]) _ _ rfl (.load_mid (by rfl) 37 (.tmp 1) rfl (w.heap.size) 0 rfl [.int .i64 b1, .int .i64 b2, .int .i64 b3, .int .i64 b4, .int .i64 b5, .int .i64 b6] _ (fun W hg => (R0.out.below hg).range) Try.underlying37 rfl (by kernel_rfl)) ?_
  simp only [Act.put, List.setIfInBounds_toArray, List.set_cons_zero, List.set_cons_succ]
  refine @wpG_tk _ _ _ _ _ (some 16) (.bool true) _ _ rfl (.call (f := 31) (args := #[.agg #[.int .i64 b1, .int .i64 b2, .int .i64 b3, .int .i64 b4, .int .i64 b5, .int .i64 b6]]) (by rfl) (fun W => by go_simp) (fun W hg => (HSM.out ▸ small_any b1 b2 b3 b4 b5 b6 W))) ?_
  simp only [Act.put, List.setIfInBounds_toArray, List.set_cons_zero, List.set_cons_succ]
  refine @wpG_tk _ _ _ _ _ (some 3) (.bool true) _ _ rfl (.val (by rfl) (fun _ _ => rfl)) ?_
  simp only [Act.put, List.setIfInBounds_toArray, List.set_cons_zero, List.set_cons_succ]
  refine wpG_done (fun V1 hv2 => ?_)
  have GC3 := Lib.hid hv2
  clear hv2
  go_upto_region 2 with fail
  refine wpG_region ?_
  refine @wpG_tk _ _ _ _ _ (some 17) (.bool true) _ _ rfl (.val (by rfl) (fun _ _ => rfl)) ?_
  simp only [Act.put, List.setIfInBounds_toArray, List.set_cons_zero, List.set_cons_succ]
  refine @wpG_tk _ _ _ _ _ (some 18) (.bool false) _ _ rfl (.val (by rfl) (fun W hg => by go_simp)) ?_
  simp only [Act.put, List.setIfInBounds_toArray, List.set_cons_zero, List.set_cons_succ]
  refine @wpG_tk _ _ _ _ _ (some 19) (.bool false) _ _ rfl (.val (by rfl) (fun _ _ => rfl)) ?_
  simp only [Act.put, List.setIfInBounds_toArray, List.set_cons_zero, List.set_cons_succ]
  refine @wpG_tk _ _ _ _ _ (some 20) (.pointer (some ⟨w.heap.size, 3, none⟩)) _ _ rfl (.val (by rfl) (fun W hg => by go_simp)) ?_
  simp only [Act.put, List.setIfInBounds_toArray, List.set_cons_zero, List.set_cons_succ]
  refine @wpG_tk _ _ _ _ _ (some 21) (.pointer (some ⟨w.heap.size, 3, none⟩)) _ _ rfl (.val (by rfl) (fun W hg => by go_simp)) ?_
  simp only [Act.put, List.setIfInBounds_toArray, List.set_cons_zero, List.set_cons_succ]
  refine @wpG_tk _ _ _ _ _ (some 22) (.int .i64 b4) _ _ rfl (.val (by rfl) (fun W hg => by have c := (R0.out.below (GC3.out.trans hg) 3 _ rfl).1; go_simp)) ?_
  simp only [Act.put, List.setIfInBounds_toArray, List.set_cons_zero, List.set_cons_succ]
  refine @wpG_tk _ _ _ _ _ (some 23) (.pointer (some ⟨w.heap.size, 0, none⟩)) _ _ rfl (.val (by rfl) (fun W hg => by go_simp)) ?_
  simp only [Act.put, List.setIfInBounds_toArray, List.set_cons_zero, List.set_cons_succ]
  refine @wpG_tk _ _ _ _ _ (some 24) (.pointer (some ⟨w.heap.size, 0, none⟩)) _ _ rfl (.val (by rfl) (fun W hg => by go_simp)) ?_
  simp only [Act.put, List.setIfInBounds_toArray, List.set_cons_zero, List.set_cons_succ]
  refine @wpG_tk _ _ _ _ _ (some 25) (.int .i64 b1) _ _ rfl (.val (by rfl) (fun W hg => by have c := (R0.out.below (GC3.out.trans hg) 0 _ rfl).1; go_simp)) ?_
  simp only [Act.put, List.setIfInBounds_toArray, List.set_cons_zero, List.set_cons_succ]
  refine @wpG_tk _ _ _ _ _ (some 26) (.int .i64 (IntKind.i64.wrap (b4 - b1))) _ _ rfl (.val (by rfl) (fun W hg => by go_simp)) ?_
  simp only [Act.put, List.setIfInBounds_toArray, List.set_cons_zero, List.set_cons_succ]
  refine @wpG_tk _ _ _ _ _ (some 27) (.bool true) _ _ rfl (.val (by rfl) (fun W hg => by have hq : (IntKind.i64.wrap (b4 - b1) > 10) := (by omega); first | (go_simp; done) | (go_simp <;> omega))) ?_
  simp only [Act.put, List.setIfInBounds_toArray, List.set_cons_zero, List.set_cons_succ]
  refine @wpG_tk _ _ _ _ _ (some 28) (.bool true) _ _ rfl (.val (by rfl) (fun W hg => by go_simp)) ?_
  simp only [Act.put, List.setIfInBounds_toArray, List.set_cons_zero, List.set_cons_succ]
  refine @wpG_tk _ _ _ _ _ (some 29) (.bool true) _ _ rfl (.val (by rfl) (fun _ _ => rfl)) ?_
  simp only [Act.put, List.setIfInBounds_toArray, List.set_cons_zero, List.set_cons_succ]
  refine @wpG_tk _ _ _ _ _ (some 30) (undef) _ _ rfl (.no (by rfl)) ?_
  simp only [Act.put, List.setIfInBounds_toArray, List.set_cons_zero, List.set_cons_succ]
  refine @wpG_tk _ _ _ _ _ (some 31) (undef) _ _ rfl (.no (by rfl)) ?_
  simp only [Act.put, List.setIfInBounds_toArray, List.set_cons_zero, List.set_cons_succ]
  refine @wpG_tk _ _ _ _ _ (some 32) (undef) _ _ rfl (.no (by rfl)) ?_
  simp only [Act.put, List.setIfInBounds_toArray, List.set_cons_zero, List.set_cons_succ]
  refine @wpG_tk _ _ _ _ _ (some 33) (undef) _ _ rfl (.no (by rfl)) ?_
  simp only [Act.put, List.setIfInBounds_toArray, List.set_cons_zero, List.set_cons_succ]
  refine @wpG_tk _ _ _ _ _ (some 34) (undef) _ _ rfl (.no (by rfl)) ?_
  simp only [Act.put, List.setIfInBounds_toArray, List.set_cons_zero, List.set_cons_succ]
  refine @wpG_tk _ _ _ _ _ (some 35) (undef) _ _ rfl (.no (by rfl)) ?_
  simp only [Act.put, List.setIfInBounds_toArray, List.set_cons_zero, List.set_cons_succ]
  refine @wpG_tk _ _ _ _ _ (some 36) (undef) _ _ rfl (.no (by rfl)) ?_
  simp only [Act.put, List.setIfInBounds_toArray, List.set_cons_zero, List.set_cons_succ]
  refine @wpG_tk _ _ _ _ _ (some 37) (undef) _ _ rfl (.no (by rfl)) ?_
  simp only [Act.put, List.setIfInBounds_toArray, List.set_cons_zero, List.set_cons_succ]
  refine @wpG_tk _ _ _ _ _ (some 38) (.bool true) _ _ rfl (.val (by rfl) (fun W hg => by go_simp)) ?_
  simp only [Act.put, List.setIfInBounds_toArray, List.set_cons_zero, List.set_cons_succ]
  refine @wpG_tk _ _ _ _ _ (some 39) (.bool true) _ _ rfl (.val (by rfl) (fun _ _ => rfl)) ?_
  simp only [Act.put, List.setIfInBounds_toArray, List.set_cons_zero, List.set_cons_succ]
  refine @wpG_tk _ _ _ _ _ (some 40) (undef) _ _ rfl (.no (by rfl)) ?_
  simp only [Act.put, List.setIfInBounds_toArray, List.set_cons_zero, List.set_cons_succ]
  refine @wpG_tk _ _ _ _ _ (some 41) (undef) _ _ rfl (.no (by rfl)) ?_
  simp only [Act.put, List.setIfInBounds_toArray, List.set_cons_zero, List.set_cons_succ]
  refine @wpG_tk _ _ _ _ _ (some 42) (undef) _ _ rfl (.no (by rfl)) ?_
  simp only [Act.put, List.setIfInBounds_toArray, List.set_cons_zero, List.set_cons_succ]
  refine @wpG_tk _ _ _ _ _ (some 43) (undef) _ _ rfl (.no (by rfl)) ?_
  simp only [Act.put, List.setIfInBounds_toArray, List.set_cons_zero, List.set_cons_succ]
  refine @wpG_tk _ _ _ _ _ (some 44) (undef) _ _ rfl (.no (by rfl)) ?_
  simp only [Act.put, List.setIfInBounds_toArray, List.set_cons_zero, List.set_cons_succ]
  refine @wpG_tk _ _ _ _ _ (some 45) (undef) _ _ rfl (.no (by rfl)) ?_
  simp only [Act.put, List.setIfInBounds_toArray, List.set_cons_zero, List.set_cons_succ]
  refine @wpG_tk _ _ _ _ _ (some 46) (undef) _ _ rfl (.no (by rfl)) ?_
  simp only [Act.put, List.setIfInBounds_toArray, List.set_cons_zero, List.set_cons_succ]
  refine @wpG_tk _ _ _ _ _ (some 47) (undef) _ _ rfl (.no (by rfl)) ?_
  simp only [Act.put, List.setIfInBounds_toArray, List.set_cons_zero, List.set_cons_succ]
  refine @wpG_tk _ _ _ _ _ (some 48) (.bool true) _ _ rfl (.val (by rfl) (fun W hg => by go_simp)) ?_
  simp only [Act.put, List.setIfInBounds_toArray, List.set_cons_zero, List.set_cons_succ]
  refine wpG_done (fun V4 hv5 => ?_)
  have GC6 := Lib.hid (GC3.out.trans hv5)
  clear hv5
  go_upto_region 3 with fail
  refine wpG_region ?_
  refine @wpG_tk _ _ _ _ _ (some 49) (.bool true) _ _ rfl (.call (f := 21) (args := #[]) (by rfl) (fun W => by go_simp) (fun W hg => sanity_any W)) ?_
  simp only [Act.put, List.setIfInBounds_toArray, List.set_cons_zero, List.set_cons_succ]
  refine @wpG_tk _ _ _ _ _ (some 2) (.bool true) _ _ rfl (.val (by rfl) (fun _ _ => rfl)) ?_
  simp only [Act.put, List.setIfInBounds_toArray, List.set_cons_zero, List.set_cons_succ]
  refine wpG_done (fun V7 hv8 => ?_)
  have GC9 := Lib.hid (GC6.out.trans hv8)
  clear hv8
  go_wp2_with fail
  go_ret
  exact ⟨rfl, Gr.to G0.out GC9.out⟩
set_option maxRecDepth 1000000 in
set_option maxHeartbeats 4000000 in
theorem law5_1 (b1 b2 b3 b4 b5 b6 : Int) (w : World) (hsm : Mo.smallB b1 b2 b3 b4 b5 b6 = true) (h0 : ¬ IntKind.i64.wrap (b4 - b1) > 10) (h1 : IntKind.i64.wrap (b5 - b2) > 10) :
    Calls Try.prog 7 #[.agg #[.int .i64 b1, .int .i64 b2, .int .i64 b3, .int .i64 b4, .int .i64 b5, .int .i64 b6]] w fun e w' => e = .returned (.bool true) ∧ Below w.heap.size w w' := by
  have HSM := Lib.hid hsm
  clear hsm
  obtain ⟨u, hu, r0, g0⟩ := rows1 w [.int .i64 b1, .int .i64 b2, .int .i64 b3, .int .i64 b4, .int .i64 b5, .int .i64 b6] 37
  have R0 := Lib.hid r0
  have G0 := Lib.hid g0
  have HU := Lib.hid hu
  clear hu g0 r0
  go_enter Try.func7, Try.ntmps7
  go_upto_region 1 with fail
  rw [← HU.out]
  refine wpG_region ?_
  refine @wpG_tk _ _ _ _ _ (some 15) (.agg #[.int .i64 b1, .int .i64 b2, .int .i64 b3, .int .i64 b4, .int .i64 b5, .int .i64 b6]) _ _ rfl (.load_mid (by rfl) 37 (.tmp 1) rfl (w.heap.size) 0 rfl [.int .i64 b1, .int .i64 b2, .int .i64 b3, .int .i64 b4, .int .i64 b5, .int .i64 b6] _ (fun W hg => (R0.out.below hg).range) Try.underlying37 rfl (by kernel_rfl)) ?_
  simp only [Act.put, List.setIfInBounds_toArray, List.set_cons_zero, List.set_cons_succ]
  refine @wpG_tk _ _ _ _ _ (some 16) (.bool true) _ _ rfl (.call (f := 31) (args := #[.agg #[.int .i64 b1, .int .i64 b2, .int .i64 b3, .int .i64 b4, .int .i64 b5, .int .i64 b6]]) (by rfl) (fun W => by go_simp) (fun W hg => (HSM.out ▸ small_any b1 b2 b3 b4 b5 b6 W))) ?_
  simp only [Act.put, List.setIfInBounds_toArray, List.set_cons_zero, List.set_cons_succ]
  refine @wpG_tk _ _ _ _ _ (some 3) (.bool true) _ _ rfl (.val (by rfl) (fun _ _ => rfl)) ?_
  simp only [Act.put, List.setIfInBounds_toArray, List.set_cons_zero, List.set_cons_succ]
  refine wpG_done (fun V1 hv2 => ?_)
  have GC3 := Lib.hid hv2
  clear hv2
  go_upto_region 2 with fail
  refine wpG_region ?_
  refine @wpG_tk _ _ _ _ _ (some 17) (.bool true) _ _ rfl (.val (by rfl) (fun _ _ => rfl)) ?_
  simp only [Act.put, List.setIfInBounds_toArray, List.set_cons_zero, List.set_cons_succ]
  refine @wpG_tk _ _ _ _ _ (some 18) (.bool false) _ _ rfl (.val (by rfl) (fun W hg => by go_simp)) ?_
  simp only [Act.put, List.setIfInBounds_toArray, List.set_cons_zero, List.set_cons_succ]
  refine @wpG_tk _ _ _ _ _ (some 19) (.bool false) _ _ rfl (.val (by rfl) (fun _ _ => rfl)) ?_
  simp only [Act.put, List.setIfInBounds_toArray, List.set_cons_zero, List.set_cons_succ]
  refine @wpG_tk _ _ _ _ _ (some 20) (.pointer (some ⟨w.heap.size, 3, none⟩)) _ _ rfl (.val (by rfl) (fun W hg => by go_simp)) ?_
  simp only [Act.put, List.setIfInBounds_toArray, List.set_cons_zero, List.set_cons_succ]
  refine @wpG_tk _ _ _ _ _ (some 21) (.pointer (some ⟨w.heap.size, 3, none⟩)) _ _ rfl (.val (by rfl) (fun W hg => by go_simp)) ?_
  simp only [Act.put, List.setIfInBounds_toArray, List.set_cons_zero, List.set_cons_succ]
  refine @wpG_tk _ _ _ _ _ (some 22) (.int .i64 b4) _ _ rfl (.val (by rfl) (fun W hg => by have c := (R0.out.below (GC3.out.trans hg) 3 _ rfl).1; go_simp)) ?_
  simp only [Act.put, List.setIfInBounds_toArray, List.set_cons_zero, List.set_cons_succ]
  refine @wpG_tk _ _ _ _ _ (some 23) (.pointer (some ⟨w.heap.size, 0, none⟩)) _ _ rfl (.val (by rfl) (fun W hg => by go_simp)) ?_
  simp only [Act.put, List.setIfInBounds_toArray, List.set_cons_zero, List.set_cons_succ]
  refine @wpG_tk _ _ _ _ _ (some 24) (.pointer (some ⟨w.heap.size, 0, none⟩)) _ _ rfl (.val (by rfl) (fun W hg => by go_simp)) ?_
  simp only [Act.put, List.setIfInBounds_toArray, List.set_cons_zero, List.set_cons_succ]
  refine @wpG_tk _ _ _ _ _ (some 25) (.int .i64 b1) _ _ rfl (.val (by rfl) (fun W hg => by have c := (R0.out.below (GC3.out.trans hg) 0 _ rfl).1; go_simp)) ?_
  simp only [Act.put, List.setIfInBounds_toArray, List.set_cons_zero, List.set_cons_succ]
  refine @wpG_tk _ _ _ _ _ (some 26) (.int .i64 (IntKind.i64.wrap (b4 - b1))) _ _ rfl (.val (by rfl) (fun W hg => by go_simp)) ?_
  simp only [Act.put, List.setIfInBounds_toArray, List.set_cons_zero, List.set_cons_succ]
  refine @wpG_tk _ _ _ _ _ (some 27) (.bool false) _ _ rfl (.val (by rfl) (fun W hg => by have hq : ¬ (IntKind.i64.wrap (b4 - b1) > 10) := (by omega); first | (go_simp; done) | (go_simp <;> omega))) ?_
  simp only [Act.put, List.setIfInBounds_toArray, List.set_cons_zero, List.set_cons_succ]
  refine @wpG_tk _ _ _ _ _ (some 28) (.bool false) _ _ rfl (.val (by rfl) (fun W hg => by go_simp)) ?_
  simp only [Act.put, List.setIfInBounds_toArray, List.set_cons_zero, List.set_cons_succ]
  refine @wpG_tk _ _ _ _ _ (some 29) (.bool false) _ _ rfl (.val (by rfl) (fun _ _ => rfl)) ?_
  simp only [Act.put, List.setIfInBounds_toArray, List.set_cons_zero, List.set_cons_succ]
  refine @wpG_tk _ _ _ _ _ (some 30) (.pointer (some ⟨w.heap.size, 3, none⟩)) _ _ rfl (.val (by rfl) (fun W hg => by go_simp)) ?_
  simp only [Act.put, List.setIfInBounds_toArray, List.set_cons_zero, List.set_cons_succ]
  refine @wpG_tk _ _ _ _ _ (some 31) (.pointer (some ⟨w.heap.size, 4, none⟩)) _ _ rfl (.val (by rfl) (fun W hg => by go_simp)) ?_
  simp only [Act.put, List.setIfInBounds_toArray, List.set_cons_zero, List.set_cons_succ]
  refine @wpG_tk _ _ _ _ _ (some 32) (.int .i64 b5) _ _ rfl (.val (by rfl) (fun W hg => by have c := (R0.out.below (GC3.out.trans hg) 4 _ rfl).1; go_simp)) ?_
  simp only [Act.put, List.setIfInBounds_toArray, List.set_cons_zero, List.set_cons_succ]
  refine @wpG_tk _ _ _ _ _ (some 33) (.pointer (some ⟨w.heap.size, 0, none⟩)) _ _ rfl (.val (by rfl) (fun W hg => by go_simp)) ?_
  simp only [Act.put, List.setIfInBounds_toArray, List.set_cons_zero, List.set_cons_succ]
  refine @wpG_tk _ _ _ _ _ (some 34) (.pointer (some ⟨w.heap.size, 1, none⟩)) _ _ rfl (.val (by rfl) (fun W hg => by go_simp)) ?_
  simp only [Act.put, List.setIfInBounds_toArray, List.set_cons_zero, List.set_cons_succ]
  refine @wpG_tk _ _ _ _ _ (some 35) (.int .i64 b2) _ _ rfl (.val (by rfl) (fun W hg => by have c := (R0.out.below (GC3.out.trans hg) 1 _ rfl).1; go_simp)) ?_
  simp only [Act.put, List.setIfInBounds_toArray, List.set_cons_zero, List.set_cons_succ]
  refine @wpG_tk _ _ _ _ _ (some 36) (.int .i64 (IntKind.i64.wrap (b5 - b2))) _ _ rfl (.val (by rfl) (fun W hg => by go_simp)) ?_
  simp only [Act.put, List.setIfInBounds_toArray, List.set_cons_zero, List.set_cons_succ]
  refine @wpG_tk _ _ _ _ _ (some 37) (.bool true) _ _ rfl (.val (by rfl) (fun W hg => by have hq : (IntKind.i64.wrap (b5 - b2) > 10) := (by omega); first | (go_simp; done) | (go_simp <;> omega))) ?_
  simp only [Act.put, List.setIfInBounds_toArray, List.set_cons_zero, List.set_cons_succ]
  refine @wpG_tk _ _ _ _ _ (some 38) (.bool true) _ _ rfl (.val (by rfl) (fun W hg => by go_simp)) ?_
  simp only [Act.put, List.setIfInBounds_toArray, List.set_cons_zero, List.set_cons_succ]
  refine @wpG_tk _ _ _ _ _ (some 39) (.bool true) _ _ rfl (.val (by rfl) (fun _ _ => rfl)) ?_
  simp only [Act.put, List.setIfInBounds_toArray, List.set_cons_zero, List.set_cons_succ]
  refine @wpG_tk _ _ _ _ _ (some 40) (undef) _ _ rfl (.no (by rfl)) ?_
  simp only [Act.put, List.setIfInBounds_toArray, List.set_cons_zero, List.set_cons_succ]
  refine @wpG_tk _ _ _ _ _ (some 41) (undef) _ _ rfl (.no (by rfl)) ?_
  simp only [Act.put, List.setIfInBounds_toArray, List.set_cons_zero, List.set_cons_succ]
  refine @wpG_tk _ _ _ _ _ (some 42) (undef) _ _ rfl (.no (by rfl)) ?_
  simp only [Act.put, List.setIfInBounds_toArray, List.set_cons_zero, List.set_cons_succ]
  refine @wpG_tk _ _ _ _ _ (some 43) (undef) _ _ rfl (.no (by rfl)) ?_
  simp only [Act.put, List.setIfInBounds_toArray, List.set_cons_zero, List.set_cons_succ]
  refine @wpG_tk _ _ _ _ _ (some 44) (undef) _ _ rfl (.no (by rfl)) ?_
  simp only [Act.put, List.setIfInBounds_toArray, List.set_cons_zero, List.set_cons_succ]
  refine @wpG_tk _ _ _ _ _ (some 45) (undef) _ _ rfl (.no (by rfl)) ?_
  simp only [Act.put, List.setIfInBounds_toArray, List.set_cons_zero, List.set_cons_succ]
  refine @wpG_tk _ _ _ _ _ (some 46) (undef) _ _ rfl (.no (by rfl)) ?_
  simp only [Act.put, List.setIfInBounds_toArray, List.set_cons_zero, List.set_cons_succ]
  refine @wpG_tk _ _ _ _ _ (some 47) (undef) _ _ rfl (.no (by rfl)) ?_
  simp only [Act.put, List.setIfInBounds_toArray, List.set_cons_zero, List.set_cons_succ]
  refine @wpG_tk _ _ _ _ _ (some 48) (.bool true) _ _ rfl (.val (by rfl) (fun W hg => by go_simp)) ?_
  simp only [Act.put, List.setIfInBounds_toArray, List.set_cons_zero, List.set_cons_succ]
  refine wpG_done (fun V4 hv5 => ?_)
  have GC6 := Lib.hid (GC3.out.trans hv5)
  clear hv5
  go_upto_region 3 with fail
  refine wpG_region ?_
  refine @wpG_tk _ _ _ _ _ (some 49) (.bool true) _ _ rfl (.call (f := 21) (args := #[]) (by rfl) (fun W => by go_simp) (fun W hg => sanity_any W)) ?_
  simp only [Act.put, List.setIfInBounds_toArray, List.set_cons_zero, List.set_cons_succ]
  refine @wpG_tk _ _ _ _ _ (some 2) (.bool true) _ _ rfl (.val (by rfl) (fun _ _ => rfl)) ?_
  simp only [Act.put, List.setIfInBounds_toArray, List.set_cons_zero, List.set_cons_succ]
  refine wpG_done (fun V7 hv8 => ?_)
  have GC9 := Lib.hid (GC6.out.trans hv8)
  clear hv8
  go_wp2_with fail
  go_ret
  exact ⟨rfl, Gr.to G0.out GC9.out⟩
set_option maxRecDepth 1000000 in
set_option maxHeartbeats 4000000 in
theorem law5_2 (b1 b2 b3 b4 b5 b6 : Int) (w : World) (hsm : Mo.smallB b1 b2 b3 b4 b5 b6 = true) (h0 : ¬ IntKind.i64.wrap (b4 - b1) > 10) (h1 : ¬ IntKind.i64.wrap (b5 - b2) > 10) (h2 : IntKind.i64.wrap (b6 - b3) > 10) :
    Calls Try.prog 7 #[.agg #[.int .i64 b1, .int .i64 b2, .int .i64 b3, .int .i64 b4, .int .i64 b5, .int .i64 b6]] w fun e w' => e = .returned (.bool true) ∧ Below w.heap.size w w' := by
  have HSM := Lib.hid hsm
  clear hsm
  obtain ⟨u, hu, r0, g0⟩ := rows1 w [.int .i64 b1, .int .i64 b2, .int .i64 b3, .int .i64 b4, .int .i64 b5, .int .i64 b6] 37
  have R0 := Lib.hid r0
  have G0 := Lib.hid g0
  have HU := Lib.hid hu
  clear hu g0 r0
  go_enter Try.func7, Try.ntmps7
  go_upto_region 1 with fail
  rw [← HU.out]
  refine wpG_region ?_
  refine @wpG_tk _ _ _ _ _ (some 15) (.agg #[.int .i64 b1, .int .i64 b2, .int .i64 b3, .int .i64 b4, .int .i64 b5, .int .i64 b6]) _ _ rfl (.load_mid (by rfl) 37 (.tmp 1) rfl (w.heap.size) 0 rfl [.int .i64 b1, .int .i64 b2, .int .i64 b3, .int .i64 b4, .int .i64 b5, .int .i64 b6] _ (fun W hg => (R0.out.below hg).range) Try.underlying37 rfl (by kernel_rfl)) ?_
  simp only [Act.put, List.setIfInBounds_toArray, List.set_cons_zero, List.set_cons_succ]
  refine @wpG_tk _ _ _ _ _ (some 16) (.bool true) _ _ rfl (.call (f := 31) (args := #[.agg #[.int .i64 b1, .int .i64 b2, .int .i64 b3, .int .i64 b4, .int .i64 b5, .int .i64 b6]]) (by rfl) (fun W => by go_simp) (fun W hg => (HSM.out ▸ small_any b1 b2 b3 b4 b5 b6 W))) ?_
  simp only [Act.put, List.setIfInBounds_toArray, List.set_cons_zero, List.set_cons_succ]
  refine @wpG_tk _ _ _ _ _ (some 3) (.bool true) _ _ rfl (.val (by rfl) (fun _ _ => rfl)) ?_
  simp only [Act.put, List.setIfInBounds_toArray, List.set_cons_zero, List.set_cons_succ]
  refine wpG_done (fun V1 hv2 => ?_)
  have GC3 := Lib.hid hv2
  clear hv2
  go_upto_region 2 with fail
  refine wpG_region ?_
  refine @wpG_tk _ _ _ _ _ (some 17) (.bool true) _ _ rfl (.val (by rfl) (fun _ _ => rfl)) ?_
  simp only [Act.put, List.setIfInBounds_toArray, List.set_cons_zero, List.set_cons_succ]
  refine @wpG_tk _ _ _ _ _ (some 18) (.bool false) _ _ rfl (.val (by rfl) (fun W hg => by go_simp)) ?_
  simp only [Act.put, List.setIfInBounds_toArray, List.set_cons_zero, List.set_cons_succ]
  refine @wpG_tk _ _ _ _ _ (some 19) (.bool false) _ _ rfl (.val (by rfl) (fun _ _ => rfl)) ?_
  simp only [Act.put, List.setIfInBounds_toArray, List.set_cons_zero, List.set_cons_succ]
  refine @wpG_tk _ _ _ _ _ (some 20) (.pointer (some ⟨w.heap.size, 3, none⟩)) _ _ rfl (.val (by rfl) (fun W hg => by go_simp)) ?_
  simp only [Act.put, List.setIfInBounds_toArray, List.set_cons_zero, List.set_cons_succ]
  refine @wpG_tk _ _ _ _ _ (some 21) (.pointer (some ⟨w.heap.size, 3, none⟩)) _ _ rfl (.val (by rfl) (fun W hg => by go_simp)) ?_
  simp only [Act.put, List.setIfInBounds_toArray, List.set_cons_zero, List.set_cons_succ]
  refine @wpG_tk _ _ _ _ _ (some 22) (.int .i64 b4) _ _ rfl (.val (by rfl) (fun W hg => by have c := (R0.out.below (GC3.out.trans hg) 3 _ rfl).1; go_simp)) ?_
  simp only [Act.put, List.setIfInBounds_toArray, List.set_cons_zero, List.set_cons_succ]
  refine @wpG_tk _ _ _ _ _ (some 23) (.pointer (some ⟨w.heap.size, 0, none⟩)) _ _ rfl (.val (by rfl) (fun W hg => by go_simp)) ?_
  simp only [Act.put, List.setIfInBounds_toArray, List.set_cons_zero, List.set_cons_succ]
  refine @wpG_tk _ _ _ _ _ (some 24) (.pointer (some ⟨w.heap.size, 0, none⟩)) _ _ rfl (.val (by rfl) (fun W hg => by go_simp)) ?_
  simp only [Act.put, List.setIfInBounds_toArray, List.set_cons_zero, List.set_cons_succ]
  refine @wpG_tk _ _ _ _ _ (some 25) (.int .i64 b1) _ _ rfl (.val (by rfl) (fun W hg => by have c := (R0.out.below (GC3.out.trans hg) 0 _ rfl).1; go_simp)) ?_
  simp only [Act.put, List.setIfInBounds_toArray, List.set_cons_zero, List.set_cons_succ]
  refine @wpG_tk _ _ _ _ _ (some 26) (.int .i64 (IntKind.i64.wrap (b4 - b1))) _ _ rfl (.val (by rfl) (fun W hg => by go_simp)) ?_
  simp only [Act.put, List.setIfInBounds_toArray, List.set_cons_zero, List.set_cons_succ]
  refine @wpG_tk _ _ _ _ _ (some 27) (.bool false) _ _ rfl (.val (by rfl) (fun W hg => by have hq : ¬ (IntKind.i64.wrap (b4 - b1) > 10) := (by omega); first | (go_simp; done) | (go_simp <;> omega))) ?_
  simp only [Act.put, List.setIfInBounds_toArray, List.set_cons_zero, List.set_cons_succ]
  refine @wpG_tk _ _ _ _ _ (some 28) (.bool false) _ _ rfl (.val (by rfl) (fun W hg => by go_simp)) ?_
  simp only [Act.put, List.setIfInBounds_toArray, List.set_cons_zero, List.set_cons_succ]
  refine @wpG_tk _ _ _ _ _ (some 29) (.bool false) _ _ rfl (.val (by rfl) (fun _ _ => rfl)) ?_
  simp only [Act.put, List.setIfInBounds_toArray, List.set_cons_zero, List.set_cons_succ]
  refine @wpG_tk _ _ _ _ _ (some 30) (.pointer (some ⟨w.heap.size, 3, none⟩)) _ _ rfl (.val (by rfl) (fun W hg => by go_simp)) ?_
  simp only [Act.put, List.setIfInBounds_toArray, List.set_cons_zero, List.set_cons_succ]
  refine @wpG_tk _ _ _ _ _ (some 31) (.pointer (some ⟨w.heap.size, 4, none⟩)) _ _ rfl (.val (by rfl) (fun W hg => by go_simp)) ?_
  simp only [Act.put, List.setIfInBounds_toArray, List.set_cons_zero, List.set_cons_succ]
  refine @wpG_tk _ _ _ _ _ (some 32) (.int .i64 b5) _ _ rfl (.val (by rfl) (fun W hg => by have c := (R0.out.below (GC3.out.trans hg) 4 _ rfl).1; go_simp)) ?_
  simp only [Act.put, List.setIfInBounds_toArray, List.set_cons_zero, List.set_cons_succ]
  refine @wpG_tk _ _ _ _ _ (some 33) (.pointer (some ⟨w.heap.size, 0, none⟩)) _ _ rfl (.val (by rfl) (fun W hg => by go_simp)) ?_
  simp only [Act.put, List.setIfInBounds_toArray, List.set_cons_zero, List.set_cons_succ]
  refine @wpG_tk _ _ _ _ _ (some 34) (.pointer (some ⟨w.heap.size, 1, none⟩)) _ _ rfl (.val (by rfl) (fun W hg => by go_simp)) ?_
  simp only [Act.put, List.setIfInBounds_toArray, List.set_cons_zero, List.set_cons_succ]
  refine @wpG_tk _ _ _ _ _ (some 35) (.int .i64 b2) _ _ rfl (.val (by rfl) (fun W hg => by have c := (R0.out.below (GC3.out.trans hg) 1 _ rfl).1; go_simp)) ?_
  simp only [Act.put, List.setIfInBounds_toArray, List.set_cons_zero, List.set_cons_succ]
  refine @wpG_tk _ _ _ _ _ (some 36) (.int .i64 (IntKind.i64.wrap (b5 - b2))) _ _ rfl (.val (by rfl) (fun W hg => by go_simp)) ?_
  simp only [Act.put, List.setIfInBounds_toArray, List.set_cons_zero, List.set_cons_succ]
  refine @wpG_tk _ _ _ _ _ (some 37) (.bool false) _ _ rfl (.val (by rfl) (fun W hg => by have hq : ¬ (IntKind.i64.wrap (b5 - b2) > 10) := (by omega); first | (go_simp; done) | (go_simp <;> omega))) ?_
  simp only [Act.put, List.setIfInBounds_toArray, List.set_cons_zero, List.set_cons_succ]
  refine @wpG_tk _ _ _ _ _ (some 38) (.bool false) _ _ rfl (.val (by rfl) (fun W hg => by go_simp)) ?_
  simp only [Act.put, List.setIfInBounds_toArray, List.set_cons_zero, List.set_cons_succ]
  refine @wpG_tk _ _ _ _ _ (some 39) (.bool false) _ _ rfl (.val (by rfl) (fun _ _ => rfl)) ?_
  simp only [Act.put, List.setIfInBounds_toArray, List.set_cons_zero, List.set_cons_succ]
  refine @wpG_tk _ _ _ _ _ (some 40) (.pointer (some ⟨w.heap.size, 3, none⟩)) _ _ rfl (.val (by rfl) (fun W hg => by go_simp)) ?_
  simp only [Act.put, List.setIfInBounds_toArray, List.set_cons_zero, List.set_cons_succ]
  refine @wpG_tk _ _ _ _ _ (some 41) (.pointer (some ⟨w.heap.size, 5, none⟩)) _ _ rfl (.val (by rfl) (fun W hg => by go_simp)) ?_
  simp only [Act.put, List.setIfInBounds_toArray, List.set_cons_zero, List.set_cons_succ]
  refine @wpG_tk _ _ _ _ _ (some 42) (.int .i64 b6) _ _ rfl (.val (by rfl) (fun W hg => by have c := (R0.out.below (GC3.out.trans hg) 5 _ rfl).1; go_simp)) ?_
  simp only [Act.put, List.setIfInBounds_toArray, List.set_cons_zero, List.set_cons_succ]
  refine @wpG_tk _ _ _ _ _ (some 43) (.pointer (some ⟨w.heap.size, 0, none⟩)) _ _ rfl (.val (by rfl) (fun W hg => by go_simp)) ?_
  simp only [Act.put, List.setIfInBounds_toArray, List.set_cons_zero, List.set_cons_succ]
  refine @wpG_tk _ _ _ _ _ (some 44) (.pointer (some ⟨w.heap.size, 2, none⟩)) _ _ rfl (.val (by rfl) (fun W hg => by go_simp)) ?_
  simp only [Act.put, List.setIfInBounds_toArray, List.set_cons_zero, List.set_cons_succ]
  refine @wpG_tk _ _ _ _ _ (some 45) (.int .i64 b3) _ _ rfl (.val (by rfl) (fun W hg => by have c := (R0.out.below (GC3.out.trans hg) 2 _ rfl).1; go_simp)) ?_
  simp only [Act.put, List.setIfInBounds_toArray, List.set_cons_zero, List.set_cons_succ]
  refine @wpG_tk _ _ _ _ _ (some 46) (.int .i64 (IntKind.i64.wrap (b6 - b3))) _ _ rfl (.val (by rfl) (fun W hg => by go_simp)) ?_
  simp only [Act.put, List.setIfInBounds_toArray, List.set_cons_zero, List.set_cons_succ]
  refine @wpG_tk _ _ _ _ _ (some 47) (.bool true) _ _ rfl (.val (by rfl) (fun W hg => by have hq : (IntKind.i64.wrap (b6 - b3) > 10) := (by omega); first | (go_simp; done) | (go_simp <;> omega))) ?_
  simp only [Act.put, List.setIfInBounds_toArray, List.set_cons_zero, List.set_cons_succ]
  refine @wpG_tk _ _ _ _ _ (some 48) (.bool true) _ _ rfl (.val (by rfl) (fun W hg => by go_simp)) ?_
  simp only [Act.put, List.setIfInBounds_toArray, List.set_cons_zero, List.set_cons_succ]
  refine wpG_done (fun V4 hv5 => ?_)
  have GC6 := Lib.hid (GC3.out.trans hv5)
  clear hv5
  go_upto_region 3 with fail
  refine wpG_region ?_
  refine @wpG_tk _ _ _ _ _ (some 49) (.bool true) _ _ rfl (.call (f := 21) (args := #[]) (by rfl) (fun W => by go_simp) (fun W hg => sanity_any W)) ?_
  simp only [Act.put, List.setIfInBounds_toArray, List.set_cons_zero, List.set_cons_succ]
  refine @wpG_tk _ _ _ _ _ (some 2) (.bool true) _ _ rfl (.val (by rfl) (fun _ _ => rfl)) ?_
  simp only [Act.put, List.setIfInBounds_toArray, List.set_cons_zero, List.set_cons_succ]
  refine wpG_done (fun V7 hv8 => ?_)
  have GC9 := Lib.hid (GC6.out.trans hv8)
  clear hv8
  go_wp2_with fail
  go_ret
  exact ⟨rfl, Gr.to G0.out GC9.out⟩
set_option maxRecDepth 1000000 in
set_option maxHeartbeats 4000000 in
theorem law5_m (b1 b2 b3 b4 b5 b6 : Int) (w : World) (hsm : Mo.smallB b1 b2 b3 b4 b5 b6 = true) (hr1 : max b1 b4 - b1 ≤ 10) (hr2 : max b2 b5 - b2 ≤ 10) (hr3 : max b3 b6 - b3 ≤ 10) (hbb : (-100000 ≤ b1 ∧ b4 ≤ 100000) ∧ (-100000 ≤ b2 ∧ b5 ≤ 100000) ∧ (-100000 ≤ b3 ∧ b6 ≤ 100000)) (h0 : ¬ IntKind.i64.wrap (b4 - b1) > 10) (h1 : ¬ IntKind.i64.wrap (b5 - b2) > 10) (h2 : ¬ IntKind.i64.wrap (b6 - b3) > 10) :
    Calls Try.prog 7 #[.agg #[.int .i64 b1, .int .i64 b2, .int .i64 b3, .int .i64 b4, .int .i64 b5, .int .i64 b6]] w fun e w' => e = .returned (.bool true) ∧ Below w.heap.size w w' := by
  have HSM := Lib.hid hsm
  clear hsm
  obtain ⟨IZ, hIZ0⟩ : ∃ I, I = Mo.iv b3 (max b3 b6) := ⟨_, rfl⟩
  obtain ⟨T, hT0⟩ : ∃ T, T = Mo.iv b2 (max b2 b5) * IZ := ⟨_, rfl⟩
  obtain ⟨N, hN0⟩ : ∃ N, N = Mo.total b1 b2 b3 b4 b5 b6 := ⟨_, rfl⟩
  have hIZ : 0 ≤ IZ ∧ IZ ≤ 10 := by rw [hIZ0]; exact Mo.iv_bd (by omega) (by omega)
  have hIY := Mo.iv_bd (a := b2) (z := max b2 b5) (k := 10) (by omega) (by omega)
  have hIX := Mo.iv_bd (a := b1) (z := max b1 b4) (k := 10) (by omega) (by omega)
  have hT : 0 ≤ T ∧ T ≤ 100 := by rw [hT0]; exact ⟨Int.mul_nonneg hIY.1 hIZ.1, Int.mul_le_mul hIY.2 hIZ.2 hIZ.1 (by omega)⟩
  have hNT : (N : Int) = Mo.iv b1 (max b1 b4) * T := by rw [hN0, Mo.total_eq, hT0, hIZ0]
  have hNb : N ≤ 1000 := by
    have : (N : Int) ≤ 10 * 100 := by rw [hNT]; exact Int.mul_le_mul hIX.2 hT.2 hT.1 (by omega)
    omega
  have HIZ := Lib.hid hIZ0.symm
  have HTT2 := Lib.hid hT0.symm
  have HNT := Lib.hid hNT.symm
  have HNT2 := Lib.hid hN0
  clear hIZ0 hT0 hN0 hIY hIX hNT
  obtain ⟨u, hu, r0, g0⟩ := rows1 w [.int .i64 b1, .int .i64 b2, .int .i64 b3, .int .i64 b4, .int .i64 b5, .int .i64 b6] 37
  have R0 := Lib.hid r0
  have G0 := Lib.hid g0
  have HU := Lib.hid hu
  clear hu g0 r0
  go_enter Try.func7, Try.ntmps7
  go_upto_region 1 with fail
  rw [← HU.out]
  refine wpG_region ?_
  refine @wpG_tk _ _ _ _ _ (some 15) (.agg #[.int .i64 b1, .int .i64 b2, .int .i64 b3, .int .i64 b4, .int .i64 b5, .int .i64 b6]) _ _ rfl (.load_mid (by rfl) 37 (.tmp 1) rfl (w.heap.size) 0 rfl [.int .i64 b1, .int .i64 b2, .int .i64 b3, .int .i64 b4, .int .i64 b5, .int .i64 b6] _ (fun W hg => (R0.out.below hg).range) Try.underlying37 rfl (by kernel_rfl)) ?_
  simp only [Act.put, List.setIfInBounds_toArray, List.set_cons_zero, List.set_cons_succ]
  refine @wpG_tk _ _ _ _ _ (some 16) (.bool true) _ _ rfl (.call (f := 31) (args := #[.agg #[.int .i64 b1, .int .i64 b2, .int .i64 b3, .int .i64 b4, .int .i64 b5, .int .i64 b6]]) (by rfl) (fun W => by go_simp) (fun W hg => (HSM.out ▸ small_any b1 b2 b3 b4 b5 b6 W))) ?_
  simp only [Act.put, List.setIfInBounds_toArray, List.set_cons_zero, List.set_cons_succ]
  refine @wpG_tk _ _ _ _ _ (some 3) (.bool true) _ _ rfl (.val (by rfl) (fun _ _ => rfl)) ?_
  simp only [Act.put, List.setIfInBounds_toArray, List.set_cons_zero, List.set_cons_succ]
  refine wpG_done (fun V1 hv2 => ?_)
  have GC3 := Lib.hid hv2
  clear hv2
  go_upto_region 2 with fail
  refine wpG_region ?_
  refine @wpG_tk _ _ _ _ _ (some 17) (.bool true) _ _ rfl (.val (by rfl) (fun _ _ => rfl)) ?_
  simp only [Act.put, List.setIfInBounds_toArray, List.set_cons_zero, List.set_cons_succ]
  refine @wpG_tk _ _ _ _ _ (some 18) (.bool false) _ _ rfl (.val (by rfl) (fun W hg => by go_simp)) ?_
  simp only [Act.put, List.setIfInBounds_toArray, List.set_cons_zero, List.set_cons_succ]
  refine @wpG_tk _ _ _ _ _ (some 19) (.bool false) _ _ rfl (.val (by rfl) (fun _ _ => rfl)) ?_
  simp only [Act.put, List.setIfInBounds_toArray, List.set_cons_zero, List.set_cons_succ]
  refine @wpG_tk _ _ _ _ _ (some 20) (.pointer (some ⟨w.heap.size, 3, none⟩)) _ _ rfl (.val (by rfl) (fun W hg => by go_simp)) ?_
  simp only [Act.put, List.setIfInBounds_toArray, List.set_cons_zero, List.set_cons_succ]
  refine @wpG_tk _ _ _ _ _ (some 21) (.pointer (some ⟨w.heap.size, 3, none⟩)) _ _ rfl (.val (by rfl) (fun W hg => by go_simp)) ?_
  simp only [Act.put, List.setIfInBounds_toArray, List.set_cons_zero, List.set_cons_succ]
  refine @wpG_tk _ _ _ _ _ (some 22) (.int .i64 b4) _ _ rfl (.val (by rfl) (fun W hg => by have c := (R0.out.below (GC3.out.trans hg) 3 _ rfl).1; go_simp)) ?_
  simp only [Act.put, List.setIfInBounds_toArray, List.set_cons_zero, List.set_cons_succ]
  refine @wpG_tk _ _ _ _ _ (some 23) (.pointer (some ⟨w.heap.size, 0, none⟩)) _ _ rfl (.val (by rfl) (fun W hg => by go_simp)) ?_
  simp only [Act.put, List.setIfInBounds_toArray, List.set_cons_zero, List.set_cons_succ]
  refine @wpG_tk _ _ _ _ _ (some 24) (.pointer (some ⟨w.heap.size, 0, none⟩)) _ _ rfl (.val (by rfl) (fun W hg => by go_simp)) ?_
  simp only [Act.put, List.setIfInBounds_toArray, List.set_cons_zero, List.set_cons_succ]
  refine @wpG_tk _ _ _ _ _ (some 25) (.int .i64 b1) _ _ rfl (.val (by rfl) (fun W hg => by have c := (R0.out.below (GC3.out.trans hg) 0 _ rfl).1; go_simp)) ?_
  simp only [Act.put, List.setIfInBounds_toArray, List.set_cons_zero, List.set_cons_succ]
  refine @wpG_tk _ _ _ _ _ (some 26) (.int .i64 (IntKind.i64.wrap (b4 - b1))) _ _ rfl (.val (by rfl) (fun W hg => by go_simp)) ?_
  simp only [Act.put, List.setIfInBounds_toArray, List.set_cons_zero, List.set_cons_succ]
  refine @wpG_tk _ _ _ _ _ (some 27) (.bool false) _ _ rfl (.val (by rfl) (fun W hg => by have hq : ¬ (IntKind.i64.wrap (b4 - b1) > 10) := (by omega); first | (go_simp; done) | (go_simp <;> omega))) ?_
  simp only [Act.put, List.setIfInBounds_toArray, List.set_cons_zero, List.set_cons_succ]
  refine @wpG_tk _ _ _ _ _ (some 28) (.bool false) _ _ rfl (.val (by rfl) (fun W hg => by go_simp)) ?_
  simp only [Act.put, List.setIfInBounds_toArray, List.set_cons_zero, List.set_cons_succ]
  refine @wpG_tk _ _ _ _ _ (some 29) (.bool false) _ _ rfl (.val (by rfl) (fun _ _ => rfl)) ?_
  simp only [Act.put, List.setIfInBounds_toArray, List.set_cons_zero, List.set_cons_succ]
  refine @wpG_tk _ _ _ _ _ (some 30) (.pointer (some ⟨w.heap.size, 3, none⟩)) _ _ rfl (.val (by rfl) (fun W hg => by go_simp)) ?_
  simp only [Act.put, List.setIfInBounds_toArray, List.set_cons_zero, List.set_cons_succ]
  refine @wpG_tk _ _ _ _ _ (some 31) (.pointer (some ⟨w.heap.size, 4, none⟩)) _ _ rfl (.val (by rfl) (fun W hg => by go_simp)) ?_
  simp only [Act.put, List.setIfInBounds_toArray, List.set_cons_zero, List.set_cons_succ]
  refine @wpG_tk _ _ _ _ _ (some 32) (.int .i64 b5) _ _ rfl (.val (by rfl) (fun W hg => by have c := (R0.out.below (GC3.out.trans hg) 4 _ rfl).1; go_simp)) ?_
  simp only [Act.put, List.setIfInBounds_toArray, List.set_cons_zero, List.set_cons_succ]
  refine @wpG_tk _ _ _ _ _ (some 33) (.pointer (some ⟨w.heap.size, 0, none⟩)) _ _ rfl (.val (by rfl) (fun W hg => by go_simp)) ?_
  simp only [Act.put, List.setIfInBounds_toArray, List.set_cons_zero, List.set_cons_succ]
  refine @wpG_tk _ _ _ _ _ (some 34) (.pointer (some ⟨w.heap.size, 1, none⟩)) _ _ rfl (.val (by rfl) (fun W hg => by go_simp)) ?_
  simp only [Act.put, List.setIfInBounds_toArray, List.set_cons_zero, List.set_cons_succ]
  refine @wpG_tk _ _ _ _ _ (some 35) (.int .i64 b2) _ _ rfl (.val (by rfl) (fun W hg => by have c := (R0.out.below (GC3.out.trans hg) 1 _ rfl).1; go_simp)) ?_
  simp only [Act.put, List.setIfInBounds_toArray, List.set_cons_zero, List.set_cons_succ]
  refine @wpG_tk _ _ _ _ _ (some 36) (.int .i64 (IntKind.i64.wrap (b5 - b2))) _ _ rfl (.val (by rfl) (fun W hg => by go_simp)) ?_
  simp only [Act.put, List.setIfInBounds_toArray, List.set_cons_zero, List.set_cons_succ]
  refine @wpG_tk _ _ _ _ _ (some 37) (.bool false) _ _ rfl (.val (by rfl) (fun W hg => by have hq : ¬ (IntKind.i64.wrap (b5 - b2) > 10) := (by omega); first | (go_simp; done) | (go_simp <;> omega))) ?_
  simp only [Act.put, List.setIfInBounds_toArray, List.set_cons_zero, List.set_cons_succ]
  refine @wpG_tk _ _ _ _ _ (some 38) (.bool false) _ _ rfl (.val (by rfl) (fun W hg => by go_simp)) ?_
  simp only [Act.put, List.setIfInBounds_toArray, List.set_cons_zero, List.set_cons_succ]
  refine @wpG_tk _ _ _ _ _ (some 39) (.bool false) _ _ rfl (.val (by rfl) (fun _ _ => rfl)) ?_
  simp only [Act.put, List.setIfInBounds_toArray, List.set_cons_zero, List.set_cons_succ]
  refine @wpG_tk _ _ _ _ _ (some 40) (.pointer (some ⟨w.heap.size, 3, none⟩)) _ _ rfl (.val (by rfl) (fun W hg => by go_simp)) ?_
  simp only [Act.put, List.setIfInBounds_toArray, List.set_cons_zero, List.set_cons_succ]
  refine @wpG_tk _ _ _ _ _ (some 41) (.pointer (some ⟨w.heap.size, 5, none⟩)) _ _ rfl (.val (by rfl) (fun W hg => by go_simp)) ?_
  simp only [Act.put, List.setIfInBounds_toArray, List.set_cons_zero, List.set_cons_succ]
  refine @wpG_tk _ _ _ _ _ (some 42) (.int .i64 b6) _ _ rfl (.val (by rfl) (fun W hg => by have c := (R0.out.below (GC3.out.trans hg) 5 _ rfl).1; go_simp)) ?_
  simp only [Act.put, List.setIfInBounds_toArray, List.set_cons_zero, List.set_cons_succ]
  refine @wpG_tk _ _ _ _ _ (some 43) (.pointer (some ⟨w.heap.size, 0, none⟩)) _ _ rfl (.val (by rfl) (fun W hg => by go_simp)) ?_
  simp only [Act.put, List.setIfInBounds_toArray, List.set_cons_zero, List.set_cons_succ]
  refine @wpG_tk _ _ _ _ _ (some 44) (.pointer (some ⟨w.heap.size, 2, none⟩)) _ _ rfl (.val (by rfl) (fun W hg => by go_simp)) ?_
  simp only [Act.put, List.setIfInBounds_toArray, List.set_cons_zero, List.set_cons_succ]
  refine @wpG_tk _ _ _ _ _ (some 45) (.int .i64 b3) _ _ rfl (.val (by rfl) (fun W hg => by have c := (R0.out.below (GC3.out.trans hg) 2 _ rfl).1; go_simp)) ?_
  simp only [Act.put, List.setIfInBounds_toArray, List.set_cons_zero, List.set_cons_succ]
  refine @wpG_tk _ _ _ _ _ (some 46) (.int .i64 (IntKind.i64.wrap (b6 - b3))) _ _ rfl (.val (by rfl) (fun W hg => by go_simp)) ?_
  simp only [Act.put, List.setIfInBounds_toArray, List.set_cons_zero, List.set_cons_succ]
  refine @wpG_tk _ _ _ _ _ (some 47) (.bool false) _ _ rfl (.val (by rfl) (fun W hg => by have hq : ¬ (IntKind.i64.wrap (b6 - b3) > 10) := (by omega); first | (go_simp; done) | (go_simp <;> omega))) ?_
  simp only [Act.put, List.setIfInBounds_toArray, List.set_cons_zero, List.set_cons_succ]
  refine @wpG_tk _ _ _ _ _ (some 48) (.bool false) _ _ rfl (.val (by rfl) (fun W hg => by go_simp)) ?_
  simp only [Act.put, List.setIfInBounds_toArray, List.set_cons_zero, List.set_cons_succ]
  refine wpG_done (fun V4 hv5 => ?_)
  have GC6 := Lib.hid (GC3.out.trans hv5)
  clear hv5
  clear h0 h1 h2
  go_upto_region 4 with fail
  refine wpG_region ?_
  refine @wpG_tk _ _ _ _ _ (some 4) (.int .i64 0) _ _ rfl (.val (by rfl) (fun _ _ => rfl)) ?_
  simp only [Act.put, List.setIfInBounds_toArray, List.set_cons_zero, List.set_cons_succ]
  refine wpG_done (fun V7 hv8 => ?_)
  have GC9 := Lib.hid (GC6.out.trans hv8)
  clear hv8
  go_upto_region 5 with fail
  refine wpG_region ?_
  refine @wpG_tk _ _ _ _ _ (some 50) (.pointer (some ⟨w.heap.size, 0, none⟩)) _ _ rfl (.val (by rfl) (fun W hg => by go_simp)) ?_
  simp only [Act.put, List.setIfInBounds_toArray, List.set_cons_zero, List.set_cons_succ]
  refine @wpG_tk _ _ _ _ _ (some 51) (.pointer (some ⟨w.heap.size, 0, none⟩)) _ _ rfl (.val (by rfl) (fun W hg => by go_simp)) ?_
  simp only [Act.put, List.setIfInBounds_toArray, List.set_cons_zero, List.set_cons_succ]
  refine @wpG_tk _ _ _ _ _ (some 52) (.int .i64 b1) _ _ rfl (.val (by rfl) (fun W hg => by have c := (R0.out.below (GC9.out.trans hg) 0 _ rfl).1; go_simp)) ?_
  simp only [Act.put, List.setIfInBounds_toArray, List.set_cons_zero, List.set_cons_succ]
  refine @wpG_tk _ _ _ _ _ (some 5) (.int .i64 b1) _ _ rfl (.val (by rfl) (fun _ _ => rfl)) ?_
  simp only [Act.put, List.setIfInBounds_toArray, List.set_cons_zero, List.set_cons_succ]
  refine wpG_done (fun V10 hv11 => ?_)
  have GC12 := Lib.hid (GC9.out.trans hv11)
  clear hv11
  have HGA := Lib.hid GC12.out
  go_wp2_with fail
  go_loopw [5, 4] (fun i v wr => ∃ x c0 : Int, i = .int .i64 x ∧ v = .int .i64 c0 ∧ b1 ≤ x ∧ x ≤ max b1 b4 ∧ c0 = Mo.iv b1 x * T ∧ Gr u wr) (fun i _ _ => (b4 - intOf i).toNat)
  case atStart => exact ⟨b1, 0, rfl, rfl, by omega, by omega, by rw [Mo.iv_self]; simp, HGA.out⟩
  case round =>
    obtain ⟨x, c0, rfl, rfl, hx1, hx2, hc0, hG⟩ := hrel
    have HG1 := Lib.hid hG
    have hb := Mo.iv_bd (a := b1) (z := x) (k := 10) (by omega) (by omega)
    have hcb0 : 0 ≤ c0 ∧ c0 ≤ 1000 := by rw [hc0]; exact ⟨Int.mul_nonneg hb.1 hT.1, Int.mul_le_mul hb.2 hT.2 hT.1 (by omega)⟩
    have HC0 := Lib.hid hc0
    clear hG hc0 hb
    by_cases hlt : x < b4
    rotate_left
    · have hxe : x = max b1 b4 := by omega
      have hN : c0 = (N : Int) := by rw [HC0.out, hxe, HNT.out]
      have HNN := Lib.hid hN
      clear hxe hN
      go_upto_region 6 with fail
      refine wpG_region ?_
      refine @wpG_tk _ _ _ _ _ (some 53) (.int .i64 x) _ _ rfl (.val (by rfl) (fun _ _ => rfl)) ?_
      simp only [Act.put, List.setIfInBounds_toArray, List.set_cons_zero, List.set_cons_succ]
      refine @wpG_tk _ _ _ _ _ (some 54) (.pointer (some ⟨w.heap.size, 3, none⟩)) _ _ rfl (.val (by rfl) (fun W hg => by go_simp)) ?_
      simp only [Act.put, List.setIfInBounds_toArray, List.set_cons_zero, List.set_cons_succ]
      refine @wpG_tk _ _ _ _ _ (some 55) (.pointer (some ⟨w.heap.size, 3, none⟩)) _ _ rfl (.val (by rfl) (fun W hg => by go_simp)) ?_
      simp only [Act.put, List.setIfInBounds_toArray, List.set_cons_zero, List.set_cons_succ]
      refine @wpG_tk _ _ _ _ _ (some 56) (.int .i64 b4) _ _ rfl (.val (by rfl) (fun W hg => by have c := (R0.out.below (HG1.out.trans hg) 3 _ rfl).1; go_simp)) ?_
      simp only [Act.put, List.setIfInBounds_toArray, List.set_cons_zero, List.set_cons_succ]
      refine @wpG_tk _ _ _ _ _ (some 57) (.bool false) _ _ rfl (.val (by rfl) (fun W hg => by have hq : ¬ (x < b4) := (by omega); first | (go_simp; done) | (go_simp <;> omega))) ?_
      simp only [Act.put, List.setIfInBounds_toArray, List.set_cons_zero, List.set_cons_succ]
      refine wpG_done (fun V13 hv14 => ?_)
      have GC15 := Lib.hid (HG1.out.trans hv14)
      clear hv14
      go_upto_region 17 with fail
      refine wpG_region ?_
      refine @wpG_tk _ _ _ _ _ (some 9) (.int .i64 0) _ _ rfl (.val (by rfl) (fun _ _ => rfl)) ?_
      simp only [Act.put, List.setIfInBounds_toArray, List.set_cons_zero, List.set_cons_succ]
      refine wpG_done (fun V16 hv17 => ?_)
      have GC18 := Lib.hid (GC15.out.trans hv17)
      clear hv17
      obtain ⟨n0, hn0⟩ : ∃ n, n = nextI b1 b2 b3 b4 b5 b6 0 := ⟨_, rfl⟩
      have HX0 := Lib.hid hn0
      clear hn0
      go_upto_region 18 with fail
      refine wpG_region ?_
      refine @wpG_tk _ _ _ _ _ (some 88) (.agg #[.int .i64 b1, .int .i64 b2, .int .i64 b3, .int .i64 b4, .int .i64 b5, .int .i64 b6]) _ _ rfl (.load_mid (by rfl) 37 (.tmp 1) rfl (w.heap.size) 0 rfl [.int .i64 b1, .int .i64 b2, .int .i64 b3, .int .i64 b4, .int .i64 b5, .int .i64 b6] _ (fun W hg => (R0.out.below (GC18.out.trans hg)).range) Try.underlying37 rfl (by kernel_rfl)) ?_
      simp only [Act.put, List.setIfInBounds_toArray, List.set_cons_zero, List.set_cons_succ]
      refine @wpG_tk _ _ _ _ _ (some 89) (.int .i64 n0) _ _ rfl (.call (f := 28) (args := #[.agg #[.int .i64 b1, .int .i64 b2, .int .i64 b3, .int .i64 b4, .int .i64 b5, .int .i64 b6], .int .i64 0]) (by rfl) (fun W => by go_simp) (fun W hg => (HX0.out ▸ next_any b1 b2 b3 b4 b5 b6 0 W))) ?_
      simp only [Act.put, List.setIfInBounds_toArray, List.set_cons_zero, List.set_cons_succ]
      refine @wpG_tk _ _ _ _ _ (some 10) (.int .i64 n0) _ _ rfl (.val (by rfl) (fun _ _ => rfl)) ?_
      simp only [Act.put, List.setIfInBounds_toArray, List.set_cons_zero, List.set_cons_succ]
      refine wpG_done (fun V19 hv20 => ?_)
      have GC21 := Lib.hid (GC18.out.trans hv20)
      clear hv20
      rw [HNN.out]
      have HRV := Lib.hid (R0.out.below GC21.out)
      have HGV := Lib.hid (Gr.to G0.out GC21.out)
      go_wp2_with fail
      go_loopw [9, 10] (fun i v wr => ∃ (k c : Nat) (n1 : Int), i = .int .i64 (c : Int) ∧ v = .int .i64 n1 ∧ k ≤ 4398046511104 ∧ c = Mo.cntR (Mo.pc b1 b2 b3 b4 b5 b6) 0 k ∧ n1 = nextI b1 b2 b3 b4 b5 b6 (k : Int) ∧ Row w.heap.size [.int .i64 b1, .int .i64 b2, .int .i64 b3, .int .i64 b4, .int .i64 b5, .int .i64 b6] wr ∧ Below w.heap.size w wr) (fun i _ _ => N + 1 - (intOf i).toNat)
      case atStart => exact ⟨0, 0, n0, rfl, rfl, by omega, rfl, HX0.out, HRV.out, HGV.out⟩
      case round =>
        obtain ⟨k, c, n1, rfl, rfl, hk, hc, hn1, hR, hG⟩ := hrel
        have HG2 := Lib.hid hG
        have HR2 := Lib.hid hR
        clear hG hR
        have hcN : c ≤ N := by rw [hc, HNT2.out]; exact Mo.cnt_le hk
        have hf := Mo.nextI_fnd b1 b2 b3 b4 b5 b6 (k : Int)
        rw [show Mo.nx b1 b2 b3 b4 b5 b6 (k : Int) 14 0 0 0 = n1 from hn1.symm] at hf
        clear hn1
        rcases hf with ⟨hv, hnone⟩ | ⟨v, hv, hv1, _, hv3, hv4, hv5⟩
        · have hce : c = N := by rw [hc, HNT2.out]; exact Mo.cnt_end hk hnone
          clear hnone hc hcN
          obtain rfl := hv
          obtain rfl : N = c := hce.symm
          go_upto_region 19 with fail
          refine wpG_region ?_
          refine @wpG_tk _ _ _ _ _ (some 90) (.int .i64 (-1)) _ _ rfl (.val (by rfl) (fun _ _ => rfl)) ?_
          simp only [Act.put, List.setIfInBounds_toArray, List.set_cons_zero, List.set_cons_succ]
          refine @wpG_tk _ _ _ _ _ (some 91) (.bool false) _ _ rfl (.val (by rfl) (fun W hg => by have hq : ¬ ((-1) ≥ 0) := (by omega); first | (go_simp; done) | (go_simp <;> omega))) ?_
          simp only [Act.put, List.setIfInBounds_toArray, List.set_cons_zero, List.set_cons_succ]
          refine @wpG_tk _ _ _ _ _ (some 92) (.bool false) _ _ rfl (.val (by rfl) (fun _ _ => rfl)) ?_
          simp only [Act.put, List.setIfInBounds_toArray, List.set_cons_zero, List.set_cons_succ]
          refine @wpG_tk _ _ _ _ _ (some 93) (undef) _ _ rfl (.no (by rfl)) ?_
          simp only [Act.put, List.setIfInBounds_toArray, List.set_cons_zero, List.set_cons_succ]
          refine @wpG_tk _ _ _ _ _ (some 94) (undef) _ _ rfl (.no (by rfl)) ?_
          simp only [Act.put, List.setIfInBounds_toArray, List.set_cons_zero, List.set_cons_succ]
          refine @wpG_tk _ _ _ _ _ (some 95) (undef) _ _ rfl (.no (by rfl)) ?_
          simp only [Act.put, List.setIfInBounds_toArray, List.set_cons_zero, List.set_cons_succ]
          refine @wpG_tk _ _ _ _ _ (some 96) (.bool false) _ _ rfl (.val (by rfl) (fun W hg => by go_simp)) ?_
          simp only [Act.put, List.setIfInBounds_toArray, List.set_cons_zero, List.set_cons_succ]
          refine wpG_done (fun V22 hv23 => ?_)
          have GC24 := Lib.hid hv23
          clear hv23
          go_upto_region 29 with fail
          refine wpG_region ?_
          refine @wpG_tk _ _ _ _ _ (some 125) (.bool true) _ _ rfl (.call (f := 21) (args := #[]) (by rfl) (fun W => by go_simp) (fun W hg => sanity_any W)) ?_
          simp only [Act.put, List.setIfInBounds_toArray, List.set_cons_zero, List.set_cons_succ]
          refine @wpG_tk _ _ _ _ _ (some 126) (.bool true) _ _ rfl (.val (by rfl) (fun _ _ => rfl)) ?_
          simp only [Act.put, List.setIfInBounds_toArray, List.set_cons_zero, List.set_cons_succ]
          refine @wpG_tk _ _ _ _ _ (some 127) (.int .i64 (N : Int)) _ _ rfl (.val (by rfl) (fun _ _ => rfl)) ?_
          simp only [Act.put, List.setIfInBounds_toArray, List.set_cons_zero, List.set_cons_succ]
          refine @wpG_tk _ _ _ _ _ (some 128) (.int .i64 (N : Int)) _ _ rfl (.val (by rfl) (fun _ _ => rfl)) ?_
          simp only [Act.put, List.setIfInBounds_toArray, List.set_cons_zero, List.set_cons_succ]
          refine @wpG_tk _ _ _ _ _ (some 129) (.bool true) _ _ rfl (.val (by rfl) (fun W hg => by go_simp)) ?_
          simp only [Act.put, List.setIfInBounds_toArray, List.set_cons_zero, List.set_cons_succ]
          refine @wpG_tk _ _ _ _ _ (some 130) (.bool true) _ _ rfl (.val (by rfl) (fun W hg => by go_simp)) ?_
          simp only [Act.put, List.setIfInBounds_toArray, List.set_cons_zero, List.set_cons_succ]
          refine @wpG_tk _ _ _ _ _ (some 2) (.bool true) _ _ rfl (.val (by rfl) (fun _ _ => rfl)) ?_
          simp only [Act.put, List.setIfInBounds_toArray, List.set_cons_zero, List.set_cons_succ]
          refine wpG_done (fun V25 hv26 => ?_)
          have GC27 := Lib.hid (GC24.out.trans hv26)
          clear hv26
          go_wp2_with fail
          go_ret
          exact ⟨rfl, Gr.to HG2.out GC27.out⟩
        · have hcn := Mo.cnt_next (k := k) (v := v) (by omega) hv4 hv5
          have hcle : Mo.cntR (Mo.pc b1 b2 b3 b4 b5 b6) 0 (v + 1) ≤ N := by rw [HNT2.out]; exact Mo.cnt_le (by omega)
          rw [hcn, ← hc] at hcle
          rw [← hc] at hcn
          have HCN := Lib.hid hcn.symm
          have hp := hv4
          unfold Mo.pc at hp
          rw [Bool.and_eq_true] at hp
          obtain ⟨d0, hd0⟩ : ∃ d, Mo.dec 0 (v : Int) = d := ⟨_, rfl⟩
          have HD0 := Lib.hid hd0
          obtain ⟨d1, hd1⟩ : ∃ d, Mo.dec 1 (v : Int) = d := ⟨_, rfl⟩
          have HD1 := Lib.hid hd1
          obtain ⟨d2, hd2⟩ : ∃ d, Mo.dec 2 (v : Int) = d := ⟨_, rfl⟩
          have HD2 := Lib.hid hd2
          rw [hd0, hd1, hd2] at hp
          have HK := Lib.hid hp.1
          have HCB := Lib.hid hp.2
          obtain ⟨n2, hn2⟩ : ∃ n, n = nextI b1 b2 b3 b4 b5 b6 ((v : Int) + 1) := ⟨_, rfl⟩
          have hf2 := Mo.nextI_fnd b1 b2 b3 b4 b5 b6 ((v : Int) + 1)
          rw [show Mo.nx b1 b2 b3 b4 b5 b6 ((v : Int) + 1) 14 0 0 0 = n2 from hn2.symm] at hf2
          have hn3 : n2 = nextI b1 b2 b3 b4 b5 b6 ((v + 1 : Nat) : Int) := by rw [hn2]; rfl
          have HX2 := Lib.hid hn2
          have HX3 := Lib.hid hn3
          have hn4 : n2 < 0 ∨ (0 ≤ n2 ∧ (v : Int) < n2) := by
            rcases hf2 with ⟨h, _⟩ | ⟨v2, h, h1, _⟩
            · left; omega
            · right; omega
          clear hf2 hn2 hn3 hv4 hv5 hp hcn hc hd0 hd1 hd2
          obtain rfl := hv
          go_upto_region 19 with fail
          refine wpG_region ?_
          refine @wpG_tk _ _ _ _ _ (some 90) (.int .i64 (v : Int)) _ _ rfl (.val (by rfl) (fun _ _ => rfl)) ?_
          simp only [Act.put, List.setIfInBounds_toArray, List.set_cons_zero, List.set_cons_succ]
          refine @wpG_tk _ _ _ _ _ (some 91) (.bool true) _ _ rfl (.val (by rfl) (fun W hg => by have hq : ((v : Int) ≥ 0) := (by omega); first | (go_simp; done) | (go_simp <;> omega))) ?_
          simp only [Act.put, List.setIfInBounds_toArray, List.set_cons_zero, List.set_cons_succ]
          refine @wpG_tk _ _ _ _ _ (some 92) (.bool true) _ _ rfl (.val (by rfl) (fun _ _ => rfl)) ?_
          simp only [Act.put, List.setIfInBounds_toArray, List.set_cons_zero, List.set_cons_succ]
          refine @wpG_tk _ _ _ _ _ (some 93) (.int .i64 (c : Int)) _ _ rfl (.val (by rfl) (fun _ _ => rfl)) ?_
          simp only [Act.put, List.setIfInBounds_toArray, List.set_cons_zero, List.set_cons_succ]
          refine @wpG_tk _ _ _ _ _ (some 94) (.int .i64 (N : Int)) _ _ rfl (.val (by rfl) (fun _ _ => rfl)) ?_
          simp only [Act.put, List.setIfInBounds_toArray, List.set_cons_zero, List.set_cons_succ]
          refine @wpG_tk _ _ _ _ _ (some 95) (.bool true) _ _ rfl (.val (by rfl) (fun W hg => by have hq : ((c : Int) ≤ (N : Int)) := (by omega); first | (go_simp; done) | (go_simp <;> omega))) ?_
          simp only [Act.put, List.setIfInBounds_toArray, List.set_cons_zero, List.set_cons_succ]
          refine @wpG_tk _ _ _ _ _ (some 96) (.bool true) _ _ rfl (.val (by rfl) (fun W hg => by go_simp)) ?_
          simp only [Act.put, List.setIfInBounds_toArray, List.set_cons_zero, List.set_cons_succ]
          refine wpG_done (fun V28 hv29 => ?_)
          have GC30 := Lib.hid hv29
          clear hv29
          go_upto_region 20 with fail
          refine wpG_region ?_
          refine @wpG_tk _ _ _ _ _ (some 98) (.int .i64 (v : Int)) _ _ rfl (.val (by rfl) (fun _ _ => rfl)) ?_
          simp only [Act.put, List.setIfInBounds_toArray, List.set_cons_zero, List.set_cons_succ]
          refine @wpG_tk _ _ _ _ _ (some 99) (.tuple #[.agg #[.int .i64 d0, .int .i64 d1, .int .i64 d2], .bool true]) _ _ rfl (.call (f := 9) (args := #[.int .i64 (v : Int)]) (by rfl) (fun W => by go_simp) (fun W hg => rename (decode_any (v : Int) W) (by rw [HD0.out, HD1.out, HD2.out, HK.out]))) ?_
          simp only [Act.put, List.setIfInBounds_toArray, List.set_cons_zero, List.set_cons_succ]
          refine @wpG_tk _ _ _ _ _ (some 97) (.tuple #[.agg #[.int .i64 d0, .int .i64 d1, .int .i64 d2], .bool true]) _ _ rfl (.val (by rfl) (fun _ _ => rfl)) ?_
          simp only [Act.put, List.setIfInBounds_toArray, List.set_cons_zero, List.set_cons_succ]
          refine @wpG_tk _ _ _ _ _ (some 100) (.agg #[.int .i64 d0, .int .i64 d1, .int .i64 d2]) _ _ rfl (.val (by rfl) (fun W hg => by go_simp)) ?_
          simp only [Act.put, List.setIfInBounds_toArray, List.set_cons_zero, List.set_cons_succ]
          refine @wpG_tk _ _ _ _ _ (some 101) (.bool true) _ _ rfl (.val (by rfl) (fun W hg => by go_simp)) ?_
          simp only [Act.put, List.setIfInBounds_toArray, List.set_cons_zero, List.set_cons_succ]
          refine wpG_val (some 11) rfl (by rfl) (fun W31 hg32 => ⟨.pointer (some ⟨W31.heap.size, 0, none⟩), W31.alloc (.cells #[.int .i64 0, .int .i64 0, .int .i64 0] 23), by (go_simp <;> rfl), ?_⟩)
          simp only [Act.put, List.setIfInBounds_toArray, List.set_cons_zero, List.set_cons_succ]
          refine wpG_store (none) rfl (by rfl) (fun W33 hg34 => ⟨_, run_store_mid 23 (.tmp 11) (.tmp 100) rfl (W31.heap.size) 0 #[.int .i64 d0, .int .i64 d1, .int .i64 d2] rfl rfl (Row.room hg34 3 rfl) (by kernel_rfl) (by kernel_rfl), ?_⟩)
          simp only [Act.put]
          refine @wpG_tk _ _ _ _ _ (some 12) (.bool true) _ _ rfl (.val (by rfl) (fun _ _ => rfl)) ?_
          simp only [Act.put, List.setIfInBounds_toArray, List.set_cons_zero, List.set_cons_succ]
          refine wpG_done (fun V35 hv36 => ?_)
          have l38 : w.heap.size < W31.heap.size := (HR2.out.below (GC30.out.trans hg32)).lt
          have l39 : w.heap.size ≤ W31.heap.size := (Gr.to HG2.out (GC30.out.trans hg32)).size
          have R40 := Lib.hid ((HR2.out.below (GC30.out.trans hg32)).past hg34 hv36)
          have R41 := Lib.hid (Row.made (zs := [.int .i64 0, .int .i64 0, .int .i64 0]) (ds := [.int .i64 d0, .int .i64 d1, .int .i64 d2]) rfl hg34 hv36)
          have G37 := Lib.hid (Gr.to (Gr.to HG2.out (GC30.out.trans hg32)) (Gr.past hg34 hv36))
          clear hg34 hv36 
          go_upto_region 21 with fail
          refine wpG_region ?_
          refine @wpG_tk _ _ _ _ _ (some 102) (.agg #[.int .i64 b1, .int .i64 b2, .int .i64 b3, .int .i64 b4, .int .i64 b5, .int .i64 b6]) _ _ rfl (.load_mid (by rfl) 37 (.tmp 1) rfl (w.heap.size) 0 rfl [.int .i64 b1, .int .i64 b2, .int .i64 b3, .int .i64 b4, .int .i64 b5, .int .i64 b6] _ (fun W hg => (R40.out.below hg).range) Try.underlying37 rfl (by kernel_rfl)) ?_
          simp only [Act.put, List.setIfInBounds_toArray, List.set_cons_zero, List.set_cons_succ]
          refine @wpG_tk _ _ _ _ _ (some 103) (.agg #[.int .i64 d0, .int .i64 d1, .int .i64 d2]) _ _ rfl (.load_mid (by rfl) 23 (.tmp 11) rfl (W31.heap.size) 0 rfl [.int .i64 d0, .int .i64 d1, .int .i64 d2] _ (fun W hg => (R41.out.below hg).range) Try.underlying23 rfl (by kernel_rfl)) ?_
          simp only [Act.put, List.setIfInBounds_toArray, List.set_cons_zero, List.set_cons_succ]
          refine @wpG_tk _ _ _ _ _ (some 104) (.bool true) _ _ rfl (.call (f := 33) (args := #[.agg #[.int .i64 b1, .int .i64 b2, .int .i64 b3, .int .i64 b4, .int .i64 b5, .int .i64 b6], .agg #[.int .i64 d0, .int .i64 d1, .int .i64 d2]]) (by rfl) (fun W => by go_simp) (fun W hg => (HCB.out ▸ cell_any b1 b2 b3 b4 b5 b6 d0 d1 d2 W))) ?_
          simp only [Act.put, List.setIfInBounds_toArray, List.set_cons_zero, List.set_cons_succ]
          refine @wpG_tk _ _ _ _ _ (some 13) (.bool true) _ _ rfl (.val (by rfl) (fun _ _ => rfl)) ?_
          simp only [Act.put, List.setIfInBounds_toArray, List.set_cons_zero, List.set_cons_succ]
          refine wpG_done (fun V42 hv43 => ?_)
          have GC44 := Lib.hid hv43
          clear hv43
          go_upto_region 22 with fail
          refine wpG_region ?_
          refine @wpG_tk _ _ _ _ _ (some 105) (.bool true) _ _ rfl (.val (by rfl) (fun _ _ => rfl)) ?_
          simp only [Act.put, List.setIfInBounds_toArray, List.set_cons_zero, List.set_cons_succ]
          refine @wpG_tk _ _ _ _ _ (some 106) (.bool false) _ _ rfl (.val (by rfl) (fun W hg => by go_simp)) ?_
          simp only [Act.put, List.setIfInBounds_toArray, List.set_cons_zero, List.set_cons_succ]
          refine @wpG_tk _ _ _ _ _ (some 107) (.bool false) _ _ rfl (.val (by rfl) (fun _ _ => rfl)) ?_
          simp only [Act.put, List.setIfInBounds_toArray, List.set_cons_zero, List.set_cons_succ]
          refine @wpG_tk _ _ _ _ _ (some 108) (.bool true) _ _ rfl (.val (by rfl) (fun _ _ => rfl)) ?_
          simp only [Act.put, List.setIfInBounds_toArray, List.set_cons_zero, List.set_cons_succ]
          refine @wpG_tk _ _ _ _ _ (some 109) (.bool false) _ _ rfl (.val (by rfl) (fun W hg => by go_simp)) ?_
          simp only [Act.put, List.setIfInBounds_toArray, List.set_cons_zero, List.set_cons_succ]
          refine @wpG_tk _ _ _ _ _ (some 110) (.bool false) _ _ rfl (.val (by rfl) (fun W hg => by go_simp)) ?_
          simp only [Act.put, List.setIfInBounds_toArray, List.set_cons_zero, List.set_cons_succ]
          refine wpG_done (fun V45 hv46 => ?_)
          have GC47 := Lib.hid (GC44.out.trans hv46)
          clear hv46
          go_upto_region 24 with fail
          refine wpG_region ?_
          refine @wpG_tk _ _ _ _ _ (some 111) (.int .i64 (c : Int)) _ _ rfl (.val (by rfl) (fun _ _ => rfl)) ?_
          simp only [Act.put, List.setIfInBounds_toArray, List.set_cons_zero, List.set_cons_succ]
          refine @wpG_tk _ _ _ _ _ (some 112) (.int .i64 ((c : Int) + 1)) _ _ rfl (.val (by rfl) (fun W hg => by (first | (go_simp; done) | (go_simp; rw [IntWalk.i64_in _ (by omega)])))) ?_
          simp only [Act.put, List.setIfInBounds_toArray, List.set_cons_zero, List.set_cons_succ]
          refine @wpG_tk _ _ _ _ _ (some 9) (.int .i64 ((c : Int) + 1)) _ _ rfl (.val (by rfl) (fun _ _ => rfl)) ?_
          simp only [Act.put, List.setIfInBounds_toArray, List.set_cons_zero, List.set_cons_succ]
          refine wpG_done (fun V48 hv49 => ?_)
          have GC50 := Lib.hid (GC47.out.trans hv49)
          clear hv49
          go_upto_region 25 with fail
          refine wpG_region ?_
          refine @wpG_tk _ _ _ _ _ (some 113) (.int .i64 (v : Int)) _ _ rfl (.val (by rfl) (fun _ _ => rfl)) ?_
          simp only [Act.put, List.setIfInBounds_toArray, List.set_cons_zero, List.set_cons_succ]
          refine @wpG_tk _ _ _ _ _ (some 14) (.int .i64 (v : Int)) _ _ rfl (.val (by rfl) (fun _ _ => rfl)) ?_
          simp only [Act.put, List.setIfInBounds_toArray, List.set_cons_zero, List.set_cons_succ]
          refine wpG_done (fun V51 hv52 => ?_)
          have GC53 := Lib.hid (GC50.out.trans hv52)
          clear hv52
          go_upto_region 26 with fail
          refine wpG_region ?_
          refine @wpG_tk _ _ _ _ _ (some 114) (.agg #[.int .i64 b1, .int .i64 b2, .int .i64 b3, .int .i64 b4, .int .i64 b5, .int .i64 b6]) _ _ rfl (.load_mid (by rfl) 37 (.tmp 1) rfl (w.heap.size) 0 rfl [.int .i64 b1, .int .i64 b2, .int .i64 b3, .int .i64 b4, .int .i64 b5, .int .i64 b6] _ (fun W hg => (R40.out.below (GC53.out.trans hg)).range) Try.underlying37 rfl (by kernel_rfl)) ?_
          simp only [Act.put, List.setIfInBounds_toArray, List.set_cons_zero, List.set_cons_succ]
          refine @wpG_tk _ _ _ _ _ (some 115) (.int .i64 (v : Int)) _ _ rfl (.val (by rfl) (fun _ _ => rfl)) ?_
          simp only [Act.put, List.setIfInBounds_toArray, List.set_cons_zero, List.set_cons_succ]
          refine @wpG_tk _ _ _ _ _ (some 116) (.int .i64 ((v : Int) + 1)) _ _ rfl (.val (by rfl) (fun W hg => by (first | (go_simp; done) | (go_simp; rw [IntWalk.i64_in _ (by omega)])))) ?_
          simp only [Act.put, List.setIfInBounds_toArray, List.set_cons_zero, List.set_cons_succ]
          refine @wpG_tk _ _ _ _ _ (some 117) (.int .i64 n2) _ _ rfl (.call (f := 28) (args := #[.agg #[.int .i64 b1, .int .i64 b2, .int .i64 b3, .int .i64 b4, .int .i64 b5, .int .i64 b6], .int .i64 ((v : Int) + 1)]) (by rfl) (fun W => by go_simp) (fun W hg => (HX2.out ▸ next_any b1 b2 b3 b4 b5 b6 ((v : Int) + 1) W))) ?_
          simp only [Act.put, List.setIfInBounds_toArray, List.set_cons_zero, List.set_cons_succ]
          refine @wpG_tk _ _ _ _ _ (some 10) (.int .i64 n2) _ _ rfl (.val (by rfl) (fun _ _ => rfl)) ?_
          simp only [Act.put, List.setIfInBounds_toArray, List.set_cons_zero, List.set_cons_succ]
          refine wpG_done (fun V54 hv55 => ?_)
          have GC56 := Lib.hid (GC53.out.trans hv55)
          clear hv55
          rcases hn4 with hn4 | hn4
          · skip
            go_upto_region 27 with fail
            refine wpG_region ?_
            refine @wpG_tk _ _ _ _ _ (some 118) (.int .i64 n2) _ _ rfl (.val (by rfl) (fun _ _ => rfl)) ?_
            simp only [Act.put, List.setIfInBounds_toArray, List.set_cons_zero, List.set_cons_succ]
            refine @wpG_tk _ _ _ _ _ (some 119) (.bool false) _ _ rfl (.val (by rfl) (fun W hg => by have hq : ¬ (n2 ≥ 0) := (by omega); first | (go_simp; done) | (go_simp <;> omega))) ?_
            simp only [Act.put, List.setIfInBounds_toArray, List.set_cons_zero, List.set_cons_succ]
            refine @wpG_tk _ _ _ _ _ (some 120) (.bool false) _ _ rfl (.val (by rfl) (fun _ _ => rfl)) ?_
            simp only [Act.put, List.setIfInBounds_toArray, List.set_cons_zero, List.set_cons_succ]
            refine @wpG_tk _ _ _ _ _ (some 121) (undef) _ _ rfl (.no (by rfl)) ?_
            simp only [Act.put, List.setIfInBounds_toArray, List.set_cons_zero, List.set_cons_succ]
            refine @wpG_tk _ _ _ _ _ (some 122) (undef) _ _ rfl (.no (by rfl)) ?_
            simp only [Act.put, List.setIfInBounds_toArray, List.set_cons_zero, List.set_cons_succ]
            refine @wpG_tk _ _ _ _ _ (some 123) (undef) _ _ rfl (.no (by rfl)) ?_
            simp only [Act.put, List.setIfInBounds_toArray, List.set_cons_zero, List.set_cons_succ]
            refine @wpG_tk _ _ _ _ _ (some 124) (.bool false) _ _ rfl (.val (by rfl) (fun W hg => by go_simp)) ?_
            simp only [Act.put, List.setIfInBounds_toArray, List.set_cons_zero, List.set_cons_succ]
            refine wpG_done (fun V57 hv58 => ?_)
            have GC59 := Lib.hid (GC56.out.trans hv58)
            clear hv58
            go_wp2_with fail
            go_roundw
            case rel => exact ⟨v + 1, c + 1, n2, by go_num, rfl, by omega, HCN.out, HX3.out, R40.out.below GC59.out, Gr.to G37.out GC59.out⟩
            case measure => first | (simp [intOf]; done) | (simp [intOf]; omega)
          · skip
            go_upto_region 27 with fail
            refine wpG_region ?_
            refine @wpG_tk _ _ _ _ _ (some 118) (.int .i64 n2) _ _ rfl (.val (by rfl) (fun _ _ => rfl)) ?_
            simp only [Act.put, List.setIfInBounds_toArray, List.set_cons_zero, List.set_cons_succ]
            refine @wpG_tk _ _ _ _ _ (some 119) (.bool true) _ _ rfl (.val (by rfl) (fun W hg => by have hq : (n2 ≥ 0) := (by omega); first | (go_simp; done) | (go_simp <;> omega))) ?_
            simp only [Act.put, List.setIfInBounds_toArray, List.set_cons_zero, List.set_cons_succ]
            refine @wpG_tk _ _ _ _ _ (some 120) (.bool true) _ _ rfl (.val (by rfl) (fun _ _ => rfl)) ?_
            simp only [Act.put, List.setIfInBounds_toArray, List.set_cons_zero, List.set_cons_succ]
            refine @wpG_tk _ _ _ _ _ (some 121) (.int .i64 n2) _ _ rfl (.val (by rfl) (fun _ _ => rfl)) ?_
            simp only [Act.put, List.setIfInBounds_toArray, List.set_cons_zero, List.set_cons_succ]
            refine @wpG_tk _ _ _ _ _ (some 122) (.int .i64 (v : Int)) _ _ rfl (.val (by rfl) (fun _ _ => rfl)) ?_
            simp only [Act.put, List.setIfInBounds_toArray, List.set_cons_zero, List.set_cons_succ]
            refine @wpG_tk _ _ _ _ _ (some 123) (.bool false) _ _ rfl (.val (by rfl) (fun W hg => by have hq : ¬ (n2 ≤ (v : Int)) := (by omega); first | (go_simp; done) | (go_simp <;> omega))) ?_
            simp only [Act.put, List.setIfInBounds_toArray, List.set_cons_zero, List.set_cons_succ]
            refine @wpG_tk _ _ _ _ _ (some 124) (.bool false) _ _ rfl (.val (by rfl) (fun W hg => by go_simp)) ?_
            simp only [Act.put, List.setIfInBounds_toArray, List.set_cons_zero, List.set_cons_succ]
            refine wpG_done (fun V60 hv61 => ?_)
            have GC62 := Lib.hid (GC56.out.trans hv61)
            clear hv61
            go_wp2_with fail
            go_roundw
            case rel => exact ⟨v + 1, c + 1, n2, by go_num, rfl, by omega, HCN.out, HX3.out, R40.out.below GC62.out, Gr.to G37.out GC62.out⟩
            case measure => first | (simp [intOf]; done) | (simp [intOf]; omega)
    · skip
      go_upto_region 6 with fail
      refine wpG_region ?_
      refine @wpG_tk _ _ _ _ _ (some 53) (.int .i64 x) _ _ rfl (.val (by rfl) (fun _ _ => rfl)) ?_
      simp only [Act.put, List.setIfInBounds_toArray, List.set_cons_zero, List.set_cons_succ]
      refine @wpG_tk _ _ _ _ _ (some 54) (.pointer (some ⟨w.heap.size, 3, none⟩)) _ _ rfl (.val (by rfl) (fun W hg => by go_simp)) ?_
      simp only [Act.put, List.setIfInBounds_toArray, List.set_cons_zero, List.set_cons_succ]
      refine @wpG_tk _ _ _ _ _ (some 55) (.pointer (some ⟨w.heap.size, 3, none⟩)) _ _ rfl (.val (by rfl) (fun W hg => by go_simp)) ?_
      simp only [Act.put, List.setIfInBounds_toArray, List.set_cons_zero, List.set_cons_succ]
      refine @wpG_tk _ _ _ _ _ (some 56) (.int .i64 b4) _ _ rfl (.val (by rfl) (fun W hg => by have c := (R0.out.below (HG1.out.trans hg) 3 _ rfl).1; go_simp)) ?_
      simp only [Act.put, List.setIfInBounds_toArray, List.set_cons_zero, List.set_cons_succ]
      refine @wpG_tk _ _ _ _ _ (some 57) (.bool true) _ _ rfl (.val (by rfl) (fun W hg => by have hq : (x < b4) := (by omega); first | (go_simp; done) | (go_simp <;> omega))) ?_
      simp only [Act.put, List.setIfInBounds_toArray, List.set_cons_zero, List.set_cons_succ]
      refine wpG_done (fun V63 hv64 => ?_)
      have GC65 := Lib.hid (HG1.out.trans hv64)
      clear hv64
      go_upto_region 8 with fail
      refine wpG_region ?_
      refine @wpG_tk _ _ _ _ _ (some 60) (.pointer (some ⟨w.heap.size, 0, none⟩)) _ _ rfl (.val (by rfl) (fun W hg => by go_simp)) ?_
      simp only [Act.put, List.setIfInBounds_toArray, List.set_cons_zero, List.set_cons_succ]
      refine @wpG_tk _ _ _ _ _ (some 61) (.pointer (some ⟨w.heap.size, 1, none⟩)) _ _ rfl (.val (by rfl) (fun W hg => by go_simp)) ?_
      simp only [Act.put, List.setIfInBounds_toArray, List.set_cons_zero, List.set_cons_succ]
      refine @wpG_tk _ _ _ _ _ (some 62) (.int .i64 b2) _ _ rfl (.val (by rfl) (fun W hg => by have c := (R0.out.below (GC65.out.trans hg) 1 _ rfl).1; go_simp)) ?_
      simp only [Act.put, List.setIfInBounds_toArray, List.set_cons_zero, List.set_cons_succ]
      refine @wpG_tk _ _ _ _ _ (some 6) (.int .i64 b2) _ _ rfl (.val (by rfl) (fun _ _ => rfl)) ?_
      simp only [Act.put, List.setIfInBounds_toArray, List.set_cons_zero, List.set_cons_succ]
      refine wpG_done (fun V66 hv67 => ?_)
      have GC68 := Lib.hid (GC65.out.trans hv67)
      clear hv67
      have HGB := Lib.hid GC68.out
      go_wp2_with fail
      go_loopw [6, 4] (fun i v wr => ∃ y c1 : Int, i = .int .i64 y ∧ v = .int .i64 c1 ∧ b2 ≤ y ∧ y ≤ max b2 b5 ∧ c1 = c0 + Mo.gb (Mo.fX x) (Mo.iv b2 y * IZ) ∧ Gr u wr) (fun i _ _ => (b5 - intOf i).toNat)
      case atStart => exact ⟨b2, c0, rfl, rfl, by omega, by omega, by rw [Mo.iv_self]; simp [Mo.gb], HGB.out⟩
      case round =>
        obtain ⟨y, c1, rfl, rfl, hy1, hy2, hc1, hG⟩ := hrel
        have HG3 := Lib.hid hG
        have hb := Mo.iv_bd (a := b2) (z := y) (k := 10) (by omega) (by omega)
        have hm1 : 0 ≤ Mo.iv b2 y * IZ ∧ Mo.iv b2 y * IZ ≤ 100 := ⟨Int.mul_nonneg hb.1 hIZ.1, Int.mul_le_mul hb.2 hIZ.2 hIZ.1 (by omega)⟩
        have hm2 := Mo.gb_bd (f := Mo.fX x) hm1
        have hcb1 : 0 ≤ c1 ∧ c1 ≤ 1100 := by omega
        have HC1 := Lib.hid hc1
        clear hG hc1 hb hm1 hm2
        by_cases hlty : y < b5
        rotate_left
        · have hye : y = max b2 b5 := by omega
          have hcn : c1 = Mo.iv b1 (x + 1) * T := by rw [← Mo.outer_step hx1, HC1.out, HC0.out, hye, HTT2.out]
          have HCN := Lib.hid hcn
          clear hye hcn
          go_upto_region 9 with fail
          refine wpG_region ?_
          refine @wpG_tk _ _ _ _ _ (some 63) (.int .i64 y) _ _ rfl (.val (by rfl) (fun _ _ => rfl)) ?_
          simp only [Act.put, List.setIfInBounds_toArray, List.set_cons_zero, List.set_cons_succ]
          refine @wpG_tk _ _ _ _ _ (some 64) (.pointer (some ⟨w.heap.size, 3, none⟩)) _ _ rfl (.val (by rfl) (fun W hg => by go_simp)) ?_
          simp only [Act.put, List.setIfInBounds_toArray, List.set_cons_zero, List.set_cons_succ]
          refine @wpG_tk _ _ _ _ _ (some 65) (.pointer (some ⟨w.heap.size, 4, none⟩)) _ _ rfl (.val (by rfl) (fun W hg => by go_simp)) ?_
          simp only [Act.put, List.setIfInBounds_toArray, List.set_cons_zero, List.set_cons_succ]
          refine @wpG_tk _ _ _ _ _ (some 66) (.int .i64 b5) _ _ rfl (.val (by rfl) (fun W hg => by have c := (R0.out.below (HG3.out.trans hg) 4 _ rfl).1; go_simp)) ?_
          simp only [Act.put, List.setIfInBounds_toArray, List.set_cons_zero, List.set_cons_succ]
          refine @wpG_tk _ _ _ _ _ (some 67) (.bool false) _ _ rfl (.val (by rfl) (fun W hg => by have hq : ¬ (y < b5) := (by omega); first | (go_simp; done) | (go_simp <;> omega))) ?_
          simp only [Act.put, List.setIfInBounds_toArray, List.set_cons_zero, List.set_cons_succ]
          refine wpG_done (fun V69 hv70 => ?_)
          have GC71 := Lib.hid (HG3.out.trans hv70)
          clear hv70
          go_upto_region 7 with fail
          refine wpG_region ?_
          refine @wpG_tk _ _ _ _ _ (some 58) (.int .i64 x) _ _ rfl (.val (by rfl) (fun _ _ => rfl)) ?_
          simp only [Act.put, List.setIfInBounds_toArray, List.set_cons_zero, List.set_cons_succ]
          refine @wpG_tk _ _ _ _ _ (some 59) (.int .i64 (x + 1)) _ _ rfl (.val (by rfl) (fun W hg => by (first | (go_simp; done) | (go_simp; rw [IntWalk.i64_in _ (by omega)])))) ?_
          simp only [Act.put, List.setIfInBounds_toArray, List.set_cons_zero, List.set_cons_succ]
          refine @wpG_tk _ _ _ _ _ (some 5) (.int .i64 (x + 1)) _ _ rfl (.val (by rfl) (fun _ _ => rfl)) ?_
          simp only [Act.put, List.setIfInBounds_toArray, List.set_cons_zero, List.set_cons_succ]
          refine wpG_done (fun V72 hv73 => ?_)
          have GC74 := Lib.hid (GC71.out.trans hv73)
          clear hv73
          go_wp2_with fail
          go_roundw
          case rel => exact ⟨x + 1, c1, rfl, rfl, by omega, by omega, HCN.out, GC74.out⟩
          case measure => first | (simp [intOf]; done) | (simp [intOf]; omega)
        · skip
          go_upto_region 9 with fail
          refine wpG_region ?_
          refine @wpG_tk _ _ _ _ _ (some 63) (.int .i64 y) _ _ rfl (.val (by rfl) (fun _ _ => rfl)) ?_
          simp only [Act.put, List.setIfInBounds_toArray, List.set_cons_zero, List.set_cons_succ]
          refine @wpG_tk _ _ _ _ _ (some 64) (.pointer (some ⟨w.heap.size, 3, none⟩)) _ _ rfl (.val (by rfl) (fun W hg => by go_simp)) ?_
          simp only [Act.put, List.setIfInBounds_toArray, List.set_cons_zero, List.set_cons_succ]
          refine @wpG_tk _ _ _ _ _ (some 65) (.pointer (some ⟨w.heap.size, 4, none⟩)) _ _ rfl (.val (by rfl) (fun W hg => by go_simp)) ?_
          simp only [Act.put, List.setIfInBounds_toArray, List.set_cons_zero, List.set_cons_succ]
          refine @wpG_tk _ _ _ _ _ (some 66) (.int .i64 b5) _ _ rfl (.val (by rfl) (fun W hg => by have c := (R0.out.below (HG3.out.trans hg) 4 _ rfl).1; go_simp)) ?_
          simp only [Act.put, List.setIfInBounds_toArray, List.set_cons_zero, List.set_cons_succ]
          refine @wpG_tk _ _ _ _ _ (some 67) (.bool true) _ _ rfl (.val (by rfl) (fun W hg => by have hq : (y < b5) := (by omega); first | (go_simp; done) | (go_simp <;> omega))) ?_
          simp only [Act.put, List.setIfInBounds_toArray, List.set_cons_zero, List.set_cons_succ]
          refine wpG_done (fun V75 hv76 => ?_)
          have GC77 := Lib.hid (HG3.out.trans hv76)
          clear hv76
          go_upto_region 11 with fail
          refine wpG_region ?_
          refine @wpG_tk _ _ _ _ _ (some 70) (.pointer (some ⟨w.heap.size, 0, none⟩)) _ _ rfl (.val (by rfl) (fun W hg => by go_simp)) ?_
          simp only [Act.put, List.setIfInBounds_toArray, List.set_cons_zero, List.set_cons_succ]
          refine @wpG_tk _ _ _ _ _ (some 71) (.pointer (some ⟨w.heap.size, 2, none⟩)) _ _ rfl (.val (by rfl) (fun W hg => by go_simp)) ?_
          simp only [Act.put, List.setIfInBounds_toArray, List.set_cons_zero, List.set_cons_succ]
          refine @wpG_tk _ _ _ _ _ (some 72) (.int .i64 b3) _ _ rfl (.val (by rfl) (fun W hg => by have c := (R0.out.below (GC77.out.trans hg) 2 _ rfl).1; go_simp)) ?_
          simp only [Act.put, List.setIfInBounds_toArray, List.set_cons_zero, List.set_cons_succ]
          refine @wpG_tk _ _ _ _ _ (some 7) (.int .i64 b3) _ _ rfl (.val (by rfl) (fun _ _ => rfl)) ?_
          simp only [Act.put, List.setIfInBounds_toArray, List.set_cons_zero, List.set_cons_succ]
          refine wpG_done (fun V78 hv79 => ?_)
          have GC80 := Lib.hid (GC77.out.trans hv79)
          clear hv79
          have HGC := Lib.hid GC80.out
          go_wp2_with fail
          go_loopw [7, 4] (fun i v wr => ∃ z c2 : Int, i = .int .i64 z ∧ v = .int .i64 c2 ∧ b3 ≤ z ∧ z ≤ max b3 b6 ∧ c2 = c1 + Mo.gb (Mo.fX x && Mo.fX y) (Mo.iv b3 z) ∧ Gr u wr) (fun i _ _ => (b6 - intOf i).toNat)
          case atStart => exact ⟨b3, c1, rfl, rfl, by omega, by omega, by rw [Mo.iv_self]; simp [Mo.gb], HGC.out⟩
          case round =>
            obtain ⟨z, c2, rfl, rfl, hz1, hz2, hc2, hG⟩ := hrel
            have HG4 := Lib.hid hG
            have hb := Mo.iv_bd (a := b3) (z := z) (k := 10) (by omega) (by omega)
            have hm2 := Mo.gb_bd (f := Mo.fX x && Mo.fX y) hb
            have hcb2 : 0 ≤ c2 ∧ c2 ≤ 1110 := by omega
            have HC2 := Lib.hid hc2
            clear hG hc2 hb hm2
            by_cases hltz : z < b6
            rotate_left
            · have hze : z = max b3 b6 := by omega
              have hcn : c2 = c0 + Mo.gb (Mo.fX x) (Mo.iv b2 (y + 1) * IZ) := by rw [← Mo.mid_step hy1, HC2.out, HC1.out, hze, HIZ.out, Int.add_assoc]
              have HCN := Lib.hid hcn
              clear hze hcn
              go_upto_region 12 with fail
              refine wpG_region ?_
              refine @wpG_tk _ _ _ _ _ (some 73) (.int .i64 z) _ _ rfl (.val (by rfl) (fun _ _ => rfl)) ?_
              simp only [Act.put, List.setIfInBounds_toArray, List.set_cons_zero, List.set_cons_succ]
              refine @wpG_tk _ _ _ _ _ (some 74) (.pointer (some ⟨w.heap.size, 3, none⟩)) _ _ rfl (.val (by rfl) (fun W hg => by go_simp)) ?_
              simp only [Act.put, List.setIfInBounds_toArray, List.set_cons_zero, List.set_cons_succ]
              refine @wpG_tk _ _ _ _ _ (some 75) (.pointer (some ⟨w.heap.size, 5, none⟩)) _ _ rfl (.val (by rfl) (fun W hg => by go_simp)) ?_
              simp only [Act.put, List.setIfInBounds_toArray, List.set_cons_zero, List.set_cons_succ]
              refine @wpG_tk _ _ _ _ _ (some 76) (.int .i64 b6) _ _ rfl (.val (by rfl) (fun W hg => by have c := (R0.out.below (HG4.out.trans hg) 5 _ rfl).1; go_simp)) ?_
              simp only [Act.put, List.setIfInBounds_toArray, List.set_cons_zero, List.set_cons_succ]
              refine @wpG_tk _ _ _ _ _ (some 77) (.bool false) _ _ rfl (.val (by rfl) (fun W hg => by have hq : ¬ (z < b6) := (by omega); first | (go_simp; done) | (go_simp <;> omega))) ?_
              simp only [Act.put, List.setIfInBounds_toArray, List.set_cons_zero, List.set_cons_succ]
              refine wpG_done (fun V81 hv82 => ?_)
              have GC83 := Lib.hid (HG4.out.trans hv82)
              clear hv82
              go_upto_region 10 with fail
              refine wpG_region ?_
              refine @wpG_tk _ _ _ _ _ (some 68) (.int .i64 y) _ _ rfl (.val (by rfl) (fun _ _ => rfl)) ?_
              simp only [Act.put, List.setIfInBounds_toArray, List.set_cons_zero, List.set_cons_succ]
              refine @wpG_tk _ _ _ _ _ (some 69) (.int .i64 (y + 1)) _ _ rfl (.val (by rfl) (fun W hg => by (first | (go_simp; done) | (go_simp; rw [IntWalk.i64_in _ (by omega)])))) ?_
              simp only [Act.put, List.setIfInBounds_toArray, List.set_cons_zero, List.set_cons_succ]
              refine @wpG_tk _ _ _ _ _ (some 6) (.int .i64 (y + 1)) _ _ rfl (.val (by rfl) (fun _ _ => rfl)) ?_
              simp only [Act.put, List.setIfInBounds_toArray, List.set_cons_zero, List.set_cons_succ]
              refine wpG_done (fun V84 hv85 => ?_)
              have GC86 := Lib.hid (GC83.out.trans hv85)
              clear hv85
              go_wp2_with fail
              go_roundw
              case rel => exact ⟨y + 1, c2, rfl, rfl, by omega, by omega, HCN.out, GC86.out⟩
              case measure => first | (simp [intOf]; done) | (simp [intOf]; omega)
            · skip
              cases hin : Mo.inB x y z with
              | true =>
                have hcn : c2 + 1 = c1 + Mo.gb (Mo.fX x && Mo.fX y) (Mo.iv b3 (z + 1)) := by rw [Mo.inner_yes hz1 hin, HC2.out]; omega
                have HCN := Lib.hid hcn
                have HIN := Lib.hid hin
                clear hcn hin
                go_upto_region 12 with fail
                refine wpG_region ?_
                refine @wpG_tk _ _ _ _ _ (some 73) (.int .i64 z) _ _ rfl (.val (by rfl) (fun _ _ => rfl)) ?_
                simp only [Act.put, List.setIfInBounds_toArray, List.set_cons_zero, List.set_cons_succ]
                refine @wpG_tk _ _ _ _ _ (some 74) (.pointer (some ⟨w.heap.size, 3, none⟩)) _ _ rfl (.val (by rfl) (fun W hg => by go_simp)) ?_
                simp only [Act.put, List.setIfInBounds_toArray, List.set_cons_zero, List.set_cons_succ]
                refine @wpG_tk _ _ _ _ _ (some 75) (.pointer (some ⟨w.heap.size, 5, none⟩)) _ _ rfl (.val (by rfl) (fun W hg => by go_simp)) ?_
                simp only [Act.put, List.setIfInBounds_toArray, List.set_cons_zero, List.set_cons_succ]
                refine @wpG_tk _ _ _ _ _ (some 76) (.int .i64 b6) _ _ rfl (.val (by rfl) (fun W hg => by have c := (R0.out.below (HG4.out.trans hg) 5 _ rfl).1; go_simp)) ?_
                simp only [Act.put, List.setIfInBounds_toArray, List.set_cons_zero, List.set_cons_succ]
                refine @wpG_tk _ _ _ _ _ (some 77) (.bool true) _ _ rfl (.val (by rfl) (fun W hg => by have hq : (z < b6) := (by omega); first | (go_simp; done) | (go_simp <;> omega))) ?_
                simp only [Act.put, List.setIfInBounds_toArray, List.set_cons_zero, List.set_cons_succ]
                refine wpG_done (fun V87 hv88 => ?_)
                have GC89 := Lib.hid (HG4.out.trans hv88)
                clear hv88
                go_upto_region 14 with fail
                refine wpG_region ?_
                refine @wpG_tk _ _ _ _ _ (some 80) (.int .i64 x) _ _ rfl (.val (by rfl) (fun _ _ => rfl)) ?_
                simp only [Act.put, List.setIfInBounds_toArray, List.set_cons_zero, List.set_cons_succ]
                refine @wpG_tk _ _ _ _ _ (some 81) (.int .i64 y) _ _ rfl (.val (by rfl) (fun _ _ => rfl)) ?_
                simp only [Act.put, List.setIfInBounds_toArray, List.set_cons_zero, List.set_cons_succ]
                refine @wpG_tk _ _ _ _ _ (some 82) (.int .i64 z) _ _ rfl (.val (by rfl) (fun _ _ => rfl)) ?_
                simp only [Act.put, List.setIfInBounds_toArray, List.set_cons_zero, List.set_cons_succ]
                refine @wpG_tk _ _ _ _ _ (some 83) (.agg #[.int .i64 x, .int .i64 y, .int .i64 z]) _ _ rfl (.call (f := 32) (args := #[.int .i64 x, .int .i64 y, .int .i64 z]) (by rfl) (fun W => by go_simp) (fun W hg => at_any x y z W)) ?_
                simp only [Act.put, List.setIfInBounds_toArray, List.set_cons_zero, List.set_cons_succ]
                refine @wpG_tk _ _ _ _ _ (some 84) (.bool true) _ _ rfl (.call (f := 30) (args := #[.agg #[.int .i64 x, .int .i64 y, .int .i64 z]]) (by rfl) (fun W => by go_simp) (fun W hg => (HIN.out ▸ rinside_b x y z W))) ?_
                simp only [Act.put, List.setIfInBounds_toArray, List.set_cons_zero, List.set_cons_succ]
                refine @wpG_tk _ _ _ _ _ (some 8) (.bool true) _ _ rfl (.val (by rfl) (fun _ _ => rfl)) ?_
                simp only [Act.put, List.setIfInBounds_toArray, List.set_cons_zero, List.set_cons_succ]
                refine wpG_done (fun V90 hv91 => ?_)
                have GC92 := Lib.hid (GC89.out.trans hv91)
                clear hv91
                go_upto_region 15 with fail
                refine wpG_region ?_
                refine @wpG_tk _ _ _ _ _ (some 85) (.bool true) _ _ rfl (.val (by rfl) (fun _ _ => rfl)) ?_
                simp only [Act.put, List.setIfInBounds_toArray, List.set_cons_zero, List.set_cons_succ]
                refine wpG_done (fun V93 hv94 => ?_)
                have GC95 := Lib.hid (GC92.out.trans hv94)
                clear hv94
                go_upto_region 16 with fail
                refine wpG_region ?_
                refine @wpG_tk _ _ _ _ _ (some 86) (.int .i64 c2) _ _ rfl (.val (by rfl) (fun _ _ => rfl)) ?_
                simp only [Act.put, List.setIfInBounds_toArray, List.set_cons_zero, List.set_cons_succ]
                refine @wpG_tk _ _ _ _ _ (some 87) (.int .i64 (c2 + 1)) _ _ rfl (.val (by rfl) (fun W hg => by (first | (go_simp; done) | (go_simp; rw [IntWalk.i64_in _ (by omega)])))) ?_
                simp only [Act.put, List.setIfInBounds_toArray, List.set_cons_zero, List.set_cons_succ]
                refine @wpG_tk _ _ _ _ _ (some 4) (.int .i64 (c2 + 1)) _ _ rfl (.val (by rfl) (fun _ _ => rfl)) ?_
                simp only [Act.put, List.setIfInBounds_toArray, List.set_cons_zero, List.set_cons_succ]
                refine wpG_done (fun V96 hv97 => ?_)
                have GC98 := Lib.hid (GC95.out.trans hv97)
                clear hv97
                go_upto_region 13 with fail
                refine wpG_region ?_
                refine @wpG_tk _ _ _ _ _ (some 78) (.int .i64 z) _ _ rfl (.val (by rfl) (fun _ _ => rfl)) ?_
                simp only [Act.put, List.setIfInBounds_toArray, List.set_cons_zero, List.set_cons_succ]
                refine @wpG_tk _ _ _ _ _ (some 79) (.int .i64 (z + 1)) _ _ rfl (.val (by rfl) (fun W hg => by (first | (go_simp; done) | (go_simp; rw [IntWalk.i64_in _ (by omega)])))) ?_
                simp only [Act.put, List.setIfInBounds_toArray, List.set_cons_zero, List.set_cons_succ]
                refine @wpG_tk _ _ _ _ _ (some 7) (.int .i64 (z + 1)) _ _ rfl (.val (by rfl) (fun _ _ => rfl)) ?_
                simp only [Act.put, List.setIfInBounds_toArray, List.set_cons_zero, List.set_cons_succ]
                refine wpG_done (fun V99 hv100 => ?_)
                have GC101 := Lib.hid (GC98.out.trans hv100)
                clear hv100
                go_wp2_with fail
                go_roundw
                case rel => exact ⟨z + 1, c2 + 1, rfl, rfl, by omega, by omega, HCN.out, GC101.out⟩
                case measure => first | (simp [intOf]; done) | (simp [intOf]; omega)
              | false =>
                have hcn : c2 = c1 + Mo.gb (Mo.fX x && Mo.fX y) (Mo.iv b3 (z + 1)) := by rw [Mo.inner_no hz1 hin, HC2.out]
                have HCN := Lib.hid hcn
                have HIN := Lib.hid hin
                clear hcn hin
                go_upto_region 12 with fail
                refine wpG_region ?_
                refine @wpG_tk _ _ _ _ _ (some 73) (.int .i64 z) _ _ rfl (.val (by rfl) (fun _ _ => rfl)) ?_
                simp only [Act.put, List.setIfInBounds_toArray, List.set_cons_zero, List.set_cons_succ]
                refine @wpG_tk _ _ _ _ _ (some 74) (.pointer (some ⟨w.heap.size, 3, none⟩)) _ _ rfl (.val (by rfl) (fun W hg => by go_simp)) ?_
                simp only [Act.put, List.setIfInBounds_toArray, List.set_cons_zero, List.set_cons_succ]
                refine @wpG_tk _ _ _ _ _ (some 75) (.pointer (some ⟨w.heap.size, 5, none⟩)) _ _ rfl (.val (by rfl) (fun W hg => by go_simp)) ?_
                simp only [Act.put, List.setIfInBounds_toArray, List.set_cons_zero, List.set_cons_succ]
                refine @wpG_tk _ _ _ _ _ (some 76) (.int .i64 b6) _ _ rfl (.val (by rfl) (fun W hg => by have c := (R0.out.below (HG4.out.trans hg) 5 _ rfl).1; go_simp)) ?_
                simp only [Act.put, List.setIfInBounds_toArray, List.set_cons_zero, List.set_cons_succ]
                refine @wpG_tk _ _ _ _ _ (some 77) (.bool true) _ _ rfl (.val (by rfl) (fun W hg => by have hq : (z < b6) := (by omega); first | (go_simp; done) | (go_simp <;> omega))) ?_
                simp only [Act.put, List.setIfInBounds_toArray, List.set_cons_zero, List.set_cons_succ]
                refine wpG_done (fun V102 hv103 => ?_)
                have GC104 := Lib.hid (HG4.out.trans hv103)
                clear hv103
                go_upto_region 14 with fail
                refine wpG_region ?_
                refine @wpG_tk _ _ _ _ _ (some 80) (.int .i64 x) _ _ rfl (.val (by rfl) (fun _ _ => rfl)) ?_
                simp only [Act.put, List.setIfInBounds_toArray, List.set_cons_zero, List.set_cons_succ]
                refine @wpG_tk _ _ _ _ _ (some 81) (.int .i64 y) _ _ rfl (.val (by rfl) (fun _ _ => rfl)) ?_
                simp only [Act.put, List.setIfInBounds_toArray, List.set_cons_zero, List.set_cons_succ]
                refine @wpG_tk _ _ _ _ _ (some 82) (.int .i64 z) _ _ rfl (.val (by rfl) (fun _ _ => rfl)) ?_
                simp only [Act.put, List.setIfInBounds_toArray, List.set_cons_zero, List.set_cons_succ]
                refine @wpG_tk _ _ _ _ _ (some 83) (.agg #[.int .i64 x, .int .i64 y, .int .i64 z]) _ _ rfl (.call (f := 32) (args := #[.int .i64 x, .int .i64 y, .int .i64 z]) (by rfl) (fun W => by go_simp) (fun W hg => at_any x y z W)) ?_
                simp only [Act.put, List.setIfInBounds_toArray, List.set_cons_zero, List.set_cons_succ]
                refine @wpG_tk _ _ _ _ _ (some 84) (.bool false) _ _ rfl (.call (f := 30) (args := #[.agg #[.int .i64 x, .int .i64 y, .int .i64 z]]) (by rfl) (fun W => by go_simp) (fun W hg => (HIN.out ▸ rinside_b x y z W))) ?_
                simp only [Act.put, List.setIfInBounds_toArray, List.set_cons_zero, List.set_cons_succ]
                refine @wpG_tk _ _ _ _ _ (some 8) (.bool false) _ _ rfl (.val (by rfl) (fun _ _ => rfl)) ?_
                simp only [Act.put, List.setIfInBounds_toArray, List.set_cons_zero, List.set_cons_succ]
                refine wpG_done (fun V105 hv106 => ?_)
                have GC107 := Lib.hid (GC104.out.trans hv106)
                clear hv106
                go_upto_region 15 with fail
                refine wpG_region ?_
                refine @wpG_tk _ _ _ _ _ (some 85) (.bool false) _ _ rfl (.val (by rfl) (fun _ _ => rfl)) ?_
                simp only [Act.put, List.setIfInBounds_toArray, List.set_cons_zero, List.set_cons_succ]
                refine wpG_done (fun V108 hv109 => ?_)
                have GC110 := Lib.hid (GC107.out.trans hv109)
                clear hv109
                go_upto_region 13 with fail
                refine wpG_region ?_
                refine @wpG_tk _ _ _ _ _ (some 78) (.int .i64 z) _ _ rfl (.val (by rfl) (fun _ _ => rfl)) ?_
                simp only [Act.put, List.setIfInBounds_toArray, List.set_cons_zero, List.set_cons_succ]
                refine @wpG_tk _ _ _ _ _ (some 79) (.int .i64 (z + 1)) _ _ rfl (.val (by rfl) (fun W hg => by (first | (go_simp; done) | (go_simp; rw [IntWalk.i64_in _ (by omega)])))) ?_
                simp only [Act.put, List.setIfInBounds_toArray, List.set_cons_zero, List.set_cons_succ]
                refine @wpG_tk _ _ _ _ _ (some 7) (.int .i64 (z + 1)) _ _ rfl (.val (by rfl) (fun _ _ => rfl)) ?_
                simp only [Act.put, List.setIfInBounds_toArray, List.set_cons_zero, List.set_cons_succ]
                refine wpG_done (fun V111 hv112 => ?_)
                have GC113 := Lib.hid (GC110.out.trans hv112)
                clear hv112
                go_wp2_with fail
                go_roundw
                case rel => exact ⟨z + 1, c2, rfl, rfl, by omega, by omega, HCN.out, GC113.out⟩
                case measure => first | (simp [intOf]; done) | (simp [intOf]; omega)
set_option maxRecDepth 1000000 in
set_option maxHeartbeats 4000000 in
theorem law5 (b1 b2 b3 b4 b5 b6 : Int) (w : World) :
    Calls Try.prog 7 #[.agg #[.int .i64 b1, .int .i64 b2, .int .i64 b3, .int .i64 b4, .int .i64 b5, .int .i64 b6]] w fun e w' => e = .returned (.bool true) ∧ Below w.heap.size w w' := by
  cases hsm : Mo.smallB b1 b2 b3 b4 b5 b6 with
  | false => exact law5_s b1 b2 b3 b4 b5 b6 w hsm
  | true =>
    by_cases h0 : IntKind.i64.wrap (b4 - b1) > 10
    · exact law5_0 b1 b2 b3 b4 b5 b6 w hsm h0
    by_cases h1 : IntKind.i64.wrap (b5 - b2) > 10
    · exact law5_1 b1 b2 b3 b4 b5 b6 w hsm h0 h1
    by_cases h2 : IntKind.i64.wrap (b6 - b3) > 10
    · exact law5_2 b1 b2 b3 b4 b5 b6 w hsm h0 h1 h2
    have hb := Mo.small_bd hsm
    exact law5_m b1 b2 b3 b4 b5 b6 w hsm (Mo.wrap_le (by omega) hb.1.1 hb.1.2 (by omega)) (Mo.wrap_le (by omega) hb.2.1.1 hb.2.1.2 (by omega)) (Mo.wrap_le (by omega) hb.2.2.1 hb.2.2.2 (by omega)) hb h0 h1 h2

end Go.Proofs.Ytmjjkloeipoefaa
