/-
  Contracts: cells of a box, the far corner, what is apart.
-/
import Derived.Test.YtmjjkloeipoefaaMop
import Derived.Test.YtmjjkloeipoefaaMo5
import Derived.Handy
namespace Go.Proofs.Ytmjjkloeipoefaa
open Go.RowKit
set_option linter.unusedVariables false
set_option maxRecDepth 1000000 in
set_option maxHeartbeats 4000000 in
theorem cell_any (b1 b2 b3 b4 b5 b6 x y z : Int) (w : World) :
    Calls Try.prog 33 #[.agg #[.int .i64 b1, .int .i64 b2, .int .i64 b3, .int .i64 b4, .int .i64 b5, .int .i64 b6], .agg #[.int .i64 x, .int .i64 y, .int .i64 z]] w fun e w' => e = .returned (.bool (Mo.cellB b1 b2 b3 b4 b5 b6 x y z)) ∧ Below w.heap.size w w' := by
  obtain ⟨c0, hc0⟩ : ∃ c, c = Mo.inB x y z := ⟨_, rfl⟩
  have Hc0 := Lib.hid hc0
  clear hc0
  obtain ⟨u, hu, r0, r1, g0⟩ := rows2 w [.int .i64 b1, .int .i64 b2, .int .i64 b3, .int .i64 b4, .int .i64 b5, .int .i64 b6] 37 [.int .i64 x, .int .i64 y, .int .i64 z] 23
  have R0 := Lib.hid r0
  have R1 := Lib.hid r1
  have G0 := Lib.hid g0
  have HU := Lib.hid hu
  clear hu g0 r0 r1
  go_enter Try.func33, Try.ntmps33
  go_upto_region 1 with fail
  rw [← HU.out]
  refine wpG_region ?_
  refine wpG_tk (some 6) (v := .agg #[.int .i64 x, .int .i64 y, .int .i64 z]) rfl (.load_mid (by rfl) 23 (.tmp 3) rfl (w.heap.size + 1) 0 rfl [.int .i64 x, .int .i64 y, .int .i64 z] _ (fun W hg => (R1.out.below hg).range) Try.underlying23 rfl (by kernel_rfl)) ?_
  simp only [Act.put, List.setIfInBounds_toArray, List.set_cons_zero, List.set_cons_succ]
  refine wpG_tk (some 7) (v := .bool c0) rfl (.call (f := 30) (args := #[.agg #[.int .i64 x, .int .i64 y, .int .i64 z]]) (by rfl) (fun W => by go_simp) (fun W hg => (Hc0.out ▸ rinside_b x y z W))) ?_
  simp only [Act.put, List.setIfInBounds_toArray, List.set_cons_zero, List.set_cons_succ]
  refine wpG_tk (some 5) (v := .bool c0) rfl (.val (by rfl) (fun _ _ => rfl)) ?_
  simp only [Act.put, List.setIfInBounds_toArray, List.set_cons_zero, List.set_cons_succ]
  refine wpG_done (fun V1 hv2 => ?_)
  have GC3 := Lib.hid hv2
  clear hv2
  go_upto_region 2 with fail
  refine wpG_region ?_
  refine wpG_tk (some 8) (v := .bool c0) rfl (.val (by rfl) (fun _ _ => rfl)) ?_
  simp only [Act.put, List.setIfInBounds_toArray, List.set_cons_zero, List.set_cons_succ]
  refine wpG_tk (some 9) (v := .bool c0) rfl (.val (by rfl) (fun _ _ => rfl)) ?_
  simp only [Act.put, List.setIfInBounds_toArray, List.set_cons_zero, List.set_cons_succ]
  refine wpG_tk (some 10) (v := (bif c0 then .pointer (some ⟨w.heap.size + 1, 0, none⟩) else undef)) rfl (by cases c0 with | false => exact .no (by rfl) | true => exact (.val (by rfl) (fun W hg => by go_simp))) ?_
  simp only [Act.put, List.setIfInBounds_toArray, List.set_cons_zero, List.set_cons_succ]
  refine wpG_tk (some 11) (v := (bif c0 then .int .i64 x else undef)) rfl (by cases c0 with | false => exact .no (by rfl) | true => exact (.val (by rfl) (fun W hg => by have c := (R1.out.below (GC3.out.trans hg) 0 _ rfl).1; go_simp))) ?_
  simp only [Act.put, List.setIfInBounds_toArray, List.set_cons_zero, List.set_cons_succ]
  refine wpG_tk (some 12) (v := (bif c0 then .pointer (some ⟨w.heap.size, 0, none⟩) else undef)) rfl (by cases c0 with | false => exact .no (by rfl) | true => exact (.val (by rfl) (fun W hg => by go_simp))) ?_
  simp only [Act.put, List.setIfInBounds_toArray, List.set_cons_zero, List.set_cons_succ]
  refine wpG_tk (some 13) (v := (bif c0 then .pointer (some ⟨w.heap.size, 0, none⟩) else undef)) rfl (by cases c0 with | false => exact .no (by rfl) | true => exact (.val (by rfl) (fun W hg => by go_simp))) ?_
  simp only [Act.put, List.setIfInBounds_toArray, List.set_cons_zero, List.set_cons_succ]
  refine wpG_tk (some 14) (v := (bif c0 then .int .i64 b1 else undef)) rfl (by cases c0 with | false => exact .no (by rfl) | true => exact (.val (by rfl) (fun W hg => by have c := (R0.out.below (GC3.out.trans hg) 0 _ rfl).1; go_simp))) ?_
  simp only [Act.put, List.setIfInBounds_toArray, List.set_cons_zero, List.set_cons_succ]
  refine wpG_tk (some 15) (v := (bif c0 then .bool (decide (x ≥ b1)) else undef)) rfl (by cases c0 with | false => exact .no (by rfl) | true => exact (.val (by rfl) (fun W hg => by go_simp))) ?_
  simp only [Act.put, List.setIfInBounds_toArray, List.set_cons_zero, List.set_cons_succ]
  refine wpG_tk (some 16) (v := .bool (c0 && (decide (x ≥ b1)))) rfl (.val (by rfl) (fun W hg => by cases c0 <;> go_simp)) ?_
  simp only [Act.put, List.setIfInBounds_toArray, List.set_cons_zero, List.set_cons_succ]
  obtain ⟨c4, hc4⟩ : ∃ b, b = (c0 && (decide (x ≥ b1))) := ⟨_, rfl⟩
  rw [← hc4]
  have Hc4 := Lib.hid hc4
  clear hc4
  refine wpG_tk (some 17) (v := .bool c4) rfl (.val (by rfl) (fun _ _ => rfl)) ?_
  simp only [Act.put, List.setIfInBounds_toArray, List.set_cons_zero, List.set_cons_succ]
  refine wpG_tk (some 18) (v := (bif c4 then .pointer (some ⟨w.heap.size + 1, 1, none⟩) else undef)) rfl (by cases c4 with | false => exact .no (by rfl) | true => exact (.val (by rfl) (fun W hg => by go_simp))) ?_
  simp only [Act.put, List.setIfInBounds_toArray, List.set_cons_zero, List.set_cons_succ]
  refine wpG_tk (some 19) (v := (bif c4 then .int .i64 y else undef)) rfl (by cases c4 with | false => exact .no (by rfl) | true => exact (.val (by rfl) (fun W hg => by have c := (R1.out.below (GC3.out.trans hg) 1 _ rfl).1; go_simp))) ?_
  simp only [Act.put, List.setIfInBounds_toArray, List.set_cons_zero, List.set_cons_succ]
  refine wpG_tk (some 20) (v := (bif c4 then .pointer (some ⟨w.heap.size, 0, none⟩) else undef)) rfl (by cases c4 with | false => exact .no (by rfl) | true => exact (.val (by rfl) (fun W hg => by go_simp))) ?_
  simp only [Act.put, List.setIfInBounds_toArray, List.set_cons_zero, List.set_cons_succ]
  refine wpG_tk (some 21) (v := (bif c4 then .pointer (some ⟨w.heap.size, 1, none⟩) else undef)) rfl (by cases c4 with | false => exact .no (by rfl) | true => exact (.val (by rfl) (fun W hg => by go_simp))) ?_
  simp only [Act.put, List.setIfInBounds_toArray, List.set_cons_zero, List.set_cons_succ]
  refine wpG_tk (some 22) (v := (bif c4 then .int .i64 b2 else undef)) rfl (by cases c4 with | false => exact .no (by rfl) | true => exact (.val (by rfl) (fun W hg => by have c := (R0.out.below (GC3.out.trans hg) 1 _ rfl).1; go_simp))) ?_
  simp only [Act.put, List.setIfInBounds_toArray, List.set_cons_zero, List.set_cons_succ]
  refine wpG_tk (some 23) (v := (bif c4 then .bool (decide (y ≥ b2)) else undef)) rfl (by cases c4 with | false => exact .no (by rfl) | true => exact (.val (by rfl) (fun W hg => by go_simp))) ?_
  simp only [Act.put, List.setIfInBounds_toArray, List.set_cons_zero, List.set_cons_succ]
  refine wpG_tk (some 24) (v := .bool (c4 && (decide (y ≥ b2)))) rfl (.val (by rfl) (fun W hg => by cases c4 <;> go_simp)) ?_
  simp only [Act.put, List.setIfInBounds_toArray, List.set_cons_zero, List.set_cons_succ]
  obtain ⟨c5, hc5⟩ : ∃ b, b = (c4 && (decide (y ≥ b2))) := ⟨_, rfl⟩
  rw [← hc5]
  have Hc5 := Lib.hid hc5
  clear hc5
  refine wpG_tk (some 25) (v := .bool c5) rfl (.val (by rfl) (fun _ _ => rfl)) ?_
  simp only [Act.put, List.setIfInBounds_toArray, List.set_cons_zero, List.set_cons_succ]
  refine wpG_tk (some 26) (v := (bif c5 then .pointer (some ⟨w.heap.size + 1, 2, none⟩) else undef)) rfl (by cases c5 with | false => exact .no (by rfl) | true => exact (.val (by rfl) (fun W hg => by go_simp))) ?_
  simp only [Act.put, List.setIfInBounds_toArray, List.set_cons_zero, List.set_cons_succ]
  refine wpG_tk (some 27) (v := (bif c5 then .int .i64 z else undef)) rfl (by cases c5 with | false => exact .no (by rfl) | true => exact (.val (by rfl) (fun W hg => by have c := (R1.out.below (GC3.out.trans hg) 2 _ rfl).1; go_simp))) ?_
  simp only [Act.put, List.setIfInBounds_toArray, List.set_cons_zero, List.set_cons_succ]
  refine wpG_tk (some 28) (v := (bif c5 then .pointer (some ⟨w.heap.size, 0, none⟩) else undef)) rfl (by cases c5 with | false => exact .no (by rfl) | true => exact (.val (by rfl) (fun W hg => by go_simp))) ?_
  simp only [Act.put, List.setIfInBounds_toArray, List.set_cons_zero, List.set_cons_succ]
  refine wpG_tk (some 29) (v := (bif c5 then .pointer (some ⟨w.heap.size, 2, none⟩) else undef)) rfl (by cases c5 with | false => exact .no (by rfl) | true => exact (.val (by rfl) (fun W hg => by go_simp))) ?_
  simp only [Act.put, List.setIfInBounds_toArray, List.set_cons_zero, List.set_cons_succ]
  refine wpG_tk (some 30) (v := (bif c5 then .int .i64 b3 else undef)) rfl (by cases c5 with | false => exact .no (by rfl) | true => exact (.val (by rfl) (fun W hg => by have c := (R0.out.below (GC3.out.trans hg) 2 _ rfl).1; go_simp))) ?_
  simp only [Act.put, List.setIfInBounds_toArray, List.set_cons_zero, List.set_cons_succ]
  refine wpG_tk (some 31) (v := (bif c5 then .bool (decide (z ≥ b3)) else undef)) rfl (by cases c5 with | false => exact .no (by rfl) | true => exact (.val (by rfl) (fun W hg => by go_simp))) ?_
  simp only [Act.put, List.setIfInBounds_toArray, List.set_cons_zero, List.set_cons_succ]
  refine wpG_tk (some 32) (v := .bool (c5 && (decide (z ≥ b3)))) rfl (.val (by rfl) (fun W hg => by cases c5 <;> go_simp)) ?_
  simp only [Act.put, List.setIfInBounds_toArray, List.set_cons_zero, List.set_cons_succ]
  obtain ⟨c6, hc6⟩ : ∃ b, b = (c5 && (decide (z ≥ b3))) := ⟨_, rfl⟩
  rw [← hc6]
  have Hc6 := Lib.hid hc6
  clear hc6
  refine wpG_tk (some 33) (v := .bool c6) rfl (.val (by rfl) (fun _ _ => rfl)) ?_
  simp only [Act.put, List.setIfInBounds_toArray, List.set_cons_zero, List.set_cons_succ]
  refine wpG_tk (some 34) (v := (bif c6 then .pointer (some ⟨w.heap.size + 1, 0, none⟩) else undef)) rfl (by cases c6 with | false => exact .no (by rfl) | true => exact (.val (by rfl) (fun W hg => by go_simp))) ?_
  simp only [Act.put, List.setIfInBounds_toArray, List.set_cons_zero, List.set_cons_succ]
  refine wpG_tk (some 35) (v := (bif c6 then .int .i64 x else undef)) rfl (by cases c6 with | false => exact .no (by rfl) | true => exact (.val (by rfl) (fun W hg => by have c := (R1.out.below (GC3.out.trans hg) 0 _ rfl).1; go_simp))) ?_
  simp only [Act.put, List.setIfInBounds_toArray, List.set_cons_zero, List.set_cons_succ]
  refine wpG_tk (some 36) (v := (bif c6 then .pointer (some ⟨w.heap.size, 3, none⟩) else undef)) rfl (by cases c6 with | false => exact .no (by rfl) | true => exact (.val (by rfl) (fun W hg => by go_simp))) ?_
  simp only [Act.put, List.setIfInBounds_toArray, List.set_cons_zero, List.set_cons_succ]
  refine wpG_tk (some 37) (v := (bif c6 then .pointer (some ⟨w.heap.size, 3, none⟩) else undef)) rfl (by cases c6 with | false => exact .no (by rfl) | true => exact (.val (by rfl) (fun W hg => by go_simp))) ?_
  simp only [Act.put, List.setIfInBounds_toArray, List.set_cons_zero, List.set_cons_succ]
  refine wpG_tk (some 38) (v := (bif c6 then .int .i64 b4 else undef)) rfl (by cases c6 with | false => exact .no (by rfl) | true => exact (.val (by rfl) (fun W hg => by have c := (R0.out.below (GC3.out.trans hg) 3 _ rfl).1; go_simp))) ?_
  simp only [Act.put, List.setIfInBounds_toArray, List.set_cons_zero, List.set_cons_succ]
  refine wpG_tk (some 39) (v := (bif c6 then .bool (decide (x < b4)) else undef)) rfl (by cases c6 with | false => exact .no (by rfl) | true => exact (.val (by rfl) (fun W hg => by go_simp))) ?_
  simp only [Act.put, List.setIfInBounds_toArray, List.set_cons_zero, List.set_cons_succ]
  refine wpG_tk (some 40) (v := .bool (c6 && (decide (x < b4)))) rfl (.val (by rfl) (fun W hg => by cases c6 <;> go_simp)) ?_
  simp only [Act.put, List.setIfInBounds_toArray, List.set_cons_zero, List.set_cons_succ]
  obtain ⟨c7, hc7⟩ : ∃ b, b = (c6 && (decide (x < b4))) := ⟨_, rfl⟩
  rw [← hc7]
  have Hc7 := Lib.hid hc7
  clear hc7
  refine wpG_tk (some 41) (v := .bool c7) rfl (.val (by rfl) (fun _ _ => rfl)) ?_
  simp only [Act.put, List.setIfInBounds_toArray, List.set_cons_zero, List.set_cons_succ]
  refine wpG_tk (some 42) (v := (bif c7 then .pointer (some ⟨w.heap.size + 1, 1, none⟩) else undef)) rfl (by cases c7 with | false => exact .no (by rfl) | true => exact (.val (by rfl) (fun W hg => by go_simp))) ?_
  simp only [Act.put, List.setIfInBounds_toArray, List.set_cons_zero, List.set_cons_succ]
  refine wpG_tk (some 43) (v := (bif c7 then .int .i64 y else undef)) rfl (by cases c7 with | false => exact .no (by rfl) | true => exact (.val (by rfl) (fun W hg => by have c := (R1.out.below (GC3.out.trans hg) 1 _ rfl).1; go_simp))) ?_
  simp only [Act.put, List.setIfInBounds_toArray, List.set_cons_zero, List.set_cons_succ]
  refine wpG_tk (some 44) (v := (bif c7 then .pointer (some ⟨w.heap.size, 3, none⟩) else undef)) rfl (by cases c7 with | false => exact .no (by rfl) | true => exact (.val (by rfl) (fun W hg => by go_simp))) ?_
  simp only [Act.put, List.setIfInBounds_toArray, List.set_cons_zero, List.set_cons_succ]
  refine wpG_tk (some 45) (v := (bif c7 then .pointer (some ⟨w.heap.size, 4, none⟩) else undef)) rfl (by cases c7 with | false => exact .no (by rfl) | true => exact (.val (by rfl) (fun W hg => by go_simp))) ?_
  simp only [Act.put, List.setIfInBounds_toArray, List.set_cons_zero, List.set_cons_succ]
  refine wpG_tk (some 46) (v := (bif c7 then .int .i64 b5 else undef)) rfl (by cases c7 with | false => exact .no (by rfl) | true => exact (.val (by rfl) (fun W hg => by have c := (R0.out.below (GC3.out.trans hg) 4 _ rfl).1; go_simp))) ?_
  simp only [Act.put, List.setIfInBounds_toArray, List.set_cons_zero, List.set_cons_succ]
  refine wpG_tk (some 47) (v := (bif c7 then .bool (decide (y < b5)) else undef)) rfl (by cases c7 with | false => exact .no (by rfl) | true => exact (.val (by rfl) (fun W hg => by go_simp))) ?_
  simp only [Act.put, List.setIfInBounds_toArray, List.set_cons_zero, List.set_cons_succ]
  refine wpG_tk (some 48) (v := .bool (c7 && (decide (y < b5)))) rfl (.val (by rfl) (fun W hg => by cases c7 <;> go_simp)) ?_
  simp only [Act.put, List.setIfInBounds_toArray, List.set_cons_zero, List.set_cons_succ]
  obtain ⟨c8, hc8⟩ : ∃ b, b = (c7 && (decide (y < b5))) := ⟨_, rfl⟩
  rw [← hc8]
  have Hc8 := Lib.hid hc8
  clear hc8
  refine wpG_tk (some 49) (v := .bool c8) rfl (.val (by rfl) (fun _ _ => rfl)) ?_
  simp only [Act.put, List.setIfInBounds_toArray, List.set_cons_zero, List.set_cons_succ]
  refine wpG_tk (some 50) (v := (bif c8 then .pointer (some ⟨w.heap.size + 1, 2, none⟩) else undef)) rfl (by cases c8 with | false => exact .no (by rfl) | true => exact (.val (by rfl) (fun W hg => by go_simp))) ?_
  simp only [Act.put, List.setIfInBounds_toArray, List.set_cons_zero, List.set_cons_succ]
  refine wpG_tk (some 51) (v := (bif c8 then .int .i64 z else undef)) rfl (by cases c8 with | false => exact .no (by rfl) | true => exact (.val (by rfl) (fun W hg => by have c := (R1.out.below (GC3.out.trans hg) 2 _ rfl).1; go_simp))) ?_
  simp only [Act.put, List.setIfInBounds_toArray, List.set_cons_zero, List.set_cons_succ]
  refine wpG_tk (some 52) (v := (bif c8 then .pointer (some ⟨w.heap.size, 3, none⟩) else undef)) rfl (by cases c8 with | false => exact .no (by rfl) | true => exact (.val (by rfl) (fun W hg => by go_simp))) ?_
  simp only [Act.put, List.setIfInBounds_toArray, List.set_cons_zero, List.set_cons_succ]
  refine wpG_tk (some 53) (v := (bif c8 then .pointer (some ⟨w.heap.size, 5, none⟩) else undef)) rfl (by cases c8 with | false => exact .no (by rfl) | true => exact (.val (by rfl) (fun W hg => by go_simp))) ?_
  simp only [Act.put, List.setIfInBounds_toArray, List.set_cons_zero, List.set_cons_succ]
  refine wpG_tk (some 54) (v := (bif c8 then .int .i64 b6 else undef)) rfl (by cases c8 with | false => exact .no (by rfl) | true => exact (.val (by rfl) (fun W hg => by have c := (R0.out.below (GC3.out.trans hg) 5 _ rfl).1; go_simp))) ?_
  simp only [Act.put, List.setIfInBounds_toArray, List.set_cons_zero, List.set_cons_succ]
  refine wpG_tk (some 55) (v := (bif c8 then .bool (decide (z < b6)) else undef)) rfl (by cases c8 with | false => exact .no (by rfl) | true => exact (.val (by rfl) (fun W hg => by go_simp))) ?_
  simp only [Act.put, List.setIfInBounds_toArray, List.set_cons_zero, List.set_cons_succ]
  refine wpG_tk (some 56) (v := .bool (c8 && (decide (z < b6)))) rfl (.val (by rfl) (fun W hg => by cases c8 <;> go_simp)) ?_
  simp only [Act.put, List.setIfInBounds_toArray, List.set_cons_zero, List.set_cons_succ]
  obtain ⟨c9, hc9⟩ : ∃ b, b = (c8 && (decide (z < b6))) := ⟨_, rfl⟩
  rw [← hc9]
  have Hc9 := Lib.hid hc9
  clear hc9
  refine wpG_tk (some 4) (v := .bool c9) rfl (.val (by rfl) (fun _ _ => rfl)) ?_
  simp only [Act.put, List.setIfInBounds_toArray, List.set_cons_zero, List.set_cons_succ]
  refine wpG_done (fun V10 hv11 => ?_)
  have GC12 := Lib.hid (GC3.out.trans hv11)
  clear hv11
  go_wp2_with fail
  go_ret
  exact ⟨ret_bool (by rw [Hc9.out, Hc8.out, Hc7.out, Hc6.out, Hc5.out, Hc4.out, Hc0.out]; rfl), Gr.to G0.out GC12.out⟩

end Go.Proofs.Ytmjjkloeipoefaa
