/-
  Contracts: the next code, by the program and by the specification.
-/
import Derived.Test.YtmjjkloeipoefaaMob3
import Derived.Laws.EntriesVeiled
import Derived.Handy
namespace Go.Proofs.Ytmjjkloeipoefaa
open Go.RowKit
set_option linter.unusedVariables false
def nextI (b1 b2 b3 b4 b5 b6 n : Int) : Int := Mo.nx b1 b2 b3 b4 b5 b6 n 14 0 0 0
theorem sits0 : Mo.sits 0 0 0 14 := by unfold Mo.sits; have : Mo.pw 14 = 16384 := rfl; omega
set_option maxRecDepth 1000000 in
set_option maxHeartbeats 4000000 in
theorem next_any (b1 b2 b3 b4 b5 b6 n : Int) (w : World) :
    Calls Try.prog 28 #[.agg #[.int .i64 b1, .int .i64 b2, .int .i64 b3, .int .i64 b4, .int .i64 b5, .int .i64 b6], .int .i64 n] w fun e w' => e = .returned (.int .i64 (nextI b1 b2 b3 b4 b5 b6 n)) ∧ Below w.heap.size w w' := by
  obtain ⟨u, hu, r0, r1, g0⟩ := rows2 w [.int .i64 b1, .int .i64 b2, .int .i64 b3, .int .i64 b4, .int .i64 b5, .int .i64 b6] 37 [.int .i64 n] 3
  have R0 := Lib.hid r0
  have R1 := Lib.hid r1
  have G0 := Lib.hid g0
  have HU := Lib.hid hu
  clear hu g0 r0 r1
  go_enter Try.func28, Try.ntmps28
  go_upto_region 1 with fail
  rw [← HU.out]
  refine wpG_region ?_
  refine wpG_val (some 5) rfl (by rfl) (fun W1 hg2 => ⟨.pointer (some ⟨W1.heap.size, 0, none⟩), W1.alloc (.cells #[.nilFunc] 71), by (go_simp <;> rfl), ?_⟩)
  simp only [Act.put, List.setIfInBounds_toArray, List.set_cons_zero, List.set_cons_succ]
  refine wpG_done (fun V3 hv4 => ?_)
  have l6 : w.heap.size < W1.heap.size := (R0.out.below hg2).lt
  have l7 : w.heap.size + 1 < W1.heap.size := (R1.out.below hg2).lt
  have l8 : w.heap.size ≤ W1.heap.size := (Gr.to G0.out hg2).size
  have R9 := Lib.hid (R0.out.below ((hg2.trans (Gr.al W1 (.cells #[.nilFunc] 71))).trans hv4))
  have R10 := Lib.hid (R1.out.below ((hg2.trans (Gr.al W1 (.cells #[.nilFunc] 71))).trans hv4))
  have R11 := Lib.hid ((Row.newl W1 [.nilFunc] 71).below hv4)
  have G5 := Lib.hid (Gr.to G0.out ((hg2.trans (Gr.al W1 (.cells #[.nilFunc] 71))).trans hv4))
  clear hv4
  go_upto_region 2 with fail
  refine wpG_region ?_
  refine @wpG_tk _ _ _ _ _ (some 6) (.func (.func 47) #[] #[.pointer (some ⟨w.heap.size, 0, none⟩), .pointer (some ⟨w.heap.size + 1, 0, none⟩), .pointer (some ⟨W1.heap.size, 0, none⟩)]) _ _ rfl (.val (by rfl) (fun W hg => by go_simp)) ?_
  simp only [Act.put, List.setIfInBounds_toArray, List.set_cons_zero, List.set_cons_succ]
  refine wpG_store (none) rfl (by rfl) (fun W12 hg13 => ⟨W12.setCell ⟨W1.heap.size, 0, none⟩ (.func (.func 47) #[] #[.pointer (some ⟨w.heap.size, 0, none⟩), .pointer (some ⟨w.heap.size + 1, 0, none⟩), .pointer (some ⟨W1.heap.size, 0, none⟩)]), by have c := (R11.out.below hg13).cellx 0 _ rfl; have c2 := (R11.out.below hg13).softx 0 _ rfl; go_simp, ?_⟩)
  simp only [Act.put]
  refine wpG_done (fun V14 hv15 => ?_)
  have R17 := Lib.hid (((R9.out.below hg13).far (b := W1.heap.size) (by omega) 0 [.func (.func 47) #[] #[.pointer (some ⟨w.heap.size, 0, none⟩), .pointer (some ⟨w.heap.size + 1, 0, none⟩), .pointer (some ⟨W1.heap.size, 0, none⟩)]]).below hv15)
  have R18 := Lib.hid (((R10.out.below hg13).far (b := W1.heap.size) (by omega) 0 [.func (.func 47) #[] #[.pointer (some ⟨w.heap.size, 0, none⟩), .pointer (some ⟨w.heap.size + 1, 0, none⟩), .pointer (some ⟨W1.heap.size, 0, none⟩)]]).below hv15)
  have R19 : Hid (Row W1.heap.size [.func (.func 47) #[] #[.pointer (some ⟨w.heap.size, 0, none⟩), .pointer (some ⟨w.heap.size + 1, 0, none⟩), .pointer (some ⟨W1.heap.size, 0, none⟩)]] V14) := Lib.hid (((R11.out.below hg13).set 0 (.func (.func 47) #[] #[.pointer (some ⟨w.heap.size, 0, none⟩), .pointer (some ⟨w.heap.size + 1, 0, none⟩), .pointer (some ⟨W1.heap.size, 0, none⟩)]) (by simp)).below hv15)
  have G16 := Lib.hid (Gr.put1 G5.out hg13 (by omega) hv15)
  clear hg13 hv15
  go_upto_region 3 with fail
  refine wpK_region (by kernel_rfl) ?_
  refine wpK_tk (i := 0) (some 7) (v := .func (.func 47) #[] #[.pointer (some ⟨w.heap.size, 0, none⟩), .pointer (some ⟨w.heap.size + 1, 0, none⟩), .pointer (some ⟨W1.heap.size, 0, none⟩)]) rfl rfl (by kernel_rfl) (fun _ _ _ h => h) (.val (by rfl) (fun W hg => by have c := (R19.out.below (Gr.un hg) 0 _ rfl).1; go_simp)) ?_
  simp only [Act.put, List.setIfInBounds_toArray, List.set_cons_zero, List.set_cons_succ]
  refine wpK_tk (i := 1) (some 8) (v := .agg #[.int .i64 0, .int .i64 0, .int .i64 0, .int .i64 14]) rfl rfl (by kernel_rfl) (fun _ _ _ h => h) (.call (f := 44) (args := #[]) (by rfl) (fun W => by go_simp) (fun W hg => whole_any W)) ?_
  simp only [Act.put, List.setIfInBounds_toArray, List.set_cons_zero, List.set_cons_succ]
  refine wpK_tk (i := 2) (some 9) (v := .int .i64 (Mo.nx b1 b2 b3 b4 b5 b6 n 14 0 0 0)) rfl rfl (by kernel_rfl) (fun _ _ _ h => h) (.call (f := 47) (args := #[.agg #[.int .i64 0, .int .i64 0, .int .i64 0, .int .i64 14], .pointer (some ⟨w.heap.size, 0, none⟩), .pointer (some ⟨w.heap.size + 1, 0, none⟩), .pointer (some ⟨W1.heap.size, 0, none⟩)]) (by rfl) (fun W => by go_simp) (fun W hg => find_any b1 b2 b3 b4 b5 b6 n w.heap.size (w.heap.size + 1) W1.heap.size 14 0 0 0 14 W rfl sits0 (R17.out.below (Gr.un hg)) (R18.out.below (Gr.un hg)) (R19.out.below (Gr.un hg)))) ?_
  simp only [Act.put, List.setIfInBounds_toArray, List.set_cons_zero, List.set_cons_succ]
  refine wpK_ta (i := 3) (some 4) (v := .int .i64 (Mo.nx b1 b2 b3 b4 b5 b6 n 14 0 0 0)) rfl rfl (by kernel_rfl) (fun _ _ _ h => h) (Or.inl ⟨rfl, fun _ => rfl⟩) ?_
  simp only [Act.put, List.setIfInBounds_toArray, List.set_cons_zero, List.set_cons_succ]
  refine wpK_done (by kernel_rfl) (fun V20 hv21 => ?_) _
  have GC22 := Lib.hid (Gr.un hv21)
  clear hv21
  go_wp2_with fail
  go_ret
  exact ⟨rfl, Gr.to G16.out GC22.out⟩
end Go.Proofs.Ytmjjkloeipoefaa
