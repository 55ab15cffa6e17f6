/-
  Contracts: neighbours.
-/
import Derived.Test.YtmjjkloeipoefaaMoc
import Derived.Handy
namespace Go.Proofs.Ytmjjkloeipoefaa
open Go.RowKit
set_option linter.unusedVariables false
set_option maxRecDepth 1000000 in
set_option maxHeartbeats 4000000 in
theorem nb_0 (n : Int) (a : Int) (u : Bool) (w : World) (h : Mo.okB n = false) :
    Calls Try.prog 19 #[.int .i64 n, .int .i64 a, .bool u] w fun e w' => e = .returned (.int .i64 (-1)) ∧ Below w.heap.size w w' := by
  have HI := Lib.hid h
  clear h
  have hd0 := Mo.dec_bd 0 n
  have hd1 := Mo.dec_bd 1 n
  have hd2 := Mo.dec_bd 2 n
  have G0 := Lib.hid (Below.refl w.heap.size w)
  go_enter Try.func19, Try.ntmps19
  go_upto_region 1 with fail
  refine wpG_region ?_
  refine wpG_tk (some 11) (v := .int .i64 n) rfl (.val (by rfl) (fun _ _ => rfl)) ?_
  simp only [Act.put, List.setIfInBounds_toArray, List.set_cons_zero, List.set_cons_succ]
  refine wpG_tk (some 12) (v := .tuple #[.agg #[.int .i64 (Mo.dec 0 n), .int .i64 (Mo.dec 1 n), .int .i64 (Mo.dec 2 n)], .bool false]) rfl (.call (f := 9) (args := #[.int .i64 n]) (by rfl) (fun W => by go_simp) (fun W hg => (HI.out ▸ decode_any n W))) ?_
  simp only [Act.put, List.setIfInBounds_toArray, List.set_cons_zero, List.set_cons_succ]
  refine wpG_tk (some 10) (v := .tuple #[.agg #[.int .i64 (Mo.dec 0 n), .int .i64 (Mo.dec 1 n), .int .i64 (Mo.dec 2 n)], .bool false]) rfl (.val (by rfl) (fun _ _ => rfl)) ?_
  simp only [Act.put, List.setIfInBounds_toArray, List.set_cons_zero, List.set_cons_succ]
  refine wpG_tk (some 13) (v := .agg #[.int .i64 (Mo.dec 0 n), .int .i64 (Mo.dec 1 n), .int .i64 (Mo.dec 2 n)]) rfl (.val (by rfl) (fun W hg => by go_simp)) ?_
  simp only [Act.put, List.setIfInBounds_toArray, List.set_cons_zero, List.set_cons_succ]
  refine wpG_tk (some 14) (v := .bool false) rfl (.val (by rfl) (fun W hg => by go_simp)) ?_
  simp only [Act.put, List.setIfInBounds_toArray, List.set_cons_zero, List.set_cons_succ]
  refine wpG_val (some 7) rfl (by rfl) (fun W1 hg2 => ⟨.pointer (some ⟨W1.heap.size, 0, none⟩), W1.alloc (.cells #[.int .i64 0, .int .i64 0, .int .i64 0] 23), by (go_simp <;> rfl), ?_⟩)
  simp only [Act.put, List.setIfInBounds_toArray, List.set_cons_zero, List.set_cons_succ]
  refine wpG_store (none) rfl (by rfl) (fun W3 hg4 => ⟨_, run_store_mid 23 (.tmp 7) (.tmp 13) rfl (W1.heap.size) 0 #[.int .i64 (Mo.dec 0 n), .int .i64 (Mo.dec 1 n), .int .i64 (Mo.dec 2 n)] rfl rfl (Row.room hg4 3 rfl) (by kernel_rfl) (by kernel_rfl), ?_⟩)
  simp only [Act.put]
  refine wpG_tk (some 8) (v := .bool false) rfl (.val (by rfl) (fun _ _ => rfl)) ?_
  simp only [Act.put, List.setIfInBounds_toArray, List.set_cons_zero, List.set_cons_succ]
  refine wpG_done (fun V5 hv6 => ?_)
  have l8 : w.heap.size ≤ W1.heap.size := (Gr.to G0.out hg2).size
  have R9 := Lib.hid (Row.made (zs := [.int .i64 0, .int .i64 0, .int .i64 0]) (ds := [.int .i64 (Mo.dec 0 n), .int .i64 (Mo.dec 1 n), .int .i64 (Mo.dec 2 n)]) rfl hg4 hv6)
  have G7 := Lib.hid (Gr.to (Gr.to G0.out hg2) (Gr.past hg4 hv6))
  clear hg4 hv6 
  go_upto_region 2 with fail
  refine wpG_region ?_
  refine wpG_tk (some 15) (v := .bool false) rfl (.val (by rfl) (fun _ _ => rfl)) ?_
  simp only [Act.put, List.setIfInBounds_toArray, List.set_cons_zero, List.set_cons_succ]
  refine wpG_tk (some 16) (v := .bool true) rfl (.val (by rfl) (fun W hg => by go_simp)) ?_
  simp only [Act.put, List.setIfInBounds_toArray, List.set_cons_zero, List.set_cons_succ]
  refine wpG_tk (some 17) (v := .bool true) rfl (.val (by rfl) (fun _ _ => rfl)) ?_
  simp only [Act.put, List.setIfInBounds_toArray, List.set_cons_zero, List.set_cons_succ]
  refine wpG_tk (some 18) (v := undef) rfl (.no (by rfl)) ?_
  simp only [Act.put, List.setIfInBounds_toArray, List.set_cons_zero, List.set_cons_succ]
  refine wpG_tk (some 19) (v := undef) rfl (.no (by rfl)) ?_
  simp only [Act.put, List.setIfInBounds_toArray, List.set_cons_zero, List.set_cons_succ]
  refine wpG_tk (some 20) (v := .bool true) rfl (.val (by rfl) (fun W hg => by go_simp)) ?_
  simp only [Act.put, List.setIfInBounds_toArray, List.set_cons_zero, List.set_cons_succ]
  refine wpG_tk (some 21) (v := .bool true) rfl (.val (by rfl) (fun _ _ => rfl)) ?_
  simp only [Act.put, List.setIfInBounds_toArray, List.set_cons_zero, List.set_cons_succ]
  refine wpG_tk (some 22) (v := undef) rfl (.no (by rfl)) ?_
  simp only [Act.put, List.setIfInBounds_toArray, List.set_cons_zero, List.set_cons_succ]
  refine wpG_tk (some 23) (v := undef) rfl (.no (by rfl)) ?_
  simp only [Act.put, List.setIfInBounds_toArray, List.set_cons_zero, List.set_cons_succ]
  refine wpG_tk (some 24) (v := .bool true) rfl (.val (by rfl) (fun W hg => by go_simp)) ?_
  simp only [Act.put, List.setIfInBounds_toArray, List.set_cons_zero, List.set_cons_succ]
  refine wpG_done (fun V10 hv11 => ?_)
  have GC12 := Lib.hid hv11
  clear hv11
  go_upto_region 3 with fail
  refine wpG_region ?_
  refine wpG_tk (some 6) (v := .int .i64 (-1)) rfl (.val (by rfl) (fun _ _ => rfl)) ?_
  simp only [Act.put, List.setIfInBounds_toArray, List.set_cons_zero, List.set_cons_succ]
  refine wpG_done (fun V13 hv14 => ?_)
  have GC15 := Lib.hid (GC12.out.trans hv14)
  clear hv14
  go_wp2_with fail
  go_ret
  exact ⟨rfl, Gr.to G7.out GC15.out⟩
set_option maxRecDepth 1000000 in
set_option maxHeartbeats 4000000 in
theorem nb_1 (n : Int) (a : Int) (u : Bool) (w : World) (h : Mo.okB n = true) (ha : a < 0) :
    Calls Try.prog 19 #[.int .i64 n, .int .i64 a, .bool u] w fun e w' => e = .returned (.int .i64 (-1)) ∧ Below w.heap.size w w' := by
  have HI := Lib.hid h
  clear h
  have hd0 := Mo.dec_bd 0 n
  have hd1 := Mo.dec_bd 1 n
  have hd2 := Mo.dec_bd 2 n
  have G0 := Lib.hid (Below.refl w.heap.size w)
  go_enter Try.func19, Try.ntmps19
  go_upto_region 1 with fail
  refine wpG_region ?_
  refine wpG_tk (some 11) (v := .int .i64 n) rfl (.val (by rfl) (fun _ _ => rfl)) ?_
  simp only [Act.put, List.setIfInBounds_toArray, List.set_cons_zero, List.set_cons_succ]
  refine wpG_tk (some 12) (v := .tuple #[.agg #[.int .i64 (Mo.dec 0 n), .int .i64 (Mo.dec 1 n), .int .i64 (Mo.dec 2 n)], .bool true]) rfl (.call (f := 9) (args := #[.int .i64 n]) (by rfl) (fun W => by go_simp) (fun W hg => (HI.out ▸ decode_any n W))) ?_
  simp only [Act.put, List.setIfInBounds_toArray, List.set_cons_zero, List.set_cons_succ]
  refine wpG_tk (some 10) (v := .tuple #[.agg #[.int .i64 (Mo.dec 0 n), .int .i64 (Mo.dec 1 n), .int .i64 (Mo.dec 2 n)], .bool true]) rfl (.val (by rfl) (fun _ _ => rfl)) ?_
  simp only [Act.put, List.setIfInBounds_toArray, List.set_cons_zero, List.set_cons_succ]
  refine wpG_tk (some 13) (v := .agg #[.int .i64 (Mo.dec 0 n), .int .i64 (Mo.dec 1 n), .int .i64 (Mo.dec 2 n)]) rfl (.val (by rfl) (fun W hg => by go_simp)) ?_
  simp only [Act.put, List.setIfInBounds_toArray, List.set_cons_zero, List.set_cons_succ]
  refine wpG_tk (some 14) (v := .bool true) rfl (.val (by rfl) (fun W hg => by go_simp)) ?_
  simp only [Act.put, List.setIfInBounds_toArray, List.set_cons_zero, List.set_cons_succ]
  refine wpG_val (some 7) rfl (by rfl) (fun W1 hg2 => ⟨.pointer (some ⟨W1.heap.size, 0, none⟩), W1.alloc (.cells #[.int .i64 0, .int .i64 0, .int .i64 0] 23), by (go_simp <;> rfl), ?_⟩)
  simp only [Act.put, List.setIfInBounds_toArray, List.set_cons_zero, List.set_cons_succ]
  refine wpG_store (none) rfl (by rfl) (fun W3 hg4 => ⟨_, run_store_mid 23 (.tmp 7) (.tmp 13) rfl (W1.heap.size) 0 #[.int .i64 (Mo.dec 0 n), .int .i64 (Mo.dec 1 n), .int .i64 (Mo.dec 2 n)] rfl rfl (Row.room hg4 3 rfl) (by kernel_rfl) (by kernel_rfl), ?_⟩)
  simp only [Act.put]
  refine wpG_tk (some 8) (v := .bool true) rfl (.val (by rfl) (fun _ _ => rfl)) ?_
  simp only [Act.put, List.setIfInBounds_toArray, List.set_cons_zero, List.set_cons_succ]
  refine wpG_done (fun V5 hv6 => ?_)
  have l8 : w.heap.size ≤ W1.heap.size := (Gr.to G0.out hg2).size
  have R9 := Lib.hid (Row.made (zs := [.int .i64 0, .int .i64 0, .int .i64 0]) (ds := [.int .i64 (Mo.dec 0 n), .int .i64 (Mo.dec 1 n), .int .i64 (Mo.dec 2 n)]) rfl hg4 hv6)
  have G7 := Lib.hid (Gr.to (Gr.to G0.out hg2) (Gr.past hg4 hv6))
  clear hg4 hv6 
  go_upto_region 2 with fail
  refine wpG_region ?_
  refine wpG_tk (some 15) (v := .bool true) rfl (.val (by rfl) (fun _ _ => rfl)) ?_
  simp only [Act.put, List.setIfInBounds_toArray, List.set_cons_zero, List.set_cons_succ]
  refine wpG_tk (some 16) (v := .bool false) rfl (.val (by rfl) (fun W hg => by go_simp)) ?_
  simp only [Act.put, List.setIfInBounds_toArray, List.set_cons_zero, List.set_cons_succ]
  refine wpG_tk (some 17) (v := .bool false) rfl (.val (by rfl) (fun _ _ => rfl)) ?_
  simp only [Act.put, List.setIfInBounds_toArray, List.set_cons_zero, List.set_cons_succ]
  refine wpG_tk (some 18) (v := .int .i64 a) rfl (.val (by rfl) (fun _ _ => rfl)) ?_
  simp only [Act.put, List.setIfInBounds_toArray, List.set_cons_zero, List.set_cons_succ]
  refine wpG_tk (some 19) (v := .bool true) rfl (.val (by rfl) (fun W hg => by have hq : (a < 0) := (by omega); first | (go_simp; done) | (go_simp <;> omega))) ?_
  simp only [Act.put, List.setIfInBounds_toArray, List.set_cons_zero, List.set_cons_succ]
  refine wpG_tk (some 20) (v := .bool true) rfl (.val (by rfl) (fun W hg => by go_simp)) ?_
  simp only [Act.put, List.setIfInBounds_toArray, List.set_cons_zero, List.set_cons_succ]
  refine wpG_tk (some 21) (v := .bool true) rfl (.val (by rfl) (fun _ _ => rfl)) ?_
  simp only [Act.put, List.setIfInBounds_toArray, List.set_cons_zero, List.set_cons_succ]
  refine wpG_tk (some 22) (v := undef) rfl (.no (by rfl)) ?_
  simp only [Act.put, List.setIfInBounds_toArray, List.set_cons_zero, List.set_cons_succ]
  refine wpG_tk (some 23) (v := undef) rfl (.no (by rfl)) ?_
  simp only [Act.put, List.setIfInBounds_toArray, List.set_cons_zero, List.set_cons_succ]
  refine wpG_tk (some 24) (v := .bool true) rfl (.val (by rfl) (fun W hg => by go_simp)) ?_
  simp only [Act.put, List.setIfInBounds_toArray, List.set_cons_zero, List.set_cons_succ]
  refine wpG_done (fun V10 hv11 => ?_)
  have GC12 := Lib.hid hv11
  clear hv11
  go_upto_region 3 with fail
  refine wpG_region ?_
  refine wpG_tk (some 6) (v := .int .i64 (-1)) rfl (.val (by rfl) (fun _ _ => rfl)) ?_
  simp only [Act.put, List.setIfInBounds_toArray, List.set_cons_zero, List.set_cons_succ]
  refine wpG_done (fun V13 hv14 => ?_)
  have GC15 := Lib.hid (GC12.out.trans hv14)
  clear hv14
  go_wp2_with fail
  go_ret
  exact ⟨rfl, Gr.to G7.out GC15.out⟩
set_option maxRecDepth 1000000 in
set_option maxHeartbeats 4000000 in
theorem nb_2 (n : Int) (a : Int) (u : Bool) (w : World) (h : Mo.okB n = true) (ha : ¬ a < 0) (ha2 : 2 < a) :
    Calls Try.prog 19 #[.int .i64 n, .int .i64 a, .bool u] w fun e w' => e = .returned (.int .i64 (-1)) ∧ Below w.heap.size w w' := by
  have HI := Lib.hid h
  clear h
  have hd0 := Mo.dec_bd 0 n
  have hd1 := Mo.dec_bd 1 n
  have hd2 := Mo.dec_bd 2 n
  have G0 := Lib.hid (Below.refl w.heap.size w)
  go_enter Try.func19, Try.ntmps19
  go_upto_region 1 with fail
  refine wpG_region ?_
  refine wpG_tk (some 11) (v := .int .i64 n) rfl (.val (by rfl) (fun _ _ => rfl)) ?_
  simp only [Act.put, List.setIfInBounds_toArray, List.set_cons_zero, List.set_cons_succ]
  refine wpG_tk (some 12) (v := .tuple #[.agg #[.int .i64 (Mo.dec 0 n), .int .i64 (Mo.dec 1 n), .int .i64 (Mo.dec 2 n)], .bool true]) rfl (.call (f := 9) (args := #[.int .i64 n]) (by rfl) (fun W => by go_simp) (fun W hg => (HI.out ▸ decode_any n W))) ?_
  simp only [Act.put, List.setIfInBounds_toArray, List.set_cons_zero, List.set_cons_succ]
  refine wpG_tk (some 10) (v := .tuple #[.agg #[.int .i64 (Mo.dec 0 n), .int .i64 (Mo.dec 1 n), .int .i64 (Mo.dec 2 n)], .bool true]) rfl (.val (by rfl) (fun _ _ => rfl)) ?_
  simp only [Act.put, List.setIfInBounds_toArray, List.set_cons_zero, List.set_cons_succ]
  refine wpG_tk (some 13) (v := .agg #[.int .i64 (Mo.dec 0 n), .int .i64 (Mo.dec 1 n), .int .i64 (Mo.dec 2 n)]) rfl (.val (by rfl) (fun W hg => by go_simp)) ?_
  simp only [Act.put, List.setIfInBounds_toArray, List.set_cons_zero, List.set_cons_succ]
  refine wpG_tk (some 14) (v := .bool true) rfl (.val (by rfl) (fun W hg => by go_simp)) ?_
  simp only [Act.put, List.setIfInBounds_toArray, List.set_cons_zero, List.set_cons_succ]
  refine wpG_val (some 7) rfl (by rfl) (fun W1 hg2 => ⟨.pointer (some ⟨W1.heap.size, 0, none⟩), W1.alloc (.cells #[.int .i64 0, .int .i64 0, .int .i64 0] 23), by (go_simp <;> rfl), ?_⟩)
  simp only [Act.put, List.setIfInBounds_toArray, List.set_cons_zero, List.set_cons_succ]
  refine wpG_store (none) rfl (by rfl) (fun W3 hg4 => ⟨_, run_store_mid 23 (.tmp 7) (.tmp 13) rfl (W1.heap.size) 0 #[.int .i64 (Mo.dec 0 n), .int .i64 (Mo.dec 1 n), .int .i64 (Mo.dec 2 n)] rfl rfl (Row.room hg4 3 rfl) (by kernel_rfl) (by kernel_rfl), ?_⟩)
  simp only [Act.put]
  refine wpG_tk (some 8) (v := .bool true) rfl (.val (by rfl) (fun _ _ => rfl)) ?_
  simp only [Act.put, List.setIfInBounds_toArray, List.set_cons_zero, List.set_cons_succ]
  refine wpG_done (fun V5 hv6 => ?_)
  have l8 : w.heap.size ≤ W1.heap.size := (Gr.to G0.out hg2).size
  have R9 := Lib.hid (Row.made (zs := [.int .i64 0, .int .i64 0, .int .i64 0]) (ds := [.int .i64 (Mo.dec 0 n), .int .i64 (Mo.dec 1 n), .int .i64 (Mo.dec 2 n)]) rfl hg4 hv6)
  have G7 := Lib.hid (Gr.to (Gr.to G0.out hg2) (Gr.past hg4 hv6))
  clear hg4 hv6 
  go_upto_region 2 with fail
  refine wpG_region ?_
  refine wpG_tk (some 15) (v := .bool true) rfl (.val (by rfl) (fun _ _ => rfl)) ?_
  simp only [Act.put, List.setIfInBounds_toArray, List.set_cons_zero, List.set_cons_succ]
  refine wpG_tk (some 16) (v := .bool false) rfl (.val (by rfl) (fun W hg => by go_simp)) ?_
  simp only [Act.put, List.setIfInBounds_toArray, List.set_cons_zero, List.set_cons_succ]
  refine wpG_tk (some 17) (v := .bool false) rfl (.val (by rfl) (fun _ _ => rfl)) ?_
  simp only [Act.put, List.setIfInBounds_toArray, List.set_cons_zero, List.set_cons_succ]
  refine wpG_tk (some 18) (v := .int .i64 a) rfl (.val (by rfl) (fun _ _ => rfl)) ?_
  simp only [Act.put, List.setIfInBounds_toArray, List.set_cons_zero, List.set_cons_succ]
  refine wpG_tk (some 19) (v := .bool false) rfl (.val (by rfl) (fun W hg => by have hq : ¬ (a < 0) := (by omega); first | (go_simp; done) | (go_simp <;> omega))) ?_
  simp only [Act.put, List.setIfInBounds_toArray, List.set_cons_zero, List.set_cons_succ]
  refine wpG_tk (some 20) (v := .bool false) rfl (.val (by rfl) (fun W hg => by go_simp)) ?_
  simp only [Act.put, List.setIfInBounds_toArray, List.set_cons_zero, List.set_cons_succ]
  refine wpG_tk (some 21) (v := .bool false) rfl (.val (by rfl) (fun _ _ => rfl)) ?_
  simp only [Act.put, List.setIfInBounds_toArray, List.set_cons_zero, List.set_cons_succ]
  refine wpG_tk (some 22) (v := .int .i64 a) rfl (.val (by rfl) (fun _ _ => rfl)) ?_
  simp only [Act.put, List.setIfInBounds_toArray, List.set_cons_zero, List.set_cons_succ]
  refine wpG_tk (some 23) (v := .bool true) rfl (.val (by rfl) (fun W hg => by have hq : (a ≥ 3) := (by omega); first | (go_simp; done) | (go_simp <;> omega))) ?_
  simp only [Act.put, List.setIfInBounds_toArray, List.set_cons_zero, List.set_cons_succ]
  refine wpG_tk (some 24) (v := .bool true) rfl (.val (by rfl) (fun W hg => by go_simp)) ?_
  simp only [Act.put, List.setIfInBounds_toArray, List.set_cons_zero, List.set_cons_succ]
  refine wpG_done (fun V10 hv11 => ?_)
  have GC12 := Lib.hid hv11
  clear hv11
  go_upto_region 3 with fail
  refine wpG_region ?_
  refine wpG_tk (some 6) (v := .int .i64 (-1)) rfl (.val (by rfl) (fun _ _ => rfl)) ?_
  simp only [Act.put, List.setIfInBounds_toArray, List.set_cons_zero, List.set_cons_succ]
  refine wpG_done (fun V13 hv14 => ?_)
  have GC15 := Lib.hid (GC12.out.trans hv14)
  clear hv14
  go_wp2_with fail
  go_ret
  exact ⟨rfl, Gr.to G7.out GC15.out⟩
set_option maxRecDepth 1000000 in
set_option maxHeartbeats 4000000 in
theorem nb_0t (n : Int) (w : World) (h : Mo.okB n = true) :
    Calls Try.prog 19 #[.int .i64 n, .int .i64 0, .bool true] w fun e w' => e = .returned (.int .i64 (Mo.enc (Mo.dec 0 n + 1) (Mo.dec 1 n) (Mo.dec 2 n))) ∧ Below w.heap.size w w' := by
  have HI := Lib.hid h
  clear h
  have hd0 := Mo.dec_bd 0 n
  have hd1 := Mo.dec_bd 1 n
  have hd2 := Mo.dec_bd 2 n
  have G0 := Lib.hid (Below.refl w.heap.size w)
  go_enter Try.func19, Try.ntmps19
  go_upto_region 1 with fail
  refine wpG_region ?_
  refine wpG_tk (some 11) (v := .int .i64 n) rfl (.val (by rfl) (fun _ _ => rfl)) ?_
  simp only [Act.put, List.setIfInBounds_toArray, List.set_cons_zero, List.set_cons_succ]
  refine wpG_tk (some 12) (v := .tuple #[.agg #[.int .i64 (Mo.dec 0 n), .int .i64 (Mo.dec 1 n), .int .i64 (Mo.dec 2 n)], .bool true]) rfl (.call (f := 9) (args := #[.int .i64 n]) (by rfl) (fun W => by go_simp) (fun W hg => (HI.out ▸ decode_any n W))) ?_
  simp only [Act.put, List.setIfInBounds_toArray, List.set_cons_zero, List.set_cons_succ]
  refine wpG_tk (some 10) (v := .tuple #[.agg #[.int .i64 (Mo.dec 0 n), .int .i64 (Mo.dec 1 n), .int .i64 (Mo.dec 2 n)], .bool true]) rfl (.val (by rfl) (fun _ _ => rfl)) ?_
  simp only [Act.put, List.setIfInBounds_toArray, List.set_cons_zero, List.set_cons_succ]
  refine wpG_tk (some 13) (v := .agg #[.int .i64 (Mo.dec 0 n), .int .i64 (Mo.dec 1 n), .int .i64 (Mo.dec 2 n)]) rfl (.val (by rfl) (fun W hg => by go_simp)) ?_
  simp only [Act.put, List.setIfInBounds_toArray, List.set_cons_zero, List.set_cons_succ]
  refine wpG_tk (some 14) (v := .bool true) rfl (.val (by rfl) (fun W hg => by go_simp)) ?_
  simp only [Act.put, List.setIfInBounds_toArray, List.set_cons_zero, List.set_cons_succ]
  refine wpG_val (some 7) rfl (by rfl) (fun W1 hg2 => ⟨.pointer (some ⟨W1.heap.size, 0, none⟩), W1.alloc (.cells #[.int .i64 0, .int .i64 0, .int .i64 0] 23), by (go_simp <;> rfl), ?_⟩)
  simp only [Act.put, List.setIfInBounds_toArray, List.set_cons_zero, List.set_cons_succ]
  refine wpG_store (none) rfl (by rfl) (fun W3 hg4 => ⟨_, run_store_mid 23 (.tmp 7) (.tmp 13) rfl (W1.heap.size) 0 #[.int .i64 (Mo.dec 0 n), .int .i64 (Mo.dec 1 n), .int .i64 (Mo.dec 2 n)] rfl rfl (Row.room hg4 3 rfl) (by kernel_rfl) (by kernel_rfl), ?_⟩)
  simp only [Act.put]
  refine wpG_tk (some 8) (v := .bool true) rfl (.val (by rfl) (fun _ _ => rfl)) ?_
  simp only [Act.put, List.setIfInBounds_toArray, List.set_cons_zero, List.set_cons_succ]
  refine wpG_done (fun V5 hv6 => ?_)
  have l8 : w.heap.size ≤ W1.heap.size := (Gr.to G0.out hg2).size
  have R9 := Lib.hid (Row.made (zs := [.int .i64 0, .int .i64 0, .int .i64 0]) (ds := [.int .i64 (Mo.dec 0 n), .int .i64 (Mo.dec 1 n), .int .i64 (Mo.dec 2 n)]) rfl hg4 hv6)
  have G7 := Lib.hid (Gr.to (Gr.to G0.out hg2) (Gr.past hg4 hv6))
  clear hg4 hv6 
  go_upto_region 2 with fail
  refine wpG_region ?_
  refine wpG_tk (some 15) (v := .bool true) rfl (.val (by rfl) (fun _ _ => rfl)) ?_
  simp only [Act.put, List.setIfInBounds_toArray, List.set_cons_zero, List.set_cons_succ]
  refine wpG_tk (some 16) (v := .bool false) rfl (.val (by rfl) (fun W hg => by go_simp)) ?_
  simp only [Act.put, List.setIfInBounds_toArray, List.set_cons_zero, List.set_cons_succ]
  refine wpG_tk (some 17) (v := .bool false) rfl (.val (by rfl) (fun _ _ => rfl)) ?_
  simp only [Act.put, List.setIfInBounds_toArray, List.set_cons_zero, List.set_cons_succ]
  refine wpG_tk (some 18) (v := .int .i64 0) rfl (.val (by rfl) (fun _ _ => rfl)) ?_
  simp only [Act.put, List.setIfInBounds_toArray, List.set_cons_zero, List.set_cons_succ]
  refine wpG_tk (some 19) (v := .bool false) rfl (.val (by rfl) (fun W hg => by go_simp)) ?_
  simp only [Act.put, List.setIfInBounds_toArray, List.set_cons_zero, List.set_cons_succ]
  refine wpG_tk (some 20) (v := .bool false) rfl (.val (by rfl) (fun W hg => by go_simp)) ?_
  simp only [Act.put, List.setIfInBounds_toArray, List.set_cons_zero, List.set_cons_succ]
  refine wpG_tk (some 21) (v := .bool false) rfl (.val (by rfl) (fun _ _ => rfl)) ?_
  simp only [Act.put, List.setIfInBounds_toArray, List.set_cons_zero, List.set_cons_succ]
  refine wpG_tk (some 22) (v := .int .i64 0) rfl (.val (by rfl) (fun _ _ => rfl)) ?_
  simp only [Act.put, List.setIfInBounds_toArray, List.set_cons_zero, List.set_cons_succ]
  refine wpG_tk (some 23) (v := .bool false) rfl (.val (by rfl) (fun W hg => by go_simp)) ?_
  simp only [Act.put, List.setIfInBounds_toArray, List.set_cons_zero, List.set_cons_succ]
  refine wpG_tk (some 24) (v := .bool false) rfl (.val (by rfl) (fun W hg => by go_simp)) ?_
  simp only [Act.put, List.setIfInBounds_toArray, List.set_cons_zero, List.set_cons_succ]
  refine wpG_done (fun V10 hv11 => ?_)
  have GC12 := Lib.hid hv11
  clear hv11
  go_upto_region 4 with fail
  refine wpG_region ?_
  refine wpG_tk (some 25) (v := .agg #[.int .i64 (Mo.dec 0 n), .int .i64 (Mo.dec 1 n), .int .i64 (Mo.dec 2 n)]) rfl (.load_mid (by rfl) 23 (.tmp 7) rfl (W1.heap.size) 0 rfl [.int .i64 (Mo.dec 0 n), .int .i64 (Mo.dec 1 n), .int .i64 (Mo.dec 2 n)] _ (fun W hg => (R9.out.below (GC12.out.trans hg)).range) Try.underlying23 rfl (by kernel_rfl)) ?_
  simp only [Act.put, List.setIfInBounds_toArray, List.set_cons_zero, List.set_cons_succ]
  refine wpG_tk (some 26) (v := .agg #[.int .i64 (Mo.dec 0 n), .int .i64 (Mo.dec 1 n), .int .i64 (Mo.dec 2 n)]) rfl (.call (f := 39) (args := #[.agg #[.int .i64 (Mo.dec 0 n), .int .i64 (Mo.dec 1 n), .int .i64 (Mo.dec 2 n)]]) (by rfl) (fun W => by go_simp) (fun W hg => coords_any (Mo.dec 0 n) (Mo.dec 1 n) (Mo.dec 2 n) W)) ?_
  simp only [Act.put, List.setIfInBounds_toArray, List.set_cons_zero, List.set_cons_succ]
  refine wpG_val (some 9) rfl (by rfl) (fun W13 hg14 => ⟨.pointer (some ⟨W13.heap.size, 0, none⟩), W13.alloc (.cells #[.int .i64 0, .int .i64 0, .int .i64 0] 57), by (go_simp <;> rfl), ?_⟩)
  simp only [Act.put, List.setIfInBounds_toArray, List.set_cons_zero, List.set_cons_succ]
  refine wpG_store (none) rfl (by rfl) (fun W15 hg16 => ⟨_, run_store_mid 57 (.tmp 9) (.tmp 26) rfl (W13.heap.size) 0 #[.int .i64 (Mo.dec 0 n), .int .i64 (Mo.dec 1 n), .int .i64 (Mo.dec 2 n)] rfl rfl (Row.room hg16 3 rfl) (by kernel_rfl) (by kernel_rfl), ?_⟩)
  simp only [Act.put]
  refine wpG_done (fun V17 hv18 => ?_)
  have l20 : W1.heap.size < W13.heap.size := (R9.out.below (GC12.out.trans hg14)).lt
  have l21 : w.heap.size ≤ W13.heap.size := (Gr.to G7.out (GC12.out.trans hg14)).size
  have R22 := Lib.hid ((R9.out.below (GC12.out.trans hg14)).past hg16 hv18)
  have R23 := Lib.hid (Row.made (zs := [.int .i64 0, .int .i64 0, .int .i64 0]) (ds := [.int .i64 (Mo.dec 0 n), .int .i64 (Mo.dec 1 n), .int .i64 (Mo.dec 2 n)]) rfl hg16 hv18)
  have G19 := Lib.hid (Gr.to (Gr.to G7.out (GC12.out.trans hg14)) (Gr.past hg16 hv18))
  clear hg16 hv18 
  go_upto_region 5 with fail
  refine wpG_region ?_
  refine wpG_tk (some 27) (v := .bool true) rfl (.val (by rfl) (fun _ _ => rfl)) ?_
  simp only [Act.put, List.setIfInBounds_toArray, List.set_cons_zero, List.set_cons_succ]
  refine wpG_done (fun V24 hv25 => ?_)
  have GC26 := Lib.hid hv25
  clear hv25
  go_upto_region 6 with fail
  refine wpG_region ?_
  refine wpG_tk (some 28) (v := .int .i64 0) rfl (.val (by rfl) (fun _ _ => rfl)) ?_
  simp only [Act.put, List.setIfInBounds_toArray, List.set_cons_zero, List.set_cons_succ]
  refine wpG_tk (some 29) (v := .pointer (some ⟨W13.heap.size, 0, none⟩)) rfl (.val (by rfl) (fun W hg => by go_simp)) ?_
  simp only [Act.put, List.setIfInBounds_toArray, List.set_cons_zero, List.set_cons_succ]
  refine wpG_tk (some 30) (v := .int .i64 (Mo.dec 0 n)) rfl (.val (by rfl) (fun W hg => by have c := (R23.out.below (GC26.out.trans hg) 0 _ rfl).1; go_simp)) ?_
  simp only [Act.put, List.setIfInBounds_toArray, List.set_cons_zero, List.set_cons_succ]
  refine wpG_tk (some 31) (v := .int .i64 ((Mo.dec 0 n) + 1)) rfl (.val (by rfl) (fun W hg => by (first | (go_simp; done) | (go_simp; rw [IntWalk.i64_in _ (by omega)])))) ?_
  simp only [Act.put, List.setIfInBounds_toArray, List.set_cons_zero, List.set_cons_succ]
  refine wpG_tk (some 32) (v := .pointer (some ⟨W13.heap.size, 0, none⟩)) rfl (.val (by rfl) (fun W hg => by go_simp)) ?_
  simp only [Act.put, List.setIfInBounds_toArray, List.set_cons_zero, List.set_cons_succ]
  refine wpG_store (none) rfl (by rfl) (fun W27 hg28 => ⟨W27.setCell ⟨W13.heap.size, 0, none⟩ (.int .i64 ((Mo.dec 0 n) + 1)), by have c := (R23.out.below (GC26.out.trans hg28)).cellx 0 _ rfl; have c2 := (R23.out.below (GC26.out.trans hg28)).softx 0 _ rfl; go_simp, ?_⟩)
  simp only [Act.put]
  refine wpG_done (fun V29 hv30 => ?_)
  have R32 := Lib.hid (((R22.out.below (GC26.out.trans hg28)).far (b := W13.heap.size) (by omega) 0 [.int .i64 ((Mo.dec 0 n) + 1)]).below hv30)
  have R33 : Hid (Row W13.heap.size [.int .i64 ((Mo.dec 0 n) + 1), .int .i64 (Mo.dec 1 n), .int .i64 (Mo.dec 2 n)] V29) := Lib.hid (((R23.out.below (GC26.out.trans hg28)).set 0 (.int .i64 ((Mo.dec 0 n) + 1)) (by simp)).below hv30)
  have G31 := Lib.hid (Gr.put1 G19.out (GC26.out.trans hg28) (by omega) hv30)
  clear hg28 hv30
  go_upto_region 8 with fail
  refine wpG_region ?_
  refine wpG_tk (some 38) (v := .agg #[.int .i64 ((Mo.dec 0 n) + 1), .int .i64 (Mo.dec 1 n), .int .i64 (Mo.dec 2 n)]) rfl (.load_mid (by rfl) 57 (.tmp 9) rfl (W13.heap.size) 0 rfl [.int .i64 ((Mo.dec 0 n) + 1), .int .i64 (Mo.dec 1 n), .int .i64 (Mo.dec 2 n)] _ (fun W hg => (R33.out.below hg).range) Try.underlying57 rfl (by kernel_rfl)) ?_
  simp only [Act.put, List.setIfInBounds_toArray, List.set_cons_zero, List.set_cons_succ]
  refine wpG_tk (some 39) (v := .agg #[.int .i64 ((Mo.dec 0 n) + 1), .int .i64 (Mo.dec 1 n), .int .i64 (Mo.dec 2 n)]) rfl (.call (f := 34) (args := #[.agg #[.int .i64 ((Mo.dec 0 n) + 1), .int .i64 (Mo.dec 1 n), .int .i64 (Mo.dec 2 n)]]) (by rfl) (fun W => by go_simp) (fun W hg => point_any ((Mo.dec 0 n) + 1) (Mo.dec 1 n) (Mo.dec 2 n) W)) ?_
  simp only [Act.put, List.setIfInBounds_toArray, List.set_cons_zero, List.set_cons_succ]
  refine wpG_tk (some 40) (v := .int .i64 (Mo.enc ((Mo.dec 0 n) + 1) (Mo.dec 1 n) (Mo.dec 2 n))) rfl (.call (f := 13) (args := #[.agg #[.int .i64 ((Mo.dec 0 n) + 1), .int .i64 (Mo.dec 1 n), .int .i64 (Mo.dec 2 n)]]) (by rfl) (fun W => by go_simp) (fun W hg => encode_any ((Mo.dec 0 n) + 1) (Mo.dec 1 n) (Mo.dec 2 n) W)) ?_
  simp only [Act.put, List.setIfInBounds_toArray, List.set_cons_zero, List.set_cons_succ]
  refine wpG_tk (some 6) (v := .int .i64 (Mo.enc ((Mo.dec 0 n) + 1) (Mo.dec 1 n) (Mo.dec 2 n))) rfl (.val (by rfl) (fun _ _ => rfl)) ?_
  simp only [Act.put, List.setIfInBounds_toArray, List.set_cons_zero, List.set_cons_succ]
  refine wpG_done (fun V34 hv35 => ?_)
  have GC36 := Lib.hid hv35
  clear hv35
  go_wp2_with fail
  go_ret
  exact ⟨rfl, Gr.to G31.out GC36.out⟩
set_option maxRecDepth 1000000 in
set_option maxHeartbeats 4000000 in
theorem nb_0f (n : Int) (w : World) (h : Mo.okB n = true) :
    Calls Try.prog 19 #[.int .i64 n, .int .i64 0, .bool false] w fun e w' => e = .returned (.int .i64 (Mo.enc (Mo.dec 0 n - 1) (Mo.dec 1 n) (Mo.dec 2 n))) ∧ Below w.heap.size w w' := by
  have HI := Lib.hid h
  clear h
  have hd0 := Mo.dec_bd 0 n
  have hd1 := Mo.dec_bd 1 n
  have hd2 := Mo.dec_bd 2 n
  have G0 := Lib.hid (Below.refl w.heap.size w)
  go_enter Try.func19, Try.ntmps19
  go_upto_region 1 with fail
  refine wpG_region ?_
  refine wpG_tk (some 11) (v := .int .i64 n) rfl (.val (by rfl) (fun _ _ => rfl)) ?_
  simp only [Act.put, List.setIfInBounds_toArray, List.set_cons_zero, List.set_cons_succ]
  refine wpG_tk (some 12) (v := .tuple #[.agg #[.int .i64 (Mo.dec 0 n), .int .i64 (Mo.dec 1 n), .int .i64 (Mo.dec 2 n)], .bool true]) rfl (.call (f := 9) (args := #[.int .i64 n]) (by rfl) (fun W => by go_simp) (fun W hg => (HI.out ▸ decode_any n W))) ?_
  simp only [Act.put, List.setIfInBounds_toArray, List.set_cons_zero, List.set_cons_succ]
  refine wpG_tk (some 10) (v := .tuple #[.agg #[.int .i64 (Mo.dec 0 n), .int .i64 (Mo.dec 1 n), .int .i64 (Mo.dec 2 n)], .bool true]) rfl (.val (by rfl) (fun _ _ => rfl)) ?_
  simp only [Act.put, List.setIfInBounds_toArray, List.set_cons_zero, List.set_cons_succ]
  refine wpG_tk (some 13) (v := .agg #[.int .i64 (Mo.dec 0 n), .int .i64 (Mo.dec 1 n), .int .i64 (Mo.dec 2 n)]) rfl (.val (by rfl) (fun W hg => by go_simp)) ?_
  simp only [Act.put, List.setIfInBounds_toArray, List.set_cons_zero, List.set_cons_succ]
  refine wpG_tk (some 14) (v := .bool true) rfl (.val (by rfl) (fun W hg => by go_simp)) ?_
  simp only [Act.put, List.setIfInBounds_toArray, List.set_cons_zero, List.set_cons_succ]
  refine wpG_val (some 7) rfl (by rfl) (fun W1 hg2 => ⟨.pointer (some ⟨W1.heap.size, 0, none⟩), W1.alloc (.cells #[.int .i64 0, .int .i64 0, .int .i64 0] 23), by (go_simp <;> rfl), ?_⟩)
  simp only [Act.put, List.setIfInBounds_toArray, List.set_cons_zero, List.set_cons_succ]
  refine wpG_store (none) rfl (by rfl) (fun W3 hg4 => ⟨_, run_store_mid 23 (.tmp 7) (.tmp 13) rfl (W1.heap.size) 0 #[.int .i64 (Mo.dec 0 n), .int .i64 (Mo.dec 1 n), .int .i64 (Mo.dec 2 n)] rfl rfl (Row.room hg4 3 rfl) (by kernel_rfl) (by kernel_rfl), ?_⟩)
  simp only [Act.put]
  refine wpG_tk (some 8) (v := .bool true) rfl (.val (by rfl) (fun _ _ => rfl)) ?_
  simp only [Act.put, List.setIfInBounds_toArray, List.set_cons_zero, List.set_cons_succ]
  refine wpG_done (fun V5 hv6 => ?_)
  have l8 : w.heap.size ≤ W1.heap.size := (Gr.to G0.out hg2).size
  have R9 := Lib.hid (Row.made (zs := [.int .i64 0, .int .i64 0, .int .i64 0]) (ds := [.int .i64 (Mo.dec 0 n), .int .i64 (Mo.dec 1 n), .int .i64 (Mo.dec 2 n)]) rfl hg4 hv6)
  have G7 := Lib.hid (Gr.to (Gr.to G0.out hg2) (Gr.past hg4 hv6))
  clear hg4 hv6 
  go_upto_region 2 with fail
  refine wpG_region ?_
  refine wpG_tk (some 15) (v := .bool true) rfl (.val (by rfl) (fun _ _ => rfl)) ?_
  simp only [Act.put, List.setIfInBounds_toArray, List.set_cons_zero, List.set_cons_succ]
  refine wpG_tk (some 16) (v := .bool false) rfl (.val (by rfl) (fun W hg => by go_simp)) ?_
  simp only [Act.put, List.setIfInBounds_toArray, List.set_cons_zero, List.set_cons_succ]
  refine wpG_tk (some 17) (v := .bool false) rfl (.val (by rfl) (fun _ _ => rfl)) ?_
  simp only [Act.put, List.setIfInBounds_toArray, List.set_cons_zero, List.set_cons_succ]
  refine wpG_tk (some 18) (v := .int .i64 0) rfl (.val (by rfl) (fun _ _ => rfl)) ?_
  simp only [Act.put, List.setIfInBounds_toArray, List.set_cons_zero, List.set_cons_succ]
  refine wpG_tk (some 19) (v := .bool false) rfl (.val (by rfl) (fun W hg => by go_simp)) ?_
  simp only [Act.put, List.setIfInBounds_toArray, List.set_cons_zero, List.set_cons_succ]
  refine wpG_tk (some 20) (v := .bool false) rfl (.val (by rfl) (fun W hg => by go_simp)) ?_
  simp only [Act.put, List.setIfInBounds_toArray, List.set_cons_zero, List.set_cons_succ]
  refine wpG_tk (some 21) (v := .bool false) rfl (.val (by rfl) (fun _ _ => rfl)) ?_
  simp only [Act.put, List.setIfInBounds_toArray, List.set_cons_zero, List.set_cons_succ]
  refine wpG_tk (some 22) (v := .int .i64 0) rfl (.val (by rfl) (fun _ _ => rfl)) ?_
  simp only [Act.put, List.setIfInBounds_toArray, List.set_cons_zero, List.set_cons_succ]
  refine wpG_tk (some 23) (v := .bool false) rfl (.val (by rfl) (fun W hg => by go_simp)) ?_
  simp only [Act.put, List.setIfInBounds_toArray, List.set_cons_zero, List.set_cons_succ]
  refine wpG_tk (some 24) (v := .bool false) rfl (.val (by rfl) (fun W hg => by go_simp)) ?_
  simp only [Act.put, List.setIfInBounds_toArray, List.set_cons_zero, List.set_cons_succ]
  refine wpG_done (fun V10 hv11 => ?_)
  have GC12 := Lib.hid hv11
  clear hv11
  go_upto_region 4 with fail
  refine wpG_region ?_
  refine wpG_tk (some 25) (v := .agg #[.int .i64 (Mo.dec 0 n), .int .i64 (Mo.dec 1 n), .int .i64 (Mo.dec 2 n)]) rfl (.load_mid (by rfl) 23 (.tmp 7) rfl (W1.heap.size) 0 rfl [.int .i64 (Mo.dec 0 n), .int .i64 (Mo.dec 1 n), .int .i64 (Mo.dec 2 n)] _ (fun W hg => (R9.out.below (GC12.out.trans hg)).range) Try.underlying23 rfl (by kernel_rfl)) ?_
  simp only [Act.put, List.setIfInBounds_toArray, List.set_cons_zero, List.set_cons_succ]
  refine wpG_tk (some 26) (v := .agg #[.int .i64 (Mo.dec 0 n), .int .i64 (Mo.dec 1 n), .int .i64 (Mo.dec 2 n)]) rfl (.call (f := 39) (args := #[.agg #[.int .i64 (Mo.dec 0 n), .int .i64 (Mo.dec 1 n), .int .i64 (Mo.dec 2 n)]]) (by rfl) (fun W => by go_simp) (fun W hg => coords_any (Mo.dec 0 n) (Mo.dec 1 n) (Mo.dec 2 n) W)) ?_
  simp only [Act.put, List.setIfInBounds_toArray, List.set_cons_zero, List.set_cons_succ]
  refine wpG_val (some 9) rfl (by rfl) (fun W13 hg14 => ⟨.pointer (some ⟨W13.heap.size, 0, none⟩), W13.alloc (.cells #[.int .i64 0, .int .i64 0, .int .i64 0] 57), by (go_simp <;> rfl), ?_⟩)
  simp only [Act.put, List.setIfInBounds_toArray, List.set_cons_zero, List.set_cons_succ]
  refine wpG_store (none) rfl (by rfl) (fun W15 hg16 => ⟨_, run_store_mid 57 (.tmp 9) (.tmp 26) rfl (W13.heap.size) 0 #[.int .i64 (Mo.dec 0 n), .int .i64 (Mo.dec 1 n), .int .i64 (Mo.dec 2 n)] rfl rfl (Row.room hg16 3 rfl) (by kernel_rfl) (by kernel_rfl), ?_⟩)
  simp only [Act.put]
  refine wpG_done (fun V17 hv18 => ?_)
  have l20 : W1.heap.size < W13.heap.size := (R9.out.below (GC12.out.trans hg14)).lt
  have l21 : w.heap.size ≤ W13.heap.size := (Gr.to G7.out (GC12.out.trans hg14)).size
  have R22 := Lib.hid ((R9.out.below (GC12.out.trans hg14)).past hg16 hv18)
  have R23 := Lib.hid (Row.made (zs := [.int .i64 0, .int .i64 0, .int .i64 0]) (ds := [.int .i64 (Mo.dec 0 n), .int .i64 (Mo.dec 1 n), .int .i64 (Mo.dec 2 n)]) rfl hg16 hv18)
  have G19 := Lib.hid (Gr.to (Gr.to G7.out (GC12.out.trans hg14)) (Gr.past hg16 hv18))
  clear hg16 hv18 
  go_upto_region 5 with fail
  refine wpG_region ?_
  refine wpG_tk (some 27) (v := .bool false) rfl (.val (by rfl) (fun _ _ => rfl)) ?_
  simp only [Act.put, List.setIfInBounds_toArray, List.set_cons_zero, List.set_cons_succ]
  refine wpG_done (fun V24 hv25 => ?_)
  have GC26 := Lib.hid hv25
  clear hv25
  go_upto_region 7 with fail
  refine wpG_region ?_
  refine wpG_tk (some 33) (v := .int .i64 0) rfl (.val (by rfl) (fun _ _ => rfl)) ?_
  simp only [Act.put, List.setIfInBounds_toArray, List.set_cons_zero, List.set_cons_succ]
  refine wpG_tk (some 34) (v := .pointer (some ⟨W13.heap.size, 0, none⟩)) rfl (.val (by rfl) (fun W hg => by go_simp)) ?_
  simp only [Act.put, List.setIfInBounds_toArray, List.set_cons_zero, List.set_cons_succ]
  refine wpG_tk (some 35) (v := .int .i64 (Mo.dec 0 n)) rfl (.val (by rfl) (fun W hg => by have c := (R23.out.below (GC26.out.trans hg) 0 _ rfl).1; go_simp)) ?_
  simp only [Act.put, List.setIfInBounds_toArray, List.set_cons_zero, List.set_cons_succ]
  refine wpG_tk (some 36) (v := .int .i64 ((Mo.dec 0 n) - 1)) rfl (.val (by rfl) (fun W hg => by (first | (go_simp; done) | (go_simp; rw [IntWalk.i64_in _ (by omega)])))) ?_
  simp only [Act.put, List.setIfInBounds_toArray, List.set_cons_zero, List.set_cons_succ]
  refine wpG_tk (some 37) (v := .pointer (some ⟨W13.heap.size, 0, none⟩)) rfl (.val (by rfl) (fun W hg => by go_simp)) ?_
  simp only [Act.put, List.setIfInBounds_toArray, List.set_cons_zero, List.set_cons_succ]
  refine wpG_store (none) rfl (by rfl) (fun W27 hg28 => ⟨W27.setCell ⟨W13.heap.size, 0, none⟩ (.int .i64 ((Mo.dec 0 n) - 1)), by have c := (R23.out.below (GC26.out.trans hg28)).cellx 0 _ rfl; have c2 := (R23.out.below (GC26.out.trans hg28)).softx 0 _ rfl; go_simp, ?_⟩)
  simp only [Act.put]
  refine wpG_done (fun V29 hv30 => ?_)
  have R32 := Lib.hid (((R22.out.below (GC26.out.trans hg28)).far (b := W13.heap.size) (by omega) 0 [.int .i64 ((Mo.dec 0 n) - 1)]).below hv30)
  have R33 : Hid (Row W13.heap.size [.int .i64 ((Mo.dec 0 n) - 1), .int .i64 (Mo.dec 1 n), .int .i64 (Mo.dec 2 n)] V29) := Lib.hid (((R23.out.below (GC26.out.trans hg28)).set 0 (.int .i64 ((Mo.dec 0 n) - 1)) (by simp)).below hv30)
  have G31 := Lib.hid (Gr.put1 G19.out (GC26.out.trans hg28) (by omega) hv30)
  clear hg28 hv30
  go_upto_region 8 with fail
  refine wpG_region ?_
  refine wpG_tk (some 38) (v := .agg #[.int .i64 ((Mo.dec 0 n) - 1), .int .i64 (Mo.dec 1 n), .int .i64 (Mo.dec 2 n)]) rfl (.load_mid (by rfl) 57 (.tmp 9) rfl (W13.heap.size) 0 rfl [.int .i64 ((Mo.dec 0 n) - 1), .int .i64 (Mo.dec 1 n), .int .i64 (Mo.dec 2 n)] _ (fun W hg => (R33.out.below hg).range) Try.underlying57 rfl (by kernel_rfl)) ?_
  simp only [Act.put, List.setIfInBounds_toArray, List.set_cons_zero, List.set_cons_succ]
  refine wpG_tk (some 39) (v := .agg #[.int .i64 ((Mo.dec 0 n) - 1), .int .i64 (Mo.dec 1 n), .int .i64 (Mo.dec 2 n)]) rfl (.call (f := 34) (args := #[.agg #[.int .i64 ((Mo.dec 0 n) - 1), .int .i64 (Mo.dec 1 n), .int .i64 (Mo.dec 2 n)]]) (by rfl) (fun W => by go_simp) (fun W hg => point_any ((Mo.dec 0 n) - 1) (Mo.dec 1 n) (Mo.dec 2 n) W)) ?_
  simp only [Act.put, List.setIfInBounds_toArray, List.set_cons_zero, List.set_cons_succ]
  refine wpG_tk (some 40) (v := .int .i64 (Mo.enc ((Mo.dec 0 n) - 1) (Mo.dec 1 n) (Mo.dec 2 n))) rfl (.call (f := 13) (args := #[.agg #[.int .i64 ((Mo.dec 0 n) - 1), .int .i64 (Mo.dec 1 n), .int .i64 (Mo.dec 2 n)]]) (by rfl) (fun W => by go_simp) (fun W hg => encode_any ((Mo.dec 0 n) - 1) (Mo.dec 1 n) (Mo.dec 2 n) W)) ?_
  simp only [Act.put, List.setIfInBounds_toArray, List.set_cons_zero, List.set_cons_succ]
  refine wpG_tk (some 6) (v := .int .i64 (Mo.enc ((Mo.dec 0 n) - 1) (Mo.dec 1 n) (Mo.dec 2 n))) rfl (.val (by rfl) (fun _ _ => rfl)) ?_
  simp only [Act.put, List.setIfInBounds_toArray, List.set_cons_zero, List.set_cons_succ]
  refine wpG_done (fun V34 hv35 => ?_)
  have GC36 := Lib.hid hv35
  clear hv35
  go_wp2_with fail
  go_ret
  exact ⟨rfl, Gr.to G31.out GC36.out⟩
set_option maxRecDepth 1000000 in
set_option maxHeartbeats 4000000 in
theorem nb_1t (n : Int) (w : World) (h : Mo.okB n = true) :
    Calls Try.prog 19 #[.int .i64 n, .int .i64 1, .bool true] w fun e w' => e = .returned (.int .i64 (Mo.enc (Mo.dec 0 n) (Mo.dec 1 n + 1) (Mo.dec 2 n))) ∧ Below w.heap.size w w' := by
  have HI := Lib.hid h
  clear h
  have hd0 := Mo.dec_bd 0 n
  have hd1 := Mo.dec_bd 1 n
  have hd2 := Mo.dec_bd 2 n
  have G0 := Lib.hid (Below.refl w.heap.size w)
  go_enter Try.func19, Try.ntmps19
  go_upto_region 1 with fail
  refine wpG_region ?_
  refine wpG_tk (some 11) (v := .int .i64 n) rfl (.val (by rfl) (fun _ _ => rfl)) ?_
  simp only [Act.put, List.setIfInBounds_toArray, List.set_cons_zero, List.set_cons_succ]
  refine wpG_tk (some 12) (v := .tuple #[.agg #[.int .i64 (Mo.dec 0 n), .int .i64 (Mo.dec 1 n), .int .i64 (Mo.dec 2 n)], .bool true]) rfl (.call (f := 9) (args := #[.int .i64 n]) (by rfl) (fun W => by go_simp) (fun W hg => (HI.out ▸ decode_any n W))) ?_
  simp only [Act.put, List.setIfInBounds_toArray, List.set_cons_zero, List.set_cons_succ]
  refine wpG_tk (some 10) (v := .tuple #[.agg #[.int .i64 (Mo.dec 0 n), .int .i64 (Mo.dec 1 n), .int .i64 (Mo.dec 2 n)], .bool true]) rfl (.val (by rfl) (fun _ _ => rfl)) ?_
  simp only [Act.put, List.setIfInBounds_toArray, List.set_cons_zero, List.set_cons_succ]
  refine wpG_tk (some 13) (v := .agg #[.int .i64 (Mo.dec 0 n), .int .i64 (Mo.dec 1 n), .int .i64 (Mo.dec 2 n)]) rfl (.val (by rfl) (fun W hg => by go_simp)) ?_
  simp only [Act.put, List.setIfInBounds_toArray, List.set_cons_zero, List.set_cons_succ]
  refine wpG_tk (some 14) (v := .bool true) rfl (.val (by rfl) (fun W hg => by go_simp)) ?_
  simp only [Act.put, List.setIfInBounds_toArray, List.set_cons_zero, List.set_cons_succ]
  refine wpG_val (some 7) rfl (by rfl) (fun W1 hg2 => ⟨.pointer (some ⟨W1.heap.size, 0, none⟩), W1.alloc (.cells #[.int .i64 0, .int .i64 0, .int .i64 0] 23), by (go_simp <;> rfl), ?_⟩)
  simp only [Act.put, List.setIfInBounds_toArray, List.set_cons_zero, List.set_cons_succ]
  refine wpG_store (none) rfl (by rfl) (fun W3 hg4 => ⟨_, run_store_mid 23 (.tmp 7) (.tmp 13) rfl (W1.heap.size) 0 #[.int .i64 (Mo.dec 0 n), .int .i64 (Mo.dec 1 n), .int .i64 (Mo.dec 2 n)] rfl rfl (Row.room hg4 3 rfl) (by kernel_rfl) (by kernel_rfl), ?_⟩)
  simp only [Act.put]
  refine wpG_tk (some 8) (v := .bool true) rfl (.val (by rfl) (fun _ _ => rfl)) ?_
  simp only [Act.put, List.setIfInBounds_toArray, List.set_cons_zero, List.set_cons_succ]
  refine wpG_done (fun V5 hv6 => ?_)
  have l8 : w.heap.size ≤ W1.heap.size := (Gr.to G0.out hg2).size
  have R9 := Lib.hid (Row.made (zs := [.int .i64 0, .int .i64 0, .int .i64 0]) (ds := [.int .i64 (Mo.dec 0 n), .int .i64 (Mo.dec 1 n), .int .i64 (Mo.dec 2 n)]) rfl hg4 hv6)
  have G7 := Lib.hid (Gr.to (Gr.to G0.out hg2) (Gr.past hg4 hv6))
  clear hg4 hv6 
  go_upto_region 2 with fail
  refine wpG_region ?_
  refine wpG_tk (some 15) (v := .bool true) rfl (.val (by rfl) (fun _ _ => rfl)) ?_
  simp only [Act.put, List.setIfInBounds_toArray, List.set_cons_zero, List.set_cons_succ]
  refine wpG_tk (some 16) (v := .bool false) rfl (.val (by rfl) (fun W hg => by go_simp)) ?_
  simp only [Act.put, List.setIfInBounds_toArray, List.set_cons_zero, List.set_cons_succ]
  refine wpG_tk (some 17) (v := .bool false) rfl (.val (by rfl) (fun _ _ => rfl)) ?_
  simp only [Act.put, List.setIfInBounds_toArray, List.set_cons_zero, List.set_cons_succ]
  refine wpG_tk (some 18) (v := .int .i64 1) rfl (.val (by rfl) (fun _ _ => rfl)) ?_
  simp only [Act.put, List.setIfInBounds_toArray, List.set_cons_zero, List.set_cons_succ]
  refine wpG_tk (some 19) (v := .bool false) rfl (.val (by rfl) (fun W hg => by go_simp)) ?_
  simp only [Act.put, List.setIfInBounds_toArray, List.set_cons_zero, List.set_cons_succ]
  refine wpG_tk (some 20) (v := .bool false) rfl (.val (by rfl) (fun W hg => by go_simp)) ?_
  simp only [Act.put, List.setIfInBounds_toArray, List.set_cons_zero, List.set_cons_succ]
  refine wpG_tk (some 21) (v := .bool false) rfl (.val (by rfl) (fun _ _ => rfl)) ?_
  simp only [Act.put, List.setIfInBounds_toArray, List.set_cons_zero, List.set_cons_succ]
  refine wpG_tk (some 22) (v := .int .i64 1) rfl (.val (by rfl) (fun _ _ => rfl)) ?_
  simp only [Act.put, List.setIfInBounds_toArray, List.set_cons_zero, List.set_cons_succ]
  refine wpG_tk (some 23) (v := .bool false) rfl (.val (by rfl) (fun W hg => by go_simp)) ?_
  simp only [Act.put, List.setIfInBounds_toArray, List.set_cons_zero, List.set_cons_succ]
  refine wpG_tk (some 24) (v := .bool false) rfl (.val (by rfl) (fun W hg => by go_simp)) ?_
  simp only [Act.put, List.setIfInBounds_toArray, List.set_cons_zero, List.set_cons_succ]
  refine wpG_done (fun V10 hv11 => ?_)
  have GC12 := Lib.hid hv11
  clear hv11
  go_upto_region 4 with fail
  refine wpG_region ?_
  refine wpG_tk (some 25) (v := .agg #[.int .i64 (Mo.dec 0 n), .int .i64 (Mo.dec 1 n), .int .i64 (Mo.dec 2 n)]) rfl (.load_mid (by rfl) 23 (.tmp 7) rfl (W1.heap.size) 0 rfl [.int .i64 (Mo.dec 0 n), .int .i64 (Mo.dec 1 n), .int .i64 (Mo.dec 2 n)] _ (fun W hg => (R9.out.below (GC12.out.trans hg)).range) Try.underlying23 rfl (by kernel_rfl)) ?_
  simp only [Act.put, List.setIfInBounds_toArray, List.set_cons_zero, List.set_cons_succ]
  refine wpG_tk (some 26) (v := .agg #[.int .i64 (Mo.dec 0 n), .int .i64 (Mo.dec 1 n), .int .i64 (Mo.dec 2 n)]) rfl (.call (f := 39) (args := #[.agg #[.int .i64 (Mo.dec 0 n), .int .i64 (Mo.dec 1 n), .int .i64 (Mo.dec 2 n)]]) (by rfl) (fun W => by go_simp) (fun W hg => coords_any (Mo.dec 0 n) (Mo.dec 1 n) (Mo.dec 2 n) W)) ?_
  simp only [Act.put, List.setIfInBounds_toArray, List.set_cons_zero, List.set_cons_succ]
  refine wpG_val (some 9) rfl (by rfl) (fun W13 hg14 => ⟨.pointer (some ⟨W13.heap.size, 0, none⟩), W13.alloc (.cells #[.int .i64 0, .int .i64 0, .int .i64 0] 57), by (go_simp <;> rfl), ?_⟩)
  simp only [Act.put, List.setIfInBounds_toArray, List.set_cons_zero, List.set_cons_succ]
  refine wpG_store (none) rfl (by rfl) (fun W15 hg16 => ⟨_, run_store_mid 57 (.tmp 9) (.tmp 26) rfl (W13.heap.size) 0 #[.int .i64 (Mo.dec 0 n), .int .i64 (Mo.dec 1 n), .int .i64 (Mo.dec 2 n)] rfl rfl (Row.room hg16 3 rfl) (by kernel_rfl) (by kernel_rfl), ?_⟩)
  simp only [Act.put]
  refine wpG_done (fun V17 hv18 => ?_)
  have l20 : W1.heap.size < W13.heap.size := (R9.out.below (GC12.out.trans hg14)).lt
  have l21 : w.heap.size ≤ W13.heap.size := (Gr.to G7.out (GC12.out.trans hg14)).size
  have R22 := Lib.hid ((R9.out.below (GC12.out.trans hg14)).past hg16 hv18)
  have R23 := Lib.hid (Row.made (zs := [.int .i64 0, .int .i64 0, .int .i64 0]) (ds := [.int .i64 (Mo.dec 0 n), .int .i64 (Mo.dec 1 n), .int .i64 (Mo.dec 2 n)]) rfl hg16 hv18)
  have G19 := Lib.hid (Gr.to (Gr.to G7.out (GC12.out.trans hg14)) (Gr.past hg16 hv18))
  clear hg16 hv18 
  go_upto_region 5 with fail
  refine wpG_region ?_
  refine wpG_tk (some 27) (v := .bool true) rfl (.val (by rfl) (fun _ _ => rfl)) ?_
  simp only [Act.put, List.setIfInBounds_toArray, List.set_cons_zero, List.set_cons_succ]
  refine wpG_done (fun V24 hv25 => ?_)
  have GC26 := Lib.hid hv25
  clear hv25
  go_upto_region 6 with fail
  refine wpG_region ?_
  refine wpG_tk (some 28) (v := .int .i64 1) rfl (.val (by rfl) (fun _ _ => rfl)) ?_
  simp only [Act.put, List.setIfInBounds_toArray, List.set_cons_zero, List.set_cons_succ]
  refine wpG_tk (some 29) (v := .pointer (some ⟨W13.heap.size, 1, none⟩)) rfl (.val (by rfl) (fun W hg => by go_simp)) ?_
  simp only [Act.put, List.setIfInBounds_toArray, List.set_cons_zero, List.set_cons_succ]
  refine wpG_tk (some 30) (v := .int .i64 (Mo.dec 1 n)) rfl (.val (by rfl) (fun W hg => by have c := (R23.out.below (GC26.out.trans hg) 1 _ rfl).1; go_simp)) ?_
  simp only [Act.put, List.setIfInBounds_toArray, List.set_cons_zero, List.set_cons_succ]
  refine wpG_tk (some 31) (v := .int .i64 ((Mo.dec 1 n) + 1)) rfl (.val (by rfl) (fun W hg => by (first | (go_simp; done) | (go_simp; rw [IntWalk.i64_in _ (by omega)])))) ?_
  simp only [Act.put, List.setIfInBounds_toArray, List.set_cons_zero, List.set_cons_succ]
  refine wpG_tk (some 32) (v := .pointer (some ⟨W13.heap.size, 1, none⟩)) rfl (.val (by rfl) (fun W hg => by go_simp)) ?_
  simp only [Act.put, List.setIfInBounds_toArray, List.set_cons_zero, List.set_cons_succ]
  refine wpG_store (none) rfl (by rfl) (fun W27 hg28 => ⟨W27.setCell ⟨W13.heap.size, 1, none⟩ (.int .i64 ((Mo.dec 1 n) + 1)), by have c := (R23.out.below (GC26.out.trans hg28)).cellx 1 _ rfl; have c2 := (R23.out.below (GC26.out.trans hg28)).softx 1 _ rfl; go_simp, ?_⟩)
  simp only [Act.put]
  refine wpG_done (fun V29 hv30 => ?_)
  have R32 := Lib.hid (((R22.out.below (GC26.out.trans hg28)).far (b := W13.heap.size) (by omega) 1 [.int .i64 ((Mo.dec 1 n) + 1)]).below hv30)
  have R33 : Hid (Row W13.heap.size [.int .i64 (Mo.dec 0 n), .int .i64 ((Mo.dec 1 n) + 1), .int .i64 (Mo.dec 2 n)] V29) := Lib.hid (((R23.out.below (GC26.out.trans hg28)).set 1 (.int .i64 ((Mo.dec 1 n) + 1)) (by simp)).below hv30)
  have G31 := Lib.hid (Gr.put1 G19.out (GC26.out.trans hg28) (by omega) hv30)
  clear hg28 hv30
  go_upto_region 8 with fail
  refine wpG_region ?_
  refine wpG_tk (some 38) (v := .agg #[.int .i64 (Mo.dec 0 n), .int .i64 ((Mo.dec 1 n) + 1), .int .i64 (Mo.dec 2 n)]) rfl (.load_mid (by rfl) 57 (.tmp 9) rfl (W13.heap.size) 0 rfl [.int .i64 (Mo.dec 0 n), .int .i64 ((Mo.dec 1 n) + 1), .int .i64 (Mo.dec 2 n)] _ (fun W hg => (R33.out.below hg).range) Try.underlying57 rfl (by kernel_rfl)) ?_
  simp only [Act.put, List.setIfInBounds_toArray, List.set_cons_zero, List.set_cons_succ]
  refine wpG_tk (some 39) (v := .agg #[.int .i64 (Mo.dec 0 n), .int .i64 ((Mo.dec 1 n) + 1), .int .i64 (Mo.dec 2 n)]) rfl (.call (f := 34) (args := #[.agg #[.int .i64 (Mo.dec 0 n), .int .i64 ((Mo.dec 1 n) + 1), .int .i64 (Mo.dec 2 n)]]) (by rfl) (fun W => by go_simp) (fun W hg => point_any (Mo.dec 0 n) ((Mo.dec 1 n) + 1) (Mo.dec 2 n) W)) ?_
  simp only [Act.put, List.setIfInBounds_toArray, List.set_cons_zero, List.set_cons_succ]
  refine wpG_tk (some 40) (v := .int .i64 (Mo.enc (Mo.dec 0 n) ((Mo.dec 1 n) + 1) (Mo.dec 2 n))) rfl (.call (f := 13) (args := #[.agg #[.int .i64 (Mo.dec 0 n), .int .i64 ((Mo.dec 1 n) + 1), .int .i64 (Mo.dec 2 n)]]) (by rfl) (fun W => by go_simp) (fun W hg => encode_any (Mo.dec 0 n) ((Mo.dec 1 n) + 1) (Mo.dec 2 n) W)) ?_
  simp only [Act.put, List.setIfInBounds_toArray, List.set_cons_zero, List.set_cons_succ]
  refine wpG_tk (some 6) (v := .int .i64 (Mo.enc (Mo.dec 0 n) ((Mo.dec 1 n) + 1) (Mo.dec 2 n))) rfl (.val (by rfl) (fun _ _ => rfl)) ?_
  simp only [Act.put, List.setIfInBounds_toArray, List.set_cons_zero, List.set_cons_succ]
  refine wpG_done (fun V34 hv35 => ?_)
  have GC36 := Lib.hid hv35
  clear hv35
  go_wp2_with fail
  go_ret
  exact ⟨rfl, Gr.to G31.out GC36.out⟩
set_option maxRecDepth 1000000 in
set_option maxHeartbeats 4000000 in
theorem nb_1f (n : Int) (w : World) (h : Mo.okB n = true) :
    Calls Try.prog 19 #[.int .i64 n, .int .i64 1, .bool false] w fun e w' => e = .returned (.int .i64 (Mo.enc (Mo.dec 0 n) (Mo.dec 1 n - 1) (Mo.dec 2 n))) ∧ Below w.heap.size w w' := by
  have HI := Lib.hid h
  clear h
  have hd0 := Mo.dec_bd 0 n
  have hd1 := Mo.dec_bd 1 n
  have hd2 := Mo.dec_bd 2 n
  have G0 := Lib.hid (Below.refl w.heap.size w)
  go_enter Try.func19, Try.ntmps19
  go_upto_region 1 with fail
  refine wpG_region ?_
  refine wpG_tk (some 11) (v := .int .i64 n) rfl (.val (by rfl) (fun _ _ => rfl)) ?_
  simp only [Act.put, List.setIfInBounds_toArray, List.set_cons_zero, List.set_cons_succ]
  refine wpG_tk (some 12) (v := .tuple #[.agg #[.int .i64 (Mo.dec 0 n), .int .i64 (Mo.dec 1 n), .int .i64 (Mo.dec 2 n)], .bool true]) rfl (.call (f := 9) (args := #[.int .i64 n]) (by rfl) (fun W => by go_simp) (fun W hg => (HI.out ▸ decode_any n W))) ?_
  simp only [Act.put, List.setIfInBounds_toArray, List.set_cons_zero, List.set_cons_succ]
  refine wpG_tk (some 10) (v := .tuple #[.agg #[.int .i64 (Mo.dec 0 n), .int .i64 (Mo.dec 1 n), .int .i64 (Mo.dec 2 n)], .bool true]) rfl (.val (by rfl) (fun _ _ => rfl)) ?_
  simp only [Act.put, List.setIfInBounds_toArray, List.set_cons_zero, List.set_cons_succ]
  refine wpG_tk (some 13) (v := .agg #[.int .i64 (Mo.dec 0 n), .int .i64 (Mo.dec 1 n), .int .i64 (Mo.dec 2 n)]) rfl (.val (by rfl) (fun W hg => by go_simp)) ?_
  simp only [Act.put, List.setIfInBounds_toArray, List.set_cons_zero, List.set_cons_succ]
  refine wpG_tk (some 14) (v := .bool true) rfl (.val (by rfl) (fun W hg => by go_simp)) ?_
  simp only [Act.put, List.setIfInBounds_toArray, List.set_cons_zero, List.set_cons_succ]
  refine wpG_val (some 7) rfl (by rfl) (fun W1 hg2 => ⟨.pointer (some ⟨W1.heap.size, 0, none⟩), W1.alloc (.cells #[.int .i64 0, .int .i64 0, .int .i64 0] 23), by (go_simp <;> rfl), ?_⟩)
  simp only [Act.put, List.setIfInBounds_toArray, List.set_cons_zero, List.set_cons_succ]
  refine wpG_store (none) rfl (by rfl) (fun W3 hg4 => ⟨_, run_store_mid 23 (.tmp 7) (.tmp 13) rfl (W1.heap.size) 0 #[.int .i64 (Mo.dec 0 n), .int .i64 (Mo.dec 1 n), .int .i64 (Mo.dec 2 n)] rfl rfl (Row.room hg4 3 rfl) (by kernel_rfl) (by kernel_rfl), ?_⟩)
  simp only [Act.put]
  refine wpG_tk (some 8) (v := .bool true) rfl (.val (by rfl) (fun _ _ => rfl)) ?_
  simp only [Act.put, List.setIfInBounds_toArray, List.set_cons_zero, List.set_cons_succ]
  refine wpG_done (fun V5 hv6 => ?_)
  have l8 : w.heap.size ≤ W1.heap.size := (Gr.to G0.out hg2).size
  have R9 := Lib.hid (Row.made (zs := [.int .i64 0, .int .i64 0, .int .i64 0]) (ds := [.int .i64 (Mo.dec 0 n), .int .i64 (Mo.dec 1 n), .int .i64 (Mo.dec 2 n)]) rfl hg4 hv6)
  have G7 := Lib.hid (Gr.to (Gr.to G0.out hg2) (Gr.past hg4 hv6))
  clear hg4 hv6 
  go_upto_region 2 with fail
  refine wpG_region ?_
  refine wpG_tk (some 15) (v := .bool true) rfl (.val (by rfl) (fun _ _ => rfl)) ?_
  simp only [Act.put, List.setIfInBounds_toArray, List.set_cons_zero, List.set_cons_succ]
  refine wpG_tk (some 16) (v := .bool false) rfl (.val (by rfl) (fun W hg => by go_simp)) ?_
  simp only [Act.put, List.setIfInBounds_toArray, List.set_cons_zero, List.set_cons_succ]
  refine wpG_tk (some 17) (v := .bool false) rfl (.val (by rfl) (fun _ _ => rfl)) ?_
  simp only [Act.put, List.setIfInBounds_toArray, List.set_cons_zero, List.set_cons_succ]
  refine wpG_tk (some 18) (v := .int .i64 1) rfl (.val (by rfl) (fun _ _ => rfl)) ?_
  simp only [Act.put, List.setIfInBounds_toArray, List.set_cons_zero, List.set_cons_succ]
  refine wpG_tk (some 19) (v := .bool false) rfl (.val (by rfl) (fun W hg => by go_simp)) ?_
  simp only [Act.put, List.setIfInBounds_toArray, List.set_cons_zero, List.set_cons_succ]
  refine wpG_tk (some 20) (v := .bool false) rfl (.val (by rfl) (fun W hg => by go_simp)) ?_
  simp only [Act.put, List.setIfInBounds_toArray, List.set_cons_zero, List.set_cons_succ]
  refine wpG_tk (some 21) (v := .bool false) rfl (.val (by rfl) (fun _ _ => rfl)) ?_
  simp only [Act.put, List.setIfInBounds_toArray, List.set_cons_zero, List.set_cons_succ]
  refine wpG_tk (some 22) (v := .int .i64 1) rfl (.val (by rfl) (fun _ _ => rfl)) ?_
  simp only [Act.put, List.setIfInBounds_toArray, List.set_cons_zero, List.set_cons_succ]
  refine wpG_tk (some 23) (v := .bool false) rfl (.val (by rfl) (fun W hg => by go_simp)) ?_
  simp only [Act.put, List.setIfInBounds_toArray, List.set_cons_zero, List.set_cons_succ]
  refine wpG_tk (some 24) (v := .bool false) rfl (.val (by rfl) (fun W hg => by go_simp)) ?_
  simp only [Act.put, List.setIfInBounds_toArray, List.set_cons_zero, List.set_cons_succ]
  refine wpG_done (fun V10 hv11 => ?_)
  have GC12 := Lib.hid hv11
  clear hv11
  go_upto_region 4 with fail
  refine wpG_region ?_
  refine wpG_tk (some 25) (v := .agg #[.int .i64 (Mo.dec 0 n), .int .i64 (Mo.dec 1 n), .int .i64 (Mo.dec 2 n)]) rfl (.load_mid (by rfl) 23 (.tmp 7) rfl (W1.heap.size) 0 rfl [.int .i64 (Mo.dec 0 n), .int .i64 (Mo.dec 1 n), .int .i64 (Mo.dec 2 n)] _ (fun W hg => (R9.out.below (GC12.out.trans hg)).range) Try.underlying23 rfl (by kernel_rfl)) ?_
  simp only [Act.put, List.setIfInBounds_toArray, List.set_cons_zero, List.set_cons_succ]
  refine wpG_tk (some 26) (v := .agg #[.int .i64 (Mo.dec 0 n), .int .i64 (Mo.dec 1 n), .int .i64 (Mo.dec 2 n)]) rfl (.call (f := 39) (args := #[.agg #[.int .i64 (Mo.dec 0 n), .int .i64 (Mo.dec 1 n), .int .i64 (Mo.dec 2 n)]]) (by rfl) (fun W => by go_simp) (fun W hg => coords_any (Mo.dec 0 n) (Mo.dec 1 n) (Mo.dec 2 n) W)) ?_
  simp only [Act.put, List.setIfInBounds_toArray, List.set_cons_zero, List.set_cons_succ]
  refine wpG_val (some 9) rfl (by rfl) (fun W13 hg14 => ⟨.pointer (some ⟨W13.heap.size, 0, none⟩), W13.alloc (.cells #[.int .i64 0, .int .i64 0, .int .i64 0] 57), by (go_simp <;> rfl), ?_⟩)
  simp only [Act.put, List.setIfInBounds_toArray, List.set_cons_zero, List.set_cons_succ]
  refine wpG_store (none) rfl (by rfl) (fun W15 hg16 => ⟨_, run_store_mid 57 (.tmp 9) (.tmp 26) rfl (W13.heap.size) 0 #[.int .i64 (Mo.dec 0 n), .int .i64 (Mo.dec 1 n), .int .i64 (Mo.dec 2 n)] rfl rfl (Row.room hg16 3 rfl) (by kernel_rfl) (by kernel_rfl), ?_⟩)
  simp only [Act.put]
  refine wpG_done (fun V17 hv18 => ?_)
  have l20 : W1.heap.size < W13.heap.size := (R9.out.below (GC12.out.trans hg14)).lt
  have l21 : w.heap.size ≤ W13.heap.size := (Gr.to G7.out (GC12.out.trans hg14)).size
  have R22 := Lib.hid ((R9.out.below (GC12.out.trans hg14)).past hg16 hv18)
  have R23 := Lib.hid (Row.made (zs := [.int .i64 0, .int .i64 0, .int .i64 0]) (ds := [.int .i64 (Mo.dec 0 n), .int .i64 (Mo.dec 1 n), .int .i64 (Mo.dec 2 n)]) rfl hg16 hv18)
  have G19 := Lib.hid (Gr.to (Gr.to G7.out (GC12.out.trans hg14)) (Gr.past hg16 hv18))
  clear hg16 hv18 
  go_upto_region 5 with fail
  refine wpG_region ?_
  refine wpG_tk (some 27) (v := .bool false) rfl (.val (by rfl) (fun _ _ => rfl)) ?_
  simp only [Act.put, List.setIfInBounds_toArray, List.set_cons_zero, List.set_cons_succ]
  refine wpG_done (fun V24 hv25 => ?_)
  have GC26 := Lib.hid hv25
  clear hv25
  go_upto_region 7 with fail
  refine wpG_region ?_
  refine wpG_tk (some 33) (v := .int .i64 1) rfl (.val (by rfl) (fun _ _ => rfl)) ?_
  simp only [Act.put, List.setIfInBounds_toArray, List.set_cons_zero, List.set_cons_succ]
  refine wpG_tk (some 34) (v := .pointer (some ⟨W13.heap.size, 1, none⟩)) rfl (.val (by rfl) (fun W hg => by go_simp)) ?_
  simp only [Act.put, List.setIfInBounds_toArray, List.set_cons_zero, List.set_cons_succ]
  refine wpG_tk (some 35) (v := .int .i64 (Mo.dec 1 n)) rfl (.val (by rfl) (fun W hg => by have c := (R23.out.below (GC26.out.trans hg) 1 _ rfl).1; go_simp)) ?_
  simp only [Act.put, List.setIfInBounds_toArray, List.set_cons_zero, List.set_cons_succ]
  refine wpG_tk (some 36) (v := .int .i64 ((Mo.dec 1 n) - 1)) rfl (.val (by rfl) (fun W hg => by (first | (go_simp; done) | (go_simp; rw [IntWalk.i64_in _ (by omega)])))) ?_
  simp only [Act.put, List.setIfInBounds_toArray, List.set_cons_zero, List.set_cons_succ]
  refine wpG_tk (some 37) (v := .pointer (some ⟨W13.heap.size, 1, none⟩)) rfl (.val (by rfl) (fun W hg => by go_simp)) ?_
  simp only [Act.put, List.setIfInBounds_toArray, List.set_cons_zero, List.set_cons_succ]
  refine wpG_store (none) rfl (by rfl) (fun W27 hg28 => ⟨W27.setCell ⟨W13.heap.size, 1, none⟩ (.int .i64 ((Mo.dec 1 n) - 1)), by have c := (R23.out.below (GC26.out.trans hg28)).cellx 1 _ rfl; have c2 := (R23.out.below (GC26.out.trans hg28)).softx 1 _ rfl; go_simp, ?_⟩)
  simp only [Act.put]
  refine wpG_done (fun V29 hv30 => ?_)
  have R32 := Lib.hid (((R22.out.below (GC26.out.trans hg28)).far (b := W13.heap.size) (by omega) 1 [.int .i64 ((Mo.dec 1 n) - 1)]).below hv30)
  have R33 : Hid (Row W13.heap.size [.int .i64 (Mo.dec 0 n), .int .i64 ((Mo.dec 1 n) - 1), .int .i64 (Mo.dec 2 n)] V29) := Lib.hid (((R23.out.below (GC26.out.trans hg28)).set 1 (.int .i64 ((Mo.dec 1 n) - 1)) (by simp)).below hv30)
  have G31 := Lib.hid (Gr.put1 G19.out (GC26.out.trans hg28) (by omega) hv30)
  clear hg28 hv30
  go_upto_region 8 with fail
  refine wpG_region ?_
  refine wpG_tk (some 38) (v := .agg #[.int .i64 (Mo.dec 0 n), .int .i64 ((Mo.dec 1 n) - 1), .int .i64 (Mo.dec 2 n)]) rfl (.load_mid (by rfl) 57 (.tmp 9) rfl (W13.heap.size) 0 rfl [.int .i64 (Mo.dec 0 n), .int .i64 ((Mo.dec 1 n) - 1), .int .i64 (Mo.dec 2 n)] _ (fun W hg => (R33.out.below hg).range) Try.underlying57 rfl (by kernel_rfl)) ?_
  simp only [Act.put, List.setIfInBounds_toArray, List.set_cons_zero, List.set_cons_succ]
  refine wpG_tk (some 39) (v := .agg #[.int .i64 (Mo.dec 0 n), .int .i64 ((Mo.dec 1 n) - 1), .int .i64 (Mo.dec 2 n)]) rfl (.call (f := 34) (args := #[.agg #[.int .i64 (Mo.dec 0 n), .int .i64 ((Mo.dec 1 n) - 1), .int .i64 (Mo.dec 2 n)]]) (by rfl) (fun W => by go_simp) (fun W hg => point_any (Mo.dec 0 n) ((Mo.dec 1 n) - 1) (Mo.dec 2 n) W)) ?_
  simp only [Act.put, List.setIfInBounds_toArray, List.set_cons_zero, List.set_cons_succ]
  refine wpG_tk (some 40) (v := .int .i64 (Mo.enc (Mo.dec 0 n) ((Mo.dec 1 n) - 1) (Mo.dec 2 n))) rfl (.call (f := 13) (args := #[.agg #[.int .i64 (Mo.dec 0 n), .int .i64 ((Mo.dec 1 n) - 1), .int .i64 (Mo.dec 2 n)]]) (by rfl) (fun W => by go_simp) (fun W hg => encode_any (Mo.dec 0 n) ((Mo.dec 1 n) - 1) (Mo.dec 2 n) W)) ?_
  simp only [Act.put, List.setIfInBounds_toArray, List.set_cons_zero, List.set_cons_succ]
  refine wpG_tk (some 6) (v := .int .i64 (Mo.enc (Mo.dec 0 n) ((Mo.dec 1 n) - 1) (Mo.dec 2 n))) rfl (.val (by rfl) (fun _ _ => rfl)) ?_
  simp only [Act.put, List.setIfInBounds_toArray, List.set_cons_zero, List.set_cons_succ]
  refine wpG_done (fun V34 hv35 => ?_)
  have GC36 := Lib.hid hv35
  clear hv35
  go_wp2_with fail
  go_ret
  exact ⟨rfl, Gr.to G31.out GC36.out⟩
set_option maxRecDepth 1000000 in
set_option maxHeartbeats 4000000 in
theorem nb_2t (n : Int) (w : World) (h : Mo.okB n = true) :
    Calls Try.prog 19 #[.int .i64 n, .int .i64 2, .bool true] w fun e w' => e = .returned (.int .i64 (Mo.enc (Mo.dec 0 n) (Mo.dec 1 n) (Mo.dec 2 n + 1))) ∧ Below w.heap.size w w' := by
  have HI := Lib.hid h
  clear h
  have hd0 := Mo.dec_bd 0 n
  have hd1 := Mo.dec_bd 1 n
  have hd2 := Mo.dec_bd 2 n
  have G0 := Lib.hid (Below.refl w.heap.size w)
  go_enter Try.func19, Try.ntmps19
  go_upto_region 1 with fail
  refine wpG_region ?_
  refine wpG_tk (some 11) (v := .int .i64 n) rfl (.val (by rfl) (fun _ _ => rfl)) ?_
  simp only [Act.put, List.setIfInBounds_toArray, List.set_cons_zero, List.set_cons_succ]
  refine wpG_tk (some 12) (v := .tuple #[.agg #[.int .i64 (Mo.dec 0 n), .int .i64 (Mo.dec 1 n), .int .i64 (Mo.dec 2 n)], .bool true]) rfl (.call (f := 9) (args := #[.int .i64 n]) (by rfl) (fun W => by go_simp) (fun W hg => (HI.out ▸ decode_any n W))) ?_
  simp only [Act.put, List.setIfInBounds_toArray, List.set_cons_zero, List.set_cons_succ]
  refine wpG_tk (some 10) (v := .tuple #[.agg #[.int .i64 (Mo.dec 0 n), .int .i64 (Mo.dec 1 n), .int .i64 (Mo.dec 2 n)], .bool true]) rfl (.val (by rfl) (fun _ _ => rfl)) ?_
  simp only [Act.put, List.setIfInBounds_toArray, List.set_cons_zero, List.set_cons_succ]
  refine wpG_tk (some 13) (v := .agg #[.int .i64 (Mo.dec 0 n), .int .i64 (Mo.dec 1 n), .int .i64 (Mo.dec 2 n)]) rfl (.val (by rfl) (fun W hg => by go_simp)) ?_
  simp only [Act.put, List.setIfInBounds_toArray, List.set_cons_zero, List.set_cons_succ]
  refine wpG_tk (some 14) (v := .bool true) rfl (.val (by rfl) (fun W hg => by go_simp)) ?_
  simp only [Act.put, List.setIfInBounds_toArray, List.set_cons_zero, List.set_cons_succ]
  refine wpG_val (some 7) rfl (by rfl) (fun W1 hg2 => ⟨.pointer (some ⟨W1.heap.size, 0, none⟩), W1.alloc (.cells #[.int .i64 0, .int .i64 0, .int .i64 0] 23), by (go_simp <;> rfl), ?_⟩)
  simp only [Act.put, List.setIfInBounds_toArray, List.set_cons_zero, List.set_cons_succ]
  refine wpG_store (none) rfl (by rfl) (fun W3 hg4 => ⟨_, run_store_mid 23 (.tmp 7) (.tmp 13) rfl (W1.heap.size) 0 #[.int .i64 (Mo.dec 0 n), .int .i64 (Mo.dec 1 n), .int .i64 (Mo.dec 2 n)] rfl rfl (Row.room hg4 3 rfl) (by kernel_rfl) (by kernel_rfl), ?_⟩)
  simp only [Act.put]
  refine wpG_tk (some 8) (v := .bool true) rfl (.val (by rfl) (fun _ _ => rfl)) ?_
  simp only [Act.put, List.setIfInBounds_toArray, List.set_cons_zero, List.set_cons_succ]
  refine wpG_done (fun V5 hv6 => ?_)
  have l8 : w.heap.size ≤ W1.heap.size := (Gr.to G0.out hg2).size
  have R9 := Lib.hid (Row.made (zs := [.int .i64 0, .int .i64 0, .int .i64 0]) (ds := [.int .i64 (Mo.dec 0 n), .int .i64 (Mo.dec 1 n), .int .i64 (Mo.dec 2 n)]) rfl hg4 hv6)
  have G7 := Lib.hid (Gr.to (Gr.to G0.out hg2) (Gr.past hg4 hv6))
  clear hg4 hv6 
  go_upto_region 2 with fail
  refine wpG_region ?_
  refine wpG_tk (some 15) (v := .bool true) rfl (.val (by rfl) (fun _ _ => rfl)) ?_
  simp only [Act.put, List.setIfInBounds_toArray, List.set_cons_zero, List.set_cons_succ]
  refine wpG_tk (some 16) (v := .bool false) rfl (.val (by rfl) (fun W hg => by go_simp)) ?_
  simp only [Act.put, List.setIfInBounds_toArray, List.set_cons_zero, List.set_cons_succ]
  refine wpG_tk (some 17) (v := .bool false) rfl (.val (by rfl) (fun _ _ => rfl)) ?_
  simp only [Act.put, List.setIfInBounds_toArray, List.set_cons_zero, List.set_cons_succ]
  refine wpG_tk (some 18) (v := .int .i64 2) rfl (.val (by rfl) (fun _ _ => rfl)) ?_
  simp only [Act.put, List.setIfInBounds_toArray, List.set_cons_zero, List.set_cons_succ]
  refine wpG_tk (some 19) (v := .bool false) rfl (.val (by rfl) (fun W hg => by go_simp)) ?_
  simp only [Act.put, List.setIfInBounds_toArray, List.set_cons_zero, List.set_cons_succ]
  refine wpG_tk (some 20) (v := .bool false) rfl (.val (by rfl) (fun W hg => by go_simp)) ?_
  simp only [Act.put, List.setIfInBounds_toArray, List.set_cons_zero, List.set_cons_succ]
  refine wpG_tk (some 21) (v := .bool false) rfl (.val (by rfl) (fun _ _ => rfl)) ?_
  simp only [Act.put, List.setIfInBounds_toArray, List.set_cons_zero, List.set_cons_succ]
  refine wpG_tk (some 22) (v := .int .i64 2) rfl (.val (by rfl) (fun _ _ => rfl)) ?_
  simp only [Act.put, List.setIfInBounds_toArray, List.set_cons_zero, List.set_cons_succ]
  refine wpG_tk (some 23) (v := .bool false) rfl (.val (by rfl) (fun W hg => by go_simp)) ?_
  simp only [Act.put, List.setIfInBounds_toArray, List.set_cons_zero, List.set_cons_succ]
  refine wpG_tk (some 24) (v := .bool false) rfl (.val (by rfl) (fun W hg => by go_simp)) ?_
  simp only [Act.put, List.setIfInBounds_toArray, List.set_cons_zero, List.set_cons_succ]
  refine wpG_done (fun V10 hv11 => ?_)
  have GC12 := Lib.hid hv11
  clear hv11
  go_upto_region 4 with fail
  refine wpG_region ?_
  refine wpG_tk (some 25) (v := .agg #[.int .i64 (Mo.dec 0 n), .int .i64 (Mo.dec 1 n), .int .i64 (Mo.dec 2 n)]) rfl (.load_mid (by rfl) 23 (.tmp 7) rfl (W1.heap.size) 0 rfl [.int .i64 (Mo.dec 0 n), .int .i64 (Mo.dec 1 n), .int .i64 (Mo.dec 2 n)] _ (fun W hg => (R9.out.below (GC12.out.trans hg)).range) Try.underlying23 rfl (by kernel_rfl)) ?_
  simp only [Act.put, List.setIfInBounds_toArray, List.set_cons_zero, List.set_cons_succ]
  refine wpG_tk (some 26) (v := .agg #[.int .i64 (Mo.dec 0 n), .int .i64 (Mo.dec 1 n), .int .i64 (Mo.dec 2 n)]) rfl (.call (f := 39) (args := #[.agg #[.int .i64 (Mo.dec 0 n), .int .i64 (Mo.dec 1 n), .int .i64 (Mo.dec 2 n)]]) (by rfl) (fun W => by go_simp) (fun W hg => coords_any (Mo.dec 0 n) (Mo.dec 1 n) (Mo.dec 2 n) W)) ?_
  simp only [Act.put, List.setIfInBounds_toArray, List.set_cons_zero, List.set_cons_succ]
  refine wpG_val (some 9) rfl (by rfl) (fun W13 hg14 => ⟨.pointer (some ⟨W13.heap.size, 0, none⟩), W13.alloc (.cells #[.int .i64 0, .int .i64 0, .int .i64 0] 57), by (go_simp <;> rfl), ?_⟩)
  simp only [Act.put, List.setIfInBounds_toArray, List.set_cons_zero, List.set_cons_succ]
  refine wpG_store (none) rfl (by rfl) (fun W15 hg16 => ⟨_, run_store_mid 57 (.tmp 9) (.tmp 26) rfl (W13.heap.size) 0 #[.int .i64 (Mo.dec 0 n), .int .i64 (Mo.dec 1 n), .int .i64 (Mo.dec 2 n)] rfl rfl (Row.room hg16 3 rfl) (by kernel_rfl) (by kernel_rfl), ?_⟩)
  simp only [Act.put]
  refine wpG_done (fun V17 hv18 => ?_)
  have l20 : W1.heap.size < W13.heap.size := (R9.out.below (GC12.out.trans hg14)).lt
  have l21 : w.heap.size ≤ W13.heap.size := (Gr.to G7.out (GC12.out.trans hg14)).size
  have R22 := Lib.hid ((R9.out.below (GC12.out.trans hg14)).past hg16 hv18)
  have R23 := Lib.hid (Row.made (zs := [.int .i64 0, .int .i64 0, .int .i64 0]) (ds := [.int .i64 (Mo.dec 0 n), .int .i64 (Mo.dec 1 n), .int .i64 (Mo.dec 2 n)]) rfl hg16 hv18)
  have G19 := Lib.hid (Gr.to (Gr.to G7.out (GC12.out.trans hg14)) (Gr.past hg16 hv18))
  clear hg16 hv18 
  go_upto_region 5 with fail
  refine wpG_region ?_
  refine wpG_tk (some 27) (v := .bool true) rfl (.val (by rfl) (fun _ _ => rfl)) ?_
  simp only [Act.put, List.setIfInBounds_toArray, List.set_cons_zero, List.set_cons_succ]
  refine wpG_done (fun V24 hv25 => ?_)
  have GC26 := Lib.hid hv25
  clear hv25
  go_upto_region 6 with fail
  refine wpG_region ?_
  refine wpG_tk (some 28) (v := .int .i64 2) rfl (.val (by rfl) (fun _ _ => rfl)) ?_
  simp only [Act.put, List.setIfInBounds_toArray, List.set_cons_zero, List.set_cons_succ]
  refine wpG_tk (some 29) (v := .pointer (some ⟨W13.heap.size, 2, none⟩)) rfl (.val (by rfl) (fun W hg => by go_simp)) ?_
  simp only [Act.put, List.setIfInBounds_toArray, List.set_cons_zero, List.set_cons_succ]
  refine wpG_tk (some 30) (v := .int .i64 (Mo.dec 2 n)) rfl (.val (by rfl) (fun W hg => by have c := (R23.out.below (GC26.out.trans hg) 2 _ rfl).1; go_simp)) ?_
  simp only [Act.put, List.setIfInBounds_toArray, List.set_cons_zero, List.set_cons_succ]
  refine wpG_tk (some 31) (v := .int .i64 ((Mo.dec 2 n) + 1)) rfl (.val (by rfl) (fun W hg => by (first | (go_simp; done) | (go_simp; rw [IntWalk.i64_in _ (by omega)])))) ?_
  simp only [Act.put, List.setIfInBounds_toArray, List.set_cons_zero, List.set_cons_succ]
  refine wpG_tk (some 32) (v := .pointer (some ⟨W13.heap.size, 2, none⟩)) rfl (.val (by rfl) (fun W hg => by go_simp)) ?_
  simp only [Act.put, List.setIfInBounds_toArray, List.set_cons_zero, List.set_cons_succ]
  refine wpG_store (none) rfl (by rfl) (fun W27 hg28 => ⟨W27.setCell ⟨W13.heap.size, 2, none⟩ (.int .i64 ((Mo.dec 2 n) + 1)), by have c := (R23.out.below (GC26.out.trans hg28)).cellx 2 _ rfl; have c2 := (R23.out.below (GC26.out.trans hg28)).softx 2 _ rfl; go_simp, ?_⟩)
  simp only [Act.put]
  refine wpG_done (fun V29 hv30 => ?_)
  have R32 := Lib.hid (((R22.out.below (GC26.out.trans hg28)).far (b := W13.heap.size) (by omega) 2 [.int .i64 ((Mo.dec 2 n) + 1)]).below hv30)
  have R33 : Hid (Row W13.heap.size [.int .i64 (Mo.dec 0 n), .int .i64 (Mo.dec 1 n), .int .i64 ((Mo.dec 2 n) + 1)] V29) := Lib.hid (((R23.out.below (GC26.out.trans hg28)).set 2 (.int .i64 ((Mo.dec 2 n) + 1)) (by simp)).below hv30)
  have G31 := Lib.hid (Gr.put1 G19.out (GC26.out.trans hg28) (by omega) hv30)
  clear hg28 hv30
  go_upto_region 8 with fail
  refine wpG_region ?_
  refine wpG_tk (some 38) (v := .agg #[.int .i64 (Mo.dec 0 n), .int .i64 (Mo.dec 1 n), .int .i64 ((Mo.dec 2 n) + 1)]) rfl (.load_mid (by rfl) 57 (.tmp 9) rfl (W13.heap.size) 0 rfl [.int .i64 (Mo.dec 0 n), .int .i64 (Mo.dec 1 n), .int .i64 ((Mo.dec 2 n) + 1)] _ (fun W hg => (R33.out.below hg).range) Try.underlying57 rfl (by kernel_rfl)) ?_
  simp only [Act.put, List.setIfInBounds_toArray, List.set_cons_zero, List.set_cons_succ]
  refine wpG_tk (some 39) (v := .agg #[.int .i64 (Mo.dec 0 n), .int .i64 (Mo.dec 1 n), .int .i64 ((Mo.dec 2 n) + 1)]) rfl (.call (f := 34) (args := #[.agg #[.int .i64 (Mo.dec 0 n), .int .i64 (Mo.dec 1 n), .int .i64 ((Mo.dec 2 n) + 1)]]) (by rfl) (fun W => by go_simp) (fun W hg => point_any (Mo.dec 0 n) (Mo.dec 1 n) ((Mo.dec 2 n) + 1) W)) ?_
  simp only [Act.put, List.setIfInBounds_toArray, List.set_cons_zero, List.set_cons_succ]
  refine wpG_tk (some 40) (v := .int .i64 (Mo.enc (Mo.dec 0 n) (Mo.dec 1 n) ((Mo.dec 2 n) + 1))) rfl (.call (f := 13) (args := #[.agg #[.int .i64 (Mo.dec 0 n), .int .i64 (Mo.dec 1 n), .int .i64 ((Mo.dec 2 n) + 1)]]) (by rfl) (fun W => by go_simp) (fun W hg => encode_any (Mo.dec 0 n) (Mo.dec 1 n) ((Mo.dec 2 n) + 1) W)) ?_
  simp only [Act.put, List.setIfInBounds_toArray, List.set_cons_zero, List.set_cons_succ]
  refine wpG_tk (some 6) (v := .int .i64 (Mo.enc (Mo.dec 0 n) (Mo.dec 1 n) ((Mo.dec 2 n) + 1))) rfl (.val (by rfl) (fun _ _ => rfl)) ?_
  simp only [Act.put, List.setIfInBounds_toArray, List.set_cons_zero, List.set_cons_succ]
  refine wpG_done (fun V34 hv35 => ?_)
  have GC36 := Lib.hid hv35
  clear hv35
  go_wp2_with fail
  go_ret
  exact ⟨rfl, Gr.to G31.out GC36.out⟩
set_option maxRecDepth 1000000 in
set_option maxHeartbeats 4000000 in
theorem nb_2f (n : Int) (w : World) (h : Mo.okB n = true) :
    Calls Try.prog 19 #[.int .i64 n, .int .i64 2, .bool false] w fun e w' => e = .returned (.int .i64 (Mo.enc (Mo.dec 0 n) (Mo.dec 1 n) (Mo.dec 2 n - 1))) ∧ Below w.heap.size w w' := by
  have HI := Lib.hid h
  clear h
  have hd0 := Mo.dec_bd 0 n
  have hd1 := Mo.dec_bd 1 n
  have hd2 := Mo.dec_bd 2 n
  have G0 := Lib.hid (Below.refl w.heap.size w)
  go_enter Try.func19, Try.ntmps19
  go_upto_region 1 with fail
  refine wpG_region ?_
  refine wpG_tk (some 11) (v := .int .i64 n) rfl (.val (by rfl) (fun _ _ => rfl)) ?_
  simp only [Act.put, List.setIfInBounds_toArray, List.set_cons_zero, List.set_cons_succ]
  refine wpG_tk (some 12) (v := .tuple #[.agg #[.int .i64 (Mo.dec 0 n), .int .i64 (Mo.dec 1 n), .int .i64 (Mo.dec 2 n)], .bool true]) rfl (.call (f := 9) (args := #[.int .i64 n]) (by rfl) (fun W => by go_simp) (fun W hg => (HI.out ▸ decode_any n W))) ?_
  simp only [Act.put, List.setIfInBounds_toArray, List.set_cons_zero, List.set_cons_succ]
  refine wpG_tk (some 10) (v := .tuple #[.agg #[.int .i64 (Mo.dec 0 n), .int .i64 (Mo.dec 1 n), .int .i64 (Mo.dec 2 n)], .bool true]) rfl (.val (by rfl) (fun _ _ => rfl)) ?_
  simp only [Act.put, List.setIfInBounds_toArray, List.set_cons_zero, List.set_cons_succ]
  refine wpG_tk (some 13) (v := .agg #[.int .i64 (Mo.dec 0 n), .int .i64 (Mo.dec 1 n), .int .i64 (Mo.dec 2 n)]) rfl (.val (by rfl) (fun W hg => by go_simp)) ?_
  simp only [Act.put, List.setIfInBounds_toArray, List.set_cons_zero, List.set_cons_succ]
  refine wpG_tk (some 14) (v := .bool true) rfl (.val (by rfl) (fun W hg => by go_simp)) ?_
  simp only [Act.put, List.setIfInBounds_toArray, List.set_cons_zero, List.set_cons_succ]
  refine wpG_val (some 7) rfl (by rfl) (fun W1 hg2 => ⟨.pointer (some ⟨W1.heap.size, 0, none⟩), W1.alloc (.cells #[.int .i64 0, .int .i64 0, .int .i64 0] 23), by (go_simp <;> rfl), ?_⟩)
  simp only [Act.put, List.setIfInBounds_toArray, List.set_cons_zero, List.set_cons_succ]
  refine wpG_store (none) rfl (by rfl) (fun W3 hg4 => ⟨_, run_store_mid 23 (.tmp 7) (.tmp 13) rfl (W1.heap.size) 0 #[.int .i64 (Mo.dec 0 n), .int .i64 (Mo.dec 1 n), .int .i64 (Mo.dec 2 n)] rfl rfl (Row.room hg4 3 rfl) (by kernel_rfl) (by kernel_rfl), ?_⟩)
  simp only [Act.put]
  refine wpG_tk (some 8) (v := .bool true) rfl (.val (by rfl) (fun _ _ => rfl)) ?_
  simp only [Act.put, List.setIfInBounds_toArray, List.set_cons_zero, List.set_cons_succ]
  refine wpG_done (fun V5 hv6 => ?_)
  have l8 : w.heap.size ≤ W1.heap.size := (Gr.to G0.out hg2).size
  have R9 := Lib.hid (Row.made (zs := [.int .i64 0, .int .i64 0, .int .i64 0]) (ds := [.int .i64 (Mo.dec 0 n), .int .i64 (Mo.dec 1 n), .int .i64 (Mo.dec 2 n)]) rfl hg4 hv6)
  have G7 := Lib.hid (Gr.to (Gr.to G0.out hg2) (Gr.past hg4 hv6))
  clear hg4 hv6 
  go_upto_region 2 with fail
  refine wpG_region ?_
  refine wpG_tk (some 15) (v := .bool true) rfl (.val (by rfl) (fun _ _ => rfl)) ?_
  simp only [Act.put, List.setIfInBounds_toArray, List.set_cons_zero, List.set_cons_succ]
  refine wpG_tk (some 16) (v := .bool false) rfl (.val (by rfl) (fun W hg => by go_simp)) ?_
  simp only [Act.put, List.setIfInBounds_toArray, List.set_cons_zero, List.set_cons_succ]
  refine wpG_tk (some 17) (v := .bool false) rfl (.val (by rfl) (fun _ _ => rfl)) ?_
  simp only [Act.put, List.setIfInBounds_toArray, List.set_cons_zero, List.set_cons_succ]
  refine wpG_tk (some 18) (v := .int .i64 2) rfl (.val (by rfl) (fun _ _ => rfl)) ?_
  simp only [Act.put, List.setIfInBounds_toArray, List.set_cons_zero, List.set_cons_succ]
  refine wpG_tk (some 19) (v := .bool false) rfl (.val (by rfl) (fun W hg => by go_simp)) ?_
  simp only [Act.put, List.setIfInBounds_toArray, List.set_cons_zero, List.set_cons_succ]
  refine wpG_tk (some 20) (v := .bool false) rfl (.val (by rfl) (fun W hg => by go_simp)) ?_
  simp only [Act.put, List.setIfInBounds_toArray, List.set_cons_zero, List.set_cons_succ]
  refine wpG_tk (some 21) (v := .bool false) rfl (.val (by rfl) (fun _ _ => rfl)) ?_
  simp only [Act.put, List.setIfInBounds_toArray, List.set_cons_zero, List.set_cons_succ]
  refine wpG_tk (some 22) (v := .int .i64 2) rfl (.val (by rfl) (fun _ _ => rfl)) ?_
  simp only [Act.put, List.setIfInBounds_toArray, List.set_cons_zero, List.set_cons_succ]
  refine wpG_tk (some 23) (v := .bool false) rfl (.val (by rfl) (fun W hg => by go_simp)) ?_
  simp only [Act.put, List.setIfInBounds_toArray, List.set_cons_zero, List.set_cons_succ]
  refine wpG_tk (some 24) (v := .bool false) rfl (.val (by rfl) (fun W hg => by go_simp)) ?_
  simp only [Act.put, List.setIfInBounds_toArray, List.set_cons_zero, List.set_cons_succ]
  refine wpG_done (fun V10 hv11 => ?_)
  have GC12 := Lib.hid hv11
  clear hv11
  go_upto_region 4 with fail
  refine wpG_region ?_
  refine wpG_tk (some 25) (v := .agg #[.int .i64 (Mo.dec 0 n), .int .i64 (Mo.dec 1 n), .int .i64 (Mo.dec 2 n)]) rfl (.load_mid (by rfl) 23 (.tmp 7) rfl (W1.heap.size) 0 rfl [.int .i64 (Mo.dec 0 n), .int .i64 (Mo.dec 1 n), .int .i64 (Mo.dec 2 n)] _ (fun W hg => (R9.out.below (GC12.out.trans hg)).range) Try.underlying23 rfl (by kernel_rfl)) ?_
  simp only [Act.put, List.setIfInBounds_toArray, List.set_cons_zero, List.set_cons_succ]
  refine wpG_tk (some 26) (v := .agg #[.int .i64 (Mo.dec 0 n), .int .i64 (Mo.dec 1 n), .int .i64 (Mo.dec 2 n)]) rfl (.call (f := 39) (args := #[.agg #[.int .i64 (Mo.dec 0 n), .int .i64 (Mo.dec 1 n), .int .i64 (Mo.dec 2 n)]]) (by rfl) (fun W => by go_simp) (fun W hg => coords_any (Mo.dec 0 n) (Mo.dec 1 n) (Mo.dec 2 n) W)) ?_
  simp only [Act.put, List.setIfInBounds_toArray, List.set_cons_zero, List.set_cons_succ]
  refine wpG_val (some 9) rfl (by rfl) (fun W13 hg14 => ⟨.pointer (some ⟨W13.heap.size, 0, none⟩), W13.alloc (.cells #[.int .i64 0, .int .i64 0, .int .i64 0] 57), by (go_simp <;> rfl), ?_⟩)
  simp only [Act.put, List.setIfInBounds_toArray, List.set_cons_zero, List.set_cons_succ]
  refine wpG_store (none) rfl (by rfl) (fun W15 hg16 => ⟨_, run_store_mid 57 (.tmp 9) (.tmp 26) rfl (W13.heap.size) 0 #[.int .i64 (Mo.dec 0 n), .int .i64 (Mo.dec 1 n), .int .i64 (Mo.dec 2 n)] rfl rfl (Row.room hg16 3 rfl) (by kernel_rfl) (by kernel_rfl), ?_⟩)
  simp only [Act.put]
  refine wpG_done (fun V17 hv18 => ?_)
  have l20 : W1.heap.size < W13.heap.size := (R9.out.below (GC12.out.trans hg14)).lt
  have l21 : w.heap.size ≤ W13.heap.size := (Gr.to G7.out (GC12.out.trans hg14)).size
  have R22 := Lib.hid ((R9.out.below (GC12.out.trans hg14)).past hg16 hv18)
  have R23 := Lib.hid (Row.made (zs := [.int .i64 0, .int .i64 0, .int .i64 0]) (ds := [.int .i64 (Mo.dec 0 n), .int .i64 (Mo.dec 1 n), .int .i64 (Mo.dec 2 n)]) rfl hg16 hv18)
  have G19 := Lib.hid (Gr.to (Gr.to G7.out (GC12.out.trans hg14)) (Gr.past hg16 hv18))
  clear hg16 hv18 
  go_upto_region 5 with fail
  refine wpG_region ?_
  refine wpG_tk (some 27) (v := .bool false) rfl (.val (by rfl) (fun _ _ => rfl)) ?_
  simp only [Act.put, List.setIfInBounds_toArray, List.set_cons_zero, List.set_cons_succ]
  refine wpG_done (fun V24 hv25 => ?_)
  have GC26 := Lib.hid hv25
  clear hv25
  go_upto_region 7 with fail
  refine wpG_region ?_
  refine wpG_tk (some 33) (v := .int .i64 2) rfl (.val (by rfl) (fun _ _ => rfl)) ?_
  simp only [Act.put, List.setIfInBounds_toArray, List.set_cons_zero, List.set_cons_succ]
  refine wpG_tk (some 34) (v := .pointer (some ⟨W13.heap.size, 2, none⟩)) rfl (.val (by rfl) (fun W hg => by go_simp)) ?_
  simp only [Act.put, List.setIfInBounds_toArray, List.set_cons_zero, List.set_cons_succ]
  refine wpG_tk (some 35) (v := .int .i64 (Mo.dec 2 n)) rfl (.val (by rfl) (fun W hg => by have c := (R23.out.below (GC26.out.trans hg) 2 _ rfl).1; go_simp)) ?_
  simp only [Act.put, List.setIfInBounds_toArray, List.set_cons_zero, List.set_cons_succ]
  refine wpG_tk (some 36) (v := .int .i64 ((Mo.dec 2 n) - 1)) rfl (.val (by rfl) (fun W hg => by (first | (go_simp; done) | (go_simp; rw [IntWalk.i64_in _ (by omega)])))) ?_
  simp only [Act.put, List.setIfInBounds_toArray, List.set_cons_zero, List.set_cons_succ]
  refine wpG_tk (some 37) (v := .pointer (some ⟨W13.heap.size, 2, none⟩)) rfl (.val (by rfl) (fun W hg => by go_simp)) ?_
  simp only [Act.put, List.setIfInBounds_toArray, List.set_cons_zero, List.set_cons_succ]
  refine wpG_store (none) rfl (by rfl) (fun W27 hg28 => ⟨W27.setCell ⟨W13.heap.size, 2, none⟩ (.int .i64 ((Mo.dec 2 n) - 1)), by have c := (R23.out.below (GC26.out.trans hg28)).cellx 2 _ rfl; have c2 := (R23.out.below (GC26.out.trans hg28)).softx 2 _ rfl; go_simp, ?_⟩)
  simp only [Act.put]
  refine wpG_done (fun V29 hv30 => ?_)
  have R32 := Lib.hid (((R22.out.below (GC26.out.trans hg28)).far (b := W13.heap.size) (by omega) 2 [.int .i64 ((Mo.dec 2 n) - 1)]).below hv30)
  have R33 : Hid (Row W13.heap.size [.int .i64 (Mo.dec 0 n), .int .i64 (Mo.dec 1 n), .int .i64 ((Mo.dec 2 n) - 1)] V29) := Lib.hid (((R23.out.below (GC26.out.trans hg28)).set 2 (.int .i64 ((Mo.dec 2 n) - 1)) (by simp)).below hv30)
  have G31 := Lib.hid (Gr.put1 G19.out (GC26.out.trans hg28) (by omega) hv30)
  clear hg28 hv30
  go_upto_region 8 with fail
  refine wpG_region ?_
  refine wpG_tk (some 38) (v := .agg #[.int .i64 (Mo.dec 0 n), .int .i64 (Mo.dec 1 n), .int .i64 ((Mo.dec 2 n) - 1)]) rfl (.load_mid (by rfl) 57 (.tmp 9) rfl (W13.heap.size) 0 rfl [.int .i64 (Mo.dec 0 n), .int .i64 (Mo.dec 1 n), .int .i64 ((Mo.dec 2 n) - 1)] _ (fun W hg => (R33.out.below hg).range) Try.underlying57 rfl (by kernel_rfl)) ?_
  simp only [Act.put, List.setIfInBounds_toArray, List.set_cons_zero, List.set_cons_succ]
  refine wpG_tk (some 39) (v := .agg #[.int .i64 (Mo.dec 0 n), .int .i64 (Mo.dec 1 n), .int .i64 ((Mo.dec 2 n) - 1)]) rfl (.call (f := 34) (args := #[.agg #[.int .i64 (Mo.dec 0 n), .int .i64 (Mo.dec 1 n), .int .i64 ((Mo.dec 2 n) - 1)]]) (by rfl) (fun W => by go_simp) (fun W hg => point_any (Mo.dec 0 n) (Mo.dec 1 n) ((Mo.dec 2 n) - 1) W)) ?_
  simp only [Act.put, List.setIfInBounds_toArray, List.set_cons_zero, List.set_cons_succ]
  refine wpG_tk (some 40) (v := .int .i64 (Mo.enc (Mo.dec 0 n) (Mo.dec 1 n) ((Mo.dec 2 n) - 1))) rfl (.call (f := 13) (args := #[.agg #[.int .i64 (Mo.dec 0 n), .int .i64 (Mo.dec 1 n), .int .i64 ((Mo.dec 2 n) - 1)]]) (by rfl) (fun W => by go_simp) (fun W hg => encode_any (Mo.dec 0 n) (Mo.dec 1 n) ((Mo.dec 2 n) - 1) W)) ?_
  simp only [Act.put, List.setIfInBounds_toArray, List.set_cons_zero, List.set_cons_succ]
  refine wpG_tk (some 6) (v := .int .i64 (Mo.enc (Mo.dec 0 n) (Mo.dec 1 n) ((Mo.dec 2 n) - 1))) rfl (.val (by rfl) (fun _ _ => rfl)) ?_
  simp only [Act.put, List.setIfInBounds_toArray, List.set_cons_zero, List.set_cons_succ]
  refine wpG_done (fun V34 hv35 => ?_)
  have GC36 := Lib.hid hv35
  clear hv35
  go_wp2_with fail
  go_ret
  exact ⟨rfl, Gr.to G31.out GC36.out⟩
set_option maxRecDepth 1000000 in
set_option maxHeartbeats 4000000 in
theorem neighbour_any (n : Int) (a : Int) (u : Bool) (w : World) :
    Calls Try.prog 19 #[.int .i64 n, .int .i64 a, .bool u] w fun e w' => e = .returned (.int .i64 (Mo.nb n a u)) ∧ Below w.heap.size w w' := by
  cases h : Mo.okB n with
  | false => rw [Mo.nb_out (.inl h)]; exact nb_0 n a u w h
  | true =>
    by_cases h0 : a < 0
    · rw [Mo.nb_out (.inr (.inl h0))]; exact nb_1 n a u w h h0
    · by_cases h1 : 2 < a
      · rw [Mo.nb_out (.inr (.inr h1))]; exact nb_2 n a u w h h0 h1
      · have ha : a = 0 ∨ a = 1 ∨ a = 2 := by omega
        rcases ha with rfl | rfl | rfl <;> cases u
        · exact rename (nb_0f n w h) (by rw [Mo.nb_in h (by omega)]; first | (simp; done) | simp [Int.sub_eq_add_neg])
        · exact rename (nb_0t n w h) (by rw [Mo.nb_in h (by omega)]; first | (simp; done) | simp [Int.sub_eq_add_neg])
        · exact rename (nb_1f n w h) (by rw [Mo.nb_in h (by omega)]; first | (simp; done) | simp [Int.sub_eq_add_neg])
        · exact rename (nb_1t n w h) (by rw [Mo.nb_in h (by omega)]; first | (simp; done) | simp [Int.sub_eq_add_neg])
        · exact rename (nb_2f n w h) (by rw [Mo.nb_in h (by omega)]; first | (simp; done) | simp [Int.sub_eq_add_neg])
        · exact rename (nb_2t n w h) (by rw [Mo.nb_in h (by omega)]; first | (simp; done) | simp [Int.sub_eq_add_neg])
end Go.Proofs.Ytmjjkloeipoefaa
