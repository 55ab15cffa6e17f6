/-
  Contracts of cubes, the level an integer of its own; the search for the next code, by the program.
-/
import Derived.Test.YtmjjkloeipoefaaMob2
import Derived.Test.YtmjjkloeipoefaaMo6
import Derived.Test.YtmjjkloeipoefaaKrq
import Derived.Handy
namespace Go.Proofs.Ytmjjkloeipoefaa
open Go.RowKit
set_option linter.unusedVariables false
theorem overlap_L (b1 b2 b3 b4 b5 b6 x y z L : Int) (l : Nat) (w : World) (hL : L = (l : Int)) (hs : Mo.sits x y z l) :
    Calls Try.prog 42 #[.agg #[.int .i64 x, .int .i64 y, .int .i64 z, .int .i64 L], .agg #[.int .i64 b1, .int .i64 b2, .int .i64 b3, .int .i64 b4, .int .i64 b5, .int .i64 b6]] w fun e w' => e = .returned (.tuple #[.bool (Mo.meets b1 b2 b3 b4 b5 b6 x y z l), .bool (Mo.within b1 b2 b3 b4 b5 b6 x y z l)]) ∧ Below w.heap.size w w' := by
  subst hL
  exact overlap_any b1 b2 b3 b4 b5 b6 x y z l w (Mo.sits_bd hs) hs.2.2.2
theorem run_L (x y z L : Int) (l : Nat) (w : World) (hL : L = (l : Int)) (hl : l ≤ 14) :
    Calls Try.prog 46 #[.agg #[.int .i64 x, .int .i64 y, .int .i64 z, .int .i64 L]] w fun e w' => e = .returned (.agg #[.int .i64 (Mo.enc x y z), .int .i64 (Mo.enc x y z + Mo.pw (3 * l) - 1)]) ∧ Below w.heap.size w w' := by
  subst hL
  exact run_any x y z l w hl
theorem child_L (x y z L : Int) (l o : Nat) (w : World) (hL : L = (l : Int) + 1) (hs : Mo.sits x y z (l + 1)) (ho : o ≤ 7) :
    Calls Try.prog 43 #[.agg #[.int .i64 x, .int .i64 y, .int .i64 z, .int .i64 L], .int .i64 (o : Int)] w fun e w' => e = .returned (.agg #[.int .i64 (x + Mo.cx 0 o l), .int .i64 (y + Mo.cx 1 o l), .int .i64 (z + Mo.cx 2 o l), .int .i64 (L - 1)]) ∧ Below w.heap.size w w' := by
  subst hL
  exact rename (child_any x y z l o w (Mo.sits_bd hs) (by have := hs.2.2.2; omega) ho) (by rw [Int.add_sub_cancel])
theorem overlap_K (b1 b2 b3 b4 b5 b6 x y z L : Int) (l : Nat) (m v : Bool) (w : World) (hL : L = (l : Int)) (hs : Mo.sits x y z l) (hm : Mo.meets b1 b2 b3 b4 b5 b6 x y z l = m) (hv : Mo.within b1 b2 b3 b4 b5 b6 x y z l = v) :
    Calls Try.prog 42 #[.agg #[.int .i64 x, .int .i64 y, .int .i64 z, .int .i64 L], .agg #[.int .i64 b1, .int .i64 b2, .int .i64 b3, .int .i64 b4, .int .i64 b5, .int .i64 b6]] w fun e w' => e = .returned (.tuple #[.bool m, .bool v]) ∧ Below w.heap.size w w' := by
  subst hm; subst hv
  exact overlap_L b1 b2 b3 b4 b5 b6 x y z L l w hL hs
set_option maxRecDepth 1000000 in
set_option maxHeartbeats 4000000 in
theorem find_a (b1 b2 b3 b4 b5 b6 n x y z L : Int) (l qb qn qf : Nat) (w : World) (wv : Bool) (hL : L = (l : Int)) (hs : Mo.sits x y z l) (hqb : Row qb [.int .i64 b1, .int .i64 b2, .int .i64 b3, .int .i64 b4, .int .i64 b5, .int .i64 b6] w) (hqn : Row qn [.int .i64 n] w) (hqf : Row qf [.func (.func 47) #[] #[.pointer (some ⟨qb, 0, none⟩), .pointer (some ⟨qn, 0, none⟩), .pointer (some ⟨qf, 0, none⟩)]] w) (hm : Mo.meets b1 b2 b3 b4 b5 b6 x y z l = false) (hw : Mo.within b1 b2 b3 b4 b5 b6 x y z l = wv) :
    Calls Try.prog 47 #[.agg #[.int .i64 x, .int .i64 y, .int .i64 z, .int .i64 L], .pointer (some ⟨qb, 0, none⟩), .pointer (some ⟨qn, 0, none⟩), .pointer (some ⟨qf, 0, none⟩)] w fun e w' => e = .returned (.int .i64 (-1)) ∧ Below w.heap.size w w' := by
  obtain ⟨e, he⟩ : ∃ e, e = Mo.enc x y z := ⟨_, rfl⟩
  obtain ⟨la, hla⟩ : ∃ a, a = Mo.enc x y z + Mo.pw (3 * l) - 1 := ⟨_, rfl⟩
  have HE := Lib.hid he
  have HP := Lib.hid hla
  have HL := Lib.hid hL
  have HS := Lib.hid hs
  have HM := Lib.hid hm
  have HW := Lib.hid hw
  clear hm hw
  clear he hla hL hs
  obtain ⟨u, hu, r0, g0⟩ := rows1 w [.int .i64 x, .int .i64 y, .int .i64 z, .int .i64 L] 27
  have R0 := Lib.hid r0
  have RB := Lib.hid (hqb.below g0)
  have RN := Lib.hid (hqn.below g0)
  have RF := Lib.hid (hqf.below g0)
  clear hqb hqn hqf
  have G0 := Lib.hid g0
  have HU := Lib.hid hu
  clear hu g0 r0
  go_enter Try.func47, Try.ntmps47
  go_upto_region 1 with fail
  rw [← HU.out]
  refine wpG_region ?_
  refine wpG_tk (some 12) (v := .agg #[.int .i64 x, .int .i64 y, .int .i64 z, .int .i64 L]) rfl (.load_mid (by rfl) 27 (.tmp 4) rfl (w.heap.size) 0 rfl [.int .i64 x, .int .i64 y, .int .i64 z, .int .i64 L] _ (fun W hg => (R0.out.below hg).range) Try.underlying27 rfl (by kernel_rfl)) ?_
  simp only [Act.put, List.setIfInBounds_toArray, List.set_cons_zero, List.set_cons_succ]
  refine wpG_tk (some 13) (v := .agg #[.int .i64 b1, .int .i64 b2, .int .i64 b3, .int .i64 b4, .int .i64 b5, .int .i64 b6]) rfl (.load_mid (by rfl) 37 (.tmp 1) rfl (qb) 0 rfl [.int .i64 b1, .int .i64 b2, .int .i64 b3, .int .i64 b4, .int .i64 b5, .int .i64 b6] _ (fun W hg => (RB.out.below hg).range) Try.underlying37 rfl (by kernel_rfl)) ?_
  simp only [Act.put, List.setIfInBounds_toArray, List.set_cons_zero, List.set_cons_succ]
  refine wpG_tk (some 14) (v := .tuple #[.bool false, .bool wv]) rfl (.call (f := 42) (args := #[.agg #[.int .i64 x, .int .i64 y, .int .i64 z, .int .i64 L], .agg #[.int .i64 b1, .int .i64 b2, .int .i64 b3, .int .i64 b4, .int .i64 b5, .int .i64 b6]]) (by rfl) (fun W => by go_simp) (fun W hg => overlap_K b1 b2 b3 b4 b5 b6 x y z L l false wv W HL.out HS.out HM.out HW.out)) ?_
  simp only [Act.put, List.setIfInBounds_toArray, List.set_cons_zero, List.set_cons_succ]
  refine wpG_tk (some 11) (v := .tuple #[.bool false, .bool wv]) rfl (.val (by rfl) (fun _ _ => rfl)) ?_
  simp only [Act.put, List.setIfInBounds_toArray, List.set_cons_zero, List.set_cons_succ]
  refine wpG_tk (some 15) (v := .bool false) rfl (.val (by rfl) (fun W hg => by go_simp)) ?_
  simp only [Act.put, List.setIfInBounds_toArray, List.set_cons_zero, List.set_cons_succ]
  refine wpG_tk (some 16) (v := .bool wv) rfl (.val (by rfl) (fun W hg => by go_simp)) ?_
  simp only [Act.put, List.setIfInBounds_toArray, List.set_cons_zero, List.set_cons_succ]
  refine wpG_tk (some 6) (v := .bool false) rfl (.val (by rfl) (fun _ _ => rfl)) ?_
  simp only [Act.put, List.setIfInBounds_toArray, List.set_cons_zero, List.set_cons_succ]
  refine wpG_tk (some 7) (v := .bool wv) rfl (.val (by rfl) (fun _ _ => rfl)) ?_
  simp only [Act.put, List.setIfInBounds_toArray, List.set_cons_zero, List.set_cons_succ]
  refine wpG_done (fun V1 hv2 => ?_)
  have GC3 := Lib.hid hv2
  clear hv2
  go_upto_region 2 with fail
  refine wpG_region ?_
  refine wpG_tk (some 17) (v := .bool false) rfl (.val (by rfl) (fun _ _ => rfl)) ?_
  simp only [Act.put, List.setIfInBounds_toArray, List.set_cons_zero, List.set_cons_succ]
  refine wpG_tk (some 18) (v := .bool true) rfl (.val (by rfl) (fun W hg => by go_simp)) ?_
  simp only [Act.put, List.setIfInBounds_toArray, List.set_cons_zero, List.set_cons_succ]
  refine wpG_done (fun V4 hv5 => ?_)
  have GC6 := Lib.hid (GC3.out.trans hv5)
  clear hv5
  go_upto_region 3 with fail
  refine wpG_region ?_
  refine wpG_tk (some 5) (v := .int .i64 (-1)) rfl (.val (by rfl) (fun _ _ => rfl)) ?_
  simp only [Act.put, List.setIfInBounds_toArray, List.set_cons_zero, List.set_cons_succ]
  refine wpG_done (fun V7 hv8 => ?_)
  have GC9 := Lib.hid (GC6.out.trans hv8)
  clear hv8
  go_wp2_with fail
  go_ret
  exact ⟨rfl, Gr.to G0.out GC9.out⟩
set_option maxRecDepth 1000000 in
set_option maxHeartbeats 4000000 in
theorem find_b (b1 b2 b3 b4 b5 b6 n x y z L : Int) (l qb qn qf : Nat) (w : World) (wv : Bool) (hL : L = (l : Int)) (hs : Mo.sits x y z l) (hqb : Row qb [.int .i64 b1, .int .i64 b2, .int .i64 b3, .int .i64 b4, .int .i64 b5, .int .i64 b6] w) (hqn : Row qn [.int .i64 n] w) (hqf : Row qf [.func (.func 47) #[] #[.pointer (some ⟨qb, 0, none⟩), .pointer (some ⟨qn, 0, none⟩), .pointer (some ⟨qf, 0, none⟩)]] w) (hm : Mo.meets b1 b2 b3 b4 b5 b6 x y z l = true) (hw : Mo.within b1 b2 b3 b4 b5 b6 x y z l = wv) (hq : Mo.enc x y z + Mo.pw (3 * l) - 1 < n) :
    Calls Try.prog 47 #[.agg #[.int .i64 x, .int .i64 y, .int .i64 z, .int .i64 L], .pointer (some ⟨qb, 0, none⟩), .pointer (some ⟨qn, 0, none⟩), .pointer (some ⟨qf, 0, none⟩)] w fun e w' => e = .returned (.int .i64 (-1)) ∧ Below w.heap.size w w' := by
  obtain ⟨e, he⟩ : ∃ e, e = Mo.enc x y z := ⟨_, rfl⟩
  obtain ⟨la, hla⟩ : ∃ a, a = Mo.enc x y z + Mo.pw (3 * l) - 1 := ⟨_, rfl⟩
  rw [← hla] at hq
  have HE := Lib.hid he
  have HP := Lib.hid hla
  have HL := Lib.hid hL
  have HS := Lib.hid hs
  have HM := Lib.hid hm
  have HW := Lib.hid hw
  clear hm hw
  clear he hla hL hs
  obtain ⟨u, hu, r0, g0⟩ := rows1 w [.int .i64 x, .int .i64 y, .int .i64 z, .int .i64 L] 27
  have R0 := Lib.hid r0
  have RB := Lib.hid (hqb.below g0)
  have RN := Lib.hid (hqn.below g0)
  have RF := Lib.hid (hqf.below g0)
  clear hqb hqn hqf
  have G0 := Lib.hid g0
  have HU := Lib.hid hu
  clear hu g0 r0
  go_enter Try.func47, Try.ntmps47
  go_upto_region 1 with fail
  rw [← HU.out]
  refine wpG_region ?_
  refine wpG_tk (some 12) (v := .agg #[.int .i64 x, .int .i64 y, .int .i64 z, .int .i64 L]) rfl (.load_mid (by rfl) 27 (.tmp 4) rfl (w.heap.size) 0 rfl [.int .i64 x, .int .i64 y, .int .i64 z, .int .i64 L] _ (fun W hg => (R0.out.below hg).range) Try.underlying27 rfl (by kernel_rfl)) ?_
  simp only [Act.put, List.setIfInBounds_toArray, List.set_cons_zero, List.set_cons_succ]
  refine wpG_tk (some 13) (v := .agg #[.int .i64 b1, .int .i64 b2, .int .i64 b3, .int .i64 b4, .int .i64 b5, .int .i64 b6]) rfl (.load_mid (by rfl) 37 (.tmp 1) rfl (qb) 0 rfl [.int .i64 b1, .int .i64 b2, .int .i64 b3, .int .i64 b4, .int .i64 b5, .int .i64 b6] _ (fun W hg => (RB.out.below hg).range) Try.underlying37 rfl (by kernel_rfl)) ?_
  simp only [Act.put, List.setIfInBounds_toArray, List.set_cons_zero, List.set_cons_succ]
  refine wpG_tk (some 14) (v := .tuple #[.bool true, .bool wv]) rfl (.call (f := 42) (args := #[.agg #[.int .i64 x, .int .i64 y, .int .i64 z, .int .i64 L], .agg #[.int .i64 b1, .int .i64 b2, .int .i64 b3, .int .i64 b4, .int .i64 b5, .int .i64 b6]]) (by rfl) (fun W => by go_simp) (fun W hg => overlap_K b1 b2 b3 b4 b5 b6 x y z L l true wv W HL.out HS.out HM.out HW.out)) ?_
  simp only [Act.put, List.setIfInBounds_toArray, List.set_cons_zero, List.set_cons_succ]
  refine wpG_tk (some 11) (v := .tuple #[.bool true, .bool wv]) rfl (.val (by rfl) (fun _ _ => rfl)) ?_
  simp only [Act.put, List.setIfInBounds_toArray, List.set_cons_zero, List.set_cons_succ]
  refine wpG_tk (some 15) (v := .bool true) rfl (.val (by rfl) (fun W hg => by go_simp)) ?_
  simp only [Act.put, List.setIfInBounds_toArray, List.set_cons_zero, List.set_cons_succ]
  refine wpG_tk (some 16) (v := .bool wv) rfl (.val (by rfl) (fun W hg => by go_simp)) ?_
  simp only [Act.put, List.setIfInBounds_toArray, List.set_cons_zero, List.set_cons_succ]
  refine wpG_tk (some 6) (v := .bool true) rfl (.val (by rfl) (fun _ _ => rfl)) ?_
  simp only [Act.put, List.setIfInBounds_toArray, List.set_cons_zero, List.set_cons_succ]
  refine wpG_tk (some 7) (v := .bool wv) rfl (.val (by rfl) (fun _ _ => rfl)) ?_
  simp only [Act.put, List.setIfInBounds_toArray, List.set_cons_zero, List.set_cons_succ]
  refine wpG_done (fun V1 hv2 => ?_)
  have GC3 := Lib.hid hv2
  clear hv2
  go_upto_region 2 with fail
  refine wpG_region ?_
  refine wpG_tk (some 17) (v := .bool true) rfl (.val (by rfl) (fun _ _ => rfl)) ?_
  simp only [Act.put, List.setIfInBounds_toArray, List.set_cons_zero, List.set_cons_succ]
  refine wpG_tk (some 18) (v := .bool false) rfl (.val (by rfl) (fun W hg => by go_simp)) ?_
  simp only [Act.put, List.setIfInBounds_toArray, List.set_cons_zero, List.set_cons_succ]
  refine wpG_done (fun V4 hv5 => ?_)
  have GC6 := Lib.hid (GC3.out.trans hv5)
  clear hv5
  go_upto_region 4 with fail
  refine wpG_region ?_
  refine wpG_tk (some 19) (v := .agg #[.int .i64 x, .int .i64 y, .int .i64 z, .int .i64 L]) rfl (.load_mid (by rfl) 27 (.tmp 4) rfl (w.heap.size) 0 rfl [.int .i64 x, .int .i64 y, .int .i64 z, .int .i64 L] _ (fun W hg => (R0.out.below (GC6.out.trans hg)).range) Try.underlying27 rfl (by kernel_rfl)) ?_
  simp only [Act.put, List.setIfInBounds_toArray, List.set_cons_zero, List.set_cons_succ]
  refine wpG_tk (some 20) (v := .agg #[.int .i64 e, .int .i64 la]) rfl (.call (f := 46) (args := #[.agg #[.int .i64 x, .int .i64 y, .int .i64 z, .int .i64 L]]) (by rfl) (fun W => by go_simp) (fun W hg => (HE.out ▸ HP.out ▸ run_L x y z L l W HL.out HS.out.2.2.2))) ?_
  simp only [Act.put, List.setIfInBounds_toArray, List.set_cons_zero, List.set_cons_succ]
  refine wpG_val (some 8) rfl (by rfl) (fun W7 hg8 => ⟨.pointer (some ⟨W7.heap.size, 0, none⟩), W7.alloc (.cells #[.int .i64 0, .int .i64 0] 54), by (go_simp <;> rfl), ?_⟩)
  simp only [Act.put, List.setIfInBounds_toArray, List.set_cons_zero, List.set_cons_succ]
  refine wpG_store (none) rfl (by rfl) (fun W9 hg10 => ⟨_, run_store_mid 54 (.tmp 8) (.tmp 20) rfl (W7.heap.size) 0 #[.int .i64 e, .int .i64 la] rfl rfl (Row.room hg10 2 rfl) (by kernel_rfl) (by kernel_rfl), ?_⟩)
  simp only [Act.put]
  refine wpG_done (fun V11 hv12 => ?_)
  have l14 : w.heap.size < W7.heap.size := (R0.out.below (GC6.out.trans hg8)).lt
  have l15 : qb < W7.heap.size := (RB.out.below (GC6.out.trans hg8)).lt
  have l16 : qn < W7.heap.size := (RN.out.below (GC6.out.trans hg8)).lt
  have l17 : qf < W7.heap.size := (RF.out.below (GC6.out.trans hg8)).lt
  have l18 : w.heap.size ≤ W7.heap.size := (Gr.to G0.out (GC6.out.trans hg8)).size
  have R19 := Lib.hid ((R0.out.below (GC6.out.trans hg8)).past hg10 hv12)
  have R20 := Lib.hid ((RB.out.below (GC6.out.trans hg8)).past hg10 hv12)
  have R21 := Lib.hid ((RN.out.below (GC6.out.trans hg8)).past hg10 hv12)
  have R22 := Lib.hid ((RF.out.below (GC6.out.trans hg8)).past hg10 hv12)
  have R23 := Lib.hid (Row.made (zs := [.int .i64 0, .int .i64 0]) (ds := [.int .i64 e, .int .i64 la]) rfl hg10 hv12)
  have G13 := Lib.hid (Gr.to (Gr.to G0.out (GC6.out.trans hg8)) (Gr.past hg10 hv12))
  clear hg10 hv12 
  go_upto_region 5 with fail
  refine wpG_region ?_
  refine wpG_tk (some 22) (v := .pointer (some ⟨W7.heap.size, 1, none⟩)) rfl (.val (by rfl) (fun W hg => by go_simp)) ?_
  simp only [Act.put, List.setIfInBounds_toArray, List.set_cons_zero, List.set_cons_succ]
  refine wpG_tk (some 23) (v := .int .i64 la) rfl (.val (by rfl) (fun W hg => by have c := (R23.out.below hg 1 _ rfl).1; go_simp)) ?_
  simp only [Act.put, List.setIfInBounds_toArray, List.set_cons_zero, List.set_cons_succ]
  refine wpG_tk (some 24) (v := .int .i64 n) rfl (.val (by rfl) (fun W hg => by have c := (R21.out.below hg 0 _ rfl).1; go_simp)) ?_
  simp only [Act.put, List.setIfInBounds_toArray, List.set_cons_zero, List.set_cons_succ]
  refine wpG_tk (some 25) (v := .bool true) rfl (.val (by rfl) (fun W hg => by have hq : (la < n) := (by omega); first | (go_simp; done) | (go_simp <;> omega))) ?_
  simp only [Act.put, List.setIfInBounds_toArray, List.set_cons_zero, List.set_cons_succ]
  refine wpG_tk (some 21) (v := .bool true) rfl (.val (by rfl) (fun _ _ => rfl)) ?_
  simp only [Act.put, List.setIfInBounds_toArray, List.set_cons_zero, List.set_cons_succ]
  refine wpG_done (fun V24 hv25 => ?_)
  have GC26 := Lib.hid hv25
  clear hv25
  go_upto_region 6 with fail
  refine wpG_region ?_
  refine wpG_tk (some 5) (v := .int .i64 (-1)) rfl (.val (by rfl) (fun _ _ => rfl)) ?_
  simp only [Act.put, List.setIfInBounds_toArray, List.set_cons_zero, List.set_cons_succ]
  refine wpG_done (fun V27 hv28 => ?_)
  have GC29 := Lib.hid (GC26.out.trans hv28)
  clear hv28
  go_wp2_with fail
  go_ret
  exact ⟨rfl, Gr.to G13.out GC29.out⟩
set_option maxRecDepth 1000000 in
set_option maxHeartbeats 4000000 in
theorem find_c (b1 b2 b3 b4 b5 b6 n x y z L : Int) (l qb qn qf : Nat) (w : World) (wv : Bool) (hL : L = (l : Int)) (hs : Mo.sits x y z l) (hqb : Row qb [.int .i64 b1, .int .i64 b2, .int .i64 b3, .int .i64 b4, .int .i64 b5, .int .i64 b6] w) (hqn : Row qn [.int .i64 n] w) (hqf : Row qf [.func (.func 47) #[] #[.pointer (some ⟨qb, 0, none⟩), .pointer (some ⟨qn, 0, none⟩), .pointer (some ⟨qf, 0, none⟩)]] w) (hm : Mo.meets b1 b2 b3 b4 b5 b6 x y z l = true) (hw : Mo.within b1 b2 b3 b4 b5 b6 x y z l = true) (hq : ¬ Mo.enc x y z + Mo.pw (3 * l) - 1 < n) :
    Calls Try.prog 47 #[.agg #[.int .i64 x, .int .i64 y, .int .i64 z, .int .i64 L], .pointer (some ⟨qb, 0, none⟩), .pointer (some ⟨qn, 0, none⟩), .pointer (some ⟨qf, 0, none⟩)] w fun e w' => e = .returned (.int .i64 (max (Mo.enc x y z) n)) ∧ Below w.heap.size w w' := by
  obtain ⟨e, he⟩ : ∃ e, e = Mo.enc x y z := ⟨_, rfl⟩
  obtain ⟨la, hla⟩ : ∃ a, a = Mo.enc x y z + Mo.pw (3 * l) - 1 := ⟨_, rfl⟩
  rw [← hla] at hq
  have HE := Lib.hid he
  have HP := Lib.hid hla
  have HL := Lib.hid hL
  have HS := Lib.hid hs
  have HM := Lib.hid hm
  have HW := Lib.hid hw
  clear hm hw
  clear he hla hL hs
  obtain ⟨u, hu, r0, g0⟩ := rows1 w [.int .i64 x, .int .i64 y, .int .i64 z, .int .i64 L] 27
  have R0 := Lib.hid r0
  have RB := Lib.hid (hqb.below g0)
  have RN := Lib.hid (hqn.below g0)
  have RF := Lib.hid (hqf.below g0)
  clear hqb hqn hqf
  have G0 := Lib.hid g0
  have HU := Lib.hid hu
  clear hu g0 r0
  go_enter Try.func47, Try.ntmps47
  go_upto_region 1 with fail
  rw [← HU.out]
  refine wpG_region ?_
  refine wpG_tk (some 12) (v := .agg #[.int .i64 x, .int .i64 y, .int .i64 z, .int .i64 L]) rfl (.load_mid (by rfl) 27 (.tmp 4) rfl (w.heap.size) 0 rfl [.int .i64 x, .int .i64 y, .int .i64 z, .int .i64 L] _ (fun W hg => (R0.out.below hg).range) Try.underlying27 rfl (by kernel_rfl)) ?_
  simp only [Act.put, List.setIfInBounds_toArray, List.set_cons_zero, List.set_cons_succ]
  refine wpG_tk (some 13) (v := .agg #[.int .i64 b1, .int .i64 b2, .int .i64 b3, .int .i64 b4, .int .i64 b5, .int .i64 b6]) rfl (.load_mid (by rfl) 37 (.tmp 1) rfl (qb) 0 rfl [.int .i64 b1, .int .i64 b2, .int .i64 b3, .int .i64 b4, .int .i64 b5, .int .i64 b6] _ (fun W hg => (RB.out.below hg).range) Try.underlying37 rfl (by kernel_rfl)) ?_
  simp only [Act.put, List.setIfInBounds_toArray, List.set_cons_zero, List.set_cons_succ]
  refine wpG_tk (some 14) (v := .tuple #[.bool true, .bool true]) rfl (.call (f := 42) (args := #[.agg #[.int .i64 x, .int .i64 y, .int .i64 z, .int .i64 L], .agg #[.int .i64 b1, .int .i64 b2, .int .i64 b3, .int .i64 b4, .int .i64 b5, .int .i64 b6]]) (by rfl) (fun W => by go_simp) (fun W hg => overlap_K b1 b2 b3 b4 b5 b6 x y z L l true true W HL.out HS.out HM.out HW.out)) ?_
  simp only [Act.put, List.setIfInBounds_toArray, List.set_cons_zero, List.set_cons_succ]
  refine wpG_tk (some 11) (v := .tuple #[.bool true, .bool true]) rfl (.val (by rfl) (fun _ _ => rfl)) ?_
  simp only [Act.put, List.setIfInBounds_toArray, List.set_cons_zero, List.set_cons_succ]
  refine wpG_tk (some 15) (v := .bool true) rfl (.val (by rfl) (fun W hg => by go_simp)) ?_
  simp only [Act.put, List.setIfInBounds_toArray, List.set_cons_zero, List.set_cons_succ]
  refine wpG_tk (some 16) (v := .bool true) rfl (.val (by rfl) (fun W hg => by go_simp)) ?_
  simp only [Act.put, List.setIfInBounds_toArray, List.set_cons_zero, List.set_cons_succ]
  refine wpG_tk (some 6) (v := .bool true) rfl (.val (by rfl) (fun _ _ => rfl)) ?_
  simp only [Act.put, List.setIfInBounds_toArray, List.set_cons_zero, List.set_cons_succ]
  refine wpG_tk (some 7) (v := .bool true) rfl (.val (by rfl) (fun _ _ => rfl)) ?_
  simp only [Act.put, List.setIfInBounds_toArray, List.set_cons_zero, List.set_cons_succ]
  refine wpG_done (fun V1 hv2 => ?_)
  have GC3 := Lib.hid hv2
  clear hv2
  go_upto_region 2 with fail
  refine wpG_region ?_
  refine wpG_tk (some 17) (v := .bool true) rfl (.val (by rfl) (fun _ _ => rfl)) ?_
  simp only [Act.put, List.setIfInBounds_toArray, List.set_cons_zero, List.set_cons_succ]
  refine wpG_tk (some 18) (v := .bool false) rfl (.val (by rfl) (fun W hg => by go_simp)) ?_
  simp only [Act.put, List.setIfInBounds_toArray, List.set_cons_zero, List.set_cons_succ]
  refine wpG_done (fun V4 hv5 => ?_)
  have GC6 := Lib.hid (GC3.out.trans hv5)
  clear hv5
  go_upto_region 4 with fail
  refine wpG_region ?_
  refine wpG_tk (some 19) (v := .agg #[.int .i64 x, .int .i64 y, .int .i64 z, .int .i64 L]) rfl (.load_mid (by rfl) 27 (.tmp 4) rfl (w.heap.size) 0 rfl [.int .i64 x, .int .i64 y, .int .i64 z, .int .i64 L] _ (fun W hg => (R0.out.below (GC6.out.trans hg)).range) Try.underlying27 rfl (by kernel_rfl)) ?_
  simp only [Act.put, List.setIfInBounds_toArray, List.set_cons_zero, List.set_cons_succ]
  refine wpG_tk (some 20) (v := .agg #[.int .i64 e, .int .i64 la]) rfl (.call (f := 46) (args := #[.agg #[.int .i64 x, .int .i64 y, .int .i64 z, .int .i64 L]]) (by rfl) (fun W => by go_simp) (fun W hg => (HE.out ▸ HP.out ▸ run_L x y z L l W HL.out HS.out.2.2.2))) ?_
  simp only [Act.put, List.setIfInBounds_toArray, List.set_cons_zero, List.set_cons_succ]
  refine wpG_val (some 8) rfl (by rfl) (fun W7 hg8 => ⟨.pointer (some ⟨W7.heap.size, 0, none⟩), W7.alloc (.cells #[.int .i64 0, .int .i64 0] 54), by (go_simp <;> rfl), ?_⟩)
  simp only [Act.put, List.setIfInBounds_toArray, List.set_cons_zero, List.set_cons_succ]
  refine wpG_store (none) rfl (by rfl) (fun W9 hg10 => ⟨_, run_store_mid 54 (.tmp 8) (.tmp 20) rfl (W7.heap.size) 0 #[.int .i64 e, .int .i64 la] rfl rfl (Row.room hg10 2 rfl) (by kernel_rfl) (by kernel_rfl), ?_⟩)
  simp only [Act.put]
  refine wpG_done (fun V11 hv12 => ?_)
  have l14 : w.heap.size < W7.heap.size := (R0.out.below (GC6.out.trans hg8)).lt
  have l15 : qb < W7.heap.size := (RB.out.below (GC6.out.trans hg8)).lt
  have l16 : qn < W7.heap.size := (RN.out.below (GC6.out.trans hg8)).lt
  have l17 : qf < W7.heap.size := (RF.out.below (GC6.out.trans hg8)).lt
  have l18 : w.heap.size ≤ W7.heap.size := (Gr.to G0.out (GC6.out.trans hg8)).size
  have R19 := Lib.hid ((R0.out.below (GC6.out.trans hg8)).past hg10 hv12)
  have R20 := Lib.hid ((RB.out.below (GC6.out.trans hg8)).past hg10 hv12)
  have R21 := Lib.hid ((RN.out.below (GC6.out.trans hg8)).past hg10 hv12)
  have R22 := Lib.hid ((RF.out.below (GC6.out.trans hg8)).past hg10 hv12)
  have R23 := Lib.hid (Row.made (zs := [.int .i64 0, .int .i64 0]) (ds := [.int .i64 e, .int .i64 la]) rfl hg10 hv12)
  have G13 := Lib.hid (Gr.to (Gr.to G0.out (GC6.out.trans hg8)) (Gr.past hg10 hv12))
  clear hg10 hv12 
  go_upto_region 5 with fail
  refine wpG_region ?_
  refine wpG_tk (some 22) (v := .pointer (some ⟨W7.heap.size, 1, none⟩)) rfl (.val (by rfl) (fun W hg => by go_simp)) ?_
  simp only [Act.put, List.setIfInBounds_toArray, List.set_cons_zero, List.set_cons_succ]
  refine wpG_tk (some 23) (v := .int .i64 la) rfl (.val (by rfl) (fun W hg => by have c := (R23.out.below hg 1 _ rfl).1; go_simp)) ?_
  simp only [Act.put, List.setIfInBounds_toArray, List.set_cons_zero, List.set_cons_succ]
  refine wpG_tk (some 24) (v := .int .i64 n) rfl (.val (by rfl) (fun W hg => by have c := (R21.out.below hg 0 _ rfl).1; go_simp)) ?_
  simp only [Act.put, List.setIfInBounds_toArray, List.set_cons_zero, List.set_cons_succ]
  refine wpG_tk (some 25) (v := .bool false) rfl (.val (by rfl) (fun W hg => by have hq : ¬ (la < n) := (by omega); first | (go_simp; done) | (go_simp <;> omega))) ?_
  simp only [Act.put, List.setIfInBounds_toArray, List.set_cons_zero, List.set_cons_succ]
  refine wpG_tk (some 21) (v := .bool false) rfl (.val (by rfl) (fun _ _ => rfl)) ?_
  simp only [Act.put, List.setIfInBounds_toArray, List.set_cons_zero, List.set_cons_succ]
  refine wpG_done (fun V24 hv25 => ?_)
  have GC26 := Lib.hid hv25
  clear hv25
  go_upto_region 7 with fail
  refine wpG_region ?_
  refine wpG_tk (some 27) (v := .bool true) rfl (.val (by rfl) (fun _ _ => rfl)) ?_
  simp only [Act.put, List.setIfInBounds_toArray, List.set_cons_zero, List.set_cons_succ]
  refine wpG_tk (some 26) (v := .bool true) rfl (.val (by rfl) (fun _ _ => rfl)) ?_
  simp only [Act.put, List.setIfInBounds_toArray, List.set_cons_zero, List.set_cons_succ]
  refine wpG_done (fun V27 hv28 => ?_)
  have GC29 := Lib.hid (GC26.out.trans hv28)
  clear hv28
  go_upto_region 8 with fail
  refine wpG_region ?_
  refine wpG_tk (some 28) (v := .pointer (some ⟨W7.heap.size, 0, none⟩)) rfl (.val (by rfl) (fun W hg => by go_simp)) ?_
  simp only [Act.put, List.setIfInBounds_toArray, List.set_cons_zero, List.set_cons_succ]
  refine wpG_tk (some 29) (v := .int .i64 e) rfl (.val (by rfl) (fun W hg => by have c := (R23.out.below (GC29.out.trans hg) 0 _ rfl).1; go_simp)) ?_
  simp only [Act.put, List.setIfInBounds_toArray, List.set_cons_zero, List.set_cons_succ]
  refine wpG_tk (some 30) (v := .int .i64 n) rfl (.val (by rfl) (fun W hg => by have c := (R21.out.below (GC29.out.trans hg) 0 _ rfl).1; go_simp)) ?_
  simp only [Act.put, List.setIfInBounds_toArray, List.set_cons_zero, List.set_cons_succ]
  refine wpG_tk (some 31) (v := .int .i64 (max e n)) rfl (.val (by rfl) (fun W hg => by (go_simp <;> (repeat' split) <;> omega))) ?_
  simp only [Act.put, List.setIfInBounds_toArray, List.set_cons_zero, List.set_cons_succ]
  refine wpG_tk (some 5) (v := .int .i64 (max e n)) rfl (.val (by rfl) (fun _ _ => rfl)) ?_
  simp only [Act.put, List.setIfInBounds_toArray, List.set_cons_zero, List.set_cons_succ]
  refine wpG_done (fun V30 hv31 => ?_)
  have GC32 := Lib.hid (GC29.out.trans hv31)
  clear hv31
  go_wp2_with fail
  go_ret
  exact ⟨ret_int (by rw [HE.out]), Gr.to G13.out GC32.out⟩
set_option maxRecDepth 1000000 in
set_option maxHeartbeats 4000000 in
theorem find_d (b1 b2 b3 b4 b5 b6 n x y z L : Int) (l qb qn qf : Nat) (w : World) (hL : L = (l : Int) + 1) (hs : Mo.sits x y z (l + 1)) (hqb : Row qb [.int .i64 b1, .int .i64 b2, .int .i64 b3, .int .i64 b4, .int .i64 b5, .int .i64 b6] w) (hqn : Row qn [.int .i64 n] w) (hqf : Row qf [.func (.func 47) #[] #[.pointer (some ⟨qb, 0, none⟩), .pointer (some ⟨qn, 0, none⟩), .pointer (some ⟨qf, 0, none⟩)]] w) (hm : Mo.meets b1 b2 b3 b4 b5 b6 x y z (l + 1) = true) (hw : Mo.within b1 b2 b3 b4 b5 b6 x y z (l + 1) = false) (hq : ¬ Mo.enc x y z + Mo.pw (3 * (l + 1)) - 1 < n)
    (ih : ∀ (x y z L : Int) (w : World), L = (l : Int) → Mo.sits x y z l → Row qb [.int .i64 b1, .int .i64 b2, .int .i64 b3, .int .i64 b4, .int .i64 b5, .int .i64 b6] w → Row qn [.int .i64 n] w → Row qf [.func (.func 47) #[] #[.pointer (some ⟨qb, 0, none⟩), .pointer (some ⟨qn, 0, none⟩), .pointer (some ⟨qf, 0, none⟩)]] w → Calls Try.prog 47 #[.agg #[.int .i64 x, .int .i64 y, .int .i64 z, .int .i64 L], .pointer (some ⟨qb, 0, none⟩), .pointer (some ⟨qn, 0, none⟩), .pointer (some ⟨qf, 0, none⟩)] w fun e w' => e = .returned (.int .i64 (Mo.nx b1 b2 b3 b4 b5 b6 n l x y z)) ∧ Below w.heap.size w w') :
    Calls Try.prog 47 #[.agg #[.int .i64 x, .int .i64 y, .int .i64 z, .int .i64 L], .pointer (some ⟨qb, 0, none⟩), .pointer (some ⟨qn, 0, none⟩), .pointer (some ⟨qf, 0, none⟩)] w fun e w' => e = .returned (.int .i64 (Mo.fn (fun o => Mo.nx b1 b2 b3 b4 b5 b6 n l (x + Mo.cx 0 o l) (y + Mo.cx 1 o l) (z + Mo.cx 2 o l)) 8 0)) ∧ Below w.heap.size w w' := by
  obtain ⟨e, he⟩ : ∃ e, e = Mo.enc x y z := ⟨_, rfl⟩
  obtain ⟨la, hla⟩ : ∃ a, a = Mo.enc x y z + Mo.pw (3 * (l + 1)) - 1 := ⟨_, rfl⟩
  rw [← hla] at hq
  have HE := Lib.hid he
  have HP := Lib.hid hla
  have HL := Lib.hid hL
  have HS := Lib.hid hs
  have HM := Lib.hid hm
  have HW := Lib.hid hw
  clear hm hw
  clear he hla hL hs
  obtain ⟨u, hu, r0, g0⟩ := rows1 w [.int .i64 x, .int .i64 y, .int .i64 z, .int .i64 L] 27
  have R0 := Lib.hid r0
  have RB := Lib.hid (hqb.below g0)
  have RN := Lib.hid (hqn.below g0)
  have RF := Lib.hid (hqf.below g0)
  clear hqb hqn hqf
  have G0 := Lib.hid g0
  have HU := Lib.hid hu
  clear hu g0 r0
  go_enter Try.func47, Try.ntmps47
  go_upto_region 1 with fail
  rw [← HU.out]
  refine wpG_region ?_
  refine wpG_tk (some 12) (v := .agg #[.int .i64 x, .int .i64 y, .int .i64 z, .int .i64 L]) rfl (.load_mid (by rfl) 27 (.tmp 4) rfl (w.heap.size) 0 rfl [.int .i64 x, .int .i64 y, .int .i64 z, .int .i64 L] _ (fun W hg => (R0.out.below hg).range) Try.underlying27 rfl (by kernel_rfl)) ?_
  simp only [Act.put, List.setIfInBounds_toArray, List.set_cons_zero, List.set_cons_succ]
  refine wpG_tk (some 13) (v := .agg #[.int .i64 b1, .int .i64 b2, .int .i64 b3, .int .i64 b4, .int .i64 b5, .int .i64 b6]) rfl (.load_mid (by rfl) 37 (.tmp 1) rfl (qb) 0 rfl [.int .i64 b1, .int .i64 b2, .int .i64 b3, .int .i64 b4, .int .i64 b5, .int .i64 b6] _ (fun W hg => (RB.out.below hg).range) Try.underlying37 rfl (by kernel_rfl)) ?_
  simp only [Act.put, List.setIfInBounds_toArray, List.set_cons_zero, List.set_cons_succ]
  refine wpG_tk (some 14) (v := .tuple #[.bool true, .bool false]) rfl (.call (f := 42) (args := #[.agg #[.int .i64 x, .int .i64 y, .int .i64 z, .int .i64 L], .agg #[.int .i64 b1, .int .i64 b2, .int .i64 b3, .int .i64 b4, .int .i64 b5, .int .i64 b6]]) (by rfl) (fun W => by go_simp) (fun W hg => overlap_K b1 b2 b3 b4 b5 b6 x y z L (l + 1) true false W HL.out HS.out HM.out HW.out)) ?_
  simp only [Act.put, List.setIfInBounds_toArray, List.set_cons_zero, List.set_cons_succ]
  refine wpG_tk (some 11) (v := .tuple #[.bool true, .bool false]) rfl (.val (by rfl) (fun _ _ => rfl)) ?_
  simp only [Act.put, List.setIfInBounds_toArray, List.set_cons_zero, List.set_cons_succ]
  refine wpG_tk (some 15) (v := .bool true) rfl (.val (by rfl) (fun W hg => by go_simp)) ?_
  simp only [Act.put, List.setIfInBounds_toArray, List.set_cons_zero, List.set_cons_succ]
  refine wpG_tk (some 16) (v := .bool false) rfl (.val (by rfl) (fun W hg => by go_simp)) ?_
  simp only [Act.put, List.setIfInBounds_toArray, List.set_cons_zero, List.set_cons_succ]
  refine wpG_tk (some 6) (v := .bool true) rfl (.val (by rfl) (fun _ _ => rfl)) ?_
  simp only [Act.put, List.setIfInBounds_toArray, List.set_cons_zero, List.set_cons_succ]
  refine wpG_tk (some 7) (v := .bool false) rfl (.val (by rfl) (fun _ _ => rfl)) ?_
  simp only [Act.put, List.setIfInBounds_toArray, List.set_cons_zero, List.set_cons_succ]
  refine wpG_done (fun V1 hv2 => ?_)
  have GC3 := Lib.hid hv2
  clear hv2
  go_upto_region 2 with fail
  refine wpG_region ?_
  refine wpG_tk (some 17) (v := .bool true) rfl (.val (by rfl) (fun _ _ => rfl)) ?_
  simp only [Act.put, List.setIfInBounds_toArray, List.set_cons_zero, List.set_cons_succ]
  refine wpG_tk (some 18) (v := .bool false) rfl (.val (by rfl) (fun W hg => by go_simp)) ?_
  simp only [Act.put, List.setIfInBounds_toArray, List.set_cons_zero, List.set_cons_succ]
  refine wpG_done (fun V4 hv5 => ?_)
  have GC6 := Lib.hid (GC3.out.trans hv5)
  clear hv5
  go_upto_region 4 with fail
  refine wpG_region ?_
  refine wpG_tk (some 19) (v := .agg #[.int .i64 x, .int .i64 y, .int .i64 z, .int .i64 L]) rfl (.load_mid (by rfl) 27 (.tmp 4) rfl (w.heap.size) 0 rfl [.int .i64 x, .int .i64 y, .int .i64 z, .int .i64 L] _ (fun W hg => (R0.out.below (GC6.out.trans hg)).range) Try.underlying27 rfl (by kernel_rfl)) ?_
  simp only [Act.put, List.setIfInBounds_toArray, List.set_cons_zero, List.set_cons_succ]
  refine wpG_tk (some 20) (v := .agg #[.int .i64 e, .int .i64 la]) rfl (.call (f := 46) (args := #[.agg #[.int .i64 x, .int .i64 y, .int .i64 z, .int .i64 L]]) (by rfl) (fun W => by go_simp) (fun W hg => (HE.out ▸ HP.out ▸ run_L x y z L (l + 1) W HL.out HS.out.2.2.2))) ?_
  simp only [Act.put, List.setIfInBounds_toArray, List.set_cons_zero, List.set_cons_succ]
  refine wpG_val (some 8) rfl (by rfl) (fun W7 hg8 => ⟨.pointer (some ⟨W7.heap.size, 0, none⟩), W7.alloc (.cells #[.int .i64 0, .int .i64 0] 54), by (go_simp <;> rfl), ?_⟩)
  simp only [Act.put, List.setIfInBounds_toArray, List.set_cons_zero, List.set_cons_succ]
  refine wpG_store (none) rfl (by rfl) (fun W9 hg10 => ⟨_, run_store_mid 54 (.tmp 8) (.tmp 20) rfl (W7.heap.size) 0 #[.int .i64 e, .int .i64 la] rfl rfl (Row.room hg10 2 rfl) (by kernel_rfl) (by kernel_rfl), ?_⟩)
  simp only [Act.put]
  refine wpG_done (fun V11 hv12 => ?_)
  have l14 : w.heap.size < W7.heap.size := (R0.out.below (GC6.out.trans hg8)).lt
  have l15 : qb < W7.heap.size := (RB.out.below (GC6.out.trans hg8)).lt
  have l16 : qn < W7.heap.size := (RN.out.below (GC6.out.trans hg8)).lt
  have l17 : qf < W7.heap.size := (RF.out.below (GC6.out.trans hg8)).lt
  have l18 : w.heap.size ≤ W7.heap.size := (Gr.to G0.out (GC6.out.trans hg8)).size
  have R19 := Lib.hid ((R0.out.below (GC6.out.trans hg8)).past hg10 hv12)
  have R20 := Lib.hid ((RB.out.below (GC6.out.trans hg8)).past hg10 hv12)
  have R21 := Lib.hid ((RN.out.below (GC6.out.trans hg8)).past hg10 hv12)
  have R22 := Lib.hid ((RF.out.below (GC6.out.trans hg8)).past hg10 hv12)
  have R23 := Lib.hid (Row.made (zs := [.int .i64 0, .int .i64 0]) (ds := [.int .i64 e, .int .i64 la]) rfl hg10 hv12)
  have G13 := Lib.hid (Gr.to (Gr.to G0.out (GC6.out.trans hg8)) (Gr.past hg10 hv12))
  clear hg10 hv12 
  go_upto_region 5 with fail
  refine wpG_region ?_
  refine wpG_tk (some 22) (v := .pointer (some ⟨W7.heap.size, 1, none⟩)) rfl (.val (by rfl) (fun W hg => by go_simp)) ?_
  simp only [Act.put, List.setIfInBounds_toArray, List.set_cons_zero, List.set_cons_succ]
  refine wpG_tk (some 23) (v := .int .i64 la) rfl (.val (by rfl) (fun W hg => by have c := (R23.out.below hg 1 _ rfl).1; go_simp)) ?_
  simp only [Act.put, List.setIfInBounds_toArray, List.set_cons_zero, List.set_cons_succ]
  refine wpG_tk (some 24) (v := .int .i64 n) rfl (.val (by rfl) (fun W hg => by have c := (R21.out.below hg 0 _ rfl).1; go_simp)) ?_
  simp only [Act.put, List.setIfInBounds_toArray, List.set_cons_zero, List.set_cons_succ]
  refine wpG_tk (some 25) (v := .bool false) rfl (.val (by rfl) (fun W hg => by have hq : ¬ (la < n) := (by omega); first | (go_simp; done) | (go_simp <;> omega))) ?_
  simp only [Act.put, List.setIfInBounds_toArray, List.set_cons_zero, List.set_cons_succ]
  refine wpG_tk (some 21) (v := .bool false) rfl (.val (by rfl) (fun _ _ => rfl)) ?_
  simp only [Act.put, List.setIfInBounds_toArray, List.set_cons_zero, List.set_cons_succ]
  refine wpG_done (fun V24 hv25 => ?_)
  have GC26 := Lib.hid hv25
  clear hv25
  go_upto_region 7 with fail
  refine wpG_region ?_
  refine wpG_tk (some 27) (v := .bool false) rfl (.val (by rfl) (fun _ _ => rfl)) ?_
  simp only [Act.put, List.setIfInBounds_toArray, List.set_cons_zero, List.set_cons_succ]
  refine wpG_tk (some 26) (v := .bool false) rfl (.val (by rfl) (fun _ _ => rfl)) ?_
  simp only [Act.put, List.setIfInBounds_toArray, List.set_cons_zero, List.set_cons_succ]
  refine wpG_done (fun V27 hv28 => ?_)
  have GC29 := Lib.hid (GC26.out.trans hv28)
  clear hv28
  go_upto_region 9 with fail
  refine wpG_region ?_
  refine wpG_tk (some 32) (v := .int .i64 0) rfl (.val (by rfl) (fun _ _ => rfl)) ?_
  simp only [Act.put, List.setIfInBounds_toArray, List.set_cons_zero, List.set_cons_succ]
  refine wpG_done (fun V30 hv31 => ?_)
  have GC32 := Lib.hid (GC29.out.trans hv31)
  clear hv31
  obtain ⟨rv, hrv⟩ : ∃ r, r = Mo.fn (fun o => Mo.nx b1 b2 b3 b4 b5 b6 n l (x + Mo.cx 0 o l) (y + Mo.cx 1 o l) (z + Mo.cx 2 o l)) 8 0 := ⟨_, rfl⟩
  have HR := Lib.hid hrv
  clear hrv
  go_wp2_with fail
  go_loopw [32] (fun i wr => ∃ o k : Nat, i = .int .i64 (o : Int) ∧ o + k = 8 ∧ rv = Mo.fn (fun o => Mo.nx b1 b2 b3 b4 b5 b6 n l (x + Mo.cx 0 o l) (y + Mo.cx 1 o l) (z + Mo.cx 2 o l)) k o ∧ Gr V11 wr) (fun i _ => 8 - (intOf i).toNat)
  case atStart => exact ⟨0, 8, rfl, rfl, HR.out, GC32.out⟩
  case round =>
    obtain ⟨o, k, rfl, hk, hrf, hG⟩ := hrel
    have HG := Lib.hid hG
    clear hG
    cases k with
    | zero =>
      have ho : o = 8 := by omega
      have HRF := Lib.hid hrf
      clear hrf hk
      obtain rfl := ho
      go_upto_region 10 with fail
      refine wpG_region ?_
      refine wpG_tk (some 33) (v := .bool false) rfl (.val (by rfl) (fun W hg => by go_simp)) ?_
      simp only [Act.put, List.setIfInBounds_toArray, List.set_cons_zero, List.set_cons_succ]
      refine wpG_done (fun V33 hv34 => ?_)
      have GC35 := Lib.hid (HG.out.trans hv34)
      clear hv34
      go_upto_region 16 with fail
      refine wpG_region ?_
      refine wpG_tk (some 5) (v := .int .i64 (-1)) rfl (.val (by rfl) (fun _ _ => rfl)) ?_
      simp only [Act.put, List.setIfInBounds_toArray, List.set_cons_zero, List.set_cons_succ]
      refine wpG_done (fun V36 hv37 => ?_)
      have GC38 := Lib.hid (GC35.out.trans hv37)
      clear hv37
      go_wp2_with fail
      go_ret
      exact ⟨ret_int (by rw [← HR.out, HRF.out]; rfl), Gr.to G13.out GC38.out⟩
    | succ k =>
      obtain ⟨d0, hd0⟩ : ∃ d, d = x + Mo.cx 0 o l := ⟨_, rfl⟩
      have H0 := Lib.hid hd0
      obtain ⟨d1, hd1⟩ : ∃ d, d = y + Mo.cx 1 o l := ⟨_, rfl⟩
      have H1 := Lib.hid hd1
      obtain ⟨d2, hd2⟩ : ∃ d, d = z + Mo.cx 2 o l := ⟨_, rfl⟩
      have H2 := Lib.hid hd2
      have hsc := Mo.sits_child HS.out o
      rw [← hd0, ← hd1, ← hd2] at hsc
      have HSC := Lib.hid hsc
      obtain ⟨v, hv⟩ : ∃ v, v = Mo.nx b1 b2 b3 b4 b5 b6 n l d0 d1 d2 := ⟨_, rfl⟩
      have hvg : v = (fun o => Mo.nx b1 b2 b3 b4 b5 b6 n l (x + Mo.cx 0 o l) (y + Mo.cx 1 o l) (z + Mo.cx 2 o l)) o := by rw [hv, hd0, hd1, hd2]
      have HV := Lib.hid hv
      clear hd0 hd1 hd2 hsc hv
      by_cases h0 : 0 ≤ v
      · have hfin : rv = v := by rw [hrf]; exact Mo.fn_yes2 hvg h0
        have HF := Lib.hid hfin
        clear hfin hvg hrf
        go_upto_region 10 with fail
        refine wpG_region ?_
        refine wpG_tk (some 33) (v := .bool true) rfl (.val (by rfl) (fun W hg => by have hq : ((o : Int) < 8) := (by omega); first | (go_simp; done) | (go_simp <;> omega))) ?_
        simp only [Act.put, List.setIfInBounds_toArray, List.set_cons_zero, List.set_cons_succ]
        refine wpG_done (fun V39 hv40 => ?_)
        have GC41 := Lib.hid (HG.out.trans hv40)
        clear hv40
        go_upto_region 11 with fail
        refine wpG_region ?_
        refine wpG_tk (some 34) (v := .int .i64 (o : Int)) rfl (.val (by rfl) (fun _ _ => rfl)) ?_
        simp only [Act.put, List.setIfInBounds_toArray, List.set_cons_zero, List.set_cons_succ]
        refine wpG_tk (some 9) (v := .int .i64 (o : Int)) rfl (.val (by rfl) (fun _ _ => rfl)) ?_
        simp only [Act.put, List.setIfInBounds_toArray, List.set_cons_zero, List.set_cons_succ]
        refine wpG_done (fun V42 hv43 => ?_)
        have GC44 := Lib.hid (GC41.out.trans hv43)
        clear hv43
        go_upto_region 12 with fail
        refine wpK_region (by kernel_rfl) ?_
        refine wpK_tk (i := 0) (some 35) (v := .func (.func 47) #[] #[.pointer (some ⟨qb, 0, none⟩), .pointer (some ⟨qn, 0, none⟩), .pointer (some ⟨qf, 0, none⟩)]) rfl rfl (by kernel_rfl) (fun _ _ _ h => h) (.val (by rfl) (fun W hg => by have c := (R22.out.below (GC44.out.trans (Gr.un hg)) 0 _ rfl).1; go_simp)) ?_
        simp only [Act.put, List.setIfInBounds_toArray, List.set_cons_zero, List.set_cons_succ]
        refine wpK_tk (i := 1) (some 36) (v := .agg #[.int .i64 x, .int .i64 y, .int .i64 z, .int .i64 L]) rfl rfl (by kernel_rfl) (fun _ _ _ h => h) (.load_mid (by rfl) 27 (.tmp 4) rfl (w.heap.size) 0 rfl [.int .i64 x, .int .i64 y, .int .i64 z, .int .i64 L] _ (fun W hg => (R19.out.below (GC44.out.trans (Gr.un hg))).range) Try.underlying27 rfl (by kernel_rfl)) ?_
        simp only [Act.put, List.setIfInBounds_toArray, List.set_cons_zero, List.set_cons_succ]
        refine wpK_ta (i := 2) (some 37) (v := .int .i64 (o : Int)) rfl rfl (by kernel_rfl) (fun _ _ _ h => h) (Or.inl ⟨rfl, fun _ => rfl⟩) ?_
        simp only [Act.put, List.setIfInBounds_toArray, List.set_cons_zero, List.set_cons_succ]
        refine wpK_tk (i := 3) (some 38) (v := .agg #[.int .i64 d0, .int .i64 d1, .int .i64 d2, .int .i64 (L - 1)]) rfl rfl (by kernel_rfl) (fun _ _ _ h => h) (.call (f := 43) (args := #[.agg #[.int .i64 x, .int .i64 y, .int .i64 z, .int .i64 L], .int .i64 (o : Int)]) (by rfl) (fun W => by go_simp) (fun W hg => (H0.out ▸ H1.out ▸ H2.out ▸ child_L x y z L l o W HL.out HS.out (by omega)))) ?_
        simp only [Act.put, List.setIfInBounds_toArray, List.set_cons_zero, List.set_cons_succ]
        refine wpK_tk (i := 4) (some 39) (v := .int .i64 v) rfl rfl (by kernel_rfl) (fun _ _ _ h => h) (.call (f := 47) (args := #[.agg #[.int .i64 d0, .int .i64 d1, .int .i64 d2, .int .i64 (L - 1)], .pointer (some ⟨qb, 0, none⟩), .pointer (some ⟨qn, 0, none⟩), .pointer (some ⟨qf, 0, none⟩)]) (by rfl) (fun W => by go_simp) (fun W hg => (HV.out ▸ ih d0 d1 d2 (L - 1) W (by have := HL.out; omega) HSC.out (R20.out.below (GC44.out.trans (Gr.un hg))) (R21.out.below (GC44.out.trans (Gr.un hg))) (R22.out.below (GC44.out.trans (Gr.un hg)))))) ?_
        simp only [Act.put, List.setIfInBounds_toArray, List.set_cons_zero, List.set_cons_succ]
        refine wpK_ta (i := 5) (some 10) (v := .int .i64 v) rfl rfl (by kernel_rfl) (fun _ _ _ h => h) (Or.inl ⟨rfl, fun _ => rfl⟩) ?_
        simp only [Act.put, List.setIfInBounds_toArray, List.set_cons_zero, List.set_cons_succ]
        refine wpK_done (by kernel_rfl) (fun V45 hv46 => ?_) _
        have GC47 := Lib.hid (GC44.out.trans (Gr.un hv46))
        clear hv46
        go_upto_region 13 with fail
        refine wpG_region ?_
        refine wpG_tk (some 40) (v := .int .i64 v) rfl (.val (by rfl) (fun _ _ => rfl)) ?_
        simp only [Act.put, List.setIfInBounds_toArray, List.set_cons_zero, List.set_cons_succ]
        refine wpG_tk (some 41) (v := .bool true) rfl (.val (by rfl) (fun W hg => by have hq : (v ≥ 0) := (by omega); first | (go_simp; done) | (go_simp <;> omega))) ?_
        simp only [Act.put, List.setIfInBounds_toArray, List.set_cons_zero, List.set_cons_succ]
        refine wpG_done (fun V48 hv49 => ?_)
        have GC50 := Lib.hid (GC47.out.trans hv49)
        clear hv49
        go_upto_region 14 with fail
        refine wpG_region ?_
        refine wpG_tk (some 42) (v := .int .i64 v) rfl (.val (by rfl) (fun _ _ => rfl)) ?_
        simp only [Act.put, List.setIfInBounds_toArray, List.set_cons_zero, List.set_cons_succ]
        refine wpG_tk (some 5) (v := .int .i64 v) rfl (.val (by rfl) (fun _ _ => rfl)) ?_
        simp only [Act.put, List.setIfInBounds_toArray, List.set_cons_zero, List.set_cons_succ]
        refine wpG_done (fun V51 hv52 => ?_)
        have GC53 := Lib.hid (GC50.out.trans hv52)
        clear hv52
        go_wp2_with fail
        go_ret
        exact ⟨ret_int (by rw [← HR.out, HF.out]), Gr.to G13.out GC53.out⟩
      · have hfin : rv = Mo.fn (fun o => Mo.nx b1 b2 b3 b4 b5 b6 n l (x + Mo.cx 0 o l) (y + Mo.cx 1 o l) (z + Mo.cx 2 o l)) k (o + 1) := by rw [hrf]; exact Mo.fn_no2 hvg h0
        have HF := Lib.hid hfin
        clear hfin hvg hrf
        go_upto_region 10 with fail
        refine wpG_region ?_
        refine wpG_tk (some 33) (v := .bool true) rfl (.val (by rfl) (fun W hg => by have hq : ((o : Int) < 8) := (by omega); first | (go_simp; done) | (go_simp <;> omega))) ?_
        simp only [Act.put, List.setIfInBounds_toArray, List.set_cons_zero, List.set_cons_succ]
        refine wpG_done (fun V54 hv55 => ?_)
        have GC56 := Lib.hid (HG.out.trans hv55)
        clear hv55
        go_upto_region 11 with fail
        refine wpG_region ?_
        refine wpG_tk (some 34) (v := .int .i64 (o : Int)) rfl (.val (by rfl) (fun _ _ => rfl)) ?_
        simp only [Act.put, List.setIfInBounds_toArray, List.set_cons_zero, List.set_cons_succ]
        refine wpG_tk (some 9) (v := .int .i64 (o : Int)) rfl (.val (by rfl) (fun _ _ => rfl)) ?_
        simp only [Act.put, List.setIfInBounds_toArray, List.set_cons_zero, List.set_cons_succ]
        refine wpG_done (fun V57 hv58 => ?_)
        have GC59 := Lib.hid (GC56.out.trans hv58)
        clear hv58
        go_upto_region 12 with fail
        refine wpK_region (by kernel_rfl) ?_
        refine wpK_tk (i := 0) (some 35) (v := .func (.func 47) #[] #[.pointer (some ⟨qb, 0, none⟩), .pointer (some ⟨qn, 0, none⟩), .pointer (some ⟨qf, 0, none⟩)]) rfl rfl (by kernel_rfl) (fun _ _ _ h => h) (.val (by rfl) (fun W hg => by have c := (R22.out.below (GC59.out.trans (Gr.un hg)) 0 _ rfl).1; go_simp)) ?_
        simp only [Act.put, List.setIfInBounds_toArray, List.set_cons_zero, List.set_cons_succ]
        refine wpK_tk (i := 1) (some 36) (v := .agg #[.int .i64 x, .int .i64 y, .int .i64 z, .int .i64 L]) rfl rfl (by kernel_rfl) (fun _ _ _ h => h) (.load_mid (by rfl) 27 (.tmp 4) rfl (w.heap.size) 0 rfl [.int .i64 x, .int .i64 y, .int .i64 z, .int .i64 L] _ (fun W hg => (R19.out.below (GC59.out.trans (Gr.un hg))).range) Try.underlying27 rfl (by kernel_rfl)) ?_
        simp only [Act.put, List.setIfInBounds_toArray, List.set_cons_zero, List.set_cons_succ]
        refine wpK_ta (i := 2) (some 37) (v := .int .i64 (o : Int)) rfl rfl (by kernel_rfl) (fun _ _ _ h => h) (Or.inl ⟨rfl, fun _ => rfl⟩) ?_
        simp only [Act.put, List.setIfInBounds_toArray, List.set_cons_zero, List.set_cons_succ]
        refine wpK_tk (i := 3) (some 38) (v := .agg #[.int .i64 d0, .int .i64 d1, .int .i64 d2, .int .i64 (L - 1)]) rfl rfl (by kernel_rfl) (fun _ _ _ h => h) (.call (f := 43) (args := #[.agg #[.int .i64 x, .int .i64 y, .int .i64 z, .int .i64 L], .int .i64 (o : Int)]) (by rfl) (fun W => by go_simp) (fun W hg => (H0.out ▸ H1.out ▸ H2.out ▸ child_L x y z L l o W HL.out HS.out (by omega)))) ?_
        simp only [Act.put, List.setIfInBounds_toArray, List.set_cons_zero, List.set_cons_succ]
        refine wpK_tk (i := 4) (some 39) (v := .int .i64 v) rfl rfl (by kernel_rfl) (fun _ _ _ h => h) (.call (f := 47) (args := #[.agg #[.int .i64 d0, .int .i64 d1, .int .i64 d2, .int .i64 (L - 1)], .pointer (some ⟨qb, 0, none⟩), .pointer (some ⟨qn, 0, none⟩), .pointer (some ⟨qf, 0, none⟩)]) (by rfl) (fun W => by go_simp) (fun W hg => (HV.out ▸ ih d0 d1 d2 (L - 1) W (by have := HL.out; omega) HSC.out (R20.out.below (GC59.out.trans (Gr.un hg))) (R21.out.below (GC59.out.trans (Gr.un hg))) (R22.out.below (GC59.out.trans (Gr.un hg)))))) ?_
        simp only [Act.put, List.setIfInBounds_toArray, List.set_cons_zero, List.set_cons_succ]
        refine wpK_ta (i := 5) (some 10) (v := .int .i64 v) rfl rfl (by kernel_rfl) (fun _ _ _ h => h) (Or.inl ⟨rfl, fun _ => rfl⟩) ?_
        simp only [Act.put, List.setIfInBounds_toArray, List.set_cons_zero, List.set_cons_succ]
        refine wpK_done (by kernel_rfl) (fun V60 hv61 => ?_) _
        have GC62 := Lib.hid (GC59.out.trans (Gr.un hv61))
        clear hv61
        go_upto_region 13 with fail
        refine wpG_region ?_
        refine wpG_tk (some 40) (v := .int .i64 v) rfl (.val (by rfl) (fun _ _ => rfl)) ?_
        simp only [Act.put, List.setIfInBounds_toArray, List.set_cons_zero, List.set_cons_succ]
        refine wpG_tk (some 41) (v := .bool false) rfl (.val (by rfl) (fun W hg => by have hq : ¬ (v ≥ 0) := (by omega); first | (go_simp; done) | (go_simp <;> omega))) ?_
        simp only [Act.put, List.setIfInBounds_toArray, List.set_cons_zero, List.set_cons_succ]
        refine wpG_done (fun V63 hv64 => ?_)
        have GC65 := Lib.hid (GC62.out.trans hv64)
        clear hv64
        go_upto_region 15 with fail
        refine wpG_region ?_
        refine wpG_tk (some 43) (v := .int .i64 ((o : Int) + 1)) rfl (.val (by rfl) (fun W hg => by (first | (go_simp; done) | (go_simp; rw [IntWalk.i64_in _ (by omega)])))) ?_
        simp only [Act.put, List.setIfInBounds_toArray, List.set_cons_zero, List.set_cons_succ]
        refine wpG_tk (some 32) (v := .int .i64 ((o : Int) + 1)) rfl (.val (by rfl) (fun _ _ => rfl)) ?_
        simp only [Act.put, List.setIfInBounds_toArray, List.set_cons_zero, List.set_cons_succ]
        refine wpG_done (fun V66 hv67 => ?_)
        have GC68 := Lib.hid (GC65.out.trans hv67)
        clear hv67
        go_wp2_with fail
        go_roundw
        case rel => exact ⟨o + 1, k, by go_num, by omega, HF.out, GC68.out⟩
        case measure => first | (simp [intOf]; done) | (simp [intOf]; omega)
theorem find_any (b1 b2 b3 b4 b5 b6 n : Int) (qb qn qf : Nat) : ∀ (l : Nat) (x y z L : Int) (w : World), L = (l : Int) → Mo.sits x y z l → Row qb [.int .i64 b1, .int .i64 b2, .int .i64 b3, .int .i64 b4, .int .i64 b5, .int .i64 b6] w → Row qn [.int .i64 n] w → Row qf [.func (.func 47) #[] #[.pointer (some ⟨qb, 0, none⟩), .pointer (some ⟨qn, 0, none⟩), .pointer (some ⟨qf, 0, none⟩)]] w → Calls Try.prog 47 #[.agg #[.int .i64 x, .int .i64 y, .int .i64 z, .int .i64 L], .pointer (some ⟨qb, 0, none⟩), .pointer (some ⟨qn, 0, none⟩), .pointer (some ⟨qf, 0, none⟩)] w fun e w' => e = .returned (.int .i64 (Mo.nx b1 b2 b3 b4 b5 b6 n l x y z)) ∧ Below w.heap.size w w'
  | 0, x, y, z, L, w, hL, hs, hqb, hqn, hqf => by
    unfold Mo.nx
    cases hm : Mo.meets b1 b2 b3 b4 b5 b6 x y z 0 with
    | false => exact find_a b1 b2 b3 b4 b5 b6 n x y z L 0 qb qn qf w _ hL hs hqb hqn hqf hm rfl
    | true =>
      rw [Mo.within0 hm]
      by_cases hq : Mo.enc x y z + Mo.pw (3 * 0) - 1 < n
      · rw [Mo.stepN_b hq]; exact find_b b1 b2 b3 b4 b5 b6 n x y z L 0 qb qn qf w _ hL hs hqb hqn hqf hm rfl hq
      · rw [Mo.stepN_c hq]; exact find_c b1 b2 b3 b4 b5 b6 n x y z L 0 qb qn qf w true hL hs hqb hqn hqf hm (Mo.within0 hm) hq
  | l + 1, x, y, z, L, w, hL, hs, hqb, hqn, hqf => by
    unfold Mo.nx
    cases hm : Mo.meets b1 b2 b3 b4 b5 b6 x y z (l + 1) with
    | false => exact find_a b1 b2 b3 b4 b5 b6 n x y z L (l + 1) qb qn qf w _ hL hs hqb hqn hqf hm rfl
    | true =>
      by_cases hq : Mo.enc x y z + Mo.pw (3 * (l + 1)) - 1 < n
      · rw [Mo.stepN_b hq]; exact find_b b1 b2 b3 b4 b5 b6 n x y z L (l + 1) qb qn qf w _ hL hs hqb hqn hqf hm rfl hq
      · cases hw : Mo.within b1 b2 b3 b4 b5 b6 x y z (l + 1) with
        | true => rw [Mo.stepN_c hq]; exact find_c b1 b2 b3 b4 b5 b6 n x y z L (l + 1) qb qn qf w true hL hs hqb hqn hqf hm hw hq
        | false => rw [Mo.stepN_d hq]; exact find_d b1 b2 b3 b4 b5 b6 n x y z L l qb qn qf w (by rw [hL]; rfl) hs hqb hqn hqf hm hw hq (fun x y z L w h1 h2 h3 h4 h5 => find_any b1 b2 b3 b4 b5 b6 n qb qn qf l x y z L w h1 h2 h3 h4 h5)

end Go.Proofs.Ytmjjkloeipoefaa
