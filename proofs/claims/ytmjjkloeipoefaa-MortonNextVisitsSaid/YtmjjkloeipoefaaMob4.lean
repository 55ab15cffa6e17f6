/-
  Contracts: the next code, by the program and by the specification.
-/
import Derived.Test.YtmjjkloeipoefaaMob3
import Derived.Laws.EntriesVeiled
import Derived.Handy
namespace Go.Proofs.Ytmjjkloeipoefaa
open Go.RowKit
set_option linter.unusedVariables false
def nextI (b1 b2 b3 b4 b5 b6 n : Int) : Int := Mo.nx b1 b2 b3 b4 b5 b6 n 14 0 0 0
theorem sits0 : Mo.sits 0 0 0 14 := by unfold Mo.sits; have : Mo.pw 14 = 16384 := rfl; omega
set_option maxRecDepth 1000000 in
set_option maxHeartbeats 4000000 in
theorem next_any (b1 b2 b3 b4 b5 b6 n : Int) (w : World) :
    Calls Try.prog 28 #[.agg #[.int .i64 b1, .int .i64 b2, .int .i64 b3, .int .i64 b4, .int .i64 b5, .int .i64 b6], .int .i64 n] w fun e w' => e = .returned (.int .i64 (nextI b1 b2 b3 b4 b5 b6 n)) ∧ Below w.heap.size w w' := by
  obtain ⟨u, hu, r0, r1, g0⟩ := rows2 w [.int .i64 b1, .int .i64 b2, .int .i64 b3, .int .i64 b4, .int .i64 b5, .int .i64 b6] 37 [.int .i64 n] 3
  have R0 := Lib.hid r0
  have R1 := Lib.hid r1
  have G0 := Lib.hid g0
  have HU := Lib.hid hu
  clear hu g0 r0 r1
  go_enter Try.func28, Try.ntmps28
  go_upto_region 1 with fail
  rw [← HU.out]
  refine wpG_region ?_
  refine wpG_val (some 5) rfl (by rfl) (fun W1 hg2 => ⟨.pointer (some ⟨W1.heap.size, 0, none⟩), W1.alloc (.cells #[.nilFunc] 71), by (go_simp <;> rfl), ?_⟩)
  simp only [Act.put, List.setIfInBounds_toArray, List.set_cons_zero, List.set_cons_succ]
  refine wpG_done (fun V3 hv4 => ?_)
  have l6 : w.heap.size < W1.heap.size := (R0.out.below hg2).lt
  have l7 : w.heap.size + 1 < W1.heap.size := (R1.out.below hg2).lt
  have l8 : w.heap.size ≤ W1.heap.size := (Gr.to G0.out hg2).size
  have R9 := Lib.hid (R0.out.below ((hg2.trans (Gr.al W1 (.cells #[.nilFunc] 71))).trans hv4))
  have R10 := Lib.hid (R1.out.below ((hg2.trans (Gr.al W1 (.cells #[.nilFunc] 71))).trans hv4))
  have R11 := Lib.hid ((Row.newl W1 [.nilFunc] 71).below hv4)
  have G5 := Lib.hid (Gr.to G0.out ((hg2.trans (Gr.al W1 (.cells #[.nilFunc] 71))).trans hv4))
  clear hv4
  go_upto_region 2 with fail
  refine wpG_region ?_
  refine @wpG_tk _ _ _ _ _ (some 6) (.func (.func 47) #[] #[.pointer (some ⟨w.heap.size, 0, none⟩), .pointer (some ⟨w.heap.size + 1, 0, none⟩), .pointer (some ⟨W1.heap.size, 0, none⟩)]) _ _ rfl (.val (by rfl) (fun W hg => by go_simp)) ?_
  simp only [Act.put, List.setIfInBounds_toArray, List.set_cons_zero, List.set_cons_succ]
  refine wpG_store (none) rfl (by rfl) (fun W12 hg13 => ⟨W12.setCell ⟨W1.heap.size, 0, none⟩ (.func (.func 47) #[] #[.pointer (some ⟨w.heap.size, 0, none⟩), .pointer (some ⟨w.heap.size + 1, 0, none⟩), .pointer (some ⟨W1.heap.size, 0, none⟩)]), by have c := (R11.out.below hg13).cellx 0 _ rfl; have c2 := (R11.out.below hg13).softx 0 _ rfl; go_simp, ?_⟩)
  simp only [Act.put]
  refine wpG_done (fun V14 hv15 => ?_)
  have R17 := Lib.hid (((R9.out.below hg13).far (b := W1.heap.size) (by omega) 0 [.func (.func 47) #[] #[.pointer (some ⟨w.heap.size, 0, none⟩), .pointer (some ⟨w.heap.size + 1, 0, none⟩), .pointer (some ⟨W1.heap.size, 0, none⟩)]]).below hv15)
  have R18 := Lib.hid (((R10.out.below hg13).far (b := W1.heap.size) (by omega) 0 [.func (.func 47) #[] #[.pointer (some ⟨w.heap.size, 0, none⟩), .pointer (some ⟨w.heap.size + 1, 0, none⟩), .pointer (some ⟨W1.heap.size, 0, none⟩)]]).below hv15)
  have R19 : Hid (Row W1.heap.size [.func (.func 47) #[] #[.pointer (some ⟨w.heap.size, 0, none⟩), .pointer (some ⟨w.heap.size + 1, 0, none⟩), .pointer (some ⟨W1.heap.size, 0, none⟩)]] V14) := Lib.hid (((R11.out.below hg13).set 0 (.func (.func 47) #[] #[.pointer (some ⟨w.heap.size, 0, none⟩), .pointer (some ⟨w.heap.size + 1, 0, none⟩), .pointer (some ⟨W1.heap.size, 0, none⟩)]) (by simp)).below hv15)
  have G16 := Lib.hid (Gr.put1 G5.out hg13 (by omega) hv15)
  clear hg13 hv15
  go_upto_region 3 with fail
  refine wpK_region (by kernel_rfl) ?_
  refine wpK_tk (i := 0) (some 7) (v := .func (.func 47) #[] #[.pointer (some ⟨w.heap.size, 0, none⟩), .pointer (some ⟨w.heap.size + 1, 0, none⟩), .pointer (some ⟨W1.heap.size, 0, none⟩)]) rfl rfl (by kernel_rfl) (fun _ _ _ h => h) (.val (by rfl) (fun W hg => by have c := (R19.out.below (Gr.un hg) 0 _ rfl).1; go_simp)) ?_
  simp only [Act.put, List.setIfInBounds_toArray, List.set_cons_zero, List.set_cons_succ]
  refine wpK_tk (i := 1) (some 8) (v := .agg #[.int .i64 0, .int .i64 0, .int .i64 0, .int .i64 14]) rfl rfl (by kernel_rfl) (fun _ _ _ h => h) (.call (f := 44) (args := #[]) (by rfl) (fun W => by go_simp) (fun W hg => whole_any W)) ?_
  simp only [Act.put, List.setIfInBounds_toArray, List.set_cons_zero, List.set_cons_succ]
  refine wpK_tk (i := 2) (some 9) (v := .int .i64 (Mo.nx b1 b2 b3 b4 b5 b6 n 14 0 0 0)) rfl rfl (by kernel_rfl) (fun _ _ _ h => h) (.call (f := 47) (args := #[.agg #[.int .i64 0, .int .i64 0, .int .i64 0, .int .i64 14], .pointer (some ⟨w.heap.size, 0, none⟩), .pointer (some ⟨w.heap.size + 1, 0, none⟩), .pointer (some ⟨W1.heap.size, 0, none⟩)]) (by rfl) (fun W => by go_simp) (fun W hg => find_any b1 b2 b3 b4 b5 b6 n w.heap.size (w.heap.size + 1) W1.heap.size 14 0 0 0 14 W rfl sits0 (R17.out.below (Gr.un hg)) (R18.out.below (Gr.un hg)) (R19.out.below (Gr.un hg)))) ?_
  simp only [Act.put, List.setIfInBounds_toArray, List.set_cons_zero, List.set_cons_succ]
  refine wpK_ta (i := 3) (some 4) (v := .int .i64 (Mo.nx b1 b2 b3 b4 b5 b6 n 14 0 0 0)) rfl rfl (by kernel_rfl) (fun _ _ _ h => h) (Or.inl ⟨rfl, fun _ => rfl⟩) ?_
  simp only [Act.put, List.setIfInBounds_toArray, List.set_cons_zero, List.set_cons_succ]
  refine wpK_done (by kernel_rfl) (fun V20 hv21 => ?_) _
  have GC22 := Lib.hid (Gr.un hv21)
  clear hv21
  go_wp2_with fail
  go_ret
  exact ⟨rfl, Gr.to G16.out GC22.out⟩
theorem apart_K (b1 b2 b3 b4 b5 b6 x y z L : Int) (l : Nat) (v : Bool) (w : World) (hL : L = (l : Int)) (hs : Mo.sits x y z l) (hv : Mo.apartB b1 b2 b3 b4 b5 b6 x y z l = v) :
    Calls Try.prog 52 #[.agg #[.int .i64 b1, .int .i64 b2, .int .i64 b3, .int .i64 b4, .int .i64 b5, .int .i64 b6], .agg #[.int .i64 x, .int .i64 y, .int .i64 z, .int .i64 L]] w fun e w' => e = .returned (.bool v) ∧ Below w.heap.size w w' := by
  subst hv
  exact apart_L b1 b2 b3 b4 b5 b6 x y z L l w hL hs
theorem cell_K (b1 b2 b3 b4 b5 b6 x y z : Int) (c : Bool) (w : World) (hc : c = Mo.cellB b1 b2 b3 b4 b5 b6 x y z) :
    Calls Try.prog 33 #[.agg #[.int .i64 b1, .int .i64 b2, .int .i64 b3, .int .i64 b4, .int .i64 b5, .int .i64 b6], .agg #[.int .i64 x, .int .i64 y, .int .i64 z]] w fun e w' => e = .returned (.bool c) ∧ Below w.heap.size w w' := by
  subst hc
  exact cell_any b1 b2 b3 b4 b5 b6 x y z w
theorem cut2 {c1 c2 v a b : Bool} (h1 : c1 = a) (h2 : c2 = b) (h : (a && b) = v) {c : Bool} (hc : c = (c1 && c2)) : c = v := by rw [hc, h1, h2, h]
set_option maxRecDepth 1000000 in
set_option maxHeartbeats 4000000 in
theorem least_a (b1 b2 b3 b4 b5 b6 n x y z L : Int) (l : Nat) (w : World) (hL : L = (l : Int)) (hs : Mo.sits x y z l) (hb : b1 < b4 ∧ b2 < b5 ∧ b3 < b6) (hm : Mo.meets b1 b2 b3 b4 b5 b6 x y z l = false) :
    Calls Try.prog 48 #[.agg #[.int .i64 b1, .int .i64 b2, .int .i64 b3, .int .i64 b4, .int .i64 b5, .int .i64 b6], .agg #[.int .i64 x, .int .i64 y, .int .i64 z, .int .i64 L], .int .i64 n] w fun e w' => e = .returned (.int .i64 (-1)) ∧ Below w.heap.size w w' := by
  obtain ⟨e, he⟩ : ∃ e, e = Mo.enc x y z := ⟨_, rfl⟩
  have HE := Lib.hid he
  have ha : Mo.apartB b1 b2 b3 b4 b5 b6 x y z l = true := by rw [Mo.apart_eq hb, hm]; rfl
  have HA := Lib.hid ha
  obtain ⟨c1, hc1⟩ : ∃ c, c = Mo.cellB b1 b2 b3 b4 b5 b6 x y z := ⟨_, rfl⟩
  obtain ⟨c2, hc2⟩ : ∃ c, c = Mo.cellB b1 b2 b3 b4 b5 b6 (x + (Mo.pw l - 1)) (y + (Mo.pw l - 1)) (z + (Mo.pw l - 1)) := ⟨_, rfl⟩
  have HC1 := Lib.hid hc1
  have HC2 := Lib.hid hc2
  have HL := Lib.hid hL
  have HS := Lib.hid hs
  clear he hc1 hc2 hL hs hm ha hb
  obtain ⟨u, hu, r0, r1, g0⟩ := rows2 w [.int .i64 b1, .int .i64 b2, .int .i64 b3, .int .i64 b4, .int .i64 b5, .int .i64 b6] 37 [.int .i64 x, .int .i64 y, .int .i64 z, .int .i64 L] 27
  have R0 := Lib.hid r0
  have R1 := Lib.hid r1
  have G0 := Lib.hid g0
  have HU := Lib.hid hu
  clear hu g0 r0 r1
  go_enter Try.func48, Try.ntmps48
  go_upto_region 1 with fail
  rw [← HU.out]
  refine wpG_region ?_
  refine @wpG_tk _ _ _ _ _ (some 12) (.pointer (some ⟨w.heap.size + 1, 0, none⟩)) _ _ rfl (.val (by rfl) (fun W hg => by go_simp)) ?_
  simp only [Act.put, List.setIfInBounds_toArray, List.set_cons_zero, List.set_cons_succ]
  refine @wpG_tk _ _ _ _ _ (some 13) (.agg #[.int .i64 x, .int .i64 y, .int .i64 z]) _ _ rfl (.load_mid (by rfl) 23 (.tmp 12) rfl (w.heap.size + 1) 0 rfl [.int .i64 x, .int .i64 y, .int .i64 z] _ (fun W hg => ((R1.out.below hg).part 0 3 rfl)) Try.underlying23 rfl (by kernel_rfl)) ?_
  simp only [Act.put, List.setIfInBounds_toArray, List.set_cons_zero, List.set_cons_succ]
  refine @wpG_tk _ _ _ _ _ (some 14) (.int .i64 e) _ _ rfl (.call (f := 14) (args := #[.agg #[.int .i64 x, .int .i64 y, .int .i64 z]]) (by rfl) (fun W => by go_simp) (fun W hg => (HE.out ▸ rencode_any x y z W))) ?_
  simp only [Act.put, List.setIfInBounds_toArray, List.set_cons_zero, List.set_cons_succ]
  refine @wpG_tk _ _ _ _ _ (some 7) (.int .i64 e) _ _ rfl (.val (by rfl) (fun _ _ => rfl)) ?_
  simp only [Act.put, List.setIfInBounds_toArray, List.set_cons_zero, List.set_cons_succ]
  refine wpG_done (fun V1 hv2 => ?_)
  have GC3 := Lib.hid hv2
  clear hv2
  go_upto_region 2 with fail
  refine wpG_region ?_
  refine @wpG_tk _ _ _ _ _ (some 15) (.agg #[.int .i64 b1, .int .i64 b2, .int .i64 b3, .int .i64 b4, .int .i64 b5, .int .i64 b6]) _ _ rfl (.load_mid (by rfl) 37 (.tmp 3) rfl (w.heap.size) 0 rfl [.int .i64 b1, .int .i64 b2, .int .i64 b3, .int .i64 b4, .int .i64 b5, .int .i64 b6] _ (fun W hg => (R0.out.below (GC3.out.trans hg)).range) Try.underlying37 rfl (by kernel_rfl)) ?_
  simp only [Act.put, List.setIfInBounds_toArray, List.set_cons_zero, List.set_cons_succ]
  refine @wpG_tk _ _ _ _ _ (some 16) (.agg #[.int .i64 x, .int .i64 y, .int .i64 z, .int .i64 L]) _ _ rfl (.load_mid (by rfl) 27 (.tmp 4) rfl (w.heap.size + 1) 0 rfl [.int .i64 x, .int .i64 y, .int .i64 z, .int .i64 L] _ (fun W hg => (R1.out.below (GC3.out.trans hg)).range) Try.underlying27 rfl (by kernel_rfl)) ?_
  simp only [Act.put, List.setIfInBounds_toArray, List.set_cons_zero, List.set_cons_succ]
  refine @wpG_tk _ _ _ _ _ (some 17) (.bool true) _ _ rfl (.call (f := 52) (args := #[.agg #[.int .i64 b1, .int .i64 b2, .int .i64 b3, .int .i64 b4, .int .i64 b5, .int .i64 b6], .agg #[.int .i64 x, .int .i64 y, .int .i64 z, .int .i64 L]]) (by rfl) (fun W => by go_simp) (fun W hg => apart_K b1 b2 b3 b4 b5 b6 x y z L l true W HL.out HS.out HA.out)) ?_
  simp only [Act.put, List.setIfInBounds_toArray, List.set_cons_zero, List.set_cons_succ]
  refine @wpG_tk _ _ _ _ _ (some 8) (.bool true) _ _ rfl (.val (by rfl) (fun _ _ => rfl)) ?_
  simp only [Act.put, List.setIfInBounds_toArray, List.set_cons_zero, List.set_cons_succ]
  refine wpG_done (fun V4 hv5 => ?_)
  have GC6 := Lib.hid (GC3.out.trans hv5)
  clear hv5
  go_upto_region 3 with fail
  refine wpG_region ?_
  refine @wpG_tk _ _ _ _ _ (some 18) (.bool true) _ _ rfl (.val (by rfl) (fun _ _ => rfl)) ?_
  simp only [Act.put, List.setIfInBounds_toArray, List.set_cons_zero, List.set_cons_succ]
  refine @wpG_tk _ _ _ _ _ (some 19) (.bool true) _ _ rfl (.val (by rfl) (fun _ _ => rfl)) ?_
  simp only [Act.put, List.setIfInBounds_toArray, List.set_cons_zero, List.set_cons_succ]
  refine @wpG_tk _ _ _ _ _ (some 20) (undef) _ _ rfl (.no (by rfl)) ?_
  simp only [Act.put, List.setIfInBounds_toArray, List.set_cons_zero, List.set_cons_succ]
  refine @wpG_tk _ _ _ _ _ (some 21) (undef) _ _ rfl (.no (by rfl)) ?_
  simp only [Act.put, List.setIfInBounds_toArray, List.set_cons_zero, List.set_cons_succ]
  refine @wpG_tk _ _ _ _ _ (some 22) (undef) _ _ rfl (.no (by rfl)) ?_
  simp only [Act.put, List.setIfInBounds_toArray, List.set_cons_zero, List.set_cons_succ]
  refine @wpG_tk _ _ _ _ _ (some 23) (undef) _ _ rfl (.no (by rfl)) ?_
  simp only [Act.put, List.setIfInBounds_toArray, List.set_cons_zero, List.set_cons_succ]
  refine @wpG_tk _ _ _ _ _ (some 24) (undef) _ _ rfl (.no (by rfl)) ?_
  simp only [Act.put, List.setIfInBounds_toArray, List.set_cons_zero, List.set_cons_succ]
  refine @wpG_tk _ _ _ _ _ (some 25) (undef) _ _ rfl (.no (by rfl)) ?_
  simp only [Act.put, List.setIfInBounds_toArray, List.set_cons_zero, List.set_cons_succ]
  refine @wpG_tk _ _ _ _ _ (some 26) (undef) _ _ rfl (.no (by rfl)) ?_
  simp only [Act.put, List.setIfInBounds_toArray, List.set_cons_zero, List.set_cons_succ]
  refine @wpG_tk _ _ _ _ _ (some 27) (undef) _ _ rfl (.no (by rfl)) ?_
  simp only [Act.put, List.setIfInBounds_toArray, List.set_cons_zero, List.set_cons_succ]
  refine @wpG_tk _ _ _ _ _ (some 28) (undef) _ _ rfl (.no (by rfl)) ?_
  simp only [Act.put, List.setIfInBounds_toArray, List.set_cons_zero, List.set_cons_succ]
  refine @wpG_tk _ _ _ _ _ (some 29) (.bool true) _ _ rfl (.val (by rfl) (fun W hg => by go_simp)) ?_
  simp only [Act.put, List.setIfInBounds_toArray, List.set_cons_zero, List.set_cons_succ]
  refine wpG_done (fun V7 hv8 => ?_)
  have GC9 := Lib.hid (GC6.out.trans hv8)
  clear hv8
  go_upto_region 4 with fail
  refine wpG_region ?_
  refine @wpG_tk _ _ _ _ _ (some 6) (.int .i64 (-1)) _ _ rfl (.val (by rfl) (fun _ _ => rfl)) ?_
  simp only [Act.put, List.setIfInBounds_toArray, List.set_cons_zero, List.set_cons_succ]
  refine wpG_done (fun V10 hv11 => ?_)
  have GC12 := Lib.hid (GC9.out.trans hv11)
  clear hv11
  go_wp2_with fail
  go_ret
  exact ⟨rfl, Gr.to G0.out GC12.out⟩
set_option maxRecDepth 1000000 in
set_option maxHeartbeats 4000000 in
theorem least_b (b1 b2 b3 b4 b5 b6 n x y z L : Int) (l : Nat) (w : World) (hL : L = (l : Int)) (hs : Mo.sits x y z l) (hb : b1 < b4 ∧ b2 < b5 ∧ b3 < b6) (hm : Mo.meets b1 b2 b3 b4 b5 b6 x y z l = true) (hq : Mo.enc x y z + Mo.pw (3 * l) - 1 < n) :
    Calls Try.prog 48 #[.agg #[.int .i64 b1, .int .i64 b2, .int .i64 b3, .int .i64 b4, .int .i64 b5, .int .i64 b6], .agg #[.int .i64 x, .int .i64 y, .int .i64 z, .int .i64 L], .int .i64 n] w fun e w' => e = .returned (.int .i64 (-1)) ∧ Below w.heap.size w w' := by
  obtain ⟨e, he⟩ : ∃ e, e = Mo.enc x y z := ⟨_, rfl⟩
  have HE := Lib.hid he
  have ha : Mo.apartB b1 b2 b3 b4 b5 b6 x y z l = false := by rw [Mo.apart_eq hb, hm]; rfl
  have HA := Lib.hid ha
  obtain ⟨c1, hc1⟩ : ∃ c, c = Mo.cellB b1 b2 b3 b4 b5 b6 x y z := ⟨_, rfl⟩
  obtain ⟨c2, hc2⟩ : ∃ c, c = Mo.cellB b1 b2 b3 b4 b5 b6 (x + (Mo.pw l - 1)) (y + (Mo.pw l - 1)) (z + (Mo.pw l - 1)) := ⟨_, rfl⟩
  have HC1 := Lib.hid hc1
  have HC2 := Lib.hid hc2
  rw [← he] at hq
  have hp1 := Mo.pw_pos (3 * l)
  have hp2 := Mo.pw42 hs.2.2.2
  have heb : -1 ≤ e ∧ e < 4398046511104 := by rw [he]; exact Mo.enc_bd x y z
  have h14 : l ≤ 14 := hs.2.2.2
  have HL := Lib.hid hL
  have HS := Lib.hid hs
  clear he hc1 hc2 hL hs hm ha hb
  obtain ⟨u, hu, r0, r1, g0⟩ := rows2 w [.int .i64 b1, .int .i64 b2, .int .i64 b3, .int .i64 b4, .int .i64 b5, .int .i64 b6] 37 [.int .i64 x, .int .i64 y, .int .i64 z, .int .i64 L] 27
  have R0 := Lib.hid r0
  have R1 := Lib.hid r1
  have G0 := Lib.hid g0
  have HU := Lib.hid hu
  clear hu g0 r0 r1
  go_enter Try.func48, Try.ntmps48
  go_upto_region 1 with fail
  rw [← HU.out]
  refine wpG_region ?_
  refine @wpG_tk _ _ _ _ _ (some 12) (.pointer (some ⟨w.heap.size + 1, 0, none⟩)) _ _ rfl (.val (by rfl) (fun W hg => by go_simp)) ?_
  simp only [Act.put, List.setIfInBounds_toArray, List.set_cons_zero, List.set_cons_succ]
  refine @wpG_tk _ _ _ _ _ (some 13) (.agg #[.int .i64 x, .int .i64 y, .int .i64 z]) _ _ rfl (.load_mid (by rfl) 23 (.tmp 12) rfl (w.heap.size + 1) 0 rfl [.int .i64 x, .int .i64 y, .int .i64 z] _ (fun W hg => ((R1.out.below hg).part 0 3 rfl)) Try.underlying23 rfl (by kernel_rfl)) ?_
  simp only [Act.put, List.setIfInBounds_toArray, List.set_cons_zero, List.set_cons_succ]
  refine @wpG_tk _ _ _ _ _ (some 14) (.int .i64 e) _ _ rfl (.call (f := 14) (args := #[.agg #[.int .i64 x, .int .i64 y, .int .i64 z]]) (by rfl) (fun W => by go_simp) (fun W hg => (HE.out ▸ rencode_any x y z W))) ?_
  simp only [Act.put, List.setIfInBounds_toArray, List.set_cons_zero, List.set_cons_succ]
  refine @wpG_tk _ _ _ _ _ (some 7) (.int .i64 e) _ _ rfl (.val (by rfl) (fun _ _ => rfl)) ?_
  simp only [Act.put, List.setIfInBounds_toArray, List.set_cons_zero, List.set_cons_succ]
  refine wpG_done (fun V1 hv2 => ?_)
  have GC3 := Lib.hid hv2
  clear hv2
  go_upto_region 2 with fail
  refine wpG_region ?_
  refine @wpG_tk _ _ _ _ _ (some 15) (.agg #[.int .i64 b1, .int .i64 b2, .int .i64 b3, .int .i64 b4, .int .i64 b5, .int .i64 b6]) _ _ rfl (.load_mid (by rfl) 37 (.tmp 3) rfl (w.heap.size) 0 rfl [.int .i64 b1, .int .i64 b2, .int .i64 b3, .int .i64 b4, .int .i64 b5, .int .i64 b6] _ (fun W hg => (R0.out.below (GC3.out.trans hg)).range) Try.underlying37 rfl (by kernel_rfl)) ?_
  simp only [Act.put, List.setIfInBounds_toArray, List.set_cons_zero, List.set_cons_succ]
  refine @wpG_tk _ _ _ _ _ (some 16) (.agg #[.int .i64 x, .int .i64 y, .int .i64 z, .int .i64 L]) _ _ rfl (.load_mid (by rfl) 27 (.tmp 4) rfl (w.heap.size + 1) 0 rfl [.int .i64 x, .int .i64 y, .int .i64 z, .int .i64 L] _ (fun W hg => (R1.out.below (GC3.out.trans hg)).range) Try.underlying27 rfl (by kernel_rfl)) ?_
  simp only [Act.put, List.setIfInBounds_toArray, List.set_cons_zero, List.set_cons_succ]
  refine @wpG_tk _ _ _ _ _ (some 17) (.bool false) _ _ rfl (.call (f := 52) (args := #[.agg #[.int .i64 b1, .int .i64 b2, .int .i64 b3, .int .i64 b4, .int .i64 b5, .int .i64 b6], .agg #[.int .i64 x, .int .i64 y, .int .i64 z, .int .i64 L]]) (by rfl) (fun W => by go_simp) (fun W hg => apart_K b1 b2 b3 b4 b5 b6 x y z L l false W HL.out HS.out HA.out)) ?_
  simp only [Act.put, List.setIfInBounds_toArray, List.set_cons_zero, List.set_cons_succ]
  refine @wpG_tk _ _ _ _ _ (some 8) (.bool false) _ _ rfl (.val (by rfl) (fun _ _ => rfl)) ?_
  simp only [Act.put, List.setIfInBounds_toArray, List.set_cons_zero, List.set_cons_succ]
  refine wpG_done (fun V4 hv5 => ?_)
  have GC6 := Lib.hid (GC3.out.trans hv5)
  clear hv5
  have hll : 3 * L = ((3 * l : Nat) : Int) := by have := HL.out; omega
  have hl3 : ((3 * l : Nat) : Int) ≤ 42 := by omega
  have HLL := Lib.hid hll
  clear hll
  go_upto_region 3 with fail
  refine wpG_region ?_
  refine @wpG_tk _ _ _ _ _ (some 18) (.bool false) _ _ rfl (.val (by rfl) (fun _ _ => rfl)) ?_
  simp only [Act.put, List.setIfInBounds_toArray, List.set_cons_zero, List.set_cons_succ]
  refine @wpG_tk _ _ _ _ _ (some 19) (.bool false) _ _ rfl (.val (by rfl) (fun _ _ => rfl)) ?_
  simp only [Act.put, List.setIfInBounds_toArray, List.set_cons_zero, List.set_cons_succ]
  refine @wpG_tk _ _ _ _ _ (some 20) (.int .i64 e) _ _ rfl (.val (by rfl) (fun _ _ => rfl)) ?_
  simp only [Act.put, List.setIfInBounds_toArray, List.set_cons_zero, List.set_cons_succ]
  refine @wpG_tk _ _ _ _ _ (some 21) (.pointer (some ⟨w.heap.size + 1, 3, none⟩)) _ _ rfl (.val (by rfl) (fun W hg => by go_simp)) ?_
  simp only [Act.put, List.setIfInBounds_toArray, List.set_cons_zero, List.set_cons_succ]
  refine @wpG_tk _ _ _ _ _ (some 22) (.int .i64 L) _ _ rfl (.val (by rfl) (fun W hg => by have c := (R1.out.below (GC6.out.trans hg) 3 _ rfl).1; go_simp)) ?_
  simp only [Act.put, List.setIfInBounds_toArray, List.set_cons_zero, List.set_cons_succ]
  refine @wpG_tk _ _ _ _ _ (some 23) (.int .i64 ((3 * l : Nat) : Int)) _ _ rfl (.val (by rfl) (fun W hg => by go_simp; rw [HLL.out]; exact wrap_nat _ (by omega))) ?_
  simp only [Act.put, List.setIfInBounds_toArray, List.set_cons_zero, List.set_cons_succ]
  refine @wpG_tk _ _ _ _ _ (some 24) (.int .i64 (Mo.pw (3 * l))) _ _ rfl (.val (by rfl) (fun W hg => by go_simp; exact wrap_pw (3 * l) (by omega))) ?_
  simp only [Act.put, List.setIfInBounds_toArray, List.set_cons_zero, List.set_cons_succ]
  refine @wpG_tk _ _ _ _ _ (some 25) (.int .i64 (e + (Mo.pw (3 * l)))) _ _ rfl (.val (by rfl) (fun W hg => by (first | (go_simp; done) | (go_simp; rw [IntWalk.i64_in _ (by omega)])))) ?_
  simp only [Act.put, List.setIfInBounds_toArray, List.set_cons_zero, List.set_cons_succ]
  refine @wpG_tk _ _ _ _ _ (some 26) (.int .i64 ((e + (Mo.pw (3 * l))) - 1)) _ _ rfl (.val (by rfl) (fun W hg => by (first | (go_simp; done) | (go_simp; rw [IntWalk.i64_in _ (by omega)])))) ?_
  simp only [Act.put, List.setIfInBounds_toArray, List.set_cons_zero, List.set_cons_succ]
  refine @wpG_tk _ _ _ _ _ (some 27) (.int .i64 n) _ _ rfl (.val (by rfl) (fun _ _ => rfl)) ?_
  simp only [Act.put, List.setIfInBounds_toArray, List.set_cons_zero, List.set_cons_succ]
  refine @wpG_tk _ _ _ _ _ (some 28) (.bool true) _ _ rfl (.val (by rfl) (fun W hg => by have hq : ((e + (Mo.pw (3 * l))) - 1 < n) := (by omega); first | (go_simp; done) | (go_simp <;> omega))) ?_
  simp only [Act.put, List.setIfInBounds_toArray, List.set_cons_zero, List.set_cons_succ]
  refine @wpG_tk _ _ _ _ _ (some 29) (.bool true) _ _ rfl (.val (by rfl) (fun W hg => by go_simp)) ?_
  simp only [Act.put, List.setIfInBounds_toArray, List.set_cons_zero, List.set_cons_succ]
  refine wpG_done (fun V7 hv8 => ?_)
  have GC9 := Lib.hid (GC6.out.trans hv8)
  clear hv8
  go_upto_region 4 with fail
  refine wpG_region ?_
  refine @wpG_tk _ _ _ _ _ (some 6) (.int .i64 (-1)) _ _ rfl (.val (by rfl) (fun _ _ => rfl)) ?_
  simp only [Act.put, List.setIfInBounds_toArray, List.set_cons_zero, List.set_cons_succ]
  refine wpG_done (fun V10 hv11 => ?_)
  have GC12 := Lib.hid (GC9.out.trans hv11)
  clear hv11
  go_wp2_with fail
  go_ret
  exact ⟨rfl, Gr.to G0.out GC12.out⟩
set_option maxRecDepth 1000000 in
set_option maxHeartbeats 4000000 in
theorem least_c (b1 b2 b3 b4 b5 b6 n x y z L : Int) (l : Nat) (w : World) (hL : L = (l : Int)) (hs : Mo.sits x y z l) (hb : b1 < b4 ∧ b2 < b5 ∧ b3 < b6) (hm : Mo.meets b1 b2 b3 b4 b5 b6 x y z l = true) (hw : Mo.within b1 b2 b3 b4 b5 b6 x y z l = true) (hq : ¬ Mo.enc x y z + Mo.pw (3 * l) - 1 < n) :
    Calls Try.prog 48 #[.agg #[.int .i64 b1, .int .i64 b2, .int .i64 b3, .int .i64 b4, .int .i64 b5, .int .i64 b6], .agg #[.int .i64 x, .int .i64 y, .int .i64 z, .int .i64 L], .int .i64 n] w fun e w' => e = .returned (.int .i64 (max (Mo.enc x y z) n)) ∧ Below w.heap.size w w' := by
  obtain ⟨e, he⟩ : ∃ e, e = Mo.enc x y z := ⟨_, rfl⟩
  have HE := Lib.hid he
  have ha : Mo.apartB b1 b2 b3 b4 b5 b6 x y z l = false := by rw [Mo.apart_eq hb, hm]; rfl
  have HA := Lib.hid ha
  obtain ⟨c1, hc1⟩ : ∃ c, c = Mo.cellB b1 b2 b3 b4 b5 b6 x y z := ⟨_, rfl⟩
  obtain ⟨c2, hc2⟩ : ∃ c, c = Mo.cellB b1 b2 b3 b4 b5 b6 (x + (Mo.pw l - 1)) (y + (Mo.pw l - 1)) (z + (Mo.pw l - 1)) := ⟨_, rfl⟩
  have hcv : ∀ c, c = (c1 && c2) → c = true := fun c hc => cut2 hc1 hc2 ((Mo.whole_eq hs).trans hw) hc
  have HCV := Lib.hid hcv
  clear hcv hw
  have HC1 := Lib.hid hc1
  have HC2 := Lib.hid hc2
  rw [← he] at hq
  have hp1 := Mo.pw_pos (3 * l)
  have hp2 := Mo.pw42 hs.2.2.2
  have heb : -1 ≤ e ∧ e < 4398046511104 := by rw [he]; exact Mo.enc_bd x y z
  have h14 : l ≤ 14 := hs.2.2.2
  have HL := Lib.hid hL
  have HS := Lib.hid hs
  clear he hc1 hc2 hL hs hm ha hb
  obtain ⟨u, hu, r0, r1, g0⟩ := rows2 w [.int .i64 b1, .int .i64 b2, .int .i64 b3, .int .i64 b4, .int .i64 b5, .int .i64 b6] 37 [.int .i64 x, .int .i64 y, .int .i64 z, .int .i64 L] 27
  have R0 := Lib.hid r0
  have R1 := Lib.hid r1
  have G0 := Lib.hid g0
  have HU := Lib.hid hu
  clear hu g0 r0 r1
  go_enter Try.func48, Try.ntmps48
  go_upto_region 1 with fail
  rw [← HU.out]
  refine wpG_region ?_
  refine @wpG_tk _ _ _ _ _ (some 12) (.pointer (some ⟨w.heap.size + 1, 0, none⟩)) _ _ rfl (.val (by rfl) (fun W hg => by go_simp)) ?_
  simp only [Act.put, List.setIfInBounds_toArray, List.set_cons_zero, List.set_cons_succ]
  refine @wpG_tk _ _ _ _ _ (some 13) (.agg #[.int .i64 x, .int .i64 y, .int .i64 z]) _ _ rfl (.load_mid (by rfl) 23 (.tmp 12) rfl (w.heap.size + 1) 0 rfl [.int .i64 x, .int .i64 y, .int .i64 z] _ (fun W hg => ((R1.out.below hg).part 0 3 rfl)) Try.underlying23 rfl (by kernel_rfl)) ?_
  simp only [Act.put, List.setIfInBounds_toArray, List.set_cons_zero, List.set_cons_succ]
  refine @wpG_tk _ _ _ _ _ (some 14) (.int .i64 e) _ _ rfl (.call (f := 14) (args := #[.agg #[.int .i64 x, .int .i64 y, .int .i64 z]]) (by rfl) (fun W => by go_simp) (fun W hg => (HE.out ▸ rencode_any x y z W))) ?_
  simp only [Act.put, List.setIfInBounds_toArray, List.set_cons_zero, List.set_cons_succ]
  refine @wpG_tk _ _ _ _ _ (some 7) (.int .i64 e) _ _ rfl (.val (by rfl) (fun _ _ => rfl)) ?_
  simp only [Act.put, List.setIfInBounds_toArray, List.set_cons_zero, List.set_cons_succ]
  refine wpG_done (fun V1 hv2 => ?_)
  have GC3 := Lib.hid hv2
  clear hv2
  go_upto_region 2 with fail
  refine wpG_region ?_
  refine @wpG_tk _ _ _ _ _ (some 15) (.agg #[.int .i64 b1, .int .i64 b2, .int .i64 b3, .int .i64 b4, .int .i64 b5, .int .i64 b6]) _ _ rfl (.load_mid (by rfl) 37 (.tmp 3) rfl (w.heap.size) 0 rfl [.int .i64 b1, .int .i64 b2, .int .i64 b3, .int .i64 b4, .int .i64 b5, .int .i64 b6] _ (fun W hg => (R0.out.below (GC3.out.trans hg)).range) Try.underlying37 rfl (by kernel_rfl)) ?_
  simp only [Act.put, List.setIfInBounds_toArray, List.set_cons_zero, List.set_cons_succ]
  refine @wpG_tk _ _ _ _ _ (some 16) (.agg #[.int .i64 x, .int .i64 y, .int .i64 z, .int .i64 L]) _ _ rfl (.load_mid (by rfl) 27 (.tmp 4) rfl (w.heap.size + 1) 0 rfl [.int .i64 x, .int .i64 y, .int .i64 z, .int .i64 L] _ (fun W hg => (R1.out.below (GC3.out.trans hg)).range) Try.underlying27 rfl (by kernel_rfl)) ?_
  simp only [Act.put, List.setIfInBounds_toArray, List.set_cons_zero, List.set_cons_succ]
  refine @wpG_tk _ _ _ _ _ (some 17) (.bool false) _ _ rfl (.call (f := 52) (args := #[.agg #[.int .i64 b1, .int .i64 b2, .int .i64 b3, .int .i64 b4, .int .i64 b5, .int .i64 b6], .agg #[.int .i64 x, .int .i64 y, .int .i64 z, .int .i64 L]]) (by rfl) (fun W => by go_simp) (fun W hg => apart_K b1 b2 b3 b4 b5 b6 x y z L l false W HL.out HS.out HA.out)) ?_
  simp only [Act.put, List.setIfInBounds_toArray, List.set_cons_zero, List.set_cons_succ]
  refine @wpG_tk _ _ _ _ _ (some 8) (.bool false) _ _ rfl (.val (by rfl) (fun _ _ => rfl)) ?_
  simp only [Act.put, List.setIfInBounds_toArray, List.set_cons_zero, List.set_cons_succ]
  refine wpG_done (fun V4 hv5 => ?_)
  have GC6 := Lib.hid (GC3.out.trans hv5)
  clear hv5
  have hll : 3 * L = ((3 * l : Nat) : Int) := by have := HL.out; omega
  have hl3 : ((3 * l : Nat) : Int) ≤ 42 := by omega
  have HLL := Lib.hid hll
  clear hll
  go_upto_region 3 with fail
  refine wpG_region ?_
  refine @wpG_tk _ _ _ _ _ (some 18) (.bool false) _ _ rfl (.val (by rfl) (fun _ _ => rfl)) ?_
  simp only [Act.put, List.setIfInBounds_toArray, List.set_cons_zero, List.set_cons_succ]
  refine @wpG_tk _ _ _ _ _ (some 19) (.bool false) _ _ rfl (.val (by rfl) (fun _ _ => rfl)) ?_
  simp only [Act.put, List.setIfInBounds_toArray, List.set_cons_zero, List.set_cons_succ]
  refine @wpG_tk _ _ _ _ _ (some 20) (.int .i64 e) _ _ rfl (.val (by rfl) (fun _ _ => rfl)) ?_
  simp only [Act.put, List.setIfInBounds_toArray, List.set_cons_zero, List.set_cons_succ]
  refine @wpG_tk _ _ _ _ _ (some 21) (.pointer (some ⟨w.heap.size + 1, 3, none⟩)) _ _ rfl (.val (by rfl) (fun W hg => by go_simp)) ?_
  simp only [Act.put, List.setIfInBounds_toArray, List.set_cons_zero, List.set_cons_succ]
  refine @wpG_tk _ _ _ _ _ (some 22) (.int .i64 L) _ _ rfl (.val (by rfl) (fun W hg => by have c := (R1.out.below (GC6.out.trans hg) 3 _ rfl).1; go_simp)) ?_
  simp only [Act.put, List.setIfInBounds_toArray, List.set_cons_zero, List.set_cons_succ]
  refine @wpG_tk _ _ _ _ _ (some 23) (.int .i64 ((3 * l : Nat) : Int)) _ _ rfl (.val (by rfl) (fun W hg => by go_simp; rw [HLL.out]; exact wrap_nat _ (by omega))) ?_
  simp only [Act.put, List.setIfInBounds_toArray, List.set_cons_zero, List.set_cons_succ]
  refine @wpG_tk _ _ _ _ _ (some 24) (.int .i64 (Mo.pw (3 * l))) _ _ rfl (.val (by rfl) (fun W hg => by go_simp; exact wrap_pw (3 * l) (by omega))) ?_
  simp only [Act.put, List.setIfInBounds_toArray, List.set_cons_zero, List.set_cons_succ]
  refine @wpG_tk _ _ _ _ _ (some 25) (.int .i64 (e + (Mo.pw (3 * l)))) _ _ rfl (.val (by rfl) (fun W hg => by (first | (go_simp; done) | (go_simp; rw [IntWalk.i64_in _ (by omega)])))) ?_
  simp only [Act.put, List.setIfInBounds_toArray, List.set_cons_zero, List.set_cons_succ]
  refine @wpG_tk _ _ _ _ _ (some 26) (.int .i64 ((e + (Mo.pw (3 * l))) - 1)) _ _ rfl (.val (by rfl) (fun W hg => by (first | (go_simp; done) | (go_simp; rw [IntWalk.i64_in _ (by omega)])))) ?_
  simp only [Act.put, List.setIfInBounds_toArray, List.set_cons_zero, List.set_cons_succ]
  refine @wpG_tk _ _ _ _ _ (some 27) (.int .i64 n) _ _ rfl (.val (by rfl) (fun _ _ => rfl)) ?_
  simp only [Act.put, List.setIfInBounds_toArray, List.set_cons_zero, List.set_cons_succ]
  refine @wpG_tk _ _ _ _ _ (some 28) (.bool false) _ _ rfl (.val (by rfl) (fun W hg => by have hq : ¬ ((e + (Mo.pw (3 * l))) - 1 < n) := (by omega); first | (go_simp; done) | (go_simp <;> omega))) ?_
  simp only [Act.put, List.setIfInBounds_toArray, List.set_cons_zero, List.set_cons_succ]
  refine @wpG_tk _ _ _ _ _ (some 29) (.bool false) _ _ rfl (.val (by rfl) (fun W hg => by go_simp)) ?_
  simp only [Act.put, List.setIfInBounds_toArray, List.set_cons_zero, List.set_cons_succ]
  refine wpG_done (fun V7 hv8 => ?_)
  have GC9 := Lib.hid (GC6.out.trans hv8)
  clear hv8
  go_upto_region 5 with fail
  refine wpK_region (by kernel_rfl) ?_
  refine wpK_tk (i := 0) (some 30) (v := .agg #[.int .i64 b1, .int .i64 b2, .int .i64 b3, .int .i64 b4, .int .i64 b5, .int .i64 b6]) rfl rfl (by kernel_rfl) (fun _ _ _ h => h) (.load_mid (by rfl) 37 (.tmp 3) rfl (w.heap.size) 0 rfl [.int .i64 b1, .int .i64 b2, .int .i64 b3, .int .i64 b4, .int .i64 b5, .int .i64 b6] _ (fun W hg => (R0.out.below (GC9.out.trans (Gr.un hg))).range) Try.underlying37 rfl (by kernel_rfl)) ?_
  simp only [Act.put, List.setIfInBounds_toArray, List.set_cons_zero, List.set_cons_succ]
  refine wpK_ta (i := 1) (some 31) (v := .pointer (some ⟨w.heap.size + 1, 0, none⟩)) rfl rfl (by kernel_rfl) (fun _ _ _ h => h) (Or.inl ⟨by rfl, fun W => by go_simp⟩) ?_
  simp only [Act.put, List.setIfInBounds_toArray, List.set_cons_zero, List.set_cons_succ]
  refine wpK_tk (i := 2) (some 32) (v := .agg #[.int .i64 x, .int .i64 y, .int .i64 z]) rfl rfl (by kernel_rfl) (fun _ _ _ h => h) (.load_mid (by rfl) 23 (.tmp 31) rfl (w.heap.size + 1) 0 rfl [.int .i64 x, .int .i64 y, .int .i64 z] _ (fun W hg => ((R1.out.below (GC9.out.trans (Gr.un hg))).part 0 3 rfl)) Try.underlying23 rfl (by kernel_rfl)) ?_
  simp only [Act.put, List.setIfInBounds_toArray, List.set_cons_zero, List.set_cons_succ]
  refine wpK_tk (i := 3) (some 33) (v := .bool c1) rfl rfl (by kernel_rfl) (fun _ _ _ h => h) (.call (f := 33) (args := #[.agg #[.int .i64 b1, .int .i64 b2, .int .i64 b3, .int .i64 b4, .int .i64 b5, .int .i64 b6], .agg #[.int .i64 x, .int .i64 y, .int .i64 z]]) (by rfl) (fun W => by go_simp) (fun W hg => cell_K b1 b2 b3 b4 b5 b6 x y z c1 W HC1.out)) ?_
  simp only [Act.put, List.setIfInBounds_toArray, List.set_cons_zero, List.set_cons_succ]
  refine wpK_ta (i := 4) (some 34) (v := .bool c1) rfl rfl (by kernel_rfl) (fun _ _ _ h => h) (Or.inl ⟨rfl, fun _ => rfl⟩) ?_
  simp only [Act.put, List.setIfInBounds_toArray, List.set_cons_zero, List.set_cons_succ]
  refine wpK_tk (i := 5) (some 35) (v := (bif c1 then .agg #[.int .i64 b1, .int .i64 b2, .int .i64 b3, .int .i64 b4, .int .i64 b5, .int .i64 b6] else undef)) rfl rfl (by kernel_rfl) (fun _ _ _ h => h) (by cases c1 with | false => exact .no (by rfl) | true => exact (.load_mid (by rfl) 37 (.tmp 3) rfl (w.heap.size) 0 rfl [.int .i64 b1, .int .i64 b2, .int .i64 b3, .int .i64 b4, .int .i64 b5, .int .i64 b6] _ (fun W hg => (R0.out.below (GC9.out.trans (Gr.un hg))).range) Try.underlying37 rfl (by kernel_rfl))) ?_
  simp only [Act.put, List.setIfInBounds_toArray, List.set_cons_zero, List.set_cons_succ]
  refine wpK_tk (i := 6) (some 36) (v := (bif c1 then .agg #[.int .i64 x, .int .i64 y, .int .i64 z, .int .i64 L] else undef)) rfl rfl (by kernel_rfl) (fun _ _ _ h => h) (by cases c1 with | false => exact .no (by rfl) | true => exact (.load_mid (by rfl) 27 (.tmp 4) rfl (w.heap.size + 1) 0 rfl [.int .i64 x, .int .i64 y, .int .i64 z, .int .i64 L] _ (fun W hg => (R1.out.below (GC9.out.trans (Gr.un hg))).range) Try.underlying27 rfl (by kernel_rfl))) ?_
  simp only [Act.put, List.setIfInBounds_toArray, List.set_cons_zero, List.set_cons_succ]
  refine wpK_tk (i := 7) (some 37) (v := (bif c1 then .agg #[.int .i64 (x + (Mo.pw l - 1)), .int .i64 (y + (Mo.pw l - 1)), .int .i64 (z + (Mo.pw l - 1))] else undef)) rfl rfl (by kernel_rfl) (fun _ _ _ h => h) (by cases c1 with | false => exact .no (by rfl) | true => exact (.call (f := 53) (args := #[.agg #[.int .i64 x, .int .i64 y, .int .i64 z, .int .i64 L]]) (by rfl) (fun W => by go_simp) (fun W hg => far_L x y z L l W HL.out HS.out))) ?_
  simp only [Act.put, List.setIfInBounds_toArray, List.set_cons_zero, List.set_cons_succ]
  refine wpK_tk (i := 8) (some 38) (v := (bif c1 then .bool c2 else undef)) rfl rfl (by kernel_rfl) (fun _ _ _ h => h) (by cases c1 with | false => exact .no (by rfl) | true => exact (.call (f := 33) (args := #[.agg #[.int .i64 b1, .int .i64 b2, .int .i64 b3, .int .i64 b4, .int .i64 b5, .int .i64 b6], .agg #[.int .i64 (x + (Mo.pw l - 1)), .int .i64 (y + (Mo.pw l - 1)), .int .i64 (z + (Mo.pw l - 1))]]) (by rfl) (fun W => by go_simp) (fun W hg => cell_K b1 b2 b3 b4 b5 b6 (x + (Mo.pw l - 1)) (y + (Mo.pw l - 1)) (z + (Mo.pw l - 1)) c2 W HC2.out))) ?_
  simp only [Act.put, List.setIfInBounds_toArray, List.set_cons_zero, List.set_cons_succ]
  refine wpK_ta (i := 9) (some 39) (v := .bool (c1 && c2)) rfl rfl (by kernel_rfl) (fun _ _ _ h => h) (Or.inl ⟨by rfl, fun W => by cases c1 <;> go_simp⟩) ?_
  simp only [Act.put, List.setIfInBounds_toArray, List.set_cons_zero, List.set_cons_succ]
  obtain ⟨c10, hc10⟩ : ∃ b, b = (c1 && c2) := ⟨_, rfl⟩
  rw [← hc10]
  have Hc10 := Lib.hid hc10
  clear hc10
  refine wpK_ta (i := 10) (some 9) (v := .bool c10) rfl rfl (by kernel_rfl) (fun _ _ _ h => h) (Or.inl ⟨rfl, fun _ => rfl⟩) ?_
  simp only [Act.put, List.setIfInBounds_toArray, List.set_cons_zero, List.set_cons_succ]
  refine wpK_done (by kernel_rfl) (fun V11 hv12 => ?_) _
  have GC13 := Lib.hid (GC9.out.trans (Gr.un hv12))
  clear hv12
  rw [show c10 = true from HCV.out _ Hc10.out]
  go_upto_region 6 with fail
  refine wpG_region ?_
  refine @wpG_tk _ _ _ _ _ (some 40) (.bool true) _ _ rfl (.val (by rfl) (fun _ _ => rfl)) ?_
  simp only [Act.put, List.setIfInBounds_toArray, List.set_cons_zero, List.set_cons_succ]
  refine wpG_done (fun V14 hv15 => ?_)
  have GC16 := Lib.hid (GC13.out.trans hv15)
  clear hv15
  go_upto_region 7 with fail
  refine wpG_region ?_
  refine @wpG_tk _ _ _ _ _ (some 41) (.int .i64 e) _ _ rfl (.val (by rfl) (fun _ _ => rfl)) ?_
  simp only [Act.put, List.setIfInBounds_toArray, List.set_cons_zero, List.set_cons_succ]
  refine @wpG_tk _ _ _ _ _ (some 42) (.int .i64 n) _ _ rfl (.val (by rfl) (fun _ _ => rfl)) ?_
  simp only [Act.put, List.setIfInBounds_toArray, List.set_cons_zero, List.set_cons_succ]
  refine @wpG_tk _ _ _ _ _ (some 43) (.int .i64 (max e n)) _ _ rfl (.val (by rfl) (fun W hg => by (go_simp <;> (repeat' split) <;> omega))) ?_
  simp only [Act.put, List.setIfInBounds_toArray, List.set_cons_zero, List.set_cons_succ]
  refine @wpG_tk _ _ _ _ _ (some 6) (.int .i64 (max e n)) _ _ rfl (.val (by rfl) (fun _ _ => rfl)) ?_
  simp only [Act.put, List.setIfInBounds_toArray, List.set_cons_zero, List.set_cons_succ]
  refine wpG_done (fun V17 hv18 => ?_)
  have GC19 := Lib.hid (GC16.out.trans hv18)
  clear hv18
  go_wp2_with fail
  go_ret
  exact ⟨ret_int (by rw [HE.out]), Gr.to G0.out GC19.out⟩
set_option maxRecDepth 1000000 in
set_option maxHeartbeats 4000000 in
theorem least_d (b1 b2 b3 b4 b5 b6 n x y z L : Int) (l : Nat) (w : World) (hL : L = (l : Int) + 1) (hs : Mo.sits x y z (l + 1)) (hb : b1 < b4 ∧ b2 < b5 ∧ b3 < b6) (hm : Mo.meets b1 b2 b3 b4 b5 b6 x y z (l + 1) = true) (hw : Mo.within b1 b2 b3 b4 b5 b6 x y z (l + 1) = false) (hq : ¬ Mo.enc x y z + Mo.pw (3 * (l + 1)) - 1 < n)
    (ih : ∀ (x y z L : Int) (w : World), L = (l : Int) → Mo.sits x y z l → Calls Try.prog 48 #[.agg #[.int .i64 b1, .int .i64 b2, .int .i64 b3, .int .i64 b4, .int .i64 b5, .int .i64 b6], .agg #[.int .i64 x, .int .i64 y, .int .i64 z, .int .i64 L], .int .i64 n] w fun e w' => e = .returned (.int .i64 (Mo.nx b1 b2 b3 b4 b5 b6 n l x y z)) ∧ Below w.heap.size w w') :
    Calls Try.prog 48 #[.agg #[.int .i64 b1, .int .i64 b2, .int .i64 b3, .int .i64 b4, .int .i64 b5, .int .i64 b6], .agg #[.int .i64 x, .int .i64 y, .int .i64 z, .int .i64 L], .int .i64 n] w fun e w' => e = .returned (.int .i64 (Mo.fn (fun o => Mo.nx b1 b2 b3 b4 b5 b6 n l (x + Mo.cx 0 o l) (y + Mo.cx 1 o l) (z + Mo.cx 2 o l)) 8 0)) ∧ Below w.heap.size w w' := by
  obtain ⟨e, he⟩ : ∃ e, e = Mo.enc x y z := ⟨_, rfl⟩
  have HE := Lib.hid he
  have ha : Mo.apartB b1 b2 b3 b4 b5 b6 x y z (l + 1) = false := by rw [Mo.apart_eq hb, hm]; rfl
  have HA := Lib.hid ha
  obtain ⟨c1, hc1⟩ : ∃ c, c = Mo.cellB b1 b2 b3 b4 b5 b6 x y z := ⟨_, rfl⟩
  obtain ⟨c2, hc2⟩ : ∃ c, c = Mo.cellB b1 b2 b3 b4 b5 b6 (x + (Mo.pw (l + 1) - 1)) (y + (Mo.pw (l + 1) - 1)) (z + (Mo.pw (l + 1) - 1)) := ⟨_, rfl⟩
  have hcv : ∀ c, c = (c1 && c2) → c = false := fun c hc => cut2 hc1 hc2 ((Mo.whole_eq hs).trans hw) hc
  have HCV := Lib.hid hcv
  clear hcv hw
  have HC1 := Lib.hid hc1
  have HC2 := Lib.hid hc2
  rw [← he] at hq
  have hp1 := Mo.pw_pos (3 * (l + 1))
  have hp2 := Mo.pw42 hs.2.2.2
  have heb : -1 ≤ e ∧ e < 4398046511104 := by rw [he]; exact Mo.enc_bd x y z
  have h14 : (l + 1) ≤ 14 := hs.2.2.2
  have HL := Lib.hid hL
  have HS := Lib.hid hs
  clear he hc1 hc2 hL hs hm ha hb
  obtain ⟨u, hu, r0, r1, g0⟩ := rows2 w [.int .i64 b1, .int .i64 b2, .int .i64 b3, .int .i64 b4, .int .i64 b5, .int .i64 b6] 37 [.int .i64 x, .int .i64 y, .int .i64 z, .int .i64 L] 27
  have R0 := Lib.hid r0
  have R1 := Lib.hid r1
  have G0 := Lib.hid g0
  have HU := Lib.hid hu
  clear hu g0 r0 r1
  go_enter Try.func48, Try.ntmps48
  go_upto_region 1 with fail
  rw [← HU.out]
  refine wpG_region ?_
  refine @wpG_tk _ _ _ _ _ (some 12) (.pointer (some ⟨w.heap.size + 1, 0, none⟩)) _ _ rfl (.val (by rfl) (fun W hg => by go_simp)) ?_
  simp only [Act.put, List.setIfInBounds_toArray, List.set_cons_zero, List.set_cons_succ]
  refine @wpG_tk _ _ _ _ _ (some 13) (.agg #[.int .i64 x, .int .i64 y, .int .i64 z]) _ _ rfl (.load_mid (by rfl) 23 (.tmp 12) rfl (w.heap.size + 1) 0 rfl [.int .i64 x, .int .i64 y, .int .i64 z] _ (fun W hg => ((R1.out.below hg).part 0 3 rfl)) Try.underlying23 rfl (by kernel_rfl)) ?_
  simp only [Act.put, List.setIfInBounds_toArray, List.set_cons_zero, List.set_cons_succ]
  refine @wpG_tk _ _ _ _ _ (some 14) (.int .i64 e) _ _ rfl (.call (f := 14) (args := #[.agg #[.int .i64 x, .int .i64 y, .int .i64 z]]) (by rfl) (fun W => by go_simp) (fun W hg => (HE.out ▸ rencode_any x y z W))) ?_
  simp only [Act.put, List.setIfInBounds_toArray, List.set_cons_zero, List.set_cons_succ]
  refine @wpG_tk _ _ _ _ _ (some 7) (.int .i64 e) _ _ rfl (.val (by rfl) (fun _ _ => rfl)) ?_
  simp only [Act.put, List.setIfInBounds_toArray, List.set_cons_zero, List.set_cons_succ]
  refine wpG_done (fun V1 hv2 => ?_)
  have GC3 := Lib.hid hv2
  clear hv2
  go_upto_region 2 with fail
  refine wpG_region ?_
  refine @wpG_tk _ _ _ _ _ (some 15) (.agg #[.int .i64 b1, .int .i64 b2, .int .i64 b3, .int .i64 b4, .int .i64 b5, .int .i64 b6]) _ _ rfl (.load_mid (by rfl) 37 (.tmp 3) rfl (w.heap.size) 0 rfl [.int .i64 b1, .int .i64 b2, .int .i64 b3, .int .i64 b4, .int .i64 b5, .int .i64 b6] _ (fun W hg => (R0.out.below (GC3.out.trans hg)).range) Try.underlying37 rfl (by kernel_rfl)) ?_
  simp only [Act.put, List.setIfInBounds_toArray, List.set_cons_zero, List.set_cons_succ]
  refine @wpG_tk _ _ _ _ _ (some 16) (.agg #[.int .i64 x, .int .i64 y, .int .i64 z, .int .i64 L]) _ _ rfl (.load_mid (by rfl) 27 (.tmp 4) rfl (w.heap.size + 1) 0 rfl [.int .i64 x, .int .i64 y, .int .i64 z, .int .i64 L] _ (fun W hg => (R1.out.below (GC3.out.trans hg)).range) Try.underlying27 rfl (by kernel_rfl)) ?_
  simp only [Act.put, List.setIfInBounds_toArray, List.set_cons_zero, List.set_cons_succ]
  refine @wpG_tk _ _ _ _ _ (some 17) (.bool false) _ _ rfl (.call (f := 52) (args := #[.agg #[.int .i64 b1, .int .i64 b2, .int .i64 b3, .int .i64 b4, .int .i64 b5, .int .i64 b6], .agg #[.int .i64 x, .int .i64 y, .int .i64 z, .int .i64 L]]) (by rfl) (fun W => by go_simp) (fun W hg => apart_K b1 b2 b3 b4 b5 b6 x y z L (l + 1) false W HL.out HS.out HA.out)) ?_
  simp only [Act.put, List.setIfInBounds_toArray, List.set_cons_zero, List.set_cons_succ]
  refine @wpG_tk _ _ _ _ _ (some 8) (.bool false) _ _ rfl (.val (by rfl) (fun _ _ => rfl)) ?_
  simp only [Act.put, List.setIfInBounds_toArray, List.set_cons_zero, List.set_cons_succ]
  refine wpG_done (fun V4 hv5 => ?_)
  have GC6 := Lib.hid (GC3.out.trans hv5)
  clear hv5
  have hll : 3 * L = ((3 * (l + 1) : Nat) : Int) := by have := HL.out; omega
  have hl3 : ((3 * (l + 1) : Nat) : Int) ≤ 42 := by omega
  have HLL := Lib.hid hll
  clear hll
  go_upto_region 3 with fail
  refine wpG_region ?_
  refine @wpG_tk _ _ _ _ _ (some 18) (.bool false) _ _ rfl (.val (by rfl) (fun _ _ => rfl)) ?_
  simp only [Act.put, List.setIfInBounds_toArray, List.set_cons_zero, List.set_cons_succ]
  refine @wpG_tk _ _ _ _ _ (some 19) (.bool false) _ _ rfl (.val (by rfl) (fun _ _ => rfl)) ?_
  simp only [Act.put, List.setIfInBounds_toArray, List.set_cons_zero, List.set_cons_succ]
  refine @wpG_tk _ _ _ _ _ (some 20) (.int .i64 e) _ _ rfl (.val (by rfl) (fun _ _ => rfl)) ?_
  simp only [Act.put, List.setIfInBounds_toArray, List.set_cons_zero, List.set_cons_succ]
  refine @wpG_tk _ _ _ _ _ (some 21) (.pointer (some ⟨w.heap.size + 1, 3, none⟩)) _ _ rfl (.val (by rfl) (fun W hg => by go_simp)) ?_
  simp only [Act.put, List.setIfInBounds_toArray, List.set_cons_zero, List.set_cons_succ]
  refine @wpG_tk _ _ _ _ _ (some 22) (.int .i64 L) _ _ rfl (.val (by rfl) (fun W hg => by have c := (R1.out.below (GC6.out.trans hg) 3 _ rfl).1; go_simp)) ?_
  simp only [Act.put, List.setIfInBounds_toArray, List.set_cons_zero, List.set_cons_succ]
  refine @wpG_tk _ _ _ _ _ (some 23) (.int .i64 ((3 * (l + 1) : Nat) : Int)) _ _ rfl (.val (by rfl) (fun W hg => by go_simp; rw [HLL.out]; exact wrap_nat _ (by omega))) ?_
  simp only [Act.put, List.setIfInBounds_toArray, List.set_cons_zero, List.set_cons_succ]
  refine @wpG_tk _ _ _ _ _ (some 24) (.int .i64 (Mo.pw (3 * (l + 1)))) _ _ rfl (.val (by rfl) (fun W hg => by go_simp; exact wrap_pw (3 * (l + 1)) (by omega))) ?_
  simp only [Act.put, List.setIfInBounds_toArray, List.set_cons_zero, List.set_cons_succ]
  refine @wpG_tk _ _ _ _ _ (some 25) (.int .i64 (e + (Mo.pw (3 * (l + 1))))) _ _ rfl (.val (by rfl) (fun W hg => by (first | (go_simp; done) | (go_simp; rw [IntWalk.i64_in _ (by omega)])))) ?_
  simp only [Act.put, List.setIfInBounds_toArray, List.set_cons_zero, List.set_cons_succ]
  refine @wpG_tk _ _ _ _ _ (some 26) (.int .i64 ((e + (Mo.pw (3 * (l + 1)))) - 1)) _ _ rfl (.val (by rfl) (fun W hg => by (first | (go_simp; done) | (go_simp; rw [IntWalk.i64_in _ (by omega)])))) ?_
  simp only [Act.put, List.setIfInBounds_toArray, List.set_cons_zero, List.set_cons_succ]
  refine @wpG_tk _ _ _ _ _ (some 27) (.int .i64 n) _ _ rfl (.val (by rfl) (fun _ _ => rfl)) ?_
  simp only [Act.put, List.setIfInBounds_toArray, List.set_cons_zero, List.set_cons_succ]
  refine @wpG_tk _ _ _ _ _ (some 28) (.bool false) _ _ rfl (.val (by rfl) (fun W hg => by have hq : ¬ ((e + (Mo.pw (3 * (l + 1)))) - 1 < n) := (by omega); first | (go_simp; done) | (go_simp <;> omega))) ?_
  simp only [Act.put, List.setIfInBounds_toArray, List.set_cons_zero, List.set_cons_succ]
  refine @wpG_tk _ _ _ _ _ (some 29) (.bool false) _ _ rfl (.val (by rfl) (fun W hg => by go_simp)) ?_
  simp only [Act.put, List.setIfInBounds_toArray, List.set_cons_zero, List.set_cons_succ]
  refine wpG_done (fun V7 hv8 => ?_)
  have GC9 := Lib.hid (GC6.out.trans hv8)
  clear hv8
  go_upto_region 5 with fail
  refine wpK_region (by kernel_rfl) ?_
  refine wpK_tk (i := 0) (some 30) (v := .agg #[.int .i64 b1, .int .i64 b2, .int .i64 b3, .int .i64 b4, .int .i64 b5, .int .i64 b6]) rfl rfl (by kernel_rfl) (fun _ _ _ h => h) (.load_mid (by rfl) 37 (.tmp 3) rfl (w.heap.size) 0 rfl [.int .i64 b1, .int .i64 b2, .int .i64 b3, .int .i64 b4, .int .i64 b5, .int .i64 b6] _ (fun W hg => (R0.out.below (GC9.out.trans (Gr.un hg))).range) Try.underlying37 rfl (by kernel_rfl)) ?_
  simp only [Act.put, List.setIfInBounds_toArray, List.set_cons_zero, List.set_cons_succ]
  refine wpK_ta (i := 1) (some 31) (v := .pointer (some ⟨w.heap.size + 1, 0, none⟩)) rfl rfl (by kernel_rfl) (fun _ _ _ h => h) (Or.inl ⟨by rfl, fun W => by go_simp⟩) ?_
  simp only [Act.put, List.setIfInBounds_toArray, List.set_cons_zero, List.set_cons_succ]
  refine wpK_tk (i := 2) (some 32) (v := .agg #[.int .i64 x, .int .i64 y, .int .i64 z]) rfl rfl (by kernel_rfl) (fun _ _ _ h => h) (.load_mid (by rfl) 23 (.tmp 31) rfl (w.heap.size + 1) 0 rfl [.int .i64 x, .int .i64 y, .int .i64 z] _ (fun W hg => ((R1.out.below (GC9.out.trans (Gr.un hg))).part 0 3 rfl)) Try.underlying23 rfl (by kernel_rfl)) ?_
  simp only [Act.put, List.setIfInBounds_toArray, List.set_cons_zero, List.set_cons_succ]
  refine wpK_tk (i := 3) (some 33) (v := .bool c1) rfl rfl (by kernel_rfl) (fun _ _ _ h => h) (.call (f := 33) (args := #[.agg #[.int .i64 b1, .int .i64 b2, .int .i64 b3, .int .i64 b4, .int .i64 b5, .int .i64 b6], .agg #[.int .i64 x, .int .i64 y, .int .i64 z]]) (by rfl) (fun W => by go_simp) (fun W hg => cell_K b1 b2 b3 b4 b5 b6 x y z c1 W HC1.out)) ?_
  simp only [Act.put, List.setIfInBounds_toArray, List.set_cons_zero, List.set_cons_succ]
  refine wpK_ta (i := 4) (some 34) (v := .bool c1) rfl rfl (by kernel_rfl) (fun _ _ _ h => h) (Or.inl ⟨rfl, fun _ => rfl⟩) ?_
  simp only [Act.put, List.setIfInBounds_toArray, List.set_cons_zero, List.set_cons_succ]
  refine wpK_tk (i := 5) (some 35) (v := (bif c1 then .agg #[.int .i64 b1, .int .i64 b2, .int .i64 b3, .int .i64 b4, .int .i64 b5, .int .i64 b6] else undef)) rfl rfl (by kernel_rfl) (fun _ _ _ h => h) (by cases c1 with | false => exact .no (by rfl) | true => exact (.load_mid (by rfl) 37 (.tmp 3) rfl (w.heap.size) 0 rfl [.int .i64 b1, .int .i64 b2, .int .i64 b3, .int .i64 b4, .int .i64 b5, .int .i64 b6] _ (fun W hg => (R0.out.below (GC9.out.trans (Gr.un hg))).range) Try.underlying37 rfl (by kernel_rfl))) ?_
  simp only [Act.put, List.setIfInBounds_toArray, List.set_cons_zero, List.set_cons_succ]
  refine wpK_tk (i := 6) (some 36) (v := (bif c1 then .agg #[.int .i64 x, .int .i64 y, .int .i64 z, .int .i64 L] else undef)) rfl rfl (by kernel_rfl) (fun _ _ _ h => h) (by cases c1 with | false => exact .no (by rfl) | true => exact (.load_mid (by rfl) 27 (.tmp 4) rfl (w.heap.size + 1) 0 rfl [.int .i64 x, .int .i64 y, .int .i64 z, .int .i64 L] _ (fun W hg => (R1.out.below (GC9.out.trans (Gr.un hg))).range) Try.underlying27 rfl (by kernel_rfl))) ?_
  simp only [Act.put, List.setIfInBounds_toArray, List.set_cons_zero, List.set_cons_succ]
  refine wpK_tk (i := 7) (some 37) (v := (bif c1 then .agg #[.int .i64 (x + (Mo.pw (l + 1) - 1)), .int .i64 (y + (Mo.pw (l + 1) - 1)), .int .i64 (z + (Mo.pw (l + 1) - 1))] else undef)) rfl rfl (by kernel_rfl) (fun _ _ _ h => h) (by cases c1 with | false => exact .no (by rfl) | true => exact (.call (f := 53) (args := #[.agg #[.int .i64 x, .int .i64 y, .int .i64 z, .int .i64 L]]) (by rfl) (fun W => by go_simp) (fun W hg => far_L x y z L (l + 1) W HL.out HS.out))) ?_
  simp only [Act.put, List.setIfInBounds_toArray, List.set_cons_zero, List.set_cons_succ]
  refine wpK_tk (i := 8) (some 38) (v := (bif c1 then .bool c2 else undef)) rfl rfl (by kernel_rfl) (fun _ _ _ h => h) (by cases c1 with | false => exact .no (by rfl) | true => exact (.call (f := 33) (args := #[.agg #[.int .i64 b1, .int .i64 b2, .int .i64 b3, .int .i64 b4, .int .i64 b5, .int .i64 b6], .agg #[.int .i64 (x + (Mo.pw (l + 1) - 1)), .int .i64 (y + (Mo.pw (l + 1) - 1)), .int .i64 (z + (Mo.pw (l + 1) - 1))]]) (by rfl) (fun W => by go_simp) (fun W hg => cell_K b1 b2 b3 b4 b5 b6 (x + (Mo.pw (l + 1) - 1)) (y + (Mo.pw (l + 1) - 1)) (z + (Mo.pw (l + 1) - 1)) c2 W HC2.out))) ?_
  simp only [Act.put, List.setIfInBounds_toArray, List.set_cons_zero, List.set_cons_succ]
  refine wpK_ta (i := 9) (some 39) (v := .bool (c1 && c2)) rfl rfl (by kernel_rfl) (fun _ _ _ h => h) (Or.inl ⟨by rfl, fun W => by cases c1 <;> go_simp⟩) ?_
  simp only [Act.put, List.setIfInBounds_toArray, List.set_cons_zero, List.set_cons_succ]
  obtain ⟨c10, hc10⟩ : ∃ b, b = (c1 && c2) := ⟨_, rfl⟩
  rw [← hc10]
  have Hc10 := Lib.hid hc10
  clear hc10
  refine wpK_ta (i := 10) (some 9) (v := .bool c10) rfl rfl (by kernel_rfl) (fun _ _ _ h => h) (Or.inl ⟨rfl, fun _ => rfl⟩) ?_
  simp only [Act.put, List.setIfInBounds_toArray, List.set_cons_zero, List.set_cons_succ]
  refine wpK_done (by kernel_rfl) (fun V11 hv12 => ?_) _
  have GC13 := Lib.hid (GC9.out.trans (Gr.un hv12))
  clear hv12
  rw [show c10 = false from HCV.out _ Hc10.out]
  go_upto_region 6 with fail
  refine wpG_region ?_
  refine @wpG_tk _ _ _ _ _ (some 40) (.bool false) _ _ rfl (.val (by rfl) (fun _ _ => rfl)) ?_
  simp only [Act.put, List.setIfInBounds_toArray, List.set_cons_zero, List.set_cons_succ]
  refine wpG_done (fun V14 hv15 => ?_)
  have GC16 := Lib.hid (GC13.out.trans hv15)
  clear hv15
  go_upto_region 8 with fail
  refine wpG_region ?_
  refine @wpG_tk _ _ _ _ _ (some 10) (.int .i64 0) _ _ rfl (.val (by rfl) (fun _ _ => rfl)) ?_
  simp only [Act.put, List.setIfInBounds_toArray, List.set_cons_zero, List.set_cons_succ]
  refine wpG_done (fun V17 hv18 => ?_)
  have GC19 := Lib.hid (GC16.out.trans hv18)
  clear hv18
  obtain ⟨rv, hrv⟩ : ∃ r, r = Mo.fn (fun o => Mo.nx b1 b2 b3 b4 b5 b6 n l (x + Mo.cx 0 o l) (y + Mo.cx 1 o l) (z + Mo.cx 2 o l)) 8 0 := ⟨_, rfl⟩
  have HR := Lib.hid hrv
  clear hrv
  go_wp2_with fail
  go_loopw [10] (fun i wr => ∃ o k : Nat, i = .int .i64 (o : Int) ∧ o + k = 8 ∧ rv = Mo.fn (fun o => Mo.nx b1 b2 b3 b4 b5 b6 n l (x + Mo.cx 0 o l) (y + Mo.cx 1 o l) (z + Mo.cx 2 o l)) k o ∧ Gr u wr) (fun i _ => 8 - (intOf i).toNat)
  case atStart => exact ⟨0, 8, rfl, rfl, HR.out, GC19.out⟩
  case round =>
    obtain ⟨o, k, rfl, hk, hrf, hG⟩ := hrel
    have HG := Lib.hid hG
    clear hG
    cases k with
    | zero =>
      have ho : o = 8 := by omega
      have HRF := Lib.hid hrf
      clear hrf hk
      obtain rfl := ho
      go_upto_region 9 with fail
      refine wpG_region ?_
      refine @wpG_tk _ _ _ _ _ (some 44) (.int .i64 8) _ _ rfl (.val (by rfl) (fun _ _ => rfl)) ?_
      simp only [Act.put, List.setIfInBounds_toArray, List.set_cons_zero, List.set_cons_succ]
      refine @wpG_tk _ _ _ _ _ (some 45) (.bool false) _ _ rfl (.val (by rfl) (fun W hg => by go_simp)) ?_
      simp only [Act.put, List.setIfInBounds_toArray, List.set_cons_zero, List.set_cons_succ]
      refine wpG_done (fun V20 hv21 => ?_)
      have GC22 := Lib.hid (HG.out.trans hv21)
      clear hv21
      go_upto_region 14 with fail
      refine wpG_region ?_
      refine @wpG_tk _ _ _ _ _ (some 6) (.int .i64 (-1)) _ _ rfl (.val (by rfl) (fun _ _ => rfl)) ?_
      simp only [Act.put, List.setIfInBounds_toArray, List.set_cons_zero, List.set_cons_succ]
      refine wpG_done (fun V23 hv24 => ?_)
      have GC25 := Lib.hid (GC22.out.trans hv24)
      clear hv24
      go_wp2_with fail
      go_ret
      exact ⟨ret_int (by rw [← HR.out, HRF.out]; rfl), Gr.to G0.out GC25.out⟩
    | succ k =>
      obtain ⟨d0, hd0⟩ : ∃ d, d = x + Mo.cx 0 o l := ⟨_, rfl⟩
      have H0 := Lib.hid hd0
      obtain ⟨d1, hd1⟩ : ∃ d, d = y + Mo.cx 1 o l := ⟨_, rfl⟩
      have H1 := Lib.hid hd1
      obtain ⟨d2, hd2⟩ : ∃ d, d = z + Mo.cx 2 o l := ⟨_, rfl⟩
      have H2 := Lib.hid hd2
      have hsc := Mo.sits_child HS.out o
      rw [← hd0, ← hd1, ← hd2] at hsc
      have HSC := Lib.hid hsc
      obtain ⟨v, hv⟩ : ∃ v, v = Mo.nx b1 b2 b3 b4 b5 b6 n l d0 d1 d2 := ⟨_, rfl⟩
      have hvg : v = (fun o => Mo.nx b1 b2 b3 b4 b5 b6 n l (x + Mo.cx 0 o l) (y + Mo.cx 1 o l) (z + Mo.cx 2 o l)) o := by rw [hv, hd0, hd1, hd2]
      have HV := Lib.hid hv
      clear hd0 hd1 hd2 hsc hv
      by_cases h0 : 0 ≤ v
      · have hfin : rv = v := by rw [hrf]; exact Mo.fn_yes2 hvg h0
        have HF := Lib.hid hfin
        clear hfin hvg hrf
        go_upto_region 9 with fail
        refine wpG_region ?_
        refine @wpG_tk _ _ _ _ _ (some 44) (.int .i64 (o : Int)) _ _ rfl (.val (by rfl) (fun _ _ => rfl)) ?_
        simp only [Act.put, List.setIfInBounds_toArray, List.set_cons_zero, List.set_cons_succ]
        refine @wpG_tk _ _ _ _ _ (some 45) (.bool true) _ _ rfl (.val (by rfl) (fun W hg => by have hq : ((o : Int) < 8) := (by omega); first | (go_simp; done) | (go_simp <;> omega))) ?_
        simp only [Act.put, List.setIfInBounds_toArray, List.set_cons_zero, List.set_cons_succ]
        refine wpG_done (fun V26 hv27 => ?_)
        have GC28 := Lib.hid (HG.out.trans hv27)
        clear hv27
        go_upto_region 11 with fail
        refine wpK_region (by kernel_rfl) ?_
        refine wpK_tk (i := 0) (some 48) (v := .agg #[.int .i64 b1, .int .i64 b2, .int .i64 b3, .int .i64 b4, .int .i64 b5, .int .i64 b6]) rfl rfl (by kernel_rfl) (fun _ _ _ h => h) (.load_mid (by rfl) 37 (.tmp 3) rfl (w.heap.size) 0 rfl [.int .i64 b1, .int .i64 b2, .int .i64 b3, .int .i64 b4, .int .i64 b5, .int .i64 b6] _ (fun W hg => (R0.out.below (GC28.out.trans (Gr.un hg))).range) Try.underlying37 rfl (by kernel_rfl)) ?_
        simp only [Act.put, List.setIfInBounds_toArray, List.set_cons_zero, List.set_cons_succ]
        refine wpK_tk (i := 1) (some 49) (v := .agg #[.int .i64 x, .int .i64 y, .int .i64 z, .int .i64 L]) rfl rfl (by kernel_rfl) (fun _ _ _ h => h) (.load_mid (by rfl) 27 (.tmp 4) rfl (w.heap.size + 1) 0 rfl [.int .i64 x, .int .i64 y, .int .i64 z, .int .i64 L] _ (fun W hg => (R1.out.below (GC28.out.trans (Gr.un hg))).range) Try.underlying27 rfl (by kernel_rfl)) ?_
        simp only [Act.put, List.setIfInBounds_toArray, List.set_cons_zero, List.set_cons_succ]
        refine wpK_ta (i := 2) (some 50) (v := .int .i64 (o : Int)) rfl rfl (by kernel_rfl) (fun _ _ _ h => h) (Or.inl ⟨rfl, fun _ => rfl⟩) ?_
        simp only [Act.put, List.setIfInBounds_toArray, List.set_cons_zero, List.set_cons_succ]
        refine wpK_tk (i := 3) (some 51) (v := .agg #[.int .i64 d0, .int .i64 d1, .int .i64 d2, .int .i64 (L - 1)]) rfl rfl (by kernel_rfl) (fun _ _ _ h => h) (.call (f := 54) (args := #[.agg #[.int .i64 x, .int .i64 y, .int .i64 z, .int .i64 L], .int .i64 (o : Int)]) (by rfl) (fun W => by go_simp) (fun W hg => (H0.out ▸ H1.out ▸ H2.out ▸ rchild_L x y z L l o W HL.out HS.out (by omega)))) ?_
        simp only [Act.put, List.setIfInBounds_toArray, List.set_cons_zero, List.set_cons_succ]
        refine wpK_ta (i := 4) (some 52) (v := .int .i64 n) rfl rfl (by kernel_rfl) (fun _ _ _ h => h) (Or.inl ⟨rfl, fun _ => rfl⟩) ?_
        simp only [Act.put, List.setIfInBounds_toArray, List.set_cons_zero, List.set_cons_succ]
        refine wpK_tk (i := 5) (some 53) (v := .int .i64 v) rfl rfl (by kernel_rfl) (fun _ _ _ h => h) (.call (f := 48) (args := #[.agg #[.int .i64 b1, .int .i64 b2, .int .i64 b3, .int .i64 b4, .int .i64 b5, .int .i64 b6], .agg #[.int .i64 d0, .int .i64 d1, .int .i64 d2, .int .i64 (L - 1)], .int .i64 n]) (by rfl) (fun W => by go_simp) (fun W hg => (HV.out ▸ ih d0 d1 d2 (L - 1) W (by have := HL.out; omega) HSC.out))) ?_
        simp only [Act.put, List.setIfInBounds_toArray, List.set_cons_zero, List.set_cons_succ]
        refine wpK_ta (i := 6) (some 11) (v := .int .i64 v) rfl rfl (by kernel_rfl) (fun _ _ _ h => h) (Or.inl ⟨rfl, fun _ => rfl⟩) ?_
        simp only [Act.put, List.setIfInBounds_toArray, List.set_cons_zero, List.set_cons_succ]
        refine wpK_done (by kernel_rfl) (fun V29 hv30 => ?_) _
        have GC31 := Lib.hid (GC28.out.trans (Gr.un hv30))
        clear hv30
        go_upto_region 12 with fail
        refine wpG_region ?_
        refine @wpG_tk _ _ _ _ _ (some 54) (.int .i64 v) _ _ rfl (.val (by rfl) (fun _ _ => rfl)) ?_
        simp only [Act.put, List.setIfInBounds_toArray, List.set_cons_zero, List.set_cons_succ]
        refine @wpG_tk _ _ _ _ _ (some 55) (.bool true) _ _ rfl (.val (by rfl) (fun W hg => by have hq : (v ≥ 0) := (by omega); first | (go_simp; done) | (go_simp <;> omega))) ?_
        simp only [Act.put, List.setIfInBounds_toArray, List.set_cons_zero, List.set_cons_succ]
        refine wpG_done (fun V32 hv33 => ?_)
        have GC34 := Lib.hid (GC31.out.trans hv33)
        clear hv33
        go_upto_region 13 with fail
        refine wpG_region ?_
        refine @wpG_tk _ _ _ _ _ (some 56) (.int .i64 v) _ _ rfl (.val (by rfl) (fun _ _ => rfl)) ?_
        simp only [Act.put, List.setIfInBounds_toArray, List.set_cons_zero, List.set_cons_succ]
        refine @wpG_tk _ _ _ _ _ (some 6) (.int .i64 v) _ _ rfl (.val (by rfl) (fun _ _ => rfl)) ?_
        simp only [Act.put, List.setIfInBounds_toArray, List.set_cons_zero, List.set_cons_succ]
        refine wpG_done (fun V35 hv36 => ?_)
        have GC37 := Lib.hid (GC34.out.trans hv36)
        clear hv36
        go_wp2_with fail
        go_ret
        exact ⟨ret_int (by rw [← HR.out, HF.out]), Gr.to G0.out GC37.out⟩
      · have hfin : rv = Mo.fn (fun o => Mo.nx b1 b2 b3 b4 b5 b6 n l (x + Mo.cx 0 o l) (y + Mo.cx 1 o l) (z + Mo.cx 2 o l)) k (o + 1) := by rw [hrf]; exact Mo.fn_no2 hvg h0
        have HF := Lib.hid hfin
        clear hfin hvg hrf
        go_upto_region 9 with fail
        refine wpG_region ?_
        refine @wpG_tk _ _ _ _ _ (some 44) (.int .i64 (o : Int)) _ _ rfl (.val (by rfl) (fun _ _ => rfl)) ?_
        simp only [Act.put, List.setIfInBounds_toArray, List.set_cons_zero, List.set_cons_succ]
        refine @wpG_tk _ _ _ _ _ (some 45) (.bool true) _ _ rfl (.val (by rfl) (fun W hg => by have hq : ((o : Int) < 8) := (by omega); first | (go_simp; done) | (go_simp <;> omega))) ?_
        simp only [Act.put, List.setIfInBounds_toArray, List.set_cons_zero, List.set_cons_succ]
        refine wpG_done (fun V38 hv39 => ?_)
        have GC40 := Lib.hid (HG.out.trans hv39)
        clear hv39
        go_upto_region 11 with fail
        refine wpK_region (by kernel_rfl) ?_
        refine wpK_tk (i := 0) (some 48) (v := .agg #[.int .i64 b1, .int .i64 b2, .int .i64 b3, .int .i64 b4, .int .i64 b5, .int .i64 b6]) rfl rfl (by kernel_rfl) (fun _ _ _ h => h) (.load_mid (by rfl) 37 (.tmp 3) rfl (w.heap.size) 0 rfl [.int .i64 b1, .int .i64 b2, .int .i64 b3, .int .i64 b4, .int .i64 b5, .int .i64 b6] _ (fun W hg => (R0.out.below (GC40.out.trans (Gr.un hg))).range) Try.underlying37 rfl (by kernel_rfl)) ?_
        simp only [Act.put, List.setIfInBounds_toArray, List.set_cons_zero, List.set_cons_succ]
        refine wpK_tk (i := 1) (some 49) (v := .agg #[.int .i64 x, .int .i64 y, .int .i64 z, .int .i64 L]) rfl rfl (by kernel_rfl) (fun _ _ _ h => h) (.load_mid (by rfl) 27 (.tmp 4) rfl (w.heap.size + 1) 0 rfl [.int .i64 x, .int .i64 y, .int .i64 z, .int .i64 L] _ (fun W hg => (R1.out.below (GC40.out.trans (Gr.un hg))).range) Try.underlying27 rfl (by kernel_rfl)) ?_
        simp only [Act.put, List.setIfInBounds_toArray, List.set_cons_zero, List.set_cons_succ]
        refine wpK_ta (i := 2) (some 50) (v := .int .i64 (o : Int)) rfl rfl (by kernel_rfl) (fun _ _ _ h => h) (Or.inl ⟨rfl, fun _ => rfl⟩) ?_
        simp only [Act.put, List.setIfInBounds_toArray, List.set_cons_zero, List.set_cons_succ]
        refine wpK_tk (i := 3) (some 51) (v := .agg #[.int .i64 d0, .int .i64 d1, .int .i64 d2, .int .i64 (L - 1)]) rfl rfl (by kernel_rfl) (fun _ _ _ h => h) (.call (f := 54) (args := #[.agg #[.int .i64 x, .int .i64 y, .int .i64 z, .int .i64 L], .int .i64 (o : Int)]) (by rfl) (fun W => by go_simp) (fun W hg => (H0.out ▸ H1.out ▸ H2.out ▸ rchild_L x y z L l o W HL.out HS.out (by omega)))) ?_
        simp only [Act.put, List.setIfInBounds_toArray, List.set_cons_zero, List.set_cons_succ]
        refine wpK_ta (i := 4) (some 52) (v := .int .i64 n) rfl rfl (by kernel_rfl) (fun _ _ _ h => h) (Or.inl ⟨rfl, fun _ => rfl⟩) ?_
        simp only [Act.put, List.setIfInBounds_toArray, List.set_cons_zero, List.set_cons_succ]
        refine wpK_tk (i := 5) (some 53) (v := .int .i64 v) rfl rfl (by kernel_rfl) (fun _ _ _ h => h) (.call (f := 48) (args := #[.agg #[.int .i64 b1, .int .i64 b2, .int .i64 b3, .int .i64 b4, .int .i64 b5, .int .i64 b6], .agg #[.int .i64 d0, .int .i64 d1, .int .i64 d2, .int .i64 (L - 1)], .int .i64 n]) (by rfl) (fun W => by go_simp) (fun W hg => (HV.out ▸ ih d0 d1 d2 (L - 1) W (by have := HL.out; omega) HSC.out))) ?_
        simp only [Act.put, List.setIfInBounds_toArray, List.set_cons_zero, List.set_cons_succ]
        refine wpK_ta (i := 6) (some 11) (v := .int .i64 v) rfl rfl (by kernel_rfl) (fun _ _ _ h => h) (Or.inl ⟨rfl, fun _ => rfl⟩) ?_
        simp only [Act.put, List.setIfInBounds_toArray, List.set_cons_zero, List.set_cons_succ]
        refine wpK_done (by kernel_rfl) (fun V41 hv42 => ?_) _
        have GC43 := Lib.hid (GC40.out.trans (Gr.un hv42))
        clear hv42
        go_upto_region 12 with fail
        refine wpG_region ?_
        refine @wpG_tk _ _ _ _ _ (some 54) (.int .i64 v) _ _ rfl (.val (by rfl) (fun _ _ => rfl)) ?_
        simp only [Act.put, List.setIfInBounds_toArray, List.set_cons_zero, List.set_cons_succ]
        refine @wpG_tk _ _ _ _ _ (some 55) (.bool false) _ _ rfl (.val (by rfl) (fun W hg => by have hq : ¬ (v ≥ 0) := (by omega); first | (go_simp; done) | (go_simp <;> omega))) ?_
        simp only [Act.put, List.setIfInBounds_toArray, List.set_cons_zero, List.set_cons_succ]
        refine wpG_done (fun V44 hv45 => ?_)
        have GC46 := Lib.hid (GC43.out.trans hv45)
        clear hv45
        go_upto_region 10 with fail
        refine wpG_region ?_
        refine @wpG_tk _ _ _ _ _ (some 46) (.int .i64 (o : Int)) _ _ rfl (.val (by rfl) (fun _ _ => rfl)) ?_
        simp only [Act.put, List.setIfInBounds_toArray, List.set_cons_zero, List.set_cons_succ]
        refine @wpG_tk _ _ _ _ _ (some 47) (.int .i64 ((o : Int) + 1)) _ _ rfl (.val (by rfl) (fun W hg => by (first | (go_simp; done) | (go_simp; rw [IntWalk.i64_in _ (by omega)])))) ?_
        simp only [Act.put, List.setIfInBounds_toArray, List.set_cons_zero, List.set_cons_succ]
        refine @wpG_tk _ _ _ _ _ (some 10) (.int .i64 ((o : Int) + 1)) _ _ rfl (.val (by rfl) (fun _ _ => rfl)) ?_
        simp only [Act.put, List.setIfInBounds_toArray, List.set_cons_zero, List.set_cons_succ]
        refine wpG_done (fun V47 hv48 => ?_)
        have GC49 := Lib.hid (GC46.out.trans hv48)
        clear hv48
        go_wp2_with fail
        go_roundw
        case rel => exact ⟨o + 1, k, by go_num, by omega, HF.out, GC49.out⟩
        case measure => first | (simp [intOf]; done) | (simp [intOf]; omega)
theorem least_any (b1 b2 b3 b4 b5 b6 n : Int) (hb : b1 < b4 ∧ b2 < b5 ∧ b3 < b6) : ∀ (l : Nat) (x y z L : Int) (w : World), L = (l : Int) → Mo.sits x y z l → Calls Try.prog 48 #[.agg #[.int .i64 b1, .int .i64 b2, .int .i64 b3, .int .i64 b4, .int .i64 b5, .int .i64 b6], .agg #[.int .i64 x, .int .i64 y, .int .i64 z, .int .i64 L], .int .i64 n] w fun e w' => e = .returned (.int .i64 (Mo.nx b1 b2 b3 b4 b5 b6 n l x y z)) ∧ Below w.heap.size w w'
  | 0, x, y, z, L, w, hL, hs => by
    unfold Mo.nx
    cases hm : Mo.meets b1 b2 b3 b4 b5 b6 x y z 0 with
    | false => exact least_a b1 b2 b3 b4 b5 b6 n x y z L 0 w hL hs hb hm
    | true =>
      rw [Mo.within0 hm]
      by_cases hq : Mo.enc x y z + Mo.pw (3 * 0) - 1 < n
      · rw [Mo.stepN_b hq]; exact least_b b1 b2 b3 b4 b5 b6 n x y z L 0 w hL hs hb hm hq
      · rw [Mo.stepN_c hq]; exact least_c b1 b2 b3 b4 b5 b6 n x y z L 0 w hL hs hb hm (Mo.within0 hm) hq
  | l + 1, x, y, z, L, w, hL, hs => by
    unfold Mo.nx
    cases hm : Mo.meets b1 b2 b3 b4 b5 b6 x y z (l + 1) with
    | false => exact least_a b1 b2 b3 b4 b5 b6 n x y z L (l + 1) w hL hs hb hm
    | true =>
      by_cases hq : Mo.enc x y z + Mo.pw (3 * (l + 1)) - 1 < n
      · rw [Mo.stepN_b hq]; exact least_b b1 b2 b3 b4 b5 b6 n x y z L (l + 1) w hL hs hb hm hq
      · cases hw : Mo.within b1 b2 b3 b4 b5 b6 x y z (l + 1) with
        | true => rw [Mo.stepN_c hq]; exact least_c b1 b2 b3 b4 b5 b6 n x y z L (l + 1) w hL hs hb hm hw hq
        | false => rw [Mo.stepN_d hq]; exact least_d b1 b2 b3 b4 b5 b6 n x y z L l w (by rw [hL]; rfl) hs hb hm hw hq (fun x y z L w h1 h2 => least_any b1 b2 b3 b4 b5 b6 n hb l x y z L w h1 h2)
set_option maxRecDepth 1000000 in
set_option maxHeartbeats 4000000 in
theorem rnext_0 (b1 b2 b3 b4 b5 b6 n : Int) (w : World) (h0 : b1 ≥ b4) :
    Calls Try.prog 29 #[.agg #[.int .i64 b1, .int .i64 b2, .int .i64 b3, .int .i64 b4, .int .i64 b5, .int .i64 b6], .int .i64 n] w fun e w' => e = .returned (.int .i64 (-1)) ∧ Below w.heap.size w w' := by
  obtain ⟨u, hu, r0, g0⟩ := rows1 w [.int .i64 b1, .int .i64 b2, .int .i64 b3, .int .i64 b4, .int .i64 b5, .int .i64 b6] 37
  have R0 := Lib.hid r0
  have G0 := Lib.hid g0
  have HU := Lib.hid hu
  clear hu g0 r0
  go_enter Try.func29, Try.ntmps29
  go_upto_region 1 with fail
  rw [← HU.out]
  refine wpG_region ?_
  refine @wpG_tk _ _ _ _ _ (some 5) (.pointer (some ⟨w.heap.size, 0, none⟩)) _ _ rfl (.val (by rfl) (fun W hg => by go_simp)) ?_
  simp only [Act.put, List.setIfInBounds_toArray, List.set_cons_zero, List.set_cons_succ]
  refine @wpG_tk _ _ _ _ _ (some 6) (.pointer (some ⟨w.heap.size, 0, none⟩)) _ _ rfl (.val (by rfl) (fun W hg => by go_simp)) ?_
  simp only [Act.put, List.setIfInBounds_toArray, List.set_cons_zero, List.set_cons_succ]
  refine @wpG_tk _ _ _ _ _ (some 7) (.int .i64 b1) _ _ rfl (.val (by rfl) (fun W hg => by have c := (R0.out.below hg 0 _ rfl).1; go_simp)) ?_
  simp only [Act.put, List.setIfInBounds_toArray, List.set_cons_zero, List.set_cons_succ]
  refine @wpG_tk _ _ _ _ _ (some 8) (.pointer (some ⟨w.heap.size, 3, none⟩)) _ _ rfl (.val (by rfl) (fun W hg => by go_simp)) ?_
  simp only [Act.put, List.setIfInBounds_toArray, List.set_cons_zero, List.set_cons_succ]
  refine @wpG_tk _ _ _ _ _ (some 9) (.pointer (some ⟨w.heap.size, 3, none⟩)) _ _ rfl (.val (by rfl) (fun W hg => by go_simp)) ?_
  simp only [Act.put, List.setIfInBounds_toArray, List.set_cons_zero, List.set_cons_succ]
  refine @wpG_tk _ _ _ _ _ (some 10) (.int .i64 b4) _ _ rfl (.val (by rfl) (fun W hg => by have c := (R0.out.below hg 3 _ rfl).1; go_simp)) ?_
  simp only [Act.put, List.setIfInBounds_toArray, List.set_cons_zero, List.set_cons_succ]
  refine @wpG_tk _ _ _ _ _ (some 11) (.bool true) _ _ rfl (.val (by rfl) (fun W hg => by have hq : (b1 ≥ b4) := (by omega); first | (go_simp; done) | (go_simp <;> omega))) ?_
  simp only [Act.put, List.setIfInBounds_toArray, List.set_cons_zero, List.set_cons_succ]
  refine @wpG_tk _ _ _ _ _ (some 12) (.bool true) _ _ rfl (.val (by rfl) (fun _ _ => rfl)) ?_
  simp only [Act.put, List.setIfInBounds_toArray, List.set_cons_zero, List.set_cons_succ]
  refine @wpG_tk _ _ _ _ _ (some 13) (undef) _ _ rfl (.no (by rfl)) ?_
  simp only [Act.put, List.setIfInBounds_toArray, List.set_cons_zero, List.set_cons_succ]
  refine @wpG_tk _ _ _ _ _ (some 14) (undef) _ _ rfl (.no (by rfl)) ?_
  simp only [Act.put, List.setIfInBounds_toArray, List.set_cons_zero, List.set_cons_succ]
  refine @wpG_tk _ _ _ _ _ (some 15) (undef) _ _ rfl (.no (by rfl)) ?_
  simp only [Act.put, List.setIfInBounds_toArray, List.set_cons_zero, List.set_cons_succ]
  refine @wpG_tk _ _ _ _ _ (some 16) (undef) _ _ rfl (.no (by rfl)) ?_
  simp only [Act.put, List.setIfInBounds_toArray, List.set_cons_zero, List.set_cons_succ]
  refine @wpG_tk _ _ _ _ _ (some 17) (undef) _ _ rfl (.no (by rfl)) ?_
  simp only [Act.put, List.setIfInBounds_toArray, List.set_cons_zero, List.set_cons_succ]
  refine @wpG_tk _ _ _ _ _ (some 18) (undef) _ _ rfl (.no (by rfl)) ?_
  simp only [Act.put, List.setIfInBounds_toArray, List.set_cons_zero, List.set_cons_succ]
  refine @wpG_tk _ _ _ _ _ (some 19) (undef) _ _ rfl (.no (by rfl)) ?_
  simp only [Act.put, List.setIfInBounds_toArray, List.set_cons_zero, List.set_cons_succ]
  refine @wpG_tk _ _ _ _ _ (some 20) (.bool true) _ _ rfl (.val (by rfl) (fun W hg => by go_simp)) ?_
  simp only [Act.put, List.setIfInBounds_toArray, List.set_cons_zero, List.set_cons_succ]
  refine @wpG_tk _ _ _ _ _ (some 21) (.bool true) _ _ rfl (.val (by rfl) (fun _ _ => rfl)) ?_
  simp only [Act.put, List.setIfInBounds_toArray, List.set_cons_zero, List.set_cons_succ]
  refine @wpG_tk _ _ _ _ _ (some 22) (undef) _ _ rfl (.no (by rfl)) ?_
  simp only [Act.put, List.setIfInBounds_toArray, List.set_cons_zero, List.set_cons_succ]
  refine @wpG_tk _ _ _ _ _ (some 23) (undef) _ _ rfl (.no (by rfl)) ?_
  simp only [Act.put, List.setIfInBounds_toArray, List.set_cons_zero, List.set_cons_succ]
  refine @wpG_tk _ _ _ _ _ (some 24) (undef) _ _ rfl (.no (by rfl)) ?_
  simp only [Act.put, List.setIfInBounds_toArray, List.set_cons_zero, List.set_cons_succ]
  refine @wpG_tk _ _ _ _ _ (some 25) (undef) _ _ rfl (.no (by rfl)) ?_
  simp only [Act.put, List.setIfInBounds_toArray, List.set_cons_zero, List.set_cons_succ]
  refine @wpG_tk _ _ _ _ _ (some 26) (undef) _ _ rfl (.no (by rfl)) ?_
  simp only [Act.put, List.setIfInBounds_toArray, List.set_cons_zero, List.set_cons_succ]
  refine @wpG_tk _ _ _ _ _ (some 27) (undef) _ _ rfl (.no (by rfl)) ?_
  simp only [Act.put, List.setIfInBounds_toArray, List.set_cons_zero, List.set_cons_succ]
  refine @wpG_tk _ _ _ _ _ (some 28) (undef) _ _ rfl (.no (by rfl)) ?_
  simp only [Act.put, List.setIfInBounds_toArray, List.set_cons_zero, List.set_cons_succ]
  refine @wpG_tk _ _ _ _ _ (some 29) (.bool true) _ _ rfl (.val (by rfl) (fun W hg => by go_simp)) ?_
  simp only [Act.put, List.setIfInBounds_toArray, List.set_cons_zero, List.set_cons_succ]
  refine wpG_done (fun V1 hv2 => ?_)
  have GC3 := Lib.hid hv2
  clear hv2
  go_upto_region 2 with fail
  refine wpG_region ?_
  refine @wpG_tk _ _ _ _ _ (some 4) (.int .i64 (-1)) _ _ rfl (.val (by rfl) (fun _ _ => rfl)) ?_
  simp only [Act.put, List.setIfInBounds_toArray, List.set_cons_zero, List.set_cons_succ]
  refine wpG_done (fun V4 hv5 => ?_)
  have GC6 := Lib.hid (GC3.out.trans hv5)
  clear hv5
  go_wp2_with fail
  go_ret
  exact ⟨rfl, Gr.to G0.out GC6.out⟩
set_option maxRecDepth 1000000 in
set_option maxHeartbeats 4000000 in
theorem rnext_1 (b1 b2 b3 b4 b5 b6 n : Int) (w : World) (h0 : ¬ b1 ≥ b4) (h1 : b2 ≥ b5) :
    Calls Try.prog 29 #[.agg #[.int .i64 b1, .int .i64 b2, .int .i64 b3, .int .i64 b4, .int .i64 b5, .int .i64 b6], .int .i64 n] w fun e w' => e = .returned (.int .i64 (-1)) ∧ Below w.heap.size w w' := by
  obtain ⟨u, hu, r0, g0⟩ := rows1 w [.int .i64 b1, .int .i64 b2, .int .i64 b3, .int .i64 b4, .int .i64 b5, .int .i64 b6] 37
  have R0 := Lib.hid r0
  have G0 := Lib.hid g0
  have HU := Lib.hid hu
  clear hu g0 r0
  go_enter Try.func29, Try.ntmps29
  go_upto_region 1 with fail
  rw [← HU.out]
  refine wpG_region ?_
  refine @wpG_tk _ _ _ _ _ (some 5) (.pointer (some ⟨w.heap.size, 0, none⟩)) _ _ rfl (.val (by rfl) (fun W hg => by go_simp)) ?_
  simp only [Act.put, List.setIfInBounds_toArray, List.set_cons_zero, List.set_cons_succ]
  refine @wpG_tk _ _ _ _ _ (some 6) (.pointer (some ⟨w.heap.size, 0, none⟩)) _ _ rfl (.val (by rfl) (fun W hg => by go_simp)) ?_
  simp only [Act.put, List.setIfInBounds_toArray, List.set_cons_zero, List.set_cons_succ]
  refine @wpG_tk _ _ _ _ _ (some 7) (.int .i64 b1) _ _ rfl (.val (by rfl) (fun W hg => by have c := (R0.out.below hg 0 _ rfl).1; go_simp)) ?_
  simp only [Act.put, List.setIfInBounds_toArray, List.set_cons_zero, List.set_cons_succ]
  refine @wpG_tk _ _ _ _ _ (some 8) (.pointer (some ⟨w.heap.size, 3, none⟩)) _ _ rfl (.val (by rfl) (fun W hg => by go_simp)) ?_
  simp only [Act.put, List.setIfInBounds_toArray, List.set_cons_zero, List.set_cons_succ]
  refine @wpG_tk _ _ _ _ _ (some 9) (.pointer (some ⟨w.heap.size, 3, none⟩)) _ _ rfl (.val (by rfl) (fun W hg => by go_simp)) ?_
  simp only [Act.put, List.setIfInBounds_toArray, List.set_cons_zero, List.set_cons_succ]
  refine @wpG_tk _ _ _ _ _ (some 10) (.int .i64 b4) _ _ rfl (.val (by rfl) (fun W hg => by have c := (R0.out.below hg 3 _ rfl).1; go_simp)) ?_
  simp only [Act.put, List.setIfInBounds_toArray, List.set_cons_zero, List.set_cons_succ]
  refine @wpG_tk _ _ _ _ _ (some 11) (.bool false) _ _ rfl (.val (by rfl) (fun W hg => by have hq : ¬ (b1 ≥ b4) := (by omega); first | (go_simp; done) | (go_simp <;> omega))) ?_
  simp only [Act.put, List.setIfInBounds_toArray, List.set_cons_zero, List.set_cons_succ]
  refine @wpG_tk _ _ _ _ _ (some 12) (.bool false) _ _ rfl (.val (by rfl) (fun _ _ => rfl)) ?_
  simp only [Act.put, List.setIfInBounds_toArray, List.set_cons_zero, List.set_cons_succ]
  refine @wpG_tk _ _ _ _ _ (some 13) (.pointer (some ⟨w.heap.size, 0, none⟩)) _ _ rfl (.val (by rfl) (fun W hg => by go_simp)) ?_
  simp only [Act.put, List.setIfInBounds_toArray, List.set_cons_zero, List.set_cons_succ]
  refine @wpG_tk _ _ _ _ _ (some 14) (.pointer (some ⟨w.heap.size, 1, none⟩)) _ _ rfl (.val (by rfl) (fun W hg => by go_simp)) ?_
  simp only [Act.put, List.setIfInBounds_toArray, List.set_cons_zero, List.set_cons_succ]
  refine @wpG_tk _ _ _ _ _ (some 15) (.int .i64 b2) _ _ rfl (.val (by rfl) (fun W hg => by have c := (R0.out.below hg 1 _ rfl).1; go_simp)) ?_
  simp only [Act.put, List.setIfInBounds_toArray, List.set_cons_zero, List.set_cons_succ]
  refine @wpG_tk _ _ _ _ _ (some 16) (.pointer (some ⟨w.heap.size, 3, none⟩)) _ _ rfl (.val (by rfl) (fun W hg => by go_simp)) ?_
  simp only [Act.put, List.setIfInBounds_toArray, List.set_cons_zero, List.set_cons_succ]
  refine @wpG_tk _ _ _ _ _ (some 17) (.pointer (some ⟨w.heap.size, 4, none⟩)) _ _ rfl (.val (by rfl) (fun W hg => by go_simp)) ?_
  simp only [Act.put, List.setIfInBounds_toArray, List.set_cons_zero, List.set_cons_succ]
  refine @wpG_tk _ _ _ _ _ (some 18) (.int .i64 b5) _ _ rfl (.val (by rfl) (fun W hg => by have c := (R0.out.below hg 4 _ rfl).1; go_simp)) ?_
  simp only [Act.put, List.setIfInBounds_toArray, List.set_cons_zero, List.set_cons_succ]
  refine @wpG_tk _ _ _ _ _ (some 19) (.bool true) _ _ rfl (.val (by rfl) (fun W hg => by have hq : (b2 ≥ b5) := (by omega); first | (go_simp; done) | (go_simp <;> omega))) ?_
  simp only [Act.put, List.setIfInBounds_toArray, List.set_cons_zero, List.set_cons_succ]
  refine @wpG_tk _ _ _ _ _ (some 20) (.bool true) _ _ rfl (.val (by rfl) (fun W hg => by go_simp)) ?_
  simp only [Act.put, List.setIfInBounds_toArray, List.set_cons_zero, List.set_cons_succ]
  refine @wpG_tk _ _ _ _ _ (some 21) (.bool true) _ _ rfl (.val (by rfl) (fun _ _ => rfl)) ?_
  simp only [Act.put, List.setIfInBounds_toArray, List.set_cons_zero, List.set_cons_succ]
  refine @wpG_tk _ _ _ _ _ (some 22) (undef) _ _ rfl (.no (by rfl)) ?_
  simp only [Act.put, List.setIfInBounds_toArray, List.set_cons_zero, List.set_cons_succ]
  refine @wpG_tk _ _ _ _ _ (some 23) (undef) _ _ rfl (.no (by rfl)) ?_
  simp only [Act.put, List.setIfInBounds_toArray, List.set_cons_zero, List.set_cons_succ]
  refine @wpG_tk _ _ _ _ _ (some 24) (undef) _ _ rfl (.no (by rfl)) ?_
  simp only [Act.put, List.setIfInBounds_toArray, List.set_cons_zero, List.set_cons_succ]
  refine @wpG_tk _ _ _ _ _ (some 25) (undef) _ _ rfl (.no (by rfl)) ?_
  simp only [Act.put, List.setIfInBounds_toArray, List.set_cons_zero, List.set_cons_succ]
  refine @wpG_tk _ _ _ _ _ (some 26) (undef) _ _ rfl (.no (by rfl)) ?_
  simp only [Act.put, List.setIfInBounds_toArray, List.set_cons_zero, List.set_cons_succ]
  refine @wpG_tk _ _ _ _ _ (some 27) (undef) _ _ rfl (.no (by rfl)) ?_
  simp only [Act.put, List.setIfInBounds_toArray, List.set_cons_zero, List.set_cons_succ]
  refine @wpG_tk _ _ _ _ _ (some 28) (undef) _ _ rfl (.no (by rfl)) ?_
  simp only [Act.put, List.setIfInBounds_toArray, List.set_cons_zero, List.set_cons_succ]
  refine @wpG_tk _ _ _ _ _ (some 29) (.bool true) _ _ rfl (.val (by rfl) (fun W hg => by go_simp)) ?_
  simp only [Act.put, List.setIfInBounds_toArray, List.set_cons_zero, List.set_cons_succ]
  refine wpG_done (fun V1 hv2 => ?_)
  have GC3 := Lib.hid hv2
  clear hv2
  go_upto_region 2 with fail
  refine wpG_region ?_
  refine @wpG_tk _ _ _ _ _ (some 4) (.int .i64 (-1)) _ _ rfl (.val (by rfl) (fun _ _ => rfl)) ?_
  simp only [Act.put, List.setIfInBounds_toArray, List.set_cons_zero, List.set_cons_succ]
  refine wpG_done (fun V4 hv5 => ?_)
  have GC6 := Lib.hid (GC3.out.trans hv5)
  clear hv5
  go_wp2_with fail
  go_ret
  exact ⟨rfl, Gr.to G0.out GC6.out⟩
set_option maxRecDepth 1000000 in
set_option maxHeartbeats 4000000 in
theorem rnext_2 (b1 b2 b3 b4 b5 b6 n : Int) (w : World) (h0 : ¬ b1 ≥ b4) (h1 : ¬ b2 ≥ b5) (h2 : b3 ≥ b6) :
    Calls Try.prog 29 #[.agg #[.int .i64 b1, .int .i64 b2, .int .i64 b3, .int .i64 b4, .int .i64 b5, .int .i64 b6], .int .i64 n] w fun e w' => e = .returned (.int .i64 (-1)) ∧ Below w.heap.size w w' := by
  obtain ⟨u, hu, r0, g0⟩ := rows1 w [.int .i64 b1, .int .i64 b2, .int .i64 b3, .int .i64 b4, .int .i64 b5, .int .i64 b6] 37
  have R0 := Lib.hid r0
  have G0 := Lib.hid g0
  have HU := Lib.hid hu
  clear hu g0 r0
  go_enter Try.func29, Try.ntmps29
  go_upto_region 1 with fail
  rw [← HU.out]
  refine wpG_region ?_
  refine @wpG_tk _ _ _ _ _ (some 5) (.pointer (some ⟨w.heap.size, 0, none⟩)) _ _ rfl (.val (by rfl) (fun W hg => by go_simp)) ?_
  simp only [Act.put, List.setIfInBounds_toArray, List.set_cons_zero, List.set_cons_succ]
  refine @wpG_tk _ _ _ _ _ (some 6) (.pointer (some ⟨w.heap.size, 0, none⟩)) _ _ rfl (.val (by rfl) (fun W hg => by go_simp)) ?_
  simp only [Act.put, List.setIfInBounds_toArray, List.set_cons_zero, List.set_cons_succ]
  refine @wpG_tk _ _ _ _ _ (some 7) (.int .i64 b1) _ _ rfl (.val (by rfl) (fun W hg => by have c := (R0.out.below hg 0 _ rfl).1; go_simp)) ?_
  simp only [Act.put, List.setIfInBounds_toArray, List.set_cons_zero, List.set_cons_succ]
  refine @wpG_tk _ _ _ _ _ (some 8) (.pointer (some ⟨w.heap.size, 3, none⟩)) _ _ rfl (.val (by rfl) (fun W hg => by go_simp)) ?_
  simp only [Act.put, List.setIfInBounds_toArray, List.set_cons_zero, List.set_cons_succ]
  refine @wpG_tk _ _ _ _ _ (some 9) (.pointer (some ⟨w.heap.size, 3, none⟩)) _ _ rfl (.val (by rfl) (fun W hg => by go_simp)) ?_
  simp only [Act.put, List.setIfInBounds_toArray, List.set_cons_zero, List.set_cons_succ]
  refine @wpG_tk _ _ _ _ _ (some 10) (.int .i64 b4) _ _ rfl (.val (by rfl) (fun W hg => by have c := (R0.out.below hg 3 _ rfl).1; go_simp)) ?_
  simp only [Act.put, List.setIfInBounds_toArray, List.set_cons_zero, List.set_cons_succ]
  refine @wpG_tk _ _ _ _ _ (some 11) (.bool false) _ _ rfl (.val (by rfl) (fun W hg => by have hq : ¬ (b1 ≥ b4) := (by omega); first | (go_simp; done) | (go_simp <;> omega))) ?_
  simp only [Act.put, List.setIfInBounds_toArray, List.set_cons_zero, List.set_cons_succ]
  refine @wpG_tk _ _ _ _ _ (some 12) (.bool false) _ _ rfl (.val (by rfl) (fun _ _ => rfl)) ?_
  simp only [Act.put, List.setIfInBounds_toArray, List.set_cons_zero, List.set_cons_succ]
  refine @wpG_tk _ _ _ _ _ (some 13) (.pointer (some ⟨w.heap.size, 0, none⟩)) _ _ rfl (.val (by rfl) (fun W hg => by go_simp)) ?_
  simp only [Act.put, List.setIfInBounds_toArray, List.set_cons_zero, List.set_cons_succ]
  refine @wpG_tk _ _ _ _ _ (some 14) (.pointer (some ⟨w.heap.size, 1, none⟩)) _ _ rfl (.val (by rfl) (fun W hg => by go_simp)) ?_
  simp only [Act.put, List.setIfInBounds_toArray, List.set_cons_zero, List.set_cons_succ]
  refine @wpG_tk _ _ _ _ _ (some 15) (.int .i64 b2) _ _ rfl (.val (by rfl) (fun W hg => by have c := (R0.out.below hg 1 _ rfl).1; go_simp)) ?_
  simp only [Act.put, List.setIfInBounds_toArray, List.set_cons_zero, List.set_cons_succ]
  refine @wpG_tk _ _ _ _ _ (some 16) (.pointer (some ⟨w.heap.size, 3, none⟩)) _ _ rfl (.val (by rfl) (fun W hg => by go_simp)) ?_
  simp only [Act.put, List.setIfInBounds_toArray, List.set_cons_zero, List.set_cons_succ]
  refine @wpG_tk _ _ _ _ _ (some 17) (.pointer (some ⟨w.heap.size, 4, none⟩)) _ _ rfl (.val (by rfl) (fun W hg => by go_simp)) ?_
  simp only [Act.put, List.setIfInBounds_toArray, List.set_cons_zero, List.set_cons_succ]
  refine @wpG_tk _ _ _ _ _ (some 18) (.int .i64 b5) _ _ rfl (.val (by rfl) (fun W hg => by have c := (R0.out.below hg 4 _ rfl).1; go_simp)) ?_
  simp only [Act.put, List.setIfInBounds_toArray, List.set_cons_zero, List.set_cons_succ]
  refine @wpG_tk _ _ _ _ _ (some 19) (.bool false) _ _ rfl (.val (by rfl) (fun W hg => by have hq : ¬ (b2 ≥ b5) := (by omega); first | (go_simp; done) | (go_simp <;> omega))) ?_
  simp only [Act.put, List.setIfInBounds_toArray, List.set_cons_zero, List.set_cons_succ]
  refine @wpG_tk _ _ _ _ _ (some 20) (.bool false) _ _ rfl (.val (by rfl) (fun W hg => by go_simp)) ?_
  simp only [Act.put, List.setIfInBounds_toArray, List.set_cons_zero, List.set_cons_succ]
  refine @wpG_tk _ _ _ _ _ (some 21) (.bool false) _ _ rfl (.val (by rfl) (fun _ _ => rfl)) ?_
  simp only [Act.put, List.setIfInBounds_toArray, List.set_cons_zero, List.set_cons_succ]
  refine @wpG_tk _ _ _ _ _ (some 22) (.pointer (some ⟨w.heap.size, 0, none⟩)) _ _ rfl (.val (by rfl) (fun W hg => by go_simp)) ?_
  simp only [Act.put, List.setIfInBounds_toArray, List.set_cons_zero, List.set_cons_succ]
  refine @wpG_tk _ _ _ _ _ (some 23) (.pointer (some ⟨w.heap.size, 2, none⟩)) _ _ rfl (.val (by rfl) (fun W hg => by go_simp)) ?_
  simp only [Act.put, List.setIfInBounds_toArray, List.set_cons_zero, List.set_cons_succ]
  refine @wpG_tk _ _ _ _ _ (some 24) (.int .i64 b3) _ _ rfl (.val (by rfl) (fun W hg => by have c := (R0.out.below hg 2 _ rfl).1; go_simp)) ?_
  simp only [Act.put, List.setIfInBounds_toArray, List.set_cons_zero, List.set_cons_succ]
  refine @wpG_tk _ _ _ _ _ (some 25) (.pointer (some ⟨w.heap.size, 3, none⟩)) _ _ rfl (.val (by rfl) (fun W hg => by go_simp)) ?_
  simp only [Act.put, List.setIfInBounds_toArray, List.set_cons_zero, List.set_cons_succ]
  refine @wpG_tk _ _ _ _ _ (some 26) (.pointer (some ⟨w.heap.size, 5, none⟩)) _ _ rfl (.val (by rfl) (fun W hg => by go_simp)) ?_
  simp only [Act.put, List.setIfInBounds_toArray, List.set_cons_zero, List.set_cons_succ]
  refine @wpG_tk _ _ _ _ _ (some 27) (.int .i64 b6) _ _ rfl (.val (by rfl) (fun W hg => by have c := (R0.out.below hg 5 _ rfl).1; go_simp)) ?_
  simp only [Act.put, List.setIfInBounds_toArray, List.set_cons_zero, List.set_cons_succ]
  refine @wpG_tk _ _ _ _ _ (some 28) (.bool true) _ _ rfl (.val (by rfl) (fun W hg => by have hq : (b3 ≥ b6) := (by omega); first | (go_simp; done) | (go_simp <;> omega))) ?_
  simp only [Act.put, List.setIfInBounds_toArray, List.set_cons_zero, List.set_cons_succ]
  refine @wpG_tk _ _ _ _ _ (some 29) (.bool true) _ _ rfl (.val (by rfl) (fun W hg => by go_simp)) ?_
  simp only [Act.put, List.setIfInBounds_toArray, List.set_cons_zero, List.set_cons_succ]
  refine wpG_done (fun V1 hv2 => ?_)
  have GC3 := Lib.hid hv2
  clear hv2
  go_upto_region 2 with fail
  refine wpG_region ?_
  refine @wpG_tk _ _ _ _ _ (some 4) (.int .i64 (-1)) _ _ rfl (.val (by rfl) (fun _ _ => rfl)) ?_
  simp only [Act.put, List.setIfInBounds_toArray, List.set_cons_zero, List.set_cons_succ]
  refine wpG_done (fun V4 hv5 => ?_)
  have GC6 := Lib.hid (GC3.out.trans hv5)
  clear hv5
  go_wp2_with fail
  go_ret
  exact ⟨rfl, Gr.to G0.out GC6.out⟩
set_option maxRecDepth 1000000 in
set_option maxHeartbeats 4000000 in
theorem rnext_3 (b1 b2 b3 b4 b5 b6 n : Int) (w : World) (h0 : ¬ b1 ≥ b4) (h1 : ¬ b2 ≥ b5) (h2 : ¬ b3 ≥ b6) :
    Calls Try.prog 29 #[.agg #[.int .i64 b1, .int .i64 b2, .int .i64 b3, .int .i64 b4, .int .i64 b5, .int .i64 b6], .int .i64 n] w fun e w' => e = .returned (.int .i64 (Mo.nx b1 b2 b3 b4 b5 b6 n 14 0 0 0)) ∧ Below w.heap.size w w' := by
  obtain ⟨u, hu, r0, g0⟩ := rows1 w [.int .i64 b1, .int .i64 b2, .int .i64 b3, .int .i64 b4, .int .i64 b5, .int .i64 b6] 37
  have R0 := Lib.hid r0
  have G0 := Lib.hid g0
  have HU := Lib.hid hu
  clear hu g0 r0
  go_enter Try.func29, Try.ntmps29
  go_upto_region 1 with fail
  rw [← HU.out]
  refine wpG_region ?_
  refine @wpG_tk _ _ _ _ _ (some 5) (.pointer (some ⟨w.heap.size, 0, none⟩)) _ _ rfl (.val (by rfl) (fun W hg => by go_simp)) ?_
  simp only [Act.put, List.setIfInBounds_toArray, List.set_cons_zero, List.set_cons_succ]
  refine @wpG_tk _ _ _ _ _ (some 6) (.pointer (some ⟨w.heap.size, 0, none⟩)) _ _ rfl (.val (by rfl) (fun W hg => by go_simp)) ?_
  simp only [Act.put, List.setIfInBounds_toArray, List.set_cons_zero, List.set_cons_succ]
  refine @wpG_tk _ _ _ _ _ (some 7) (.int .i64 b1) _ _ rfl (.val (by rfl) (fun W hg => by have c := (R0.out.below hg 0 _ rfl).1; go_simp)) ?_
  simp only [Act.put, List.setIfInBounds_toArray, List.set_cons_zero, List.set_cons_succ]
  refine @wpG_tk _ _ _ _ _ (some 8) (.pointer (some ⟨w.heap.size, 3, none⟩)) _ _ rfl (.val (by rfl) (fun W hg => by go_simp)) ?_
  simp only [Act.put, List.setIfInBounds_toArray, List.set_cons_zero, List.set_cons_succ]
  refine @wpG_tk _ _ _ _ _ (some 9) (.pointer (some ⟨w.heap.size, 3, none⟩)) _ _ rfl (.val (by rfl) (fun W hg => by go_simp)) ?_
  simp only [Act.put, List.setIfInBounds_toArray, List.set_cons_zero, List.set_cons_succ]
  refine @wpG_tk _ _ _ _ _ (some 10) (.int .i64 b4) _ _ rfl (.val (by rfl) (fun W hg => by have c := (R0.out.below hg 3 _ rfl).1; go_simp)) ?_
  simp only [Act.put, List.setIfInBounds_toArray, List.set_cons_zero, List.set_cons_succ]
  refine @wpG_tk _ _ _ _ _ (some 11) (.bool false) _ _ rfl (.val (by rfl) (fun W hg => by have hq : ¬ (b1 ≥ b4) := (by omega); first | (go_simp; done) | (go_simp <;> omega))) ?_
  simp only [Act.put, List.setIfInBounds_toArray, List.set_cons_zero, List.set_cons_succ]
  refine @wpG_tk _ _ _ _ _ (some 12) (.bool false) _ _ rfl (.val (by rfl) (fun _ _ => rfl)) ?_
  simp only [Act.put, List.setIfInBounds_toArray, List.set_cons_zero, List.set_cons_succ]
  refine @wpG_tk _ _ _ _ _ (some 13) (.pointer (some ⟨w.heap.size, 0, none⟩)) _ _ rfl (.val (by rfl) (fun W hg => by go_simp)) ?_
  simp only [Act.put, List.setIfInBounds_toArray, List.set_cons_zero, List.set_cons_succ]
  refine @wpG_tk _ _ _ _ _ (some 14) (.pointer (some ⟨w.heap.size, 1, none⟩)) _ _ rfl (.val (by rfl) (fun W hg => by go_simp)) ?_
  simp only [Act.put, List.setIfInBounds_toArray, List.set_cons_zero, List.set_cons_succ]
  refine @wpG_tk _ _ _ _ _ (some 15) (.int .i64 b2) _ _ rfl (.val (by rfl) (fun W hg => by have c := (R0.out.below hg 1 _ rfl).1; go_simp)) ?_
  simp only [Act.put, List.setIfInBounds_toArray, List.set_cons_zero, List.set_cons_succ]
  refine @wpG_tk _ _ _ _ _ (some 16) (.pointer (some ⟨w.heap.size, 3, none⟩)) _ _ rfl (.val (by rfl) (fun W hg => by go_simp)) ?_
  simp only [Act.put, List.setIfInBounds_toArray, List.set_cons_zero, List.set_cons_succ]
  refine @wpG_tk _ _ _ _ _ (some 17) (.pointer (some ⟨w.heap.size, 4, none⟩)) _ _ rfl (.val (by rfl) (fun W hg => by go_simp)) ?_
  simp only [Act.put, List.setIfInBounds_toArray, List.set_cons_zero, List.set_cons_succ]
  refine @wpG_tk _ _ _ _ _ (some 18) (.int .i64 b5) _ _ rfl (.val (by rfl) (fun W hg => by have c := (R0.out.below hg 4 _ rfl).1; go_simp)) ?_
  simp only [Act.put, List.setIfInBounds_toArray, List.set_cons_zero, List.set_cons_succ]
  refine @wpG_tk _ _ _ _ _ (some 19) (.bool false) _ _ rfl (.val (by rfl) (fun W hg => by have hq : ¬ (b2 ≥ b5) := (by omega); first | (go_simp; done) | (go_simp <;> omega))) ?_
  simp only [Act.put, List.setIfInBounds_toArray, List.set_cons_zero, List.set_cons_succ]
  refine @wpG_tk _ _ _ _ _ (some 20) (.bool false) _ _ rfl (.val (by rfl) (fun W hg => by go_simp)) ?_
  simp only [Act.put, List.setIfInBounds_toArray, List.set_cons_zero, List.set_cons_succ]
  refine @wpG_tk _ _ _ _ _ (some 21) (.bool false) _ _ rfl (.val (by rfl) (fun _ _ => rfl)) ?_
  simp only [Act.put, List.setIfInBounds_toArray, List.set_cons_zero, List.set_cons_succ]
  refine @wpG_tk _ _ _ _ _ (some 22) (.pointer (some ⟨w.heap.size, 0, none⟩)) _ _ rfl (.val (by rfl) (fun W hg => by go_simp)) ?_
  simp only [Act.put, List.setIfInBounds_toArray, List.set_cons_zero, List.set_cons_succ]
  refine @wpG_tk _ _ _ _ _ (some 23) (.pointer (some ⟨w.heap.size, 2, none⟩)) _ _ rfl (.val (by rfl) (fun W hg => by go_simp)) ?_
  simp only [Act.put, List.setIfInBounds_toArray, List.set_cons_zero, List.set_cons_succ]
  refine @wpG_tk _ _ _ _ _ (some 24) (.int .i64 b3) _ _ rfl (.val (by rfl) (fun W hg => by have c := (R0.out.below hg 2 _ rfl).1; go_simp)) ?_
  simp only [Act.put, List.setIfInBounds_toArray, List.set_cons_zero, List.set_cons_succ]
  refine @wpG_tk _ _ _ _ _ (some 25) (.pointer (some ⟨w.heap.size, 3, none⟩)) _ _ rfl (.val (by rfl) (fun W hg => by go_simp)) ?_
  simp only [Act.put, List.setIfInBounds_toArray, List.set_cons_zero, List.set_cons_succ]
  refine @wpG_tk _ _ _ _ _ (some 26) (.pointer (some ⟨w.heap.size, 5, none⟩)) _ _ rfl (.val (by rfl) (fun W hg => by go_simp)) ?_
  simp only [Act.put, List.setIfInBounds_toArray, List.set_cons_zero, List.set_cons_succ]
  refine @wpG_tk _ _ _ _ _ (some 27) (.int .i64 b6) _ _ rfl (.val (by rfl) (fun W hg => by have c := (R0.out.below hg 5 _ rfl).1; go_simp)) ?_
  simp only [Act.put, List.setIfInBounds_toArray, List.set_cons_zero, List.set_cons_succ]
  refine @wpG_tk _ _ _ _ _ (some 28) (.bool false) _ _ rfl (.val (by rfl) (fun W hg => by have hq : ¬ (b3 ≥ b6) := (by omega); first | (go_simp; done) | (go_simp <;> omega))) ?_
  simp only [Act.put, List.setIfInBounds_toArray, List.set_cons_zero, List.set_cons_succ]
  refine @wpG_tk _ _ _ _ _ (some 29) (.bool false) _ _ rfl (.val (by rfl) (fun W hg => by go_simp)) ?_
  simp only [Act.put, List.setIfInBounds_toArray, List.set_cons_zero, List.set_cons_succ]
  refine wpG_done (fun V1 hv2 => ?_)
  have GC3 := Lib.hid hv2
  clear hv2
  go_upto_region 3 with fail
  refine wpG_region ?_
  refine @wpG_tk _ _ _ _ _ (some 30) (.agg #[.int .i64 b1, .int .i64 b2, .int .i64 b3, .int .i64 b4, .int .i64 b5, .int .i64 b6]) _ _ rfl (.load_mid (by rfl) 37 (.tmp 2) rfl (w.heap.size) 0 rfl [.int .i64 b1, .int .i64 b2, .int .i64 b3, .int .i64 b4, .int .i64 b5, .int .i64 b6] _ (fun W hg => (R0.out.below (GC3.out.trans hg)).range) Try.underlying37 rfl (by kernel_rfl)) ?_
  simp only [Act.put, List.setIfInBounds_toArray, List.set_cons_zero, List.set_cons_succ]
  refine @wpG_tk _ _ _ _ _ (some 31) (.agg #[.int .i64 0, .int .i64 0, .int .i64 0, .int .i64 14]) _ _ rfl (.val (by rfl) (fun W hg => by go_simp)) ?_
  simp only [Act.put, List.setIfInBounds_toArray, List.set_cons_zero, List.set_cons_succ]
  refine @wpG_tk _ _ _ _ _ (some 32) (.int .i64 n) _ _ rfl (.val (by rfl) (fun _ _ => rfl)) ?_
  simp only [Act.put, List.setIfInBounds_toArray, List.set_cons_zero, List.set_cons_succ]
  refine @wpG_tk _ _ _ _ _ (some 33) (.int .i64 (Mo.nx b1 b2 b3 b4 b5 b6 n 14 0 0 0)) _ _ rfl (.call (f := 48) (args := #[.agg #[.int .i64 b1, .int .i64 b2, .int .i64 b3, .int .i64 b4, .int .i64 b5, .int .i64 b6], .agg #[.int .i64 0, .int .i64 0, .int .i64 0, .int .i64 14], .int .i64 n]) (by rfl) (fun W => by go_simp) (fun W hg => least_any b1 b2 b3 b4 b5 b6 n (by omega) 14 0 0 0 14 W rfl sits0)) ?_
  simp only [Act.put, List.setIfInBounds_toArray, List.set_cons_zero, List.set_cons_succ]
  refine @wpG_tk _ _ _ _ _ (some 4) (.int .i64 (Mo.nx b1 b2 b3 b4 b5 b6 n 14 0 0 0)) _ _ rfl (.val (by rfl) (fun _ _ => rfl)) ?_
  simp only [Act.put, List.setIfInBounds_toArray, List.set_cons_zero, List.set_cons_succ]
  refine wpG_done (fun V4 hv5 => ?_)
  have GC6 := Lib.hid (GC3.out.trans hv5)
  clear hv5
  go_wp2_with fail
  go_ret
  exact ⟨rfl, Gr.to G0.out GC6.out⟩
theorem nextI_empty {b1 b2 b3 b4 b5 b6 n : Int} (h : b4 ≤ b1 ∨ b5 ≤ b2 ∨ b6 ≤ b3) : nextI b1 b2 b3 b4 b5 b6 n = -1 := by
  unfold nextI
  have hm : Mo.meets b1 b2 b3 b4 b5 b6 0 0 0 14 = false := by
    unfold Mo.meets
    rw [Bool.and_eq_false_iff, Bool.and_eq_false_iff, decide_eq_false_iff_not, decide_eq_false_iff_not, decide_eq_false_iff_not]
    omega
  rw [Mo.nx, hm, Mo.stepN_a]
set_option maxRecDepth 1000000 in
set_option maxHeartbeats 4000000 in
theorem rnext_any (b1 b2 b3 b4 b5 b6 n : Int) (w : World) :
    Calls Try.prog 29 #[.agg #[.int .i64 b1, .int .i64 b2, .int .i64 b3, .int .i64 b4, .int .i64 b5, .int .i64 b6], .int .i64 n] w fun e w' => e = .returned (.int .i64 (nextI b1 b2 b3 b4 b5 b6 n)) ∧ Below w.heap.size w w' := by
  by_cases h0 : b1 ≥ b4
  · rw [nextI_empty (.inl h0)]; exact rnext_0 b1 b2 b3 b4 b5 b6 n w h0
  by_cases h1 : b2 ≥ b5
  · rw [nextI_empty (.inr (.inl h1))]; exact rnext_1 b1 b2 b3 b4 b5 b6 n w h0 h1
  by_cases h2 : b3 ≥ b6
  · rw [nextI_empty (.inr (.inr h2))]; exact rnext_2 b1 b2 b3 b4 b5 b6 n w h0 h1 h2
  exact rnext_3 b1 b2 b3 b4 b5 b6 n w h0 h1 h2

end Go.Proofs.Ytmjjkloeipoefaa
