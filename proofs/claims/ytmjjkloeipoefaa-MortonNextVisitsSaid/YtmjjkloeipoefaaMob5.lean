/-
  Contract of the specification: the cubes of a box in a cube.
-/
import Derived.Test.YtmjjkloeipoefaaKqt
import Derived.Test.YtmjjkloeipoefaaMob4
import Derived.Handy
namespace Go.Proofs.Ytmjjkloeipoefaa
open Go.RowKit
set_option linter.unusedVariables false
set_option maxRecDepth 1000000 in
set_option maxHeartbeats 4000000 in
theorem rcub_a (b1 b2 b3 b4 b5 b6 x y z L : Int) (l B n c : Nat) (A : Option Addr) (cl : List Mo.Cb) (w : World) (hL : L = (l : Int)) (hs : Mo.sits x y z l) (hb : b1 < b4 ∧ b2 < b5 ∧ b3 < b6) (hB : B ≤ w.heap.size) (hn : n = cl.length) (hn2 : n ≤ 4097) (hown : w.ownsRow B 27 4 (.slice A n c) n (ccs cl)) (hm : Mo.meets b1 b2 b3 b4 b5 b6 x y z l = false) :
    Calls Try.prog 45 #[.slice A n c, .agg #[.int .i64 b1, .int .i64 b2, .int .i64 b3, .int .i64 b4, .int .i64 b5, .int .i64 b6], .agg #[.int .i64 x, .int .i64 y, .int .i64 z, .int .i64 L]] w (CubP B (fun k => (Value.slice A n c).ownBlock = some k) ([]) cl w (fun v cl2 e w2 => e = .returned v)) := by
  have ha : Mo.apartB b1 b2 b3 b4 b5 b6 x y z l = true := by rw [Mo.apart_eq hb, hm]; rfl
  have HA := Lib.hid ha
  obtain ⟨c1, hc1⟩ : ∃ c, c = Mo.cellB b1 b2 b3 b4 b5 b6 x y z := ⟨_, rfl⟩
  obtain ⟨c2, hc2⟩ : ∃ c, c = Mo.cellB b1 b2 b3 b4 b5 b6 (x + (Mo.pw l - 1)) (y + (Mo.pw l - 1)) (z + (Mo.pw l - 1)) := ⟨_, rfl⟩
  have HC1 := Lib.hid hc1
  have HC2 := Lib.hid hc2
  have HL := Lib.hid hL
  have HS := Lib.hid hs
  have HN := Lib.hid hn
  have HO0 := Lib.hid hown
  clear hc1 hc2 hL hs hm ha hb hn hown
  obtain ⟨u, hu, r0, r1, g0⟩ := rows2 w [.int .i64 b1, .int .i64 b2, .int .i64 b3, .int .i64 b4, .int .i64 b5, .int .i64 b6] 37 [.int .i64 x, .int .i64 y, .int .i64 z, .int .i64 L] 27
  have R0 := Lib.hid r0
  have R1 := Lib.hid r1
  have G0 := Lib.hid g0
  have HU := Lib.hid hu
  clear hu g0 r0 r1
  go_enter Try.func45, Try.ntmps45
  go_upto_region 1 with fail
  rw [← HU.out]
  have HCH := Lib.hid (Chg.of_gr (S := (fun k => (Value.slice A n c).ownBlock = some k)) G0.out)
  have HOU := Lib.hid (own_gr HO0.out G0.out)
  have hsu : w.heap.size ≤ u.heap.size := G0.out.size
  refine wpG_region ?_
  refine @wpG_tk _ _ _ _ _ (some 10) (.agg #[.int .i64 b1, .int .i64 b2, .int .i64 b3, .int .i64 b4, .int .i64 b5, .int .i64 b6]) _ _ rfl (.load_mid (by rfl) 37 (.tmp 4) rfl (w.heap.size) 0 rfl [.int .i64 b1, .int .i64 b2, .int .i64 b3, .int .i64 b4, .int .i64 b5, .int .i64 b6] _ (fun W hg => (R0.out.below hg).range) Try.underlying37 rfl (by kernel_rfl)) ?_
  simp only [Act.put, List.setIfInBounds_toArray, List.set_cons_zero, List.set_cons_succ]
  refine @wpG_tk _ _ _ _ _ (some 11) (.agg #[.int .i64 x, .int .i64 y, .int .i64 z, .int .i64 L]) _ _ rfl (.load_mid (by rfl) 27 (.tmp 5) rfl (w.heap.size + 1) 0 rfl [.int .i64 x, .int .i64 y, .int .i64 z, .int .i64 L] _ (fun W hg => (R1.out.below hg).range) Try.underlying27 rfl (by kernel_rfl)) ?_
  simp only [Act.put, List.setIfInBounds_toArray, List.set_cons_zero, List.set_cons_succ]
  refine @wpG_tk _ _ _ _ _ (some 12) (.bool true) _ _ rfl (.call (f := 52) (args := #[.agg #[.int .i64 b1, .int .i64 b2, .int .i64 b3, .int .i64 b4, .int .i64 b5, .int .i64 b6], .agg #[.int .i64 x, .int .i64 y, .int .i64 z, .int .i64 L]]) (by rfl) (fun W => by go_simp) (fun W hg => apart_K b1 b2 b3 b4 b5 b6 x y z L l true W HL.out HS.out HA.out)) ?_
  simp only [Act.put, List.setIfInBounds_toArray, List.set_cons_zero, List.set_cons_succ]
  refine @wpG_tk _ _ _ _ _ (some 7) (.bool true) _ _ rfl (.val (by rfl) (fun _ _ => rfl)) ?_
  simp only [Act.put, List.setIfInBounds_toArray, List.set_cons_zero, List.set_cons_succ]
  refine wpG_done (fun V1 hv2 => ?_)
  have GC3 := Lib.hid hv2
  clear hv2
  go_upto_region 2 with fail
  refine wpG_region ?_
  refine @wpG_tk _ _ _ _ _ (some 13) (.bool true) _ _ rfl (.val (by rfl) (fun _ _ => rfl)) ?_
  simp only [Act.put, List.setIfInBounds_toArray, List.set_cons_zero, List.set_cons_succ]
  refine @wpG_tk _ _ _ _ _ (some 14) (.bool true) _ _ rfl (.val (by rfl) (fun _ _ => rfl)) ?_
  simp only [Act.put, List.setIfInBounds_toArray, List.set_cons_zero, List.set_cons_succ]
  refine @wpG_tk _ _ _ _ _ (some 15) (undef) _ _ rfl (.no (by rfl)) ?_
  simp only [Act.put, List.setIfInBounds_toArray, List.set_cons_zero, List.set_cons_succ]
  refine @wpG_tk _ _ _ _ _ (some 16) (undef) _ _ rfl (.no (by rfl)) ?_
  simp only [Act.put, List.setIfInBounds_toArray, List.set_cons_zero, List.set_cons_succ]
  refine @wpG_tk _ _ _ _ _ (some 17) (undef) _ _ rfl (.no (by rfl)) ?_
  simp only [Act.put, List.setIfInBounds_toArray, List.set_cons_zero, List.set_cons_succ]
  refine @wpG_tk _ _ _ _ _ (some 18) (.bool true) _ _ rfl (.val (by rfl) (fun W hg => by go_simp)) ?_
  simp only [Act.put, List.setIfInBounds_toArray, List.set_cons_zero, List.set_cons_succ]
  refine wpG_done (fun V4 hv5 => ?_)
  have GC6 := Lib.hid (GC3.out.trans hv5)
  clear hv5
  go_upto_region 3 with fail
  refine wpG_region ?_
  refine @wpG_tk _ _ _ _ _ (some 19) (.slice A n c) _ _ rfl (.val (by rfl) (fun _ _ => rfl)) ?_
  simp only [Act.put, List.setIfInBounds_toArray, List.set_cons_zero, List.set_cons_succ]
  refine @wpG_tk _ _ _ _ _ (some 6) (.slice A n c) _ _ rfl (.val (by rfl) (fun _ _ => rfl)) ?_
  simp only [Act.put, List.setIfInBounds_toArray, List.set_cons_zero, List.set_cons_succ]
  refine wpG_done (fun V7 hv8 => ?_)
  have GC9 := Lib.hid (GC6.out.trans hv8)
  clear hv8
  go_wp2_with fail
  go_ret
  exact ⟨_, _, _, cl, by rw [List.append_nil, Mo.cut_small (by rw [← HN.out]; exact hn2)], HN.out, rfl, own_gr HOU.out GC9.out, HCH.out.gr GC9.out, fun k hk => .inl hk⟩
set_option maxRecDepth 1000000 in
set_option maxHeartbeats 4000000 in
theorem rcub_b (b1 b2 b3 b4 b5 b6 x y z L : Int) (l B n c : Nat) (A : Option Addr) (cl : List Mo.Cb) (w : World) (hL : L = (l : Int)) (hs : Mo.sits x y z l) (hb : b1 < b4 ∧ b2 < b5 ∧ b3 < b6) (hB : B ≤ w.heap.size) (hn : n = cl.length) (hn2 : n ≤ 4097) (hown : w.ownsRow B 27 4 (.slice A n c) n (ccs cl)) (hm : Mo.meets b1 b2 b3 b4 b5 b6 x y z l = true) (hq : 4096 < n) (T : List Mo.Cb) :
    Calls Try.prog 45 #[.slice A n c, .agg #[.int .i64 b1, .int .i64 b2, .int .i64 b3, .int .i64 b4, .int .i64 b5, .int .i64 b6], .agg #[.int .i64 x, .int .i64 y, .int .i64 z, .int .i64 L]] w (CubP B (fun k => (Value.slice A n c).ownBlock = some k) (T) cl w (fun v cl2 e w2 => e = .returned v)) := by
  have ha : Mo.apartB b1 b2 b3 b4 b5 b6 x y z l = false := by rw [Mo.apart_eq hb, hm]; rfl
  have HA := Lib.hid ha
  obtain ⟨c1, hc1⟩ : ∃ c, c = Mo.cellB b1 b2 b3 b4 b5 b6 x y z := ⟨_, rfl⟩
  obtain ⟨c2, hc2⟩ : ∃ c, c = Mo.cellB b1 b2 b3 b4 b5 b6 (x + (Mo.pw l - 1)) (y + (Mo.pw l - 1)) (z + (Mo.pw l - 1)) := ⟨_, rfl⟩
  have HC1 := Lib.hid hc1
  have HC2 := Lib.hid hc2
  have HL := Lib.hid hL
  have HS := Lib.hid hs
  have HN := Lib.hid hn
  have HO0 := Lib.hid hown
  clear hc1 hc2 hL hs hm ha hb hn hown
  obtain ⟨u, hu, r0, r1, g0⟩ := rows2 w [.int .i64 b1, .int .i64 b2, .int .i64 b3, .int .i64 b4, .int .i64 b5, .int .i64 b6] 37 [.int .i64 x, .int .i64 y, .int .i64 z, .int .i64 L] 27
  have R0 := Lib.hid r0
  have R1 := Lib.hid r1
  have G0 := Lib.hid g0
  have HU := Lib.hid hu
  clear hu g0 r0 r1
  go_enter Try.func45, Try.ntmps45
  go_upto_region 1 with fail
  rw [← HU.out]
  have HCH := Lib.hid (Chg.of_gr (S := (fun k => (Value.slice A n c).ownBlock = some k)) G0.out)
  have HOU := Lib.hid (own_gr HO0.out G0.out)
  have hsu : w.heap.size ≤ u.heap.size := G0.out.size
  refine wpG_region ?_
  refine @wpG_tk _ _ _ _ _ (some 10) (.agg #[.int .i64 b1, .int .i64 b2, .int .i64 b3, .int .i64 b4, .int .i64 b5, .int .i64 b6]) _ _ rfl (.load_mid (by rfl) 37 (.tmp 4) rfl (w.heap.size) 0 rfl [.int .i64 b1, .int .i64 b2, .int .i64 b3, .int .i64 b4, .int .i64 b5, .int .i64 b6] _ (fun W hg => (R0.out.below hg).range) Try.underlying37 rfl (by kernel_rfl)) ?_
  simp only [Act.put, List.setIfInBounds_toArray, List.set_cons_zero, List.set_cons_succ]
  refine @wpG_tk _ _ _ _ _ (some 11) (.agg #[.int .i64 x, .int .i64 y, .int .i64 z, .int .i64 L]) _ _ rfl (.load_mid (by rfl) 27 (.tmp 5) rfl (w.heap.size + 1) 0 rfl [.int .i64 x, .int .i64 y, .int .i64 z, .int .i64 L] _ (fun W hg => (R1.out.below hg).range) Try.underlying27 rfl (by kernel_rfl)) ?_
  simp only [Act.put, List.setIfInBounds_toArray, List.set_cons_zero, List.set_cons_succ]
  refine @wpG_tk _ _ _ _ _ (some 12) (.bool false) _ _ rfl (.call (f := 52) (args := #[.agg #[.int .i64 b1, .int .i64 b2, .int .i64 b3, .int .i64 b4, .int .i64 b5, .int .i64 b6], .agg #[.int .i64 x, .int .i64 y, .int .i64 z, .int .i64 L]]) (by rfl) (fun W => by go_simp) (fun W hg => apart_K b1 b2 b3 b4 b5 b6 x y z L l false W HL.out HS.out HA.out)) ?_
  simp only [Act.put, List.setIfInBounds_toArray, List.set_cons_zero, List.set_cons_succ]
  refine @wpG_tk _ _ _ _ _ (some 7) (.bool false) _ _ rfl (.val (by rfl) (fun _ _ => rfl)) ?_
  simp only [Act.put, List.setIfInBounds_toArray, List.set_cons_zero, List.set_cons_succ]
  refine wpG_done (fun V1 hv2 => ?_)
  have GC3 := Lib.hid hv2
  clear hv2
  go_upto_region 2 with fail
  refine wpG_region ?_
  refine @wpG_tk _ _ _ _ _ (some 13) (.bool false) _ _ rfl (.val (by rfl) (fun _ _ => rfl)) ?_
  simp only [Act.put, List.setIfInBounds_toArray, List.set_cons_zero, List.set_cons_succ]
  refine @wpG_tk _ _ _ _ _ (some 14) (.bool false) _ _ rfl (.val (by rfl) (fun _ _ => rfl)) ?_
  simp only [Act.put, List.setIfInBounds_toArray, List.set_cons_zero, List.set_cons_succ]
  refine @wpG_tk _ _ _ _ _ (some 15) (.slice A n c) _ _ rfl (.val (by rfl) (fun _ _ => rfl)) ?_
  simp only [Act.put, List.setIfInBounds_toArray, List.set_cons_zero, List.set_cons_succ]
  refine @wpG_tk _ _ _ _ _ (some 16) (.int .i64 n) _ _ rfl (.val (by rfl) (fun W hg => by go_simp)) ?_
  simp only [Act.put, List.setIfInBounds_toArray, List.set_cons_zero, List.set_cons_succ]
  refine @wpG_tk _ _ _ _ _ (some 17) (.bool true) _ _ rfl (.val (by rfl) (fun W hg => by have hq : (n > 4096) := (by omega); first | (go_simp; done) | (go_simp <;> omega))) ?_
  simp only [Act.put, List.setIfInBounds_toArray, List.set_cons_zero, List.set_cons_succ]
  refine @wpG_tk _ _ _ _ _ (some 18) (.bool true) _ _ rfl (.val (by rfl) (fun W hg => by go_simp)) ?_
  simp only [Act.put, List.setIfInBounds_toArray, List.set_cons_zero, List.set_cons_succ]
  refine wpG_done (fun V4 hv5 => ?_)
  have GC6 := Lib.hid (GC3.out.trans hv5)
  clear hv5
  go_upto_region 3 with fail
  refine wpG_region ?_
  refine @wpG_tk _ _ _ _ _ (some 19) (.slice A n c) _ _ rfl (.val (by rfl) (fun _ _ => rfl)) ?_
  simp only [Act.put, List.setIfInBounds_toArray, List.set_cons_zero, List.set_cons_succ]
  refine @wpG_tk _ _ _ _ _ (some 6) (.slice A n c) _ _ rfl (.val (by rfl) (fun _ _ => rfl)) ?_
  simp only [Act.put, List.setIfInBounds_toArray, List.set_cons_zero, List.set_cons_succ]
  refine wpG_done (fun V7 hv8 => ?_)
  have GC9 := Lib.hid (GC6.out.trans hv8)
  clear hv8
  go_wp2_with fail
  go_ret
  exact ⟨_, _, _, cl, (Mo.cut_full (by rw [← HN.out]; omega)).symm, HN.out, rfl, own_gr HOU.out GC9.out, HCH.out.gr GC9.out, fun k hk => .inl hk⟩
set_option maxRecDepth 1000000 in
set_option maxHeartbeats 4000000 in
theorem rcub_c (b1 b2 b3 b4 b5 b6 x y z L : Int) (l B n c : Nat) (A : Option Addr) (cl : List Mo.Cb) (w : World) (hL : L = (l : Int)) (hs : Mo.sits x y z l) (hb : b1 < b4 ∧ b2 < b5 ∧ b3 < b6) (hB : B ≤ w.heap.size) (hn : n = cl.length) (hn2 : n ≤ 4097) (hown : w.ownsRow B 27 4 (.slice A n c) n (ccs cl)) (hm : Mo.meets b1 b2 b3 b4 b5 b6 x y z l = true) (hq : ¬ 4096 < n) (hw : Mo.within b1 b2 b3 b4 b5 b6 x y z l = true) :
    Calls Try.prog 45 #[.slice A n c, .agg #[.int .i64 b1, .int .i64 b2, .int .i64 b3, .int .i64 b4, .int .i64 b5, .int .i64 b6], .agg #[.int .i64 x, .int .i64 y, .int .i64 z, .int .i64 L]] w (CubP B (fun k => (Value.slice A n c).ownBlock = some k) ([(x, y, z, L)]) cl w (fun v cl2 e w2 => e = .returned v)) := by
  have ha : Mo.apartB b1 b2 b3 b4 b5 b6 x y z l = false := by rw [Mo.apart_eq hb, hm]; rfl
  have HA := Lib.hid ha
  obtain ⟨c1, hc1⟩ : ∃ c, c = Mo.cellB b1 b2 b3 b4 b5 b6 x y z := ⟨_, rfl⟩
  obtain ⟨c2, hc2⟩ : ∃ c, c = Mo.cellB b1 b2 b3 b4 b5 b6 (x + (Mo.pw l - 1)) (y + (Mo.pw l - 1)) (z + (Mo.pw l - 1)) := ⟨_, rfl⟩
  have hcv : ∀ c, c = (c1 && c2) → c = true := fun c hc => cut2 hc1 hc2 ((Mo.whole_eq hs).trans hw) hc
  have HCV := Lib.hid hcv
  clear hcv hw
  have HC1 := Lib.hid hc1
  have HC2 := Lib.hid hc2
  have HL := Lib.hid hL
  have HS := Lib.hid hs
  have HN := Lib.hid hn
  have HO0 := Lib.hid hown
  clear hc1 hc2 hL hs hm ha hb hn hown
  obtain ⟨u, hu, r0, r1, g0⟩ := rows2 w [.int .i64 b1, .int .i64 b2, .int .i64 b3, .int .i64 b4, .int .i64 b5, .int .i64 b6] 37 [.int .i64 x, .int .i64 y, .int .i64 z, .int .i64 L] 27
  have R0 := Lib.hid r0
  have R1 := Lib.hid r1
  have G0 := Lib.hid g0
  have HU := Lib.hid hu
  clear hu g0 r0 r1
  go_enter Try.func45, Try.ntmps45
  go_upto_region 1 with fail
  rw [← HU.out]
  have HCH := Lib.hid (Chg.of_gr (S := (fun k => (Value.slice A n c).ownBlock = some k)) G0.out)
  have HOU := Lib.hid (own_gr HO0.out G0.out)
  have hsu : w.heap.size ≤ u.heap.size := G0.out.size
  refine wpG_region ?_
  refine @wpG_tk _ _ _ _ _ (some 10) (.agg #[.int .i64 b1, .int .i64 b2, .int .i64 b3, .int .i64 b4, .int .i64 b5, .int .i64 b6]) _ _ rfl (.load_mid (by rfl) 37 (.tmp 4) rfl (w.heap.size) 0 rfl [.int .i64 b1, .int .i64 b2, .int .i64 b3, .int .i64 b4, .int .i64 b5, .int .i64 b6] _ (fun W hg => (R0.out.below hg).range) Try.underlying37 rfl (by kernel_rfl)) ?_
  simp only [Act.put, List.setIfInBounds_toArray, List.set_cons_zero, List.set_cons_succ]
  refine @wpG_tk _ _ _ _ _ (some 11) (.agg #[.int .i64 x, .int .i64 y, .int .i64 z, .int .i64 L]) _ _ rfl (.load_mid (by rfl) 27 (.tmp 5) rfl (w.heap.size + 1) 0 rfl [.int .i64 x, .int .i64 y, .int .i64 z, .int .i64 L] _ (fun W hg => (R1.out.below hg).range) Try.underlying27 rfl (by kernel_rfl)) ?_
  simp only [Act.put, List.setIfInBounds_toArray, List.set_cons_zero, List.set_cons_succ]
  refine @wpG_tk _ _ _ _ _ (some 12) (.bool false) _ _ rfl (.call (f := 52) (args := #[.agg #[.int .i64 b1, .int .i64 b2, .int .i64 b3, .int .i64 b4, .int .i64 b5, .int .i64 b6], .agg #[.int .i64 x, .int .i64 y, .int .i64 z, .int .i64 L]]) (by rfl) (fun W => by go_simp) (fun W hg => apart_K b1 b2 b3 b4 b5 b6 x y z L l false W HL.out HS.out HA.out)) ?_
  simp only [Act.put, List.setIfInBounds_toArray, List.set_cons_zero, List.set_cons_succ]
  refine @wpG_tk _ _ _ _ _ (some 7) (.bool false) _ _ rfl (.val (by rfl) (fun _ _ => rfl)) ?_
  simp only [Act.put, List.setIfInBounds_toArray, List.set_cons_zero, List.set_cons_succ]
  refine wpG_done (fun V1 hv2 => ?_)
  have GC3 := Lib.hid hv2
  clear hv2
  go_upto_region 2 with fail
  refine wpG_region ?_
  refine @wpG_tk _ _ _ _ _ (some 13) (.bool false) _ _ rfl (.val (by rfl) (fun _ _ => rfl)) ?_
  simp only [Act.put, List.setIfInBounds_toArray, List.set_cons_zero, List.set_cons_succ]
  refine @wpG_tk _ _ _ _ _ (some 14) (.bool false) _ _ rfl (.val (by rfl) (fun _ _ => rfl)) ?_
  simp only [Act.put, List.setIfInBounds_toArray, List.set_cons_zero, List.set_cons_succ]
  refine @wpG_tk _ _ _ _ _ (some 15) (.slice A n c) _ _ rfl (.val (by rfl) (fun _ _ => rfl)) ?_
  simp only [Act.put, List.setIfInBounds_toArray, List.set_cons_zero, List.set_cons_succ]
  refine @wpG_tk _ _ _ _ _ (some 16) (.int .i64 n) _ _ rfl (.val (by rfl) (fun W hg => by go_simp)) ?_
  simp only [Act.put, List.setIfInBounds_toArray, List.set_cons_zero, List.set_cons_succ]
  refine @wpG_tk _ _ _ _ _ (some 17) (.bool false) _ _ rfl (.val (by rfl) (fun W hg => by have hq : ¬ (n > 4096) := (by omega); first | (go_simp; done) | (go_simp <;> omega))) ?_
  simp only [Act.put, List.setIfInBounds_toArray, List.set_cons_zero, List.set_cons_succ]
  refine @wpG_tk _ _ _ _ _ (some 18) (.bool false) _ _ rfl (.val (by rfl) (fun W hg => by go_simp)) ?_
  simp only [Act.put, List.setIfInBounds_toArray, List.set_cons_zero, List.set_cons_succ]
  refine wpG_done (fun V4 hv5 => ?_)
  have GC6 := Lib.hid (GC3.out.trans hv5)
  clear hv5
  go_upto_region 4 with fail
  refine wpK_region (by kernel_rfl) ?_
  refine wpK_tk (i := 0) (some 20) (v := .agg #[.int .i64 b1, .int .i64 b2, .int .i64 b3, .int .i64 b4, .int .i64 b5, .int .i64 b6]) rfl rfl (by kernel_rfl) (fun _ _ _ h => h) (.load_mid (by rfl) 37 (.tmp 4) rfl (w.heap.size) 0 rfl [.int .i64 b1, .int .i64 b2, .int .i64 b3, .int .i64 b4, .int .i64 b5, .int .i64 b6] _ (fun W hg => (R0.out.below (GC6.out.trans (Gr.un hg))).range) Try.underlying37 rfl (by kernel_rfl)) ?_
  simp only [Act.put, List.setIfInBounds_toArray, List.set_cons_zero, List.set_cons_succ]
  refine wpK_ta (i := 1) (some 21) (v := .pointer (some ⟨w.heap.size + 1, 0, none⟩)) rfl rfl (by kernel_rfl) (fun _ _ _ h => h) (Or.inl ⟨by rfl, fun W => by go_simp⟩) ?_
  simp only [Act.put, List.setIfInBounds_toArray, List.set_cons_zero, List.set_cons_succ]
  refine wpK_tk (i := 2) (some 22) (v := .agg #[.int .i64 x, .int .i64 y, .int .i64 z]) rfl rfl (by kernel_rfl) (fun _ _ _ h => h) (.load_mid (by rfl) 23 (.tmp 21) rfl (w.heap.size + 1) 0 rfl [.int .i64 x, .int .i64 y, .int .i64 z] _ (fun W hg => ((R1.out.below (GC6.out.trans (Gr.un hg))).part 0 3 rfl)) Try.underlying23 rfl (by kernel_rfl)) ?_
  simp only [Act.put, List.setIfInBounds_toArray, List.set_cons_zero, List.set_cons_succ]
  refine wpK_tk (i := 3) (some 23) (v := .bool c1) rfl rfl (by kernel_rfl) (fun _ _ _ h => h) (.call (f := 33) (args := #[.agg #[.int .i64 b1, .int .i64 b2, .int .i64 b3, .int .i64 b4, .int .i64 b5, .int .i64 b6], .agg #[.int .i64 x, .int .i64 y, .int .i64 z]]) (by rfl) (fun W => by go_simp) (fun W hg => cell_K b1 b2 b3 b4 b5 b6 x y z c1 W HC1.out)) ?_
  simp only [Act.put, List.setIfInBounds_toArray, List.set_cons_zero, List.set_cons_succ]
  refine wpK_ta (i := 4) (some 24) (v := .bool c1) rfl rfl (by kernel_rfl) (fun _ _ _ h => h) (Or.inl ⟨rfl, fun _ => rfl⟩) ?_
  simp only [Act.put, List.setIfInBounds_toArray, List.set_cons_zero, List.set_cons_succ]
  refine wpK_tk (i := 5) (some 25) (v := (bif c1 then .agg #[.int .i64 b1, .int .i64 b2, .int .i64 b3, .int .i64 b4, .int .i64 b5, .int .i64 b6] else undef)) rfl rfl (by kernel_rfl) (fun _ _ _ h => h) (by cases c1 with | false => exact .no (by rfl) | true => exact (.load_mid (by rfl) 37 (.tmp 4) rfl (w.heap.size) 0 rfl [.int .i64 b1, .int .i64 b2, .int .i64 b3, .int .i64 b4, .int .i64 b5, .int .i64 b6] _ (fun W hg => (R0.out.below (GC6.out.trans (Gr.un hg))).range) Try.underlying37 rfl (by kernel_rfl))) ?_
  simp only [Act.put, List.setIfInBounds_toArray, List.set_cons_zero, List.set_cons_succ]
  refine wpK_tk (i := 6) (some 26) (v := (bif c1 then .agg #[.int .i64 x, .int .i64 y, .int .i64 z, .int .i64 L] else undef)) rfl rfl (by kernel_rfl) (fun _ _ _ h => h) (by cases c1 with | false => exact .no (by rfl) | true => exact (.load_mid (by rfl) 27 (.tmp 5) rfl (w.heap.size + 1) 0 rfl [.int .i64 x, .int .i64 y, .int .i64 z, .int .i64 L] _ (fun W hg => (R1.out.below (GC6.out.trans (Gr.un hg))).range) Try.underlying27 rfl (by kernel_rfl))) ?_
  simp only [Act.put, List.setIfInBounds_toArray, List.set_cons_zero, List.set_cons_succ]
  refine wpK_tk (i := 7) (some 27) (v := (bif c1 then .agg #[.int .i64 (x + (Mo.pw l - 1)), .int .i64 (y + (Mo.pw l - 1)), .int .i64 (z + (Mo.pw l - 1))] else undef)) rfl rfl (by kernel_rfl) (fun _ _ _ h => h) (by cases c1 with | false => exact .no (by rfl) | true => exact (.call (f := 53) (args := #[.agg #[.int .i64 x, .int .i64 y, .int .i64 z, .int .i64 L]]) (by rfl) (fun W => by go_simp) (fun W hg => far_L x y z L l W HL.out HS.out))) ?_
  simp only [Act.put, List.setIfInBounds_toArray, List.set_cons_zero, List.set_cons_succ]
  refine wpK_tk (i := 8) (some 28) (v := (bif c1 then .bool c2 else undef)) rfl rfl (by kernel_rfl) (fun _ _ _ h => h) (by cases c1 with | false => exact .no (by rfl) | true => exact (.call (f := 33) (args := #[.agg #[.int .i64 b1, .int .i64 b2, .int .i64 b3, .int .i64 b4, .int .i64 b5, .int .i64 b6], .agg #[.int .i64 (x + (Mo.pw l - 1)), .int .i64 (y + (Mo.pw l - 1)), .int .i64 (z + (Mo.pw l - 1))]]) (by rfl) (fun W => by go_simp) (fun W hg => cell_K b1 b2 b3 b4 b5 b6 (x + (Mo.pw l - 1)) (y + (Mo.pw l - 1)) (z + (Mo.pw l - 1)) c2 W HC2.out))) ?_
  simp only [Act.put, List.setIfInBounds_toArray, List.set_cons_zero, List.set_cons_succ]
  refine wpK_ta (i := 9) (some 29) (v := .bool (c1 && c2)) rfl rfl (by kernel_rfl) (fun _ _ _ h => h) (Or.inl ⟨by rfl, fun W => by cases c1 <;> go_simp⟩) ?_
  simp only [Act.put, List.setIfInBounds_toArray, List.set_cons_zero, List.set_cons_succ]
  obtain ⟨c7, hc7⟩ : ∃ b, b = (c1 && c2) := ⟨_, rfl⟩
  rw [← hc7]
  have Hc7 := Lib.hid hc7
  clear hc7
  refine wpK_ta (i := 10) (some 8) (v := .bool c7) rfl rfl (by kernel_rfl) (fun _ _ _ h => h) (Or.inl ⟨rfl, fun _ => rfl⟩) ?_
  simp only [Act.put, List.setIfInBounds_toArray, List.set_cons_zero, List.set_cons_succ]
  refine wpK_done (by kernel_rfl) (fun V8 hv9 => ?_) _
  have GC10 := Lib.hid (GC6.out.trans (Gr.un hv9))
  clear hv9
  rw [show c7 = true from HCV.out _ Hc7.out]
  go_upto_region 5 with fail
  refine wpG_region ?_
  refine @wpG_tk _ _ _ _ _ (some 30) (.bool true) _ _ rfl (.val (by rfl) (fun _ _ => rfl)) ?_
  simp only [Act.put, List.setIfInBounds_toArray, List.set_cons_zero, List.set_cons_succ]
  refine wpG_done (fun V11 hv12 => ?_)
  have GC13 := Lib.hid (GC10.out.trans hv12)
  clear hv12
  go_upto_region 6 with fail
  obtain ⟨i0, hi0, hz0, hz1, hz2⟩ := info_parts infoCube
  have hlo : ∀ k, (Value.slice A n c).ownBlock = some k → k < w.heap.size := fun k hk => (HO0.out.lt k hk).2
  have HLO := Lib.hid hlo
  clear hlo
  refine wpG_region ?_
  refine @wpG_tk _ _ _ _ _ (some 31) (.slice A n c) _ _ rfl (.val (by rfl) (fun _ _ => rfl)) ?_
  simp only [Act.put, List.setIfInBounds_toArray, List.set_cons_zero, List.set_cons_succ]
  refine @wpG_tk _ _ _ _ _ (some 32) (.agg #[.int .i64 x, .int .i64 y, .int .i64 z, .int .i64 L]) _ _ rfl (.load_mid (by rfl) 27 (.tmp 5) rfl (w.heap.size + 1) 0 rfl [.int .i64 x, .int .i64 y, .int .i64 z, .int .i64 L] _ (fun W hg => (R1.out.below (GC13.out.trans hg)).range) Try.underlying27 rfl (by kernel_rfl)) ?_
  simp only [Act.put, List.setIfInBounds_toArray, List.set_cons_zero, List.set_cons_succ]
  refine wpG_val (some 33) rfl (by rfl) (fun W14 hg15 => ⟨.slice (some ⟨W14.heap.size, 0, none⟩) 1 1, W14.alloc (.cells #[.int .i64 x, .int .i64 y, .int .i64 z, .int .i64 L] 27), by (go_simp <;> rfl), ?_⟩)
  simp only [Act.put, List.setIfInBounds_toArray, List.set_cons_zero, List.set_cons_succ]
  obtain ⟨U16, hu, rn, gn⟩ : ∃ zw, zw = W14.alloc (.cells #[.int .i64 x, .int .i64 y, .int .i64 z, .int .i64 L] 27) ∧ Row W14.heap.size [.int .i64 x, .int .i64 y, .int .i64 z, .int .i64 L] zw ∧ Gr W14 zw := ⟨_, rfl, Row.newl W14 [.int .i64 x, .int .i64 y, .int .i64 z, .int .i64 L] 27, Gr.al _ _⟩
  rw [← hu]
  have RN17 := Lib.hid rn
  have GB18 := Lib.hid (Gr.trans (GC13.out.trans hg15) gn)
  clear hu rn gn hg15
  refine wpG_app _ (some 34) rfl rfl (.tmp 31) (.tmp 33) 38 38 rfl B 27 i0 _ 4 32 Try.underlying38 hi0 hz0 hz1 hz2 rfl _ _ _ (own_gr HOU.out (GB18.out.trans (Gr.refl _))) _ 1 [.int .i64 x, .int .i64 y, .int .i64 z, .int .i64 L] (fun w2 h2 => src_new Try.underlying38 [.int .i64 x, .int .i64 y, .int .i64 z, .int .i64 L] 4 rfl RN17.out (by intro u hu; simp at hu; rcases hu with rfl | rfl | rfl | rfl <;> rfl) w2 h2 (by simp)) rfl rfl (by simp only [maxLen]; omega) (by omega) (Nat.le_trans (Nat.le_trans hB hsu) (GB18.out.trans (Gr.refl _)).size) (fun v25 W19 W20 hg21 ow24 gb22 wh23 => ?_)
  have R26 := Lib.hid ((Chg.of_grown gb22).row (R0.out.below ((GB18.out.trans (Gr.refl _)).trans hg21)) (fun e => by have := HLO.out _ e; omega))
  have R27 := Lib.hid ((Chg.of_grown gb22).row (R1.out.below ((GB18.out.trans (Gr.refl _)).trans hg21)) (fun e => by have := HLO.out _ e; omega))
  have HC28 := Lib.hid (HCH.out.app ((GB18.out.trans (Gr.refl _)).trans hg21) gb22 (fun k hk => .inl hk))
  have hszW19 : u.heap.size ≤ W19.heap.size := ((GB18.out.trans (Gr.refl _)).trans hg21).size
  obtain ⟨A1, k1, rfl, hle1, hcap1, _⟩ := own_shape ow24
  have OW29 := Lib.hid ow24
  have HWH := Lib.hid wh23
  clear ow24 wh23 gb22
  simp only [Act.put, List.setIfInBounds_toArray, List.set_cons_zero, List.set_cons_succ]
  refine @wpG_tk _ _ _ _ _ (some 6) (.slice A1 (n + 1) k1) _ _ rfl (.val (by rfl) (fun _ _ => rfl)) ?_
  simp only [Act.put, List.setIfInBounds_toArray, List.set_cons_zero, List.set_cons_succ]
  refine wpG_done (fun V30 hv31 => ?_)
  have GC32 := Lib.hid hv31
  clear hv31
  go_wp2_with fail
  go_ret
  exact ⟨_, _, _, cl ++ [(x, y, z, L)], (Mo.cut_small (by rw [List.length_append, ← HN.out]; simp only [List.length_cons, List.length_nil]; omega)).symm, by rw [List.length_append, ← HN.out]; rfl, rfl, own_gr (by rw [ccs_append, ccs_one]; exact OW29.out) GC32.out, HC28.out.gr GC32.out, fun k hk => by rcases HWH.out with h1 | h1; exact .inl (h1 ▸ hk); right; rw [h1] at hk; injection hk with hk; omega⟩
set_option maxRecDepth 1000000 in
set_option maxHeartbeats 4000000 in
theorem rcub_d (b1 b2 b3 b4 b5 b6 x y z L : Int) (l B n c : Nat) (A : Option Addr) (cl : List Mo.Cb) (w : World) (hL : L = (l : Int) + 1) (hs : Mo.sits x y z (l + 1)) (hb : b1 < b4 ∧ b2 < b5 ∧ b3 < b6) (hB : B ≤ w.heap.size) (hn : n = cl.length) (hn2 : n ≤ 4097) (hown : w.ownsRow B 27 4 (.slice A n c) n (ccs cl)) (hm : Mo.meets b1 b2 b3 b4 b5 b6 x y z (l + 1) = true) (hq : ¬ 4096 < n) (hw : Mo.within b1 b2 b3 b4 b5 b6 x y z (l + 1) = false)
    (ih : ∀ (x y z L : Int) (n c : Nat) (A : Option Addr) (cl : List Mo.Cb) (w : World), L = (l : Int) → Mo.sits x y z l → B ≤ w.heap.size → n = cl.length → n ≤ 4097 → w.ownsRow B 27 4 (.slice A n c) n (ccs cl) → Calls Try.prog 45 #[.slice A n c, .agg #[.int .i64 b1, .int .i64 b2, .int .i64 b3, .int .i64 b4, .int .i64 b5, .int .i64 b6], .agg #[.int .i64 x, .int .i64 y, .int .i64 z, .int .i64 L]] w (CubP B (fun k => (Value.slice A n c).ownBlock = some k) (Mo.cub b1 b2 b3 b4 b5 b6 l x y z) cl w (fun v cl2 e w2 => e = .returned v))) :
    Calls Try.prog 45 #[.slice A n c, .agg #[.int .i64 b1, .int .i64 b2, .int .i64 b3, .int .i64 b4, .int .i64 b5, .int .i64 b6], .agg #[.int .i64 x, .int .i64 y, .int .i64 z, .int .i64 L]] w (CubP B (fun k => (Value.slice A n c).ownBlock = some k) (Mo.ffl (fun o => Mo.cub b1 b2 b3 b4 b5 b6 l (x + Mo.cx 0 o l) (y + Mo.cx 1 o l) (z + Mo.cx 2 o l)) 8 0) cl w (fun v cl2 e w2 => e = .returned v)) := by
  have ha : Mo.apartB b1 b2 b3 b4 b5 b6 x y z (l + 1) = false := by rw [Mo.apart_eq hb, hm]; rfl
  have HA := Lib.hid ha
  obtain ⟨c1, hc1⟩ : ∃ c, c = Mo.cellB b1 b2 b3 b4 b5 b6 x y z := ⟨_, rfl⟩
  obtain ⟨c2, hc2⟩ : ∃ c, c = Mo.cellB b1 b2 b3 b4 b5 b6 (x + (Mo.pw (l + 1) - 1)) (y + (Mo.pw (l + 1) - 1)) (z + (Mo.pw (l + 1) - 1)) := ⟨_, rfl⟩
  have hcv : ∀ c, c = (c1 && c2) → c = false := fun c hc => cut2 hc1 hc2 ((Mo.whole_eq hs).trans hw) hc
  have HCV := Lib.hid hcv
  clear hcv hw
  have HC1 := Lib.hid hc1
  have HC2 := Lib.hid hc2
  have HL := Lib.hid hL
  have HS := Lib.hid hs
  have HN := Lib.hid hn
  have HO0 := Lib.hid hown
  clear hc1 hc2 hL hs hm ha hb hn hown
  obtain ⟨u, hu, r0, r1, g0⟩ := rows2 w [.int .i64 b1, .int .i64 b2, .int .i64 b3, .int .i64 b4, .int .i64 b5, .int .i64 b6] 37 [.int .i64 x, .int .i64 y, .int .i64 z, .int .i64 L] 27
  have R0 := Lib.hid r0
  have R1 := Lib.hid r1
  have G0 := Lib.hid g0
  have HU := Lib.hid hu
  clear hu g0 r0 r1
  go_enter Try.func45, Try.ntmps45
  go_upto_region 1 with fail
  rw [← HU.out]
  have HCH := Lib.hid (Chg.of_gr (S := (fun k => (Value.slice A n c).ownBlock = some k)) G0.out)
  have HOU := Lib.hid (own_gr HO0.out G0.out)
  have hsu : w.heap.size ≤ u.heap.size := G0.out.size
  refine wpG_region ?_
  refine @wpG_tk _ _ _ _ _ (some 10) (.agg #[.int .i64 b1, .int .i64 b2, .int .i64 b3, .int .i64 b4, .int .i64 b5, .int .i64 b6]) _ _ rfl (.load_mid (by rfl) 37 (.tmp 4) rfl (w.heap.size) 0 rfl [.int .i64 b1, .int .i64 b2, .int .i64 b3, .int .i64 b4, .int .i64 b5, .int .i64 b6] _ (fun W hg => (R0.out.below hg).range) Try.underlying37 rfl (by kernel_rfl)) ?_
  simp only [Act.put, List.setIfInBounds_toArray, List.set_cons_zero, List.set_cons_succ]
  refine @wpG_tk _ _ _ _ _ (some 11) (.agg #[.int .i64 x, .int .i64 y, .int .i64 z, .int .i64 L]) _ _ rfl (.load_mid (by rfl) 27 (.tmp 5) rfl (w.heap.size + 1) 0 rfl [.int .i64 x, .int .i64 y, .int .i64 z, .int .i64 L] _ (fun W hg => (R1.out.below hg).range) Try.underlying27 rfl (by kernel_rfl)) ?_
  simp only [Act.put, List.setIfInBounds_toArray, List.set_cons_zero, List.set_cons_succ]
  refine @wpG_tk _ _ _ _ _ (some 12) (.bool false) _ _ rfl (.call (f := 52) (args := #[.agg #[.int .i64 b1, .int .i64 b2, .int .i64 b3, .int .i64 b4, .int .i64 b5, .int .i64 b6], .agg #[.int .i64 x, .int .i64 y, .int .i64 z, .int .i64 L]]) (by rfl) (fun W => by go_simp) (fun W hg => apart_K b1 b2 b3 b4 b5 b6 x y z L (l + 1) false W HL.out HS.out HA.out)) ?_
  simp only [Act.put, List.setIfInBounds_toArray, List.set_cons_zero, List.set_cons_succ]
  refine @wpG_tk _ _ _ _ _ (some 7) (.bool false) _ _ rfl (.val (by rfl) (fun _ _ => rfl)) ?_
  simp only [Act.put, List.setIfInBounds_toArray, List.set_cons_zero, List.set_cons_succ]
  refine wpG_done (fun V1 hv2 => ?_)
  have GC3 := Lib.hid hv2
  clear hv2
  go_upto_region 2 with fail
  refine wpG_region ?_
  refine @wpG_tk _ _ _ _ _ (some 13) (.bool false) _ _ rfl (.val (by rfl) (fun _ _ => rfl)) ?_
  simp only [Act.put, List.setIfInBounds_toArray, List.set_cons_zero, List.set_cons_succ]
  refine @wpG_tk _ _ _ _ _ (some 14) (.bool false) _ _ rfl (.val (by rfl) (fun _ _ => rfl)) ?_
  simp only [Act.put, List.setIfInBounds_toArray, List.set_cons_zero, List.set_cons_succ]
  refine @wpG_tk _ _ _ _ _ (some 15) (.slice A n c) _ _ rfl (.val (by rfl) (fun _ _ => rfl)) ?_
  simp only [Act.put, List.setIfInBounds_toArray, List.set_cons_zero, List.set_cons_succ]
  refine @wpG_tk _ _ _ _ _ (some 16) (.int .i64 n) _ _ rfl (.val (by rfl) (fun W hg => by go_simp)) ?_
  simp only [Act.put, List.setIfInBounds_toArray, List.set_cons_zero, List.set_cons_succ]
  refine @wpG_tk _ _ _ _ _ (some 17) (.bool false) _ _ rfl (.val (by rfl) (fun W hg => by have hq : ¬ (n > 4096) := (by omega); first | (go_simp; done) | (go_simp <;> omega))) ?_
  simp only [Act.put, List.setIfInBounds_toArray, List.set_cons_zero, List.set_cons_succ]
  refine @wpG_tk _ _ _ _ _ (some 18) (.bool false) _ _ rfl (.val (by rfl) (fun W hg => by go_simp)) ?_
  simp only [Act.put, List.setIfInBounds_toArray, List.set_cons_zero, List.set_cons_succ]
  refine wpG_done (fun V4 hv5 => ?_)
  have GC6 := Lib.hid (GC3.out.trans hv5)
  clear hv5
  go_upto_region 4 with fail
  refine wpK_region (by kernel_rfl) ?_
  refine wpK_tk (i := 0) (some 20) (v := .agg #[.int .i64 b1, .int .i64 b2, .int .i64 b3, .int .i64 b4, .int .i64 b5, .int .i64 b6]) rfl rfl (by kernel_rfl) (fun _ _ _ h => h) (.load_mid (by rfl) 37 (.tmp 4) rfl (w.heap.size) 0 rfl [.int .i64 b1, .int .i64 b2, .int .i64 b3, .int .i64 b4, .int .i64 b5, .int .i64 b6] _ (fun W hg => (R0.out.below (GC6.out.trans (Gr.un hg))).range) Try.underlying37 rfl (by kernel_rfl)) ?_
  simp only [Act.put, List.setIfInBounds_toArray, List.set_cons_zero, List.set_cons_succ]
  refine wpK_ta (i := 1) (some 21) (v := .pointer (some ⟨w.heap.size + 1, 0, none⟩)) rfl rfl (by kernel_rfl) (fun _ _ _ h => h) (Or.inl ⟨by rfl, fun W => by go_simp⟩) ?_
  simp only [Act.put, List.setIfInBounds_toArray, List.set_cons_zero, List.set_cons_succ]
  refine wpK_tk (i := 2) (some 22) (v := .agg #[.int .i64 x, .int .i64 y, .int .i64 z]) rfl rfl (by kernel_rfl) (fun _ _ _ h => h) (.load_mid (by rfl) 23 (.tmp 21) rfl (w.heap.size + 1) 0 rfl [.int .i64 x, .int .i64 y, .int .i64 z] _ (fun W hg => ((R1.out.below (GC6.out.trans (Gr.un hg))).part 0 3 rfl)) Try.underlying23 rfl (by kernel_rfl)) ?_
  simp only [Act.put, List.setIfInBounds_toArray, List.set_cons_zero, List.set_cons_succ]
  refine wpK_tk (i := 3) (some 23) (v := .bool c1) rfl rfl (by kernel_rfl) (fun _ _ _ h => h) (.call (f := 33) (args := #[.agg #[.int .i64 b1, .int .i64 b2, .int .i64 b3, .int .i64 b4, .int .i64 b5, .int .i64 b6], .agg #[.int .i64 x, .int .i64 y, .int .i64 z]]) (by rfl) (fun W => by go_simp) (fun W hg => cell_K b1 b2 b3 b4 b5 b6 x y z c1 W HC1.out)) ?_
  simp only [Act.put, List.setIfInBounds_toArray, List.set_cons_zero, List.set_cons_succ]
  refine wpK_ta (i := 4) (some 24) (v := .bool c1) rfl rfl (by kernel_rfl) (fun _ _ _ h => h) (Or.inl ⟨rfl, fun _ => rfl⟩) ?_
  simp only [Act.put, List.setIfInBounds_toArray, List.set_cons_zero, List.set_cons_succ]
  refine wpK_tk (i := 5) (some 25) (v := (bif c1 then .agg #[.int .i64 b1, .int .i64 b2, .int .i64 b3, .int .i64 b4, .int .i64 b5, .int .i64 b6] else undef)) rfl rfl (by kernel_rfl) (fun _ _ _ h => h) (by cases c1 with | false => exact .no (by rfl) | true => exact (.load_mid (by rfl) 37 (.tmp 4) rfl (w.heap.size) 0 rfl [.int .i64 b1, .int .i64 b2, .int .i64 b3, .int .i64 b4, .int .i64 b5, .int .i64 b6] _ (fun W hg => (R0.out.below (GC6.out.trans (Gr.un hg))).range) Try.underlying37 rfl (by kernel_rfl))) ?_
  simp only [Act.put, List.setIfInBounds_toArray, List.set_cons_zero, List.set_cons_succ]
  refine wpK_tk (i := 6) (some 26) (v := (bif c1 then .agg #[.int .i64 x, .int .i64 y, .int .i64 z, .int .i64 L] else undef)) rfl rfl (by kernel_rfl) (fun _ _ _ h => h) (by cases c1 with | false => exact .no (by rfl) | true => exact (.load_mid (by rfl) 27 (.tmp 5) rfl (w.heap.size + 1) 0 rfl [.int .i64 x, .int .i64 y, .int .i64 z, .int .i64 L] _ (fun W hg => (R1.out.below (GC6.out.trans (Gr.un hg))).range) Try.underlying27 rfl (by kernel_rfl))) ?_
  simp only [Act.put, List.setIfInBounds_toArray, List.set_cons_zero, List.set_cons_succ]
  refine wpK_tk (i := 7) (some 27) (v := (bif c1 then .agg #[.int .i64 (x + (Mo.pw (l + 1) - 1)), .int .i64 (y + (Mo.pw (l + 1) - 1)), .int .i64 (z + (Mo.pw (l + 1) - 1))] else undef)) rfl rfl (by kernel_rfl) (fun _ _ _ h => h) (by cases c1 with | false => exact .no (by rfl) | true => exact (.call (f := 53) (args := #[.agg #[.int .i64 x, .int .i64 y, .int .i64 z, .int .i64 L]]) (by rfl) (fun W => by go_simp) (fun W hg => far_L x y z L (l + 1) W HL.out HS.out))) ?_
  simp only [Act.put, List.setIfInBounds_toArray, List.set_cons_zero, List.set_cons_succ]
  refine wpK_tk (i := 8) (some 28) (v := (bif c1 then .bool c2 else undef)) rfl rfl (by kernel_rfl) (fun _ _ _ h => h) (by cases c1 with | false => exact .no (by rfl) | true => exact (.call (f := 33) (args := #[.agg #[.int .i64 b1, .int .i64 b2, .int .i64 b3, .int .i64 b4, .int .i64 b5, .int .i64 b6], .agg #[.int .i64 (x + (Mo.pw (l + 1) - 1)), .int .i64 (y + (Mo.pw (l + 1) - 1)), .int .i64 (z + (Mo.pw (l + 1) - 1))]]) (by rfl) (fun W => by go_simp) (fun W hg => cell_K b1 b2 b3 b4 b5 b6 (x + (Mo.pw (l + 1) - 1)) (y + (Mo.pw (l + 1) - 1)) (z + (Mo.pw (l + 1) - 1)) c2 W HC2.out))) ?_
  simp only [Act.put, List.setIfInBounds_toArray, List.set_cons_zero, List.set_cons_succ]
  refine wpK_ta (i := 9) (some 29) (v := .bool (c1 && c2)) rfl rfl (by kernel_rfl) (fun _ _ _ h => h) (Or.inl ⟨by rfl, fun W => by cases c1 <;> go_simp⟩) ?_
  simp only [Act.put, List.setIfInBounds_toArray, List.set_cons_zero, List.set_cons_succ]
  obtain ⟨c7, hc7⟩ : ∃ b, b = (c1 && c2) := ⟨_, rfl⟩
  rw [← hc7]
  have Hc7 := Lib.hid hc7
  clear hc7
  refine wpK_ta (i := 10) (some 8) (v := .bool c7) rfl rfl (by kernel_rfl) (fun _ _ _ h => h) (Or.inl ⟨rfl, fun _ => rfl⟩) ?_
  simp only [Act.put, List.setIfInBounds_toArray, List.set_cons_zero, List.set_cons_succ]
  refine wpK_done (by kernel_rfl) (fun V8 hv9 => ?_) _
  have GC10 := Lib.hid (GC6.out.trans (Gr.un hv9))
  clear hv9
  rw [show c7 = false from HCV.out _ Hc7.out]
  go_upto_region 5 with fail
  refine wpG_region ?_
  refine @wpG_tk _ _ _ _ _ (some 30) (.bool false) _ _ rfl (.val (by rfl) (fun _ _ => rfl)) ?_
  simp only [Act.put, List.setIfInBounds_toArray, List.set_cons_zero, List.set_cons_succ]
  refine wpG_done (fun V11 hv12 => ?_)
  have GC13 := Lib.hid (GC10.out.trans hv12)
  clear hv12
  go_upto_region 7 with fail
  refine wpG_region ?_
  refine @wpG_tk _ _ _ _ _ (some 9) (.int .i64 0) _ _ rfl (.val (by rfl) (fun _ _ => rfl)) ?_
  simp only [Act.put, List.setIfInBounds_toArray, List.set_cons_zero, List.set_cons_succ]
  refine wpG_done (fun V14 hv15 => ?_)
  have GC16 := Lib.hid (GC13.out.trans hv15)
  clear hv15
  obtain ⟨R, hR⟩ : ∃ R, R = Mo.cut (cl ++ Mo.ffl (fun o => Mo.cub b1 b2 b3 b4 b5 b6 l (x + Mo.cx 0 o l) (y + Mo.cx 1 o l) (z + Mo.cx 2 o l)) 8 0) := ⟨_, rfl⟩
  have HR := Lib.hid hR
  clear hR
  have hu2 : u.heap.size = w.heap.size + 2 := by rw [HU.out]; simp
  have hst0 : St B (fun k => (Value.slice A n c).ownBlock = some k) (w.heap.size + 2) w (.slice A n c) cl u := ⟨HN.out ▸ HOU.out, HCH.out, fun k hk => .inl hk, by omega, by omega, hB⟩
  have HST0 := Lib.hid (hst0.gr GC16.out)
  clear hst0
  go_wp2_with fail
  go_loopw [9, 0] (fun i v wr => ∃ (o k n2 c2 : Nat) (A2 : Option Addr) (cl2 : List Mo.Cb), i = .int .i64 (o : Int) ∧ v = .slice A2 n2 c2 ∧ o + k = 8 ∧ n2 = cl2.length ∧ n2 ≤ 4097 ∧ Mo.cut (cl2 ++ Mo.ffl (fun o => Mo.cub b1 b2 b3 b4 b5 b6 l (x + Mo.cx 0 o l) (y + Mo.cx 1 o l) (z + Mo.cx 2 o l)) k o) = R ∧ Row w.heap.size [.int .i64 b1, .int .i64 b2, .int .i64 b3, .int .i64 b4, .int .i64 b5, .int .i64 b6] wr ∧ Row (w.heap.size + 1) [.int .i64 x, .int .i64 y, .int .i64 z, .int .i64 L] wr ∧ St B (fun k => (Value.slice A n c).ownBlock = some k) (w.heap.size + 2) w (.slice A2 n2 c2) cl2 wr) (fun i _ _ => 8 - (intOf i).toNat)
  case atStart => exact ⟨0, 8, n, c, A, cl, rfl, rfl, rfl, HN.out, hn2, HR.out.symm, R0.out.below GC16.out, R1.out.below GC16.out, HST0.out⟩
  case round =>
    obtain ⟨o, k, n2, c2, A2, cl2, rfl, rfl, hk, hn3, hn4, hrf, hr0, hr1, hst⟩ := hrel
    have HN2 := Lib.hid hn3
    have HX0 := Lib.hid hr0
    have HX1 := Lib.hid hr1
    have HST := Lib.hid hst
    clear hn3 hr0 hr1 hst
    cases k with
    | zero =>
      have ho : o = 8 := by omega
      have HRF := Lib.hid hrf
      clear hrf hk
      obtain rfl := ho
      go_upto_region 8 with fail
      refine wpG_region ?_
      refine @wpG_tk _ _ _ _ _ (some 35) (.int .i64 8) _ _ rfl (.val (by rfl) (fun _ _ => rfl)) ?_
      simp only [Act.put, List.setIfInBounds_toArray, List.set_cons_zero, List.set_cons_succ]
      refine @wpG_tk _ _ _ _ _ (some 36) (.bool false) _ _ rfl (.val (by rfl) (fun W hg => by go_simp)) ?_
      simp only [Act.put, List.setIfInBounds_toArray, List.set_cons_zero, List.set_cons_succ]
      refine wpG_done (fun V17 hv18 => ?_)
      have GC19 := Lib.hid hv18
      clear hv18
      go_upto_region 11 with fail
      refine wpG_region ?_
      refine @wpG_tk _ _ _ _ _ (some 45) (.slice A2 n2 c2) _ _ rfl (.val (by rfl) (fun _ _ => rfl)) ?_
      simp only [Act.put, List.setIfInBounds_toArray, List.set_cons_zero, List.set_cons_succ]
      refine @wpG_tk _ _ _ _ _ (some 6) (.slice A2 n2 c2) _ _ rfl (.val (by rfl) (fun _ _ => rfl)) ?_
      simp only [Act.put, List.setIfInBounds_toArray, List.set_cons_zero, List.set_cons_succ]
      refine wpG_done (fun V20 hv21 => ?_)
      have GC22 := Lib.hid (GC19.out.trans hv21)
      clear hv21
      go_wp2_with fail
      go_ret
      have hs5 := HST.out.gr GC22.out
      exact ⟨_, _, _, cl2, by rw [← HR.out, ← HRF.out]; simp only [Mo.ffl, List.append_nil]; exact (Mo.cut_small (by rw [← HN2.out]; omega)).symm, HN2.out, rfl, HN2.out ▸ hs5.own, hs5.chg, fun k hk => by rcases hs5.ob k hk with h1 | h1; exact .inl h1; exact .inr (by omega)⟩
    | succ k =>
      obtain ⟨d0, hd0⟩ : ∃ d, d = x + Mo.cx 0 o l := ⟨_, rfl⟩
      have H0 := Lib.hid hd0
      obtain ⟨d1, hd1⟩ : ∃ d, d = y + Mo.cx 1 o l := ⟨_, rfl⟩
      have H1 := Lib.hid hd1
      obtain ⟨d2, hd2⟩ : ∃ d, d = z + Mo.cx 2 o l := ⟨_, rfl⟩
      have H2 := Lib.hid hd2
      have hsc := Mo.sits_child HS.out o
      rw [← hd0, ← hd1, ← hd2] at hsc
      have HSC := Lib.hid hsc
      obtain ⟨T, hT⟩ : ∃ T, T = Mo.cub b1 b2 b3 b4 b5 b6 l d0 d1 d2 := ⟨_, rfl⟩
      have hTg : T = (fun o => Mo.cub b1 b2 b3 b4 b5 b6 l (x + Mo.cx 0 o l) (y + Mo.cx 1 o l) (z + Mo.cx 2 o l)) o := by rw [hT, hd0, hd1, hd2]
      have hrf2 : Mo.cut (cl2 ++ (T ++ Mo.ffl (fun o => Mo.cub b1 b2 b3 b4 b5 b6 l (x + Mo.cx 0 o l) (y + Mo.cx 1 o l) (z + Mo.cx 2 o l)) k (o + 1))) = R := by rw [hTg]; exact hrf
      have HT := Lib.hid hT
      have HRF := Lib.hid hrf2
      clear hd0 hd1 hd2 hsc hT hTg hrf hrf2
      go_upto_region 8 with fail
      refine wpG_region ?_
      refine @wpG_tk _ _ _ _ _ (some 35) (.int .i64 (o : Int)) _ _ rfl (.val (by rfl) (fun _ _ => rfl)) ?_
      simp only [Act.put, List.setIfInBounds_toArray, List.set_cons_zero, List.set_cons_succ]
      refine @wpG_tk _ _ _ _ _ (some 36) (.bool true) _ _ rfl (.val (by rfl) (fun W hg => by have hq : ((o : Int) < 8) := (by omega); first | (go_simp; done) | (go_simp <;> omega))) ?_
      simp only [Act.put, List.setIfInBounds_toArray, List.set_cons_zero, List.set_cons_succ]
      refine wpG_done (fun V23 hv24 => ?_)
      have GC25 := Lib.hid hv24
      clear hv24
      go_upto_region 10 with fail
      refine J.wpK_region (st := fun i => i == 5) (by kernel_rfl) ?_
      refine J.wpK_ta (i := 0) (some 39) (v := .slice A2 n2 c2) rfl rfl (by kernel_rfl) (fun _ _ _ h => h) (Or.inl ⟨rfl, fun _ => rfl⟩) ?_
      simp only [Act.put, List.setIfInBounds_toArray, List.set_cons_zero, List.set_cons_succ]
      refine J.wpK_tk (i := 1) (some 40) (v := .agg #[.int .i64 b1, .int .i64 b2, .int .i64 b3, .int .i64 b4, .int .i64 b5, .int .i64 b6]) rfl rfl (by kernel_rfl) (fun _ _ _ h => h) (.load_mid (by rfl) 37 (.tmp 4) rfl (w.heap.size) 0 rfl [.int .i64 b1, .int .i64 b2, .int .i64 b3, .int .i64 b4, .int .i64 b5, .int .i64 b6] _ (fun W hg => (HX0.out.below (GC25.out.trans (Gr.un hg))).range) Try.underlying37 rfl (by kernel_rfl)) ?_
      simp only [Act.put, List.setIfInBounds_toArray, List.set_cons_zero, List.set_cons_succ]
      refine J.wpK_tk (i := 2) (some 41) (v := .agg #[.int .i64 x, .int .i64 y, .int .i64 z, .int .i64 L]) rfl rfl (by kernel_rfl) (fun _ _ _ h => h) (.load_mid (by rfl) 27 (.tmp 5) rfl (w.heap.size + 1) 0 rfl [.int .i64 x, .int .i64 y, .int .i64 z, .int .i64 L] _ (fun W hg => (HX1.out.below (GC25.out.trans (Gr.un hg))).range) Try.underlying27 rfl (by kernel_rfl)) ?_
      simp only [Act.put, List.setIfInBounds_toArray, List.set_cons_zero, List.set_cons_succ]
      refine J.wpK_ta (i := 3) (some 42) (v := .int .i64 (o : Int)) rfl rfl (by kernel_rfl) (fun _ _ _ h => h) (Or.inl ⟨rfl, fun _ => rfl⟩) ?_
      simp only [Act.put, List.setIfInBounds_toArray, List.set_cons_zero, List.set_cons_succ]
      refine J.wpK_tk (i := 4) (some 43) (v := .agg #[.int .i64 d0, .int .i64 d1, .int .i64 d2, .int .i64 (L - 1)]) rfl rfl (by kernel_rfl) (fun _ _ _ h => h) (.call (f := 54) (args := #[.agg #[.int .i64 x, .int .i64 y, .int .i64 z, .int .i64 L], .int .i64 (o : Int)]) (by rfl) (fun W => by go_simp) (fun W hg => (H0.out ▸ H1.out ▸ H2.out ▸ rchild_L x y z L l o W HL.out HS.out (by omega)))) ?_
      simp only [Act.put, List.setIfInBounds_toArray, List.set_cons_zero, List.set_cons_succ]
      refine J.wpK_call (i := 5) (some 44) 45 #[.slice A2 n2 c2, .agg #[.int .i64 b1, .int .i64 b2, .int .i64 b3, .int .i64 b4, .int .i64 b5, .int .i64 b6], .agg #[.int .i64 d0, .int .i64 d1, .int .i64 d2, .int .i64 (L - 1)]] rfl rfl (by kernel_rfl) (by rfl) rfl (fun W => by go_simp) (fun W26 hg27 => ?_)
      have hst2 := HST.out.gr (GC25.out.trans (Gr.un hg27))
      refine (ih d0 d1 d2 (L - 1) n2 c2 A2 cl2 W26 (by have := HL.out; omega) HSC.out (Nat.le_trans hB (Nat.le_trans hst2.wm hst2.sz)) HN2.out hn4 (HN2.out ▸ hst2.own)).mono ?_
      rintro e w28 ⟨A3, n3, c3, cl3, hc3, hn3, rfl, own3, chg3, ob3⟩
      refine ⟨_, rfl, ?_⟩
      have HC3 := Lib.hid hc3
      have HN3 := Lib.hid hn3
      have hn5 : n3 ≤ 4097 := by rw [hn3, hc3]; exact Mo.cut_len _
      have R29 := Lib.hid (hst2.row chg3 hst2.ob (HX0.out.below (GC25.out.trans (Gr.un hg27))) (by omega) (fun e => by have := (HO0.out.lt _ e).2; omega))
      have R30 := Lib.hid (hst2.row chg3 hst2.ob (HX1.out.below (GC25.out.trans (Gr.un hg27))) (by omega) (fun e => by have := (HO0.out.lt _ e).2; omega))
      have HST3 := Lib.hid (hst2.call (cl' := cl3) (v' := .slice A3 n3 c3) chg3 hst2.ob (by rw [← hn3]; exact own3) ob3)
      clear hst2 hc3 hn3 own3 chg3 ob3 hg27
      simp only [Act.put, List.setIfInBounds_toArray, List.set_cons_zero, List.set_cons_succ]
      refine J.wpK_ta (i := 6) (some 0) (v := .slice A3 n3 c3) rfl rfl (by kernel_rfl) (fun _ _ _ h => h) (Or.inl ⟨rfl, fun _ => rfl⟩) ?_
      simp only [Act.put, List.setIfInBounds_toArray, List.set_cons_zero]
      refine J.wpK_done (by kernel_rfl) (fun V31 hv32 => ?_) _
      have GC33 := Lib.hid hv32
      clear hv32
      go_upto_region 9 with fail
      refine wpG_region ?_
      refine @wpG_tk _ _ _ _ _ (some 37) (.int .i64 (o : Int)) _ _ rfl (.val (by rfl) (fun _ _ => rfl)) ?_
      simp only [Act.put, List.setIfInBounds_toArray, List.set_cons_zero, List.set_cons_succ]
      refine @wpG_tk _ _ _ _ _ (some 38) (.int .i64 ((o : Int) + 1)) _ _ rfl (.val (by rfl) (fun W hg => by (first | (go_simp; done) | (go_simp; rw [IntWalk.i64_in _ (by omega)])))) ?_
      simp only [Act.put, List.setIfInBounds_toArray, List.set_cons_zero, List.set_cons_succ]
      refine @wpG_tk _ _ _ _ _ (some 9) (.int .i64 ((o : Int) + 1)) _ _ rfl (.val (by rfl) (fun _ _ => rfl)) ?_
      simp only [Act.put, List.setIfInBounds_toArray, List.set_cons_zero, List.set_cons_succ]
      refine wpG_done (fun V34 hv35 => ?_)
      have GC36 := Lib.hid (GC33.out.trans hv35)
      clear hv35
      go_wp2_with fail
      go_roundw
      case rel => exact ⟨o + 1, k, n3, c3, A3, cl3, by go_num, rfl, by omega, HN3.out, hn5, by rw [← HRF.out, HC3.out, Mo.cut_cut, List.append_assoc, HT.out], R29.out.below GC36.out, R30.out.below GC36.out, HST3.out.gr GC36.out⟩
      case measure => first | (simp [intOf]; done) | (simp [intOf]; omega)
theorem rcubes_rec (b1 b2 b3 b4 b5 b6 : Int) (B : Nat) (hb : b1 < b4 ∧ b2 < b5 ∧ b3 < b6) : ∀ (l : Nat) (x y z L : Int) (n c : Nat) (A : Option Addr) (cl : List Mo.Cb) (w : World), L = (l : Int) → Mo.sits x y z l → B ≤ w.heap.size → n = cl.length → n ≤ 4097 → w.ownsRow B 27 4 (.slice A n c) n (ccs cl) → Calls Try.prog 45 #[.slice A n c, .agg #[.int .i64 b1, .int .i64 b2, .int .i64 b3, .int .i64 b4, .int .i64 b5, .int .i64 b6], .agg #[.int .i64 x, .int .i64 y, .int .i64 z, .int .i64 L]] w (CubP B (fun k => (Value.slice A n c).ownBlock = some k) (Mo.cub b1 b2 b3 b4 b5 b6 l x y z) cl w (fun v cl2 e w2 => e = .returned v))
  | 0, x, y, z, L, n, c, A, cl, w, hL, hs, hB, hn, hn2, hown => by
    unfold Mo.cub
    cases hm : Mo.meets b1 b2 b3 b4 b5 b6 x y z 0 with
    | false => exact rcub_a b1 b2 b3 b4 b5 b6 x y z L 0 B n c A cl w hL hs hb hB hn hn2 hown hm
    | true =>
      by_cases hq : 4096 < n
      · exact rcub_b b1 b2 b3 b4 b5 b6 x y z L 0 B n c A cl w hL hs hb hB hn hn2 hown hm hq _
      · rw [Mo.within0 hm, ← hL]
        exact rcub_c b1 b2 b3 b4 b5 b6 x y z L 0 B n c A cl w hL hs hb hB hn hn2 hown hm hq (Mo.within0 hm)
  | l + 1, x, y, z, L, n, c, A, cl, w, hL, hs, hB, hn, hn2, hown => by
    unfold Mo.cub
    cases hm : Mo.meets b1 b2 b3 b4 b5 b6 x y z (l + 1) with
    | false => exact rcub_a b1 b2 b3 b4 b5 b6 x y z L (l + 1) B n c A cl w hL hs hb hB hn hn2 hown hm
    | true =>
      by_cases hq : 4096 < n
      · exact rcub_b b1 b2 b3 b4 b5 b6 x y z L (l + 1) B n c A cl w hL hs hb hB hn hn2 hown hm hq _
      · cases hw : Mo.within b1 b2 b3 b4 b5 b6 x y z (l + 1) with
        | true => rw [← hL]; exact rcub_c b1 b2 b3 b4 b5 b6 x y z L (l + 1) B n c A cl w hL hs hb hB hn hn2 hown hm hq hw
        | false => exact rcub_d b1 b2 b3 b4 b5 b6 x y z L l B n c A cl w (by rw [hL]; rfl) hs hb hB hn hn2 hown hm hq hw (fun x y z L n c A cl w h1 h2 h3 h4 h5 h6 => rcubes_rec b1 b2 b3 b4 b5 b6 B hb l x y z L n c A cl w h1 h2 h3 h4 h5 h6)

end Go.Proofs.Ytmjjkloeipoefaa
