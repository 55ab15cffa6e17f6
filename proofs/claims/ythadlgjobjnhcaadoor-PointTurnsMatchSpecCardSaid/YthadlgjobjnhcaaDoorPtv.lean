/-
  Contracts of package point: Compose, Invert.
-/
import Derived.Test.YthadlgjobjnhcaaDoorPtu
import Derived.Handy
namespace Go.Proofs.YthadlgjobjnhcaaDoor
open Go.RowKit
set_option linter.unusedVariables false
theorem mk_bd (s : Nat) : (-2097152 ≤ (Pt.tc 0 s 0 1 2 3) ∧ (Pt.tc 0 s 0 1 2 3) ≤ 2097152) ∧ (-2097152 ≤ (Pt.tc 0 s 1 1 2 3) ∧ (Pt.tc 0 s 1 1 2 3) ≤ 2097152) ∧ (-2097152 ≤ (Pt.tc 0 s 2 1 2 3) ∧ (Pt.tc 0 s 2 1 2 3) ≤ 2097152) := ⟨Pt.tc_bd0 (L := 2097152) (by omega), Pt.tc_bd0 (L := 2097152) (by omega), Pt.tc_bd0 (L := 2097152) (by omega)⟩
theorem mk2_bd (a s : Nat) : (-2097152 ≤ (Pt.tc 0 a 0 (Pt.tc 0 s 0 1 2 3) (Pt.tc 0 s 1 1 2 3) (Pt.tc 0 s 2 1 2 3)) ∧ (Pt.tc 0 a 0 (Pt.tc 0 s 0 1 2 3) (Pt.tc 0 s 1 1 2 3) (Pt.tc 0 s 2 1 2 3)) ≤ 2097152) ∧ (-2097152 ≤ (Pt.tc 0 a 1 (Pt.tc 0 s 0 1 2 3) (Pt.tc 0 s 1 1 2 3) (Pt.tc 0 s 2 1 2 3)) ∧ (Pt.tc 0 a 1 (Pt.tc 0 s 0 1 2 3) (Pt.tc 0 s 1 1 2 3) (Pt.tc 0 s 2 1 2 3)) ≤ 2097152) ∧ (-2097152 ≤ (Pt.tc 0 a 2 (Pt.tc 0 s 0 1 2 3) (Pt.tc 0 s 1 1 2 3) (Pt.tc 0 s 2 1 2 3)) ∧ (Pt.tc 0 a 2 (Pt.tc 0 s 0 1 2 3) (Pt.tc 0 s 1 1 2 3) (Pt.tc 0 s 2 1 2 3)) ≤ 2097152) := ⟨Pt.tc_bd0 (L := 2097152) (by have := mk_bd s; omega), Pt.tc_bd0 (L := 2097152) (by have := mk_bd s; omega), Pt.tc_bd0 (L := 2097152) (by have := mk_bd s; omega)⟩
theorem fst_comp (a c : Nat) (ha : a < 48) (hc : c < 48) : fst (fun s => Pt.mk s == Pt.mk2 a c) = (Pt.comp a c : Int) := by
  have h := Pt.comp_lt ⟨a, ha⟩ ⟨c, hc⟩
  unfold Pt.comp at h
  unfold fst Pt.comp
  cases hf : (List.range 48).find? (fun s => Pt.mk s == Pt.mk2 a c) with
  | some s => rfl
  | none => rw [hf] at h; exact absurd h.1 (by decide)
theorem fst_inv (a : Nat) (ha : a < 48) : fst (fun t => Pt.mk2 t a == (1, 2, 3)) = (Pt.inv a : Int) := by
  have h := Pt.inv_lt ⟨a, ha⟩
  unfold Pt.inv at h
  unfold fst Pt.inv
  cases hf : (List.range 48).find? (fun t => Pt.mk2 t a == (1, 2, 3)) with
  | some s => rfl
  | none => rw [hf] at h; exact absurd h.1 (by decide)
theorem fit_eq (s a c : Nat) : decide ((Pt.tc 0 s 0 1 2 3) = (Pt.tc 0 a 0 (Pt.tc 0 c 0 1 2 3) (Pt.tc 0 c 1 1 2 3) (Pt.tc 0 c 2 1 2 3)) ∧ (Pt.tc 0 s 1 1 2 3) = (Pt.tc 0 a 1 (Pt.tc 0 c 0 1 2 3) (Pt.tc 0 c 1 1 2 3) (Pt.tc 0 c 2 1 2 3)) ∧ (Pt.tc 0 s 2 1 2 3) = (Pt.tc 0 a 2 (Pt.tc 0 c 0 1 2 3) (Pt.tc 0 c 1 1 2 3) (Pt.tc 0 c 2 1 2 3))) = (Pt.mk s == Pt.mk2 a c) := by
  rw [Bool.eq_iff_iff]; simp [Pt.mk, Pt.mk2]
theorem fit_eq2 (t a : Nat) : decide ((Pt.tc 0 t 0 (Pt.tc 0 a 0 1 2 3) (Pt.tc 0 a 1 1 2 3) (Pt.tc 0 a 2 1 2 3)) = 1 ∧ (Pt.tc 0 t 1 (Pt.tc 0 a 0 1 2 3) (Pt.tc 0 a 1 1 2 3) (Pt.tc 0 a 2 1 2 3)) = 2 ∧ (Pt.tc 0 t 2 (Pt.tc 0 a 0 1 2 3) (Pt.tc 0 a 1 1 2 3) (Pt.tc 0 a 2 1 2 3)) = 3) = (Pt.mk2 t a == (1, 2, 3)) := by
  rw [Bool.eq_iff_iff]; simp [Pt.mk, Pt.mk2]
set_option maxRecDepth 1000000 in
theorem compose_any (a c : Nat) (w : World) (hT : Tab w) (ha : a < 48) (hc : c < 48) :
    Calls Tryd.prog 53 #[.int .i64 (a : Int), .int .i64 (c : Int)] w fun e w' => e = .returned (.int .i64 (Pt.comp a c : Int)) ∧ Below w.heap.size w w' := by
  have HA : Hid (decide (0 ≤ (a : Int) ∧ (a : Int) < 48) = true) := Lib.hid (decide_eq_true (by omega))
  have HB : Hid (decide (0 ≤ (c : Int) ∧ (c : Int) < 48) = true) := Lib.hid (decide_eq_true (by omega))
  have G0 := Lib.hid (Below.refl w.heap.size w)
  have HT := Lib.hid hT
  clear hT
  go_enter Tryd.func53, Tryd.ntmps53
  go_upto_region 1 with fail
  refine wpG_region ?_
  refine wpG_tk (some 7) (v := .int .i64 (a : Int)) rfl (.val (by rfl) (fun _ _ => rfl)) ?_
  simp only [Act.put, List.setIfInBounds_toArray, List.set_cons_zero, List.set_cons_succ]
  refine wpG_tk (some 8) (v := .bool true) rfl (.call (f := 80) (args := #[.int .i64 (a : Int)]) (by rfl) (fun W => by go_simp) (fun W hg => sym_is (a : Int) true W HA.out)) ?_
  simp only [Act.put, List.setIfInBounds_toArray, List.set_cons_zero, List.set_cons_succ]
  refine wpG_tk (some 9) (v := .bool false) rfl (.val (by rfl) (fun W hg => by go_simp)) ?_
  simp only [Act.put, List.setIfInBounds_toArray, List.set_cons_zero, List.set_cons_succ]
  refine wpG_tk (some 10) (v := .bool false) rfl (.val (by rfl) (fun _ _ => rfl)) ?_
  simp only [Act.put, List.setIfInBounds_toArray, List.set_cons_zero, List.set_cons_succ]
  refine wpG_tk (some 11) (v := .int .i64 (c : Int)) rfl (.val (by rfl) (fun _ _ => rfl)) ?_
  simp only [Act.put, List.setIfInBounds_toArray, List.set_cons_zero, List.set_cons_succ]
  refine wpG_tk (some 12) (v := .bool true) rfl (.call (f := 80) (args := #[.int .i64 (c : Int)]) (by rfl) (fun W => by go_simp) (fun W hg => sym_is (c : Int) true W HB.out)) ?_
  simp only [Act.put, List.setIfInBounds_toArray, List.set_cons_zero, List.set_cons_succ]
  refine wpG_tk (some 13) (v := .bool false) rfl (.val (by rfl) (fun W hg => by go_simp)) ?_
  simp only [Act.put, List.setIfInBounds_toArray, List.set_cons_zero, List.set_cons_succ]
  refine wpG_tk (some 14) (v := .bool false) rfl (.val (by rfl) (fun W hg => by go_simp)) ?_
  simp only [Act.put, List.setIfInBounds_toArray, List.set_cons_zero, List.set_cons_succ]
  refine wpG_done (fun V1 hv2 => ?_)
  have GC3 := Lib.hid hv2
  clear hv2
  go_upto_region 3 with fail
  refine wpG_region ?_
  refine wpG_tk (some 15) (v := .agg #[.int .i64 1, .int .i64 2, .int .i64 3]) rfl (.call (f := 82) (args := #[]) (by rfl) (fun W => by go_simp) (fun W hg => probe_any W)) ?_
  simp only [Act.put, List.setIfInBounds_toArray, List.set_cons_zero, List.set_cons_succ]
  refine wpG_val (some 5) rfl (by rfl) (fun W4 hg5 => ⟨.pointer (some ⟨W4.heap.size, 0, none⟩), W4.alloc (.cells #[.int .i64 0, .int .i64 0, .int .i64 0] 23), by (go_simp <;> rfl), ?_⟩)
  simp only [Act.put, List.setIfInBounds_toArray, List.set_cons_zero, List.set_cons_succ]
  refine wpG_store (none) rfl (by rfl) (fun W6 hg7 => ⟨_, run_store_mid 23 (.tmp 5) (.tmp 15) rfl (W4.heap.size) 0 #[.int .i64 1, .int .i64 2, .int .i64 3] rfl rfl (Row.room hg7 3 rfl) (by kernel_rfl) (by kernel_rfl), ?_⟩)
  simp only [Act.put]
  refine wpG_done (fun V8 hv9 => ?_)
  have R11 := Lib.hid (Row.made (zs := [.int .i64 0, .int .i64 0, .int .i64 0]) (ds := [.int .i64 1, .int .i64 2, .int .i64 3]) rfl hg7 hv9)
  have G10 := Lib.hid (Gr.to (Gr.to G0.out (GC3.out.trans hg5)) (Gr.past hg7 hv9))
  have HT := Lib.hid (HT.out.below ((GC3.out.trans hg5).trans (Gr.past hg7 hv9)))
  clear hg7 hv9 
  go_upto_region 4 with fail
  refine wpG_region ?_
  refine wpG_tk (some 16) (v := .int .i64 (a : Int)) rfl (.val (by rfl) (fun _ _ => rfl)) ?_
  simp only [Act.put, List.setIfInBounds_toArray, List.set_cons_zero, List.set_cons_succ]
  refine wpG_tk (some 17) (v := .int .i64 (c : Int)) rfl (.val (by rfl) (fun _ _ => rfl)) ?_
  simp only [Act.put, List.setIfInBounds_toArray, List.set_cons_zero, List.set_cons_succ]
  refine wpG_tk (some 18) (v := .agg #[.int .i64 1, .int .i64 2, .int .i64 3]) rfl (.load_mid (by rfl) 23 (.tmp 5) rfl (W4.heap.size) 0 rfl [.int .i64 1, .int .i64 2, .int .i64 3] _ (fun W hg => (R11.out.below hg).range) Tryd.underlying23 rfl (by kernel_rfl)) ?_
  simp only [Act.put, List.setIfInBounds_toArray, List.set_cons_zero, List.set_cons_succ]
  refine wpG_tk (some 19) (v := .agg #[.int .i64 (Pt.tc 0 c 0 1 2 3), .int .i64 (Pt.tc 0 c 1 1 2 3), .int .i64 (Pt.tc 0 c 2 1 2 3)]) rfl (.call (f := 47) (args := #[.int .i64 (c : Int), .agg #[.int .i64 1, .int .i64 2, .int .i64 3]]) (by rfl) (fun W => by go_simp) (fun W hg => turn_any c 1 2 3 W (HT.out.below hg) hc (by first | omega | exact mk_bd c))) ?_
  simp only [Act.put, List.setIfInBounds_toArray, List.set_cons_zero, List.set_cons_succ]
  refine wpG_tk (some 20) (v := .agg #[.int .i64 (Pt.tc 0 a 0 (Pt.tc 0 c 0 1 2 3) (Pt.tc 0 c 1 1 2 3) (Pt.tc 0 c 2 1 2 3)), .int .i64 (Pt.tc 0 a 1 (Pt.tc 0 c 0 1 2 3) (Pt.tc 0 c 1 1 2 3) (Pt.tc 0 c 2 1 2 3)), .int .i64 (Pt.tc 0 a 2 (Pt.tc 0 c 0 1 2 3) (Pt.tc 0 c 1 1 2 3) (Pt.tc 0 c 2 1 2 3))]) rfl (.call (f := 47) (args := #[.int .i64 (a : Int), .agg #[.int .i64 (Pt.tc 0 c 0 1 2 3), .int .i64 (Pt.tc 0 c 1 1 2 3), .int .i64 (Pt.tc 0 c 2 1 2 3)]]) (by rfl) (fun W => by go_simp) (fun W hg => turn_any a (Pt.tc 0 c 0 1 2 3) (Pt.tc 0 c 1 1 2 3) (Pt.tc 0 c 2 1 2 3) W (HT.out.below hg) ha (by first | omega | exact mk_bd c))) ?_
  simp only [Act.put, List.setIfInBounds_toArray, List.set_cons_zero, List.set_cons_succ]
  refine wpG_val (some 6) rfl (by rfl) (fun W12 hg13 => ⟨.pointer (some ⟨W12.heap.size, 0, none⟩), W12.alloc (.cells #[.int .i64 0, .int .i64 0, .int .i64 0] 23), by (go_simp <;> rfl), ?_⟩)
  simp only [Act.put, List.setIfInBounds_toArray, List.set_cons_zero, List.set_cons_succ]
  refine wpG_store (none) rfl (by rfl) (fun W14 hg15 => ⟨_, run_store_mid 23 (.tmp 6) (.tmp 20) rfl (W12.heap.size) 0 #[.int .i64 (Pt.tc 0 a 0 (Pt.tc 0 c 0 1 2 3) (Pt.tc 0 c 1 1 2 3) (Pt.tc 0 c 2 1 2 3)), .int .i64 (Pt.tc 0 a 1 (Pt.tc 0 c 0 1 2 3) (Pt.tc 0 c 1 1 2 3) (Pt.tc 0 c 2 1 2 3)), .int .i64 (Pt.tc 0 a 2 (Pt.tc 0 c 0 1 2 3) (Pt.tc 0 c 1 1 2 3) (Pt.tc 0 c 2 1 2 3))] rfl rfl (Row.room hg15 3 rfl) (by kernel_rfl) (by kernel_rfl), ?_⟩)
  simp only [Act.put]
  refine wpG_done (fun V16 hv17 => ?_)
  have R19 := Lib.hid ((R11.out.below hg13).past hg15 hv17)
  have R20 := Lib.hid (Row.made (zs := [.int .i64 0, .int .i64 0, .int .i64 0]) (ds := [.int .i64 (Pt.tc 0 a 0 (Pt.tc 0 c 0 1 2 3) (Pt.tc 0 c 1 1 2 3) (Pt.tc 0 c 2 1 2 3)), .int .i64 (Pt.tc 0 a 1 (Pt.tc 0 c 0 1 2 3) (Pt.tc 0 c 1 1 2 3) (Pt.tc 0 c 2 1 2 3)), .int .i64 (Pt.tc 0 a 2 (Pt.tc 0 c 0 1 2 3) (Pt.tc 0 c 1 1 2 3) (Pt.tc 0 c 2 1 2 3))]) rfl hg15 hv17)
  have G18 := Lib.hid (Gr.to (Gr.to G10.out hg13) (Gr.past hg15 hv17))
  have HT := Lib.hid (HT.out.below (hg13.trans (Gr.past hg15 hv17)))
  clear hg15 hv17 
  go_upto_region 5 with fail
  refine wpG_region ?_
  refine wpG_tk (some 21) (v := .func (.func 83) #[] #[.pointer (some ⟨W4.heap.size, 0, none⟩), .pointer (some ⟨W12.heap.size, 0, none⟩)]) rfl (.val (by rfl) (fun W hg => by go_simp)) ?_
  simp only [Act.put, List.setIfInBounds_toArray, List.set_cons_zero, List.set_cons_succ]
  refine wpG_tk (some 22) (v := .int .i64 (fst (fun s => Pt.mk s == Pt.mk2 a c))) rfl (.call (f := 74) (args := #[.func (.func 83) #[] #[.pointer (some ⟨W4.heap.size, 0, none⟩), .pointer (some ⟨W12.heap.size, 0, none⟩)]]) (by rfl) (fun W => by go_simp) (fun W hg => first_comp W4.heap.size W12.heap.size 1 2 3 (Pt.tc 0 a 0 (Pt.tc 0 c 0 1 2 3) (Pt.tc 0 c 1 1 2 3) (Pt.tc 0 c 2 1 2 3)) (Pt.tc 0 a 1 (Pt.tc 0 c 0 1 2 3) (Pt.tc 0 c 1 1 2 3) (Pt.tc 0 c 2 1 2 3)) (Pt.tc 0 a 2 (Pt.tc 0 c 0 1 2 3) (Pt.tc 0 c 1 1 2 3) (Pt.tc 0 c 2 1 2 3)) (fun s => Pt.mk s == Pt.mk2 a c) W (HT.out.below hg) (R19.out.below hg) (R20.out.below hg) (by omega) (fun s _ => fit_eq s a c))) ?_
  simp only [Act.put, List.setIfInBounds_toArray, List.set_cons_zero, List.set_cons_succ]
  refine wpG_tk (some 4) (v := .int .i64 (fst (fun s => Pt.mk s == Pt.mk2 a c))) rfl (.val (by rfl) (fun _ _ => rfl)) ?_
  simp only [Act.put, List.setIfInBounds_toArray, List.set_cons_zero, List.set_cons_succ]
  refine wpG_done (fun V21 hv22 => ?_)
  have GC23 := Lib.hid hv22
  clear hv22
  go_wp2_with fail
  go_ret
  exact ⟨by rw [← fst_comp a c ha hc]; rfl, Gr.to G18.out GC23.out⟩
set_option maxRecDepth 1000000 in
theorem compose_l (a c : Int) (w : World) (ha : decide (0 ≤ a ∧ a < 48) = false) :
    Calls Tryd.prog 53 #[.int .i64 a, .int .i64 c] w fun e w' => e = .returned (.int .i64 (-1)) ∧ Below w.heap.size w w' := by
  have HA := Lib.hid ha
  clear ha
  have G0 := Lib.hid (Below.refl w.heap.size w)
  go_enter Tryd.func53, Tryd.ntmps53
  go_upto_region 1 with fail
  refine wpG_region ?_
  refine wpG_tk (some 7) (v := .int .i64 a) rfl (.val (by rfl) (fun _ _ => rfl)) ?_
  simp only [Act.put, List.setIfInBounds_toArray, List.set_cons_zero, List.set_cons_succ]
  refine wpG_tk (some 8) (v := .bool false) rfl (.call (f := 80) (args := #[.int .i64 a]) (by rfl) (fun W => by go_simp) (fun W hg => sym_is a false W HA.out)) ?_
  simp only [Act.put, List.setIfInBounds_toArray, List.set_cons_zero, List.set_cons_succ]
  refine wpG_tk (some 9) (v := .bool true) rfl (.val (by rfl) (fun W hg => by go_simp)) ?_
  simp only [Act.put, List.setIfInBounds_toArray, List.set_cons_zero, List.set_cons_succ]
  refine wpG_tk (some 10) (v := .bool true) rfl (.val (by rfl) (fun _ _ => rfl)) ?_
  simp only [Act.put, List.setIfInBounds_toArray, List.set_cons_zero, List.set_cons_succ]
  refine wpG_tk (some 11) (v := undef) rfl (.no (by rfl)) ?_
  simp only [Act.put, List.setIfInBounds_toArray, List.set_cons_zero, List.set_cons_succ]
  refine wpG_tk (some 12) (v := undef) rfl (.no (by rfl)) ?_
  simp only [Act.put, List.setIfInBounds_toArray, List.set_cons_zero, List.set_cons_succ]
  refine wpG_tk (some 13) (v := undef) rfl (.no (by rfl)) ?_
  simp only [Act.put, List.setIfInBounds_toArray, List.set_cons_zero, List.set_cons_succ]
  refine wpG_tk (some 14) (v := .bool true) rfl (.val (by rfl) (fun W hg => by go_simp)) ?_
  simp only [Act.put, List.setIfInBounds_toArray, List.set_cons_zero, List.set_cons_succ]
  refine wpG_done (fun V1 hv2 => ?_)
  have GC3 := Lib.hid hv2
  clear hv2
  go_upto_region 2 with fail
  refine wpG_region ?_
  refine wpG_tk (some 4) (v := .int .i64 (-1)) rfl (.val (by rfl) (fun _ _ => rfl)) ?_
  simp only [Act.put, List.setIfInBounds_toArray, List.set_cons_zero, List.set_cons_succ]
  refine wpG_done (fun V4 hv5 => ?_)
  have GC6 := Lib.hid (GC3.out.trans hv5)
  clear hv5
  go_wp2_with fail
  go_ret
  exact ⟨rfl, Gr.to G0.out GC6.out⟩
set_option maxRecDepth 1000000 in
theorem compose_r (a c : Int) (w : World) (ha : decide (0 ≤ a ∧ a < 48) = true) (hc : decide (0 ≤ c ∧ c < 48) = false) :
    Calls Tryd.prog 53 #[.int .i64 a, .int .i64 c] w fun e w' => e = .returned (.int .i64 (-1)) ∧ Below w.heap.size w w' := by
  have HA := Lib.hid ha
  have HB := Lib.hid hc
  clear ha hc
  have G0 := Lib.hid (Below.refl w.heap.size w)
  go_enter Tryd.func53, Tryd.ntmps53
  go_upto_region 1 with fail
  refine wpG_region ?_
  refine wpG_tk (some 7) (v := .int .i64 a) rfl (.val (by rfl) (fun _ _ => rfl)) ?_
  simp only [Act.put, List.setIfInBounds_toArray, List.set_cons_zero, List.set_cons_succ]
  refine wpG_tk (some 8) (v := .bool true) rfl (.call (f := 80) (args := #[.int .i64 a]) (by rfl) (fun W => by go_simp) (fun W hg => sym_is a true W HA.out)) ?_
  simp only [Act.put, List.setIfInBounds_toArray, List.set_cons_zero, List.set_cons_succ]
  refine wpG_tk (some 9) (v := .bool false) rfl (.val (by rfl) (fun W hg => by go_simp)) ?_
  simp only [Act.put, List.setIfInBounds_toArray, List.set_cons_zero, List.set_cons_succ]
  refine wpG_tk (some 10) (v := .bool false) rfl (.val (by rfl) (fun _ _ => rfl)) ?_
  simp only [Act.put, List.setIfInBounds_toArray, List.set_cons_zero, List.set_cons_succ]
  refine wpG_tk (some 11) (v := .int .i64 c) rfl (.val (by rfl) (fun _ _ => rfl)) ?_
  simp only [Act.put, List.setIfInBounds_toArray, List.set_cons_zero, List.set_cons_succ]
  refine wpG_tk (some 12) (v := .bool false) rfl (.call (f := 80) (args := #[.int .i64 c]) (by rfl) (fun W => by go_simp) (fun W hg => sym_is c false W HB.out)) ?_
  simp only [Act.put, List.setIfInBounds_toArray, List.set_cons_zero, List.set_cons_succ]
  refine wpG_tk (some 13) (v := .bool true) rfl (.val (by rfl) (fun W hg => by go_simp)) ?_
  simp only [Act.put, List.setIfInBounds_toArray, List.set_cons_zero, List.set_cons_succ]
  refine wpG_tk (some 14) (v := .bool true) rfl (.val (by rfl) (fun W hg => by go_simp)) ?_
  simp only [Act.put, List.setIfInBounds_toArray, List.set_cons_zero, List.set_cons_succ]
  refine wpG_done (fun V1 hv2 => ?_)
  have GC3 := Lib.hid hv2
  clear hv2
  go_upto_region 2 with fail
  refine wpG_region ?_
  refine wpG_tk (some 4) (v := .int .i64 (-1)) rfl (.val (by rfl) (fun _ _ => rfl)) ?_
  simp only [Act.put, List.setIfInBounds_toArray, List.set_cons_zero, List.set_cons_succ]
  refine wpG_done (fun V4 hv5 => ?_)
  have GC6 := Lib.hid (GC3.out.trans hv5)
  clear hv5
  go_wp2_with fail
  go_ret
  exact ⟨rfl, Gr.to G0.out GC6.out⟩
set_option maxRecDepth 1000000 in
theorem invert_any (a : Nat) (w : World) (hT : Tab w) (ha : a < 48) :
    Calls Tryd.prog 55 #[.int .i64 (a : Int)] w fun e w' => e = .returned (.int .i64 (Pt.inv a : Int)) ∧ Below w.heap.size w w' := by
  have HA : Hid (decide (0 ≤ (a : Int) ∧ (a : Int) < 48) = true) := Lib.hid (decide_eq_true (by omega))
  have G0 := Lib.hid (Below.refl w.heap.size w)
  have HT := Lib.hid hT
  clear hT
  go_enter Tryd.func55, Tryd.ntmps55
  go_upto_region 1 with fail
  refine wpG_region ?_
  refine wpG_tk (some 5) (v := .int .i64 (a : Int)) rfl (.val (by rfl) (fun _ _ => rfl)) ?_
  simp only [Act.put, List.setIfInBounds_toArray, List.set_cons_zero, List.set_cons_succ]
  refine wpG_tk (some 6) (v := .bool true) rfl (.call (f := 80) (args := #[.int .i64 (a : Int)]) (by rfl) (fun W => by go_simp) (fun W hg => sym_is (a : Int) true W HA.out)) ?_
  simp only [Act.put, List.setIfInBounds_toArray, List.set_cons_zero, List.set_cons_succ]
  refine wpG_tk (some 7) (v := .bool false) rfl (.val (by rfl) (fun W hg => by go_simp)) ?_
  simp only [Act.put, List.setIfInBounds_toArray, List.set_cons_zero, List.set_cons_succ]
  refine wpG_done (fun V1 hv2 => ?_)
  have GC3 := Lib.hid hv2
  clear hv2
  go_upto_region 3 with fail
  refine wpG_region ?_
  refine wpG_tk (some 8) (v := .agg #[.int .i64 1, .int .i64 2, .int .i64 3]) rfl (.call (f := 82) (args := #[]) (by rfl) (fun W => by go_simp) (fun W hg => probe_any W)) ?_
  simp only [Act.put, List.setIfInBounds_toArray, List.set_cons_zero, List.set_cons_succ]
  refine wpG_val (some 3) rfl (by rfl) (fun W4 hg5 => ⟨.pointer (some ⟨W4.heap.size, 0, none⟩), W4.alloc (.cells #[.int .i64 0, .int .i64 0, .int .i64 0] 23), by (go_simp <;> rfl), ?_⟩)
  simp only [Act.put, List.setIfInBounds_toArray, List.set_cons_zero, List.set_cons_succ]
  refine wpG_store (none) rfl (by rfl) (fun W6 hg7 => ⟨_, run_store_mid 23 (.tmp 3) (.tmp 8) rfl (W4.heap.size) 0 #[.int .i64 1, .int .i64 2, .int .i64 3] rfl rfl (Row.room hg7 3 rfl) (by kernel_rfl) (by kernel_rfl), ?_⟩)
  simp only [Act.put]
  refine wpG_done (fun V8 hv9 => ?_)
  have R11 := Lib.hid (Row.made (zs := [.int .i64 0, .int .i64 0, .int .i64 0]) (ds := [.int .i64 1, .int .i64 2, .int .i64 3]) rfl hg7 hv9)
  have G10 := Lib.hid (Gr.to (Gr.to G0.out (GC3.out.trans hg5)) (Gr.past hg7 hv9))
  have HT := Lib.hid (HT.out.below ((GC3.out.trans hg5).trans (Gr.past hg7 hv9)))
  clear hg7 hv9 
  go_upto_region 4 with fail
  refine wpG_region ?_
  refine wpG_tk (some 9) (v := .int .i64 (a : Int)) rfl (.val (by rfl) (fun _ _ => rfl)) ?_
  simp only [Act.put, List.setIfInBounds_toArray, List.set_cons_zero, List.set_cons_succ]
  refine wpG_tk (some 10) (v := .agg #[.int .i64 1, .int .i64 2, .int .i64 3]) rfl (.load_mid (by rfl) 23 (.tmp 3) rfl (W4.heap.size) 0 rfl [.int .i64 1, .int .i64 2, .int .i64 3] _ (fun W hg => (R11.out.below hg).range) Tryd.underlying23 rfl (by kernel_rfl)) ?_
  simp only [Act.put, List.setIfInBounds_toArray, List.set_cons_zero, List.set_cons_succ]
  refine wpG_tk (some 11) (v := .agg #[.int .i64 (Pt.tc 0 a 0 1 2 3), .int .i64 (Pt.tc 0 a 1 1 2 3), .int .i64 (Pt.tc 0 a 2 1 2 3)]) rfl (.call (f := 47) (args := #[.int .i64 (a : Int), .agg #[.int .i64 1, .int .i64 2, .int .i64 3]]) (by rfl) (fun W => by go_simp) (fun W hg => turn_any a 1 2 3 W (HT.out.below hg) ha (by omega))) ?_
  simp only [Act.put, List.setIfInBounds_toArray, List.set_cons_zero, List.set_cons_succ]
  refine wpG_val (some 4) rfl (by rfl) (fun W12 hg13 => ⟨.pointer (some ⟨W12.heap.size, 0, none⟩), W12.alloc (.cells #[.int .i64 0, .int .i64 0, .int .i64 0] 23), by (go_simp <;> rfl), ?_⟩)
  simp only [Act.put, List.setIfInBounds_toArray, List.set_cons_zero, List.set_cons_succ]
  refine wpG_store (none) rfl (by rfl) (fun W14 hg15 => ⟨_, run_store_mid 23 (.tmp 4) (.tmp 11) rfl (W12.heap.size) 0 #[.int .i64 (Pt.tc 0 a 0 1 2 3), .int .i64 (Pt.tc 0 a 1 1 2 3), .int .i64 (Pt.tc 0 a 2 1 2 3)] rfl rfl (Row.room hg15 3 rfl) (by kernel_rfl) (by kernel_rfl), ?_⟩)
  simp only [Act.put]
  refine wpG_done (fun V16 hv17 => ?_)
  have R19 := Lib.hid ((R11.out.below hg13).past hg15 hv17)
  have R20 := Lib.hid (Row.made (zs := [.int .i64 0, .int .i64 0, .int .i64 0]) (ds := [.int .i64 (Pt.tc 0 a 0 1 2 3), .int .i64 (Pt.tc 0 a 1 1 2 3), .int .i64 (Pt.tc 0 a 2 1 2 3)]) rfl hg15 hv17)
  have G18 := Lib.hid (Gr.to (Gr.to G10.out hg13) (Gr.past hg15 hv17))
  have HT := Lib.hid (HT.out.below (hg13.trans (Gr.past hg15 hv17)))
  clear hg15 hv17 
  go_upto_region 5 with fail
  refine wpG_region ?_
  refine wpG_tk (some 12) (v := .func (.func 85) #[] #[.pointer (some ⟨W12.heap.size, 0, none⟩), .pointer (some ⟨W4.heap.size, 0, none⟩)]) rfl (.val (by rfl) (fun W hg => by go_simp)) ?_
  simp only [Act.put, List.setIfInBounds_toArray, List.set_cons_zero, List.set_cons_succ]
  refine wpG_tk (some 13) (v := .int .i64 (fst (fun t => Pt.mk2 t a == (1, 2, 3)))) rfl (.call (f := 74) (args := #[.func (.func 85) #[] #[.pointer (some ⟨W12.heap.size, 0, none⟩), .pointer (some ⟨W4.heap.size, 0, none⟩)]]) (by rfl) (fun W => by go_simp) (fun W hg => first_inv W12.heap.size W4.heap.size (Pt.tc 0 a 0 1 2 3) (Pt.tc 0 a 1 1 2 3) (Pt.tc 0 a 2 1 2 3) 1 2 3 (fun t => Pt.mk2 t a == (1, 2, 3)) W (HT.out.below hg) (R20.out.below hg) (R19.out.below hg) (mk_bd a) (fun s _ => fit_eq2 s a))) ?_
  simp only [Act.put, List.setIfInBounds_toArray, List.set_cons_zero, List.set_cons_succ]
  refine wpG_tk (some 2) (v := .int .i64 (fst (fun t => Pt.mk2 t a == (1, 2, 3)))) rfl (.val (by rfl) (fun _ _ => rfl)) ?_
  simp only [Act.put, List.setIfInBounds_toArray, List.set_cons_zero, List.set_cons_succ]
  refine wpG_done (fun V21 hv22 => ?_)
  have GC23 := Lib.hid hv22
  clear hv22
  go_wp2_with fail
  go_ret
  exact ⟨by rw [← fst_inv a ha]; rfl, Gr.to G18.out GC23.out⟩
set_option maxRecDepth 1000000 in
theorem invert_out (a : Int) (w : World) (ha : decide (0 ≤ a ∧ a < 48) = false) :
    Calls Tryd.prog 55 #[.int .i64 a] w fun e w' => e = .returned (.int .i64 (-1)) ∧ Below w.heap.size w w' := by
  have HA := Lib.hid ha
  clear ha
  have G0 := Lib.hid (Below.refl w.heap.size w)
  go_enter Tryd.func55, Tryd.ntmps55
  go_upto_region 1 with fail
  refine wpG_region ?_
  refine wpG_tk (some 5) (v := .int .i64 a) rfl (.val (by rfl) (fun _ _ => rfl)) ?_
  simp only [Act.put, List.setIfInBounds_toArray, List.set_cons_zero, List.set_cons_succ]
  refine wpG_tk (some 6) (v := .bool false) rfl (.call (f := 80) (args := #[.int .i64 a]) (by rfl) (fun W => by go_simp) (fun W hg => sym_is a false W HA.out)) ?_
  simp only [Act.put, List.setIfInBounds_toArray, List.set_cons_zero, List.set_cons_succ]
  refine wpG_tk (some 7) (v := .bool true) rfl (.val (by rfl) (fun W hg => by go_simp)) ?_
  simp only [Act.put, List.setIfInBounds_toArray, List.set_cons_zero, List.set_cons_succ]
  refine wpG_done (fun V1 hv2 => ?_)
  have GC3 := Lib.hid hv2
  clear hv2
  go_upto_region 2 with fail
  refine wpG_region ?_
  refine wpG_tk (some 2) (v := .int .i64 (-1)) rfl (.val (by rfl) (fun _ _ => rfl)) ?_
  simp only [Act.put, List.setIfInBounds_toArray, List.set_cons_zero, List.set_cons_succ]
  refine wpG_done (fun V4 hv5 => ?_)
  have GC6 := Lib.hid (GC3.out.trans hv5)
  clear hv5
  go_wp2_with fail
  go_ret
  exact ⟨rfl, Gr.to G0.out GC6.out⟩

end Go.Proofs.YthadlgjobjnhcaaDoor
