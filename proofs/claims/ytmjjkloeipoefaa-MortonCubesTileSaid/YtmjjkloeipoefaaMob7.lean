/-
  Equal lists of cubes and of runs.
-/
import Derived.Test.YtmjjkloeipoefaaKqu
import Derived.Test.YtmjjkloeipoefaaMob6
import Derived.Handy
namespace Go.Proofs.Ytmjjkloeipoefaa
open Go.RowKit
set_option linter.unusedVariables false
set_option maxRecDepth 1000000 in
set_option maxHeartbeats 4000000 in
theorem samecubes_t (A A2 : Option Addr) (n c c2 : Nat) (cl : List Mo.Cb) (w : World) (hn : n = cl.length) (hb : n ≤ 100000) (hA : 0 < n → ∃ g, A = some ⟨g, 0, none⟩) (hA2 : 0 < n → ∃ g, A2 = some ⟨g, 0, none⟩) (h1 : Lies w A (ccs cl)) (h2 : Lies w A2 (ccs cl)) :
    Calls Try.prog 26 #[.slice A n c, .slice A2 n c2] w fun e w' => e = .returned (.bool true) ∧ Below w.heap.size w w' := by
  have HN := Lib.hid hn
  have HA := Lib.hid hA
  have HA2 := Lib.hid hA2
  have H1 := Lib.hid h1
  have H2 := Lib.hid h2
  clear hn hA hA2 h1 h2
  have G0 := Lib.hid (Below.refl w.heap.size w)
  go_enter Try.func26, Try.ntmps26
  go_upto_region 1 with fail
  refine wpG_region ?_
  refine @wpG_tk _ _ _ _ _ (some 6) (.slice A n c) _ _ rfl (.val (by rfl) (fun _ _ => rfl)) ?_
  simp only [Act.put, List.setIfInBounds_toArray, List.set_cons_zero, List.set_cons_succ]
  refine @wpG_tk _ _ _ _ _ (some 7) (.int .i64 n) _ _ rfl (.val (by rfl) (fun W hg => by go_simp)) ?_
  simp only [Act.put, List.setIfInBounds_toArray, List.set_cons_zero, List.set_cons_succ]
  refine @wpG_tk _ _ _ _ _ (some 8) (.slice A2 n c2) _ _ rfl (.val (by rfl) (fun _ _ => rfl)) ?_
  simp only [Act.put, List.setIfInBounds_toArray, List.set_cons_zero, List.set_cons_succ]
  refine @wpG_tk _ _ _ _ _ (some 9) (.int .i64 n) _ _ rfl (.val (by rfl) (fun W hg => by go_simp)) ?_
  simp only [Act.put, List.setIfInBounds_toArray, List.set_cons_zero, List.set_cons_succ]
  refine @wpG_tk _ _ _ _ _ (some 10) (.bool false) _ _ rfl (.val (by rfl) (fun W hg => by go_simp)) ?_
  simp only [Act.put, List.setIfInBounds_toArray, List.set_cons_zero, List.set_cons_succ]
  refine wpG_done (fun V1 hv2 => ?_)
  have GC3 := Lib.hid hv2
  clear hv2
  go_upto_region 3 with fail
  refine wpG_region ?_
  refine @wpG_tk _ _ _ _ _ (some 5) (.int .i64 0) _ _ rfl (.val (by rfl) (fun _ _ => rfl)) ?_
  simp only [Act.put, List.setIfInBounds_toArray, List.set_cons_zero, List.set_cons_succ]
  refine wpG_done (fun V4 hv5 => ?_)
  have GC6 := Lib.hid (GC3.out.trans hv5)
  clear hv5
  go_wp2_with fail
  go_loopw [5] (fun i wr => ∃ k : Nat, i = .int .i64 (k : Int) ∧ k ≤ n ∧ Gr w wr) (fun i _ => n - (intOf i).toNat)
  case atStart => exact ⟨0, rfl, by omega, GC6.out⟩
  case round =>
    obtain ⟨k, rfl, hk, hG⟩ := hrel
    have HG := Lib.hid hG
    clear hG
    by_cases hlt : k < n
    · skip
      have hcl : k < cl.length := by rw [← HN.out]; exact hlt
      obtain ⟨e, he⟩ : ∃ e, cl[k]? = some e := ⟨_, List.getElem?_eq_getElem hcl⟩
      have HE := Lib.hid he
      clear he hcl
      obtain ⟨g, rfl⟩ := HA.out (by omega)
      obtain ⟨g2, rfl⟩ := HA2.out (by omega)
      go_upto_region 4 with fail
      refine wpG_region ?_
      refine @wpG_tk _ _ _ _ _ (some 11) (.int .i64 (k : Int)) _ _ rfl (.val (by rfl) (fun _ _ => rfl)) ?_
      simp only [Act.put, List.setIfInBounds_toArray, List.set_cons_zero, List.set_cons_succ]
      refine @wpG_tk _ _ _ _ _ (some 12) (.slice (some ⟨g, 0, none⟩) n c) _ _ rfl (.val (by rfl) (fun _ _ => rfl)) ?_
      simp only [Act.put, List.setIfInBounds_toArray, List.set_cons_zero, List.set_cons_succ]
      refine @wpG_tk _ _ _ _ _ (some 13) (.int .i64 n) _ _ rfl (.val (by rfl) (fun W hg => by go_simp)) ?_
      simp only [Act.put, List.setIfInBounds_toArray, List.set_cons_zero, List.set_cons_succ]
      refine @wpG_tk _ _ _ _ _ (some 14) (.bool true) _ _ rfl (.val (by rfl) (fun W hg => by have hq : ((k : Int) < n) := (by omega); first | (go_simp; done) | (go_simp <;> omega))) ?_
      simp only [Act.put, List.setIfInBounds_toArray, List.set_cons_zero, List.set_cons_succ]
      refine wpG_done (fun V7 hv8 => ?_)
      have GC9 := Lib.hid (HG.out.trans hv8)
      clear hv8
      go_upto_region 6 with fail
      refine wpK_region (by kernel_rfl) ?_
      refine wpK_ta (i := 0) (some 17) (v := .slice (some ⟨g, 0, none⟩) n c) rfl rfl (by kernel_rfl) (fun _ _ _ h => h) (Or.inl ⟨rfl, fun _ => rfl⟩) ?_
      simp only [Act.put, List.setIfInBounds_toArray, List.set_cons_zero, List.set_cons_succ]
      refine wpK_ta (i := 1) (some 18) (v := .int .i64 (k : Int)) rfl rfl (by kernel_rfl) (fun _ _ _ h => h) (Or.inl ⟨rfl, fun _ => rfl⟩) ?_
      simp only [Act.put, List.setIfInBounds_toArray, List.set_cons_zero, List.set_cons_succ]
      refine wpK_ta (i := 2) (some 19) (v := .pointer (some ⟨g, k * 4, none⟩)) rfl rfl (by kernel_rfl) (fun _ _ _ h => h) (Or.inl ⟨by rfl, fun W => by go_simp <;> first | rfl | omega | (simp; omega)⟩) ?_
      simp only [Act.put, List.setIfInBounds_toArray, List.set_cons_zero, List.set_cons_succ]
      refine wpK_tk (i := 3) (some 20) (v := .agg #[.int .i64 e.1, .int .i64 e.2.1, .int .i64 e.2.2.1, .int .i64 e.2.2.2]) rfl rfl (by kernel_rfl) (fun _ _ _ h => h) (.load_mid (by rfl) 27 (.tmp 19) rfl g (k * 4) rfl [.int .i64 e.1, .int .i64 e.2.1, .int .i64 e.2.2.1, .int .i64 e.2.2.2] _ (fun W hg => lies_range cc_len (H1.out.below (GC9.out.trans (Gr.un hg))) HE.out) Try.underlying27 rfl (by kernel_rfl)) ?_
      simp only [Act.put, List.setIfInBounds_toArray, List.set_cons_zero, List.set_cons_succ]
      refine wpK_ta (i := 4) (some 21) (v := .slice (some ⟨g2, 0, none⟩) n c2) rfl rfl (by kernel_rfl) (fun _ _ _ h => h) (Or.inl ⟨rfl, fun _ => rfl⟩) ?_
      simp only [Act.put, List.setIfInBounds_toArray, List.set_cons_zero, List.set_cons_succ]
      refine wpK_ta (i := 5) (some 22) (v := .int .i64 (k : Int)) rfl rfl (by kernel_rfl) (fun _ _ _ h => h) (Or.inl ⟨rfl, fun _ => rfl⟩) ?_
      simp only [Act.put, List.setIfInBounds_toArray, List.set_cons_zero, List.set_cons_succ]
      refine wpK_ta (i := 6) (some 23) (v := .pointer (some ⟨g2, k * 4, none⟩)) rfl rfl (by kernel_rfl) (fun _ _ _ h => h) (Or.inl ⟨by rfl, fun W => by go_simp <;> first | rfl | omega | (simp; omega)⟩) ?_
      simp only [Act.put, List.setIfInBounds_toArray, List.set_cons_zero, List.set_cons_succ]
      refine wpK_tk (i := 7) (some 24) (v := .agg #[.int .i64 e.1, .int .i64 e.2.1, .int .i64 e.2.2.1, .int .i64 e.2.2.2]) rfl rfl (by kernel_rfl) (fun _ _ _ h => h) (.load_mid (by rfl) 27 (.tmp 23) rfl g2 (k * 4) rfl [.int .i64 e.1, .int .i64 e.2.1, .int .i64 e.2.2.1, .int .i64 e.2.2.2] _ (fun W hg => lies_range cc_len (H2.out.below (GC9.out.trans (Gr.un hg))) HE.out) Try.underlying27 rfl (by kernel_rfl)) ?_
      simp only [Act.put, List.setIfInBounds_toArray, List.set_cons_zero, List.set_cons_succ]
      refine wpK_ta (i := 8) (some 25) (v := .bool false) rfl rfl (by kernel_rfl) (fun _ _ _ h => h) (Or.inl ⟨by rfl, fun W => by go_simp⟩) ?_
      simp only [Act.put, List.setIfInBounds_toArray, List.set_cons_zero, List.set_cons_succ]
      refine wpK_done (by kernel_rfl) (fun V10 hv11 => ?_) _
      have GC12 := Lib.hid (GC9.out.trans (Gr.un hv11))
      clear hv11
      go_upto_region 5 with fail
      refine wpG_region ?_
      refine @wpG_tk _ _ _ _ _ (some 15) (.int .i64 (k : Int)) _ _ rfl (.val (by rfl) (fun _ _ => rfl)) ?_
      simp only [Act.put, List.setIfInBounds_toArray, List.set_cons_zero, List.set_cons_succ]
      refine @wpG_tk _ _ _ _ _ (some 16) (.int .i64 ((k : Int) + 1)) _ _ rfl (.val (by rfl) (fun W hg => by (first | (go_simp; done) | (go_simp; rw [IntWalk.i64_in _ (by omega)])))) ?_
      simp only [Act.put, List.setIfInBounds_toArray, List.set_cons_zero, List.set_cons_succ]
      refine @wpG_tk _ _ _ _ _ (some 5) (.int .i64 ((k : Int) + 1)) _ _ rfl (.val (by rfl) (fun _ _ => rfl)) ?_
      simp only [Act.put, List.setIfInBounds_toArray, List.set_cons_zero, List.set_cons_succ]
      refine wpG_done (fun V13 hv14 => ?_)
      have GC15 := Lib.hid (GC12.out.trans hv14)
      clear hv14
      go_wp2_with fail
      go_roundw
      case rel => exact ⟨k + 1, by go_num, by omega, GC15.out⟩
      case measure => first | (simp [intOf]; done) | (simp [intOf]; omega)
    · have hkn : n = k := by omega
      clear hlt hk
      obtain rfl := hkn
      go_upto_region 4 with fail
      refine wpG_region ?_
      refine @wpG_tk _ _ _ _ _ (some 11) (.int .i64 (n : Int)) _ _ rfl (.val (by rfl) (fun _ _ => rfl)) ?_
      simp only [Act.put, List.setIfInBounds_toArray, List.set_cons_zero, List.set_cons_succ]
      refine @wpG_tk _ _ _ _ _ (some 12) (.slice A n c) _ _ rfl (.val (by rfl) (fun _ _ => rfl)) ?_
      simp only [Act.put, List.setIfInBounds_toArray, List.set_cons_zero, List.set_cons_succ]
      refine @wpG_tk _ _ _ _ _ (some 13) (.int .i64 n) _ _ rfl (.val (by rfl) (fun W hg => by go_simp)) ?_
      simp only [Act.put, List.setIfInBounds_toArray, List.set_cons_zero, List.set_cons_succ]
      refine @wpG_tk _ _ _ _ _ (some 14) (.bool false) _ _ rfl (.val (by rfl) (fun W hg => by have hq : ¬ ((n : Int) < n) := (by omega); first | (go_simp; done) | (go_simp <;> omega))) ?_
      simp only [Act.put, List.setIfInBounds_toArray, List.set_cons_zero, List.set_cons_succ]
      refine wpG_done (fun V16 hv17 => ?_)
      have GC18 := Lib.hid (HG.out.trans hv17)
      clear hv17
      go_upto_region 8 with fail
      refine wpG_region ?_
      refine @wpG_tk _ _ _ _ _ (some 4) (.bool true) _ _ rfl (.val (by rfl) (fun _ _ => rfl)) ?_
      simp only [Act.put, List.setIfInBounds_toArray, List.set_cons_zero, List.set_cons_succ]
      refine wpG_done (fun V19 hv20 => ?_)
      have GC21 := Lib.hid (GC18.out.trans hv20)
      clear hv20
      go_wp2_with fail
      go_ret
      exact ⟨rfl, Gr.to G0.out GC21.out⟩
set_option maxRecDepth 1000000 in
set_option maxHeartbeats 4000000 in
theorem sameruns_t (A A2 : Option Addr) (n c c2 : Nat) (cl : List (Int × Int)) (w : World) (hn : n = cl.length) (hb : n ≤ 100000) (hA : 0 < n → ∃ g, A = some ⟨g, 0, none⟩) (hA2 : 0 < n → ∃ g, A2 = some ⟨g, 0, none⟩) (h1 : Lies w A (rcs cl)) (h2 : Lies w A2 (rcs cl)) :
    Calls Try.prog 27 #[.slice A n c, .slice A2 n c2] w fun e w' => e = .returned (.bool true) ∧ Below w.heap.size w w' := by
  have HN := Lib.hid hn
  have HA := Lib.hid hA
  have HA2 := Lib.hid hA2
  have H1 := Lib.hid h1
  have H2 := Lib.hid h2
  clear hn hA hA2 h1 h2
  have G0 := Lib.hid (Below.refl w.heap.size w)
  go_enter Try.func27, Try.ntmps27
  go_upto_region 1 with fail
  refine wpG_region ?_
  refine @wpG_tk _ _ _ _ _ (some 6) (.slice A n c) _ _ rfl (.val (by rfl) (fun _ _ => rfl)) ?_
  simp only [Act.put, List.setIfInBounds_toArray, List.set_cons_zero, List.set_cons_succ]
  refine @wpG_tk _ _ _ _ _ (some 7) (.int .i64 n) _ _ rfl (.val (by rfl) (fun W hg => by go_simp)) ?_
  simp only [Act.put, List.setIfInBounds_toArray, List.set_cons_zero, List.set_cons_succ]
  refine @wpG_tk _ _ _ _ _ (some 8) (.slice A2 n c2) _ _ rfl (.val (by rfl) (fun _ _ => rfl)) ?_
  simp only [Act.put, List.setIfInBounds_toArray, List.set_cons_zero, List.set_cons_succ]
  refine @wpG_tk _ _ _ _ _ (some 9) (.int .i64 n) _ _ rfl (.val (by rfl) (fun W hg => by go_simp)) ?_
  simp only [Act.put, List.setIfInBounds_toArray, List.set_cons_zero, List.set_cons_succ]
  refine @wpG_tk _ _ _ _ _ (some 10) (.bool false) _ _ rfl (.val (by rfl) (fun W hg => by go_simp)) ?_
  simp only [Act.put, List.setIfInBounds_toArray, List.set_cons_zero, List.set_cons_succ]
  refine wpG_done (fun V1 hv2 => ?_)
  have GC3 := Lib.hid hv2
  clear hv2
  go_upto_region 3 with fail
  refine wpG_region ?_
  refine @wpG_tk _ _ _ _ _ (some 5) (.int .i64 0) _ _ rfl (.val (by rfl) (fun _ _ => rfl)) ?_
  simp only [Act.put, List.setIfInBounds_toArray, List.set_cons_zero, List.set_cons_succ]
  refine wpG_done (fun V4 hv5 => ?_)
  have GC6 := Lib.hid (GC3.out.trans hv5)
  clear hv5
  go_wp2_with fail
  go_loopw [5] (fun i wr => ∃ k : Nat, i = .int .i64 (k : Int) ∧ k ≤ n ∧ Gr w wr) (fun i _ => n - (intOf i).toNat)
  case atStart => exact ⟨0, rfl, by omega, GC6.out⟩
  case round =>
    obtain ⟨k, rfl, hk, hG⟩ := hrel
    have HG := Lib.hid hG
    clear hG
    by_cases hlt : k < n
    · skip
      have hcl : k < cl.length := by rw [← HN.out]; exact hlt
      obtain ⟨e, he⟩ : ∃ e, cl[k]? = some e := ⟨_, List.getElem?_eq_getElem hcl⟩
      have HE := Lib.hid he
      clear he hcl
      obtain ⟨g, rfl⟩ := HA.out (by omega)
      obtain ⟨g2, rfl⟩ := HA2.out (by omega)
      go_upto_region 4 with fail
      refine wpG_region ?_
      refine @wpG_tk _ _ _ _ _ (some 11) (.int .i64 (k : Int)) _ _ rfl (.val (by rfl) (fun _ _ => rfl)) ?_
      simp only [Act.put, List.setIfInBounds_toArray, List.set_cons_zero, List.set_cons_succ]
      refine @wpG_tk _ _ _ _ _ (some 12) (.slice (some ⟨g, 0, none⟩) n c) _ _ rfl (.val (by rfl) (fun _ _ => rfl)) ?_
      simp only [Act.put, List.setIfInBounds_toArray, List.set_cons_zero, List.set_cons_succ]
      refine @wpG_tk _ _ _ _ _ (some 13) (.int .i64 n) _ _ rfl (.val (by rfl) (fun W hg => by go_simp)) ?_
      simp only [Act.put, List.setIfInBounds_toArray, List.set_cons_zero, List.set_cons_succ]
      refine @wpG_tk _ _ _ _ _ (some 14) (.bool true) _ _ rfl (.val (by rfl) (fun W hg => by have hq : ((k : Int) < n) := (by omega); first | (go_simp; done) | (go_simp <;> omega))) ?_
      simp only [Act.put, List.setIfInBounds_toArray, List.set_cons_zero, List.set_cons_succ]
      refine wpG_done (fun V7 hv8 => ?_)
      have GC9 := Lib.hid (HG.out.trans hv8)
      clear hv8
      go_upto_region 6 with fail
      refine wpK_region (by kernel_rfl) ?_
      refine wpK_ta (i := 0) (some 17) (v := .slice (some ⟨g, 0, none⟩) n c) rfl rfl (by kernel_rfl) (fun _ _ _ h => h) (Or.inl ⟨rfl, fun _ => rfl⟩) ?_
      simp only [Act.put, List.setIfInBounds_toArray, List.set_cons_zero, List.set_cons_succ]
      refine wpK_ta (i := 1) (some 18) (v := .int .i64 (k : Int)) rfl rfl (by kernel_rfl) (fun _ _ _ h => h) (Or.inl ⟨rfl, fun _ => rfl⟩) ?_
      simp only [Act.put, List.setIfInBounds_toArray, List.set_cons_zero, List.set_cons_succ]
      refine wpK_ta (i := 2) (some 19) (v := .pointer (some ⟨g, k * 2, none⟩)) rfl rfl (by kernel_rfl) (fun _ _ _ h => h) (Or.inl ⟨by rfl, fun W => by go_simp <;> first | rfl | omega | (simp; omega)⟩) ?_
      simp only [Act.put, List.setIfInBounds_toArray, List.set_cons_zero, List.set_cons_succ]
      refine wpK_tk (i := 3) (some 20) (v := .agg #[.int .i64 e.1, .int .i64 e.2]) rfl rfl (by kernel_rfl) (fun _ _ _ h => h) (.load_mid (by rfl) 54 (.tmp 19) rfl g (k * 2) rfl [.int .i64 e.1, .int .i64 e.2] _ (fun W hg => lies_range rc_len (H1.out.below (GC9.out.trans (Gr.un hg))) HE.out) Try.underlying54 rfl (by kernel_rfl)) ?_
      simp only [Act.put, List.setIfInBounds_toArray, List.set_cons_zero, List.set_cons_succ]
      refine wpK_ta (i := 4) (some 21) (v := .slice (some ⟨g2, 0, none⟩) n c2) rfl rfl (by kernel_rfl) (fun _ _ _ h => h) (Or.inl ⟨rfl, fun _ => rfl⟩) ?_
      simp only [Act.put, List.setIfInBounds_toArray, List.set_cons_zero, List.set_cons_succ]
      refine wpK_ta (i := 5) (some 22) (v := .int .i64 (k : Int)) rfl rfl (by kernel_rfl) (fun _ _ _ h => h) (Or.inl ⟨rfl, fun _ => rfl⟩) ?_
      simp only [Act.put, List.setIfInBounds_toArray, List.set_cons_zero, List.set_cons_succ]
      refine wpK_ta (i := 6) (some 23) (v := .pointer (some ⟨g2, k * 2, none⟩)) rfl rfl (by kernel_rfl) (fun _ _ _ h => h) (Or.inl ⟨by rfl, fun W => by go_simp <;> first | rfl | omega | (simp; omega)⟩) ?_
      simp only [Act.put, List.setIfInBounds_toArray, List.set_cons_zero, List.set_cons_succ]
      refine wpK_tk (i := 7) (some 24) (v := .agg #[.int .i64 e.1, .int .i64 e.2]) rfl rfl (by kernel_rfl) (fun _ _ _ h => h) (.load_mid (by rfl) 54 (.tmp 23) rfl g2 (k * 2) rfl [.int .i64 e.1, .int .i64 e.2] _ (fun W hg => lies_range rc_len (H2.out.below (GC9.out.trans (Gr.un hg))) HE.out) Try.underlying54 rfl (by kernel_rfl)) ?_
      simp only [Act.put, List.setIfInBounds_toArray, List.set_cons_zero, List.set_cons_succ]
      refine wpK_ta (i := 8) (some 25) (v := .bool false) rfl rfl (by kernel_rfl) (fun _ _ _ h => h) (Or.inl ⟨by rfl, fun W => by go_simp⟩) ?_
      simp only [Act.put, List.setIfInBounds_toArray, List.set_cons_zero, List.set_cons_succ]
      refine wpK_done (by kernel_rfl) (fun V10 hv11 => ?_) _
      have GC12 := Lib.hid (GC9.out.trans (Gr.un hv11))
      clear hv11
      go_upto_region 5 with fail
      refine wpG_region ?_
      refine @wpG_tk _ _ _ _ _ (some 15) (.int .i64 (k : Int)) _ _ rfl (.val (by rfl) (fun _ _ => rfl)) ?_
      simp only [Act.put, List.setIfInBounds_toArray, List.set_cons_zero, List.set_cons_succ]
      refine @wpG_tk _ _ _ _ _ (some 16) (.int .i64 ((k : Int) + 1)) _ _ rfl (.val (by rfl) (fun W hg => by (first | (go_simp; done) | (go_simp; rw [IntWalk.i64_in _ (by omega)])))) ?_
      simp only [Act.put, List.setIfInBounds_toArray, List.set_cons_zero, List.set_cons_succ]
      refine @wpG_tk _ _ _ _ _ (some 5) (.int .i64 ((k : Int) + 1)) _ _ rfl (.val (by rfl) (fun _ _ => rfl)) ?_
      simp only [Act.put, List.setIfInBounds_toArray, List.set_cons_zero, List.set_cons_succ]
      refine wpG_done (fun V13 hv14 => ?_)
      have GC15 := Lib.hid (GC12.out.trans hv14)
      clear hv14
      go_wp2_with fail
      go_roundw
      case rel => exact ⟨k + 1, by go_num, by omega, GC15.out⟩
      case measure => first | (simp [intOf]; done) | (simp [intOf]; omega)
    · have hkn : n = k := by omega
      clear hlt hk
      obtain rfl := hkn
      go_upto_region 4 with fail
      refine wpG_region ?_
      refine @wpG_tk _ _ _ _ _ (some 11) (.int .i64 (n : Int)) _ _ rfl (.val (by rfl) (fun _ _ => rfl)) ?_
      simp only [Act.put, List.setIfInBounds_toArray, List.set_cons_zero, List.set_cons_succ]
      refine @wpG_tk _ _ _ _ _ (some 12) (.slice A n c) _ _ rfl (.val (by rfl) (fun _ _ => rfl)) ?_
      simp only [Act.put, List.setIfInBounds_toArray, List.set_cons_zero, List.set_cons_succ]
      refine @wpG_tk _ _ _ _ _ (some 13) (.int .i64 n) _ _ rfl (.val (by rfl) (fun W hg => by go_simp)) ?_
      simp only [Act.put, List.setIfInBounds_toArray, List.set_cons_zero, List.set_cons_succ]
      refine @wpG_tk _ _ _ _ _ (some 14) (.bool false) _ _ rfl (.val (by rfl) (fun W hg => by have hq : ¬ ((n : Int) < n) := (by omega); first | (go_simp; done) | (go_simp <;> omega))) ?_
      simp only [Act.put, List.setIfInBounds_toArray, List.set_cons_zero, List.set_cons_succ]
      refine wpG_done (fun V16 hv17 => ?_)
      have GC18 := Lib.hid (HG.out.trans hv17)
      clear hv17
      go_upto_region 8 with fail
      refine wpG_region ?_
      refine @wpG_tk _ _ _ _ _ (some 4) (.bool true) _ _ rfl (.val (by rfl) (fun _ _ => rfl)) ?_
      simp only [Act.put, List.setIfInBounds_toArray, List.set_cons_zero, List.set_cons_succ]
      refine wpG_done (fun V19 hv20 => ?_)
      have GC21 := Lib.hid (GC18.out.trans hv20)
      clear hv20
      go_wp2_with fail
      go_ret
      exact ⟨rfl, Gr.to G0.out GC21.out⟩

end Go.Proofs.Ytmjjkloeipoefaa
