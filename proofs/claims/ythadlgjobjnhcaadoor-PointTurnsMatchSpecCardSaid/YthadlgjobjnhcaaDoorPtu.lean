/-
  Contracts of package point: compositions and inverses of symmetries.
-/
import Derived.Test.YthadlgjobjnhcaaDoorPts
import Derived.Handy
namespace Go.Proofs.YthadlgjobjnhcaaDoor
open Go.RowKit
set_option linter.unusedVariables false
/-- the first symmetry that fits, or -1 -/
def fst (g : Nat → Bool) : Int := match (List.range 48).find? g with
  | some s => (s : Int)
  | none => -1
def NoneB (g : Nat → Bool) (k : Nat) : Prop := ∀ j, j < k → g j = false
theorem fst_hit {g : Nat → Bool} {k : Nat} (hk : k < 48) (h : g k = true) (hn : NoneB g k) : fst g = (k : Int) := by
  have : (List.range 48).find? g = some k := List.find?_range_eq_some.2 ⟨h, by simpa using hk, fun j hj => by rw [hn j hj]; rfl⟩
  unfold fst; rw [this]
theorem fst_none {g : Nat → Bool} (hn : NoneB g 48) : fst g = -1 := by
  have : (List.range 48).find? g = none := List.find?_range_eq_none.2 (fun j hj => by rw [hn j hj]; rfl)
  unfold fst; rw [this]
theorem NoneB.succ {g : Nat → Bool} {k : Nat} (h : NoneB g k) (hk : g k = false) : NoneB g (k + 1) := fun j hj => by
  rcases Nat.lt_or_ge j k with l | l
  · exact h j l
  · rw [show j = k by omega]; exact hk
theorem NoneB.zero (g : Nat → Bool) : NoneB g 0 := fun _ h => absurd h (Nat.not_lt_zero _)
set_option maxRecDepth 1000000 in
theorem fits_comp (s p q : Nat) (u1 u2 u3 v1 v2 v3 : Int) (r : Bool) (w : World) (hT : Tab w) (hs : s < 48) (rp : Row p [.int .i64 u1, .int .i64 u2, .int .i64 u3] w) (rq : Row q [.int .i64 v1, .int .i64 v2, .int .i64 v3] w) (b : (-2097152 ≤ u1 ∧ u1 ≤ 2097152) ∧ (-2097152 ≤ u2 ∧ u2 ≤ 2097152) ∧ (-2097152 ≤ u3 ∧ u3 ≤ 2097152)) (h : decide (Pt.tc 0 s 0 u1 u2 u3 = v1 ∧ Pt.tc 0 s 1 u1 u2 u3 = v2 ∧ Pt.tc 0 s 2 u1 u2 u3 = v3) = r) :
    Calls Tryd.prog 83 #[.int .i64 (s : Int), .pointer (some ⟨p, 0, none⟩), .pointer (some ⟨q, 0, none⟩)] w fun e w' => e = .returned (.bool r) ∧ Below w.heap.size w w' := by
  have RP := Lib.hid rp
  have RQ := Lib.hid rq
  clear rp rq
  cases r with
  | true =>
    have hq := of_decide_eq_true h
    clear h
    have G0 := Lib.hid (Below.refl w.heap.size w)
    have HT := Lib.hid hT
    clear hT
    go_enter Tryd.func83, Tryd.ntmps83
    go_upto_region 1 with fail
    refine wpK_region (by kernel_rfl) ?_
    refine wpK_ta (i := 0) (some 5) (v := .int .i64 (s : Int)) rfl rfl (by kernel_rfl) (fun _ _ _ h => h) (Or.inl ⟨rfl, fun _ => rfl⟩) ?_
    simp only [Act.put, List.setIfInBounds_toArray, List.set_cons_zero, List.set_cons_succ]
    refine wpK_tk (i := 1) (some 6) (v := .agg #[.int .i64 u1, .int .i64 u2, .int .i64 u3]) rfl rfl (by kernel_rfl) (fun _ _ _ h => h) (.load_mid (by rfl) 23 (.tmp 1) rfl (p) 0 rfl [.int .i64 u1, .int .i64 u2, .int .i64 u3] _ (fun W hg => (RP.out.below (Gr.un hg)).range) Tryd.underlying23 rfl (by kernel_rfl)) ?_
    simp only [Act.put, List.setIfInBounds_toArray, List.set_cons_zero, List.set_cons_succ]
    refine wpK_tk (i := 2) (some 7) (v := .agg #[.int .i64 (Pt.tc 0 s 0 u1 u2 u3), .int .i64 (Pt.tc 0 s 1 u1 u2 u3), .int .i64 (Pt.tc 0 s 2 u1 u2 u3)]) rfl rfl (by kernel_rfl) (fun _ _ _ h => h) (.call (f := 47) (args := #[.int .i64 (s : Int), .agg #[.int .i64 u1, .int .i64 u2, .int .i64 u3]]) (by rfl) (fun W => by go_simp) (fun W hg => turn_any s u1 u2 u3 W (HT.out.below (Gr.un hg)) hs (by omega))) ?_
    simp only [Act.put, List.setIfInBounds_toArray, List.set_cons_zero, List.set_cons_succ]
    refine wpK_tk (i := 3) (some 8) (v := .agg #[.int .i64 v1, .int .i64 v2, .int .i64 v3]) rfl rfl (by kernel_rfl) (fun _ _ _ h => h) (.load_mid (by rfl) 23 (.tmp 2) rfl (q) 0 rfl [.int .i64 v1, .int .i64 v2, .int .i64 v3] _ (fun W hg => (RQ.out.below (Gr.un hg)).range) Tryd.underlying23 rfl (by kernel_rfl)) ?_
    simp only [Act.put, List.setIfInBounds_toArray, List.set_cons_zero, List.set_cons_succ]
    refine wpK_ta (i := 4) (some 9) (v := .bool true) rfl rfl (by kernel_rfl) (fun _ _ _ h => h) (Or.inl ⟨by rfl, fun W => by go_simp <;> omega⟩) ?_
    simp only [Act.put, List.setIfInBounds_toArray, List.set_cons_zero, List.set_cons_succ]
    refine wpK_ta (i := 5) (some 4) (v := .bool true) rfl rfl (by kernel_rfl) (fun _ _ _ h => h) (Or.inl ⟨rfl, fun _ => rfl⟩) ?_
    simp only [Act.put, List.setIfInBounds_toArray, List.set_cons_zero, List.set_cons_succ]
    refine wpK_done (by kernel_rfl) (fun V1 hv2 => ?_) _
    have GC3 := Lib.hid (Gr.un hv2)
    clear hv2
    go_wp2_with fail
    go_ret
    exact ⟨rfl, Gr.to G0.out GC3.out⟩
  | false =>
    have hq := of_decide_eq_false h
    clear h
    have G0 := Lib.hid (Below.refl w.heap.size w)
    have HT := Lib.hid hT
    clear hT
    go_enter Tryd.func83, Tryd.ntmps83
    go_upto_region 1 with fail
    refine wpK_region (by kernel_rfl) ?_
    refine wpK_ta (i := 0) (some 5) (v := .int .i64 (s : Int)) rfl rfl (by kernel_rfl) (fun _ _ _ h => h) (Or.inl ⟨rfl, fun _ => rfl⟩) ?_
    simp only [Act.put, List.setIfInBounds_toArray, List.set_cons_zero, List.set_cons_succ]
    refine wpK_tk (i := 1) (some 6) (v := .agg #[.int .i64 u1, .int .i64 u2, .int .i64 u3]) rfl rfl (by kernel_rfl) (fun _ _ _ h => h) (.load_mid (by rfl) 23 (.tmp 1) rfl (p) 0 rfl [.int .i64 u1, .int .i64 u2, .int .i64 u3] _ (fun W hg => (RP.out.below (Gr.un hg)).range) Tryd.underlying23 rfl (by kernel_rfl)) ?_
    simp only [Act.put, List.setIfInBounds_toArray, List.set_cons_zero, List.set_cons_succ]
    refine wpK_tk (i := 2) (some 7) (v := .agg #[.int .i64 (Pt.tc 0 s 0 u1 u2 u3), .int .i64 (Pt.tc 0 s 1 u1 u2 u3), .int .i64 (Pt.tc 0 s 2 u1 u2 u3)]) rfl rfl (by kernel_rfl) (fun _ _ _ h => h) (.call (f := 47) (args := #[.int .i64 (s : Int), .agg #[.int .i64 u1, .int .i64 u2, .int .i64 u3]]) (by rfl) (fun W => by go_simp) (fun W hg => turn_any s u1 u2 u3 W (HT.out.below (Gr.un hg)) hs (by omega))) ?_
    simp only [Act.put, List.setIfInBounds_toArray, List.set_cons_zero, List.set_cons_succ]
    refine wpK_tk (i := 3) (some 8) (v := .agg #[.int .i64 v1, .int .i64 v2, .int .i64 v3]) rfl rfl (by kernel_rfl) (fun _ _ _ h => h) (.load_mid (by rfl) 23 (.tmp 2) rfl (q) 0 rfl [.int .i64 v1, .int .i64 v2, .int .i64 v3] _ (fun W hg => (RQ.out.below (Gr.un hg)).range) Tryd.underlying23 rfl (by kernel_rfl)) ?_
    simp only [Act.put, List.setIfInBounds_toArray, List.set_cons_zero, List.set_cons_succ]
    refine wpK_ta (i := 4) (some 9) (v := .bool false) rfl rfl (by kernel_rfl) (fun _ _ _ h => h) (Or.inl ⟨by rfl, fun W => by go_simp <;> omega⟩) ?_
    simp only [Act.put, List.setIfInBounds_toArray, List.set_cons_zero, List.set_cons_succ]
    refine wpK_ta (i := 5) (some 4) (v := .bool false) rfl rfl (by kernel_rfl) (fun _ _ _ h => h) (Or.inl ⟨rfl, fun _ => rfl⟩) ?_
    simp only [Act.put, List.setIfInBounds_toArray, List.set_cons_zero, List.set_cons_succ]
    refine wpK_done (by kernel_rfl) (fun V1 hv2 => ?_) _
    have GC3 := Lib.hid (Gr.un hv2)
    clear hv2
    go_wp2_with fail
    go_ret
    exact ⟨rfl, Gr.to G0.out GC3.out⟩
set_option maxRecDepth 1000000 in
set_option maxHeartbeats 1000000 in
theorem first_comp (p q : Nat) (u1 u2 u3 v1 v2 v3 : Int) (g : Nat → Bool) (w : World) (hT : Tab w) (rp : Row p [.int .i64 u1, .int .i64 u2, .int .i64 u3] w) (rq : Row q [.int .i64 v1, .int .i64 v2, .int .i64 v3] w) (b : (-2097152 ≤ u1 ∧ u1 ≤ 2097152) ∧ (-2097152 ≤ u2 ∧ u2 ≤ 2097152) ∧ (-2097152 ≤ u3 ∧ u3 ≤ 2097152)) (hg : ∀ s, s < 48 → decide (Pt.tc 0 s 0 u1 u2 u3 = v1 ∧ Pt.tc 0 s 1 u1 u2 u3 = v2 ∧ Pt.tc 0 s 2 u1 u2 u3 = v3) = g s) :
    Calls Tryd.prog 74 #[.func (.func 83) #[] #[.pointer (some ⟨p, 0, none⟩), .pointer (some ⟨q, 0, none⟩)]] w fun e w' => e = .returned (.int .i64 (fst g)) ∧ Below w.heap.size w w' := by
  have CL : Hid (∀ (k : Nat) (W : World), k < 48 → Gr w W → Calls Tryd.prog 83 #[.int .i64 (k : Int), .pointer (some ⟨p, 0, none⟩), .pointer (some ⟨q, 0, none⟩)] W fun e w' => e = .returned (.bool (g k)) ∧ Below W.heap.size W w') :=
    Lib.hid (fun k W hk hW => fits_comp k p q u1 u2 u3 v1 v2 v3 (g k) W (hT.below hW) hk (rp.below hW) (rq.below hW) b (hg k hk))
  clear hT rp rq b hg
  go_enter Tryd.func74, Tryd.ntmps74
  go_wp2_with fail
  go_loopw [4] (fun i wr => ∃ k : Nat, i = .int .i64 (k : Int) ∧ k ≤ 48 ∧ NoneB g k ∧ Gr w wr) (fun i _ => 48 - (intOf i).toNat)
  case atStart => exact ⟨0, rfl, by omega, NoneB.zero g, Gr.refl _⟩
  case round =>
    obtain ⟨k, rfl, hk, hn, hG⟩ := hrel
    have HN := Lib.hid hn
    have HG := Lib.hid hG
    clear hn hG
    by_cases hlt : k < 48
    · have CK := Lib.hid (fun W => CL.out k W hlt)
      have CG : Hid (g k = g k) := Lib.hid rfl
      cases hgk : g k with
      | true =>
        rw [hgk] at CK
        have HK := Lib.hid (fst_hit hlt hgk HN.out)
        clear hgk CG
        go_wp2_with fail
        refine (CK.out _ HG.out).mono ?_
        rintro e w2 ⟨rfl, b2⟩
        have HB := Lib.hid b2
        clear b2
        go_wp2_with fail
        go_ret
        exact ⟨ret_int HK.out.symm, HG.out.trans HB.out⟩
      | false =>
        rw [hgk] at CK
        have HK := Lib.hid (HN.out.succ hgk)
        clear hgk CG
        go_wp2_with fail
        refine (CK.out _ HG.out).mono ?_
        rintro e w2 ⟨rfl, b2⟩
        have HB := Lib.hid b2
        clear b2
        go_wp2_with fail
        first
          | exact ⟨⟨k + 1, by go_num, by omega, HK.out, HG.out.trans HB.out⟩, by simp [intOf]; omega⟩
          | (go_roundw
             case rel => exact ⟨k + 1, by go_num, by omega, HK.out, HG.out.trans HB.out⟩
             case measure => simp [intOf]; omega)
    · have h48 : k = 48 := by omega
      subst h48
      have HK := Lib.hid (fst_none HN.out)
      go_wp2_with fail
      go_ret
      exact ⟨ret_int HK.out.symm, HG.out⟩
set_option maxRecDepth 1000000 in
theorem fits_inv (s p q : Nat) (u1 u2 u3 v1 v2 v3 : Int) (r : Bool) (w : World) (hT : Tab w) (hs : s < 48) (rp : Row p [.int .i64 u1, .int .i64 u2, .int .i64 u3] w) (rq : Row q [.int .i64 v1, .int .i64 v2, .int .i64 v3] w) (b : (-2097152 ≤ u1 ∧ u1 ≤ 2097152) ∧ (-2097152 ≤ u2 ∧ u2 ≤ 2097152) ∧ (-2097152 ≤ u3 ∧ u3 ≤ 2097152)) (h : decide (Pt.tc 0 s 0 u1 u2 u3 = v1 ∧ Pt.tc 0 s 1 u1 u2 u3 = v2 ∧ Pt.tc 0 s 2 u1 u2 u3 = v3) = r) :
    Calls Tryd.prog 85 #[.int .i64 (s : Int), .pointer (some ⟨p, 0, none⟩), .pointer (some ⟨q, 0, none⟩)] w fun e w' => e = .returned (.bool r) ∧ Below w.heap.size w w' := by
  have RP := Lib.hid rp
  have RQ := Lib.hid rq
  clear rp rq
  cases r with
  | true =>
    have hq := of_decide_eq_true h
    clear h
    have G0 := Lib.hid (Below.refl w.heap.size w)
    have HT := Lib.hid hT
    clear hT
    go_enter Tryd.func85, Tryd.ntmps85
    go_upto_region 1 with fail
    refine wpK_region (by kernel_rfl) ?_
    refine wpK_ta (i := 0) (some 5) (v := .int .i64 (s : Int)) rfl rfl (by kernel_rfl) (fun _ _ _ h => h) (Or.inl ⟨rfl, fun _ => rfl⟩) ?_
    simp only [Act.put, List.setIfInBounds_toArray, List.set_cons_zero, List.set_cons_succ]
    refine wpK_tk (i := 1) (some 6) (v := .agg #[.int .i64 u1, .int .i64 u2, .int .i64 u3]) rfl rfl (by kernel_rfl) (fun _ _ _ h => h) (.load_mid (by rfl) 23 (.tmp 1) rfl (p) 0 rfl [.int .i64 u1, .int .i64 u2, .int .i64 u3] _ (fun W hg => (RP.out.below (Gr.un hg)).range) Tryd.underlying23 rfl (by kernel_rfl)) ?_
    simp only [Act.put, List.setIfInBounds_toArray, List.set_cons_zero, List.set_cons_succ]
    refine wpK_tk (i := 2) (some 7) (v := .agg #[.int .i64 (Pt.tc 0 s 0 u1 u2 u3), .int .i64 (Pt.tc 0 s 1 u1 u2 u3), .int .i64 (Pt.tc 0 s 2 u1 u2 u3)]) rfl rfl (by kernel_rfl) (fun _ _ _ h => h) (.call (f := 47) (args := #[.int .i64 (s : Int), .agg #[.int .i64 u1, .int .i64 u2, .int .i64 u3]]) (by rfl) (fun W => by go_simp) (fun W hg => turn_any s u1 u2 u3 W (HT.out.below (Gr.un hg)) hs (by omega))) ?_
    simp only [Act.put, List.setIfInBounds_toArray, List.set_cons_zero, List.set_cons_succ]
    refine wpK_tk (i := 3) (some 8) (v := .agg #[.int .i64 v1, .int .i64 v2, .int .i64 v3]) rfl rfl (by kernel_rfl) (fun _ _ _ h => h) (.load_mid (by rfl) 23 (.tmp 2) rfl (q) 0 rfl [.int .i64 v1, .int .i64 v2, .int .i64 v3] _ (fun W hg => (RQ.out.below (Gr.un hg)).range) Tryd.underlying23 rfl (by kernel_rfl)) ?_
    simp only [Act.put, List.setIfInBounds_toArray, List.set_cons_zero, List.set_cons_succ]
    refine wpK_ta (i := 4) (some 9) (v := .bool true) rfl rfl (by kernel_rfl) (fun _ _ _ h => h) (Or.inl ⟨by rfl, fun W => by go_simp <;> omega⟩) ?_
    simp only [Act.put, List.setIfInBounds_toArray, List.set_cons_zero, List.set_cons_succ]
    refine wpK_ta (i := 5) (some 4) (v := .bool true) rfl rfl (by kernel_rfl) (fun _ _ _ h => h) (Or.inl ⟨rfl, fun _ => rfl⟩) ?_
    simp only [Act.put, List.setIfInBounds_toArray, List.set_cons_zero, List.set_cons_succ]
    refine wpK_done (by kernel_rfl) (fun V1 hv2 => ?_) _
    have GC3 := Lib.hid (Gr.un hv2)
    clear hv2
    go_wp2_with fail
    go_ret
    exact ⟨rfl, Gr.to G0.out GC3.out⟩
  | false =>
    have hq := of_decide_eq_false h
    clear h
    have G0 := Lib.hid (Below.refl w.heap.size w)
    have HT := Lib.hid hT
    clear hT
    go_enter Tryd.func85, Tryd.ntmps85
    go_upto_region 1 with fail
    refine wpK_region (by kernel_rfl) ?_
    refine wpK_ta (i := 0) (some 5) (v := .int .i64 (s : Int)) rfl rfl (by kernel_rfl) (fun _ _ _ h => h) (Or.inl ⟨rfl, fun _ => rfl⟩) ?_
    simp only [Act.put, List.setIfInBounds_toArray, List.set_cons_zero, List.set_cons_succ]
    refine wpK_tk (i := 1) (some 6) (v := .agg #[.int .i64 u1, .int .i64 u2, .int .i64 u3]) rfl rfl (by kernel_rfl) (fun _ _ _ h => h) (.load_mid (by rfl) 23 (.tmp 1) rfl (p) 0 rfl [.int .i64 u1, .int .i64 u2, .int .i64 u3] _ (fun W hg => (RP.out.below (Gr.un hg)).range) Tryd.underlying23 rfl (by kernel_rfl)) ?_
    simp only [Act.put, List.setIfInBounds_toArray, List.set_cons_zero, List.set_cons_succ]
    refine wpK_tk (i := 2) (some 7) (v := .agg #[.int .i64 (Pt.tc 0 s 0 u1 u2 u3), .int .i64 (Pt.tc 0 s 1 u1 u2 u3), .int .i64 (Pt.tc 0 s 2 u1 u2 u3)]) rfl rfl (by kernel_rfl) (fun _ _ _ h => h) (.call (f := 47) (args := #[.int .i64 (s : Int), .agg #[.int .i64 u1, .int .i64 u2, .int .i64 u3]]) (by rfl) (fun W => by go_simp) (fun W hg => turn_any s u1 u2 u3 W (HT.out.below (Gr.un hg)) hs (by omega))) ?_
    simp only [Act.put, List.setIfInBounds_toArray, List.set_cons_zero, List.set_cons_succ]
    refine wpK_tk (i := 3) (some 8) (v := .agg #[.int .i64 v1, .int .i64 v2, .int .i64 v3]) rfl rfl (by kernel_rfl) (fun _ _ _ h => h) (.load_mid (by rfl) 23 (.tmp 2) rfl (q) 0 rfl [.int .i64 v1, .int .i64 v2, .int .i64 v3] _ (fun W hg => (RQ.out.below (Gr.un hg)).range) Tryd.underlying23 rfl (by kernel_rfl)) ?_
    simp only [Act.put, List.setIfInBounds_toArray, List.set_cons_zero, List.set_cons_succ]
    refine wpK_ta (i := 4) (some 9) (v := .bool false) rfl rfl (by kernel_rfl) (fun _ _ _ h => h) (Or.inl ⟨by rfl, fun W => by go_simp <;> omega⟩) ?_
    simp only [Act.put, List.setIfInBounds_toArray, List.set_cons_zero, List.set_cons_succ]
    refine wpK_ta (i := 5) (some 4) (v := .bool false) rfl rfl (by kernel_rfl) (fun _ _ _ h => h) (Or.inl ⟨rfl, fun _ => rfl⟩) ?_
    simp only [Act.put, List.setIfInBounds_toArray, List.set_cons_zero, List.set_cons_succ]
    refine wpK_done (by kernel_rfl) (fun V1 hv2 => ?_) _
    have GC3 := Lib.hid (Gr.un hv2)
    clear hv2
    go_wp2_with fail
    go_ret
    exact ⟨rfl, Gr.to G0.out GC3.out⟩
set_option maxRecDepth 1000000 in
set_option maxHeartbeats 1000000 in
theorem first_inv (p q : Nat) (u1 u2 u3 v1 v2 v3 : Int) (g : Nat → Bool) (w : World) (hT : Tab w) (rp : Row p [.int .i64 u1, .int .i64 u2, .int .i64 u3] w) (rq : Row q [.int .i64 v1, .int .i64 v2, .int .i64 v3] w) (b : (-2097152 ≤ u1 ∧ u1 ≤ 2097152) ∧ (-2097152 ≤ u2 ∧ u2 ≤ 2097152) ∧ (-2097152 ≤ u3 ∧ u3 ≤ 2097152)) (hg : ∀ s, s < 48 → decide (Pt.tc 0 s 0 u1 u2 u3 = v1 ∧ Pt.tc 0 s 1 u1 u2 u3 = v2 ∧ Pt.tc 0 s 2 u1 u2 u3 = v3) = g s) :
    Calls Tryd.prog 74 #[.func (.func 85) #[] #[.pointer (some ⟨p, 0, none⟩), .pointer (some ⟨q, 0, none⟩)]] w fun e w' => e = .returned (.int .i64 (fst g)) ∧ Below w.heap.size w w' := by
  have CL : Hid (∀ (k : Nat) (W : World), k < 48 → Gr w W → Calls Tryd.prog 85 #[.int .i64 (k : Int), .pointer (some ⟨p, 0, none⟩), .pointer (some ⟨q, 0, none⟩)] W fun e w' => e = .returned (.bool (g k)) ∧ Below W.heap.size W w') :=
    Lib.hid (fun k W hk hW => fits_inv k p q u1 u2 u3 v1 v2 v3 (g k) W (hT.below hW) hk (rp.below hW) (rq.below hW) b (hg k hk))
  clear hT rp rq b hg
  go_enter Tryd.func74, Tryd.ntmps74
  go_wp2_with fail
  go_loopw [4] (fun i wr => ∃ k : Nat, i = .int .i64 (k : Int) ∧ k ≤ 48 ∧ NoneB g k ∧ Gr w wr) (fun i _ => 48 - (intOf i).toNat)
  case atStart => exact ⟨0, rfl, by omega, NoneB.zero g, Gr.refl _⟩
  case round =>
    obtain ⟨k, rfl, hk, hn, hG⟩ := hrel
    have HN := Lib.hid hn
    have HG := Lib.hid hG
    clear hn hG
    by_cases hlt : k < 48
    · have CK := Lib.hid (fun W => CL.out k W hlt)
      have CG : Hid (g k = g k) := Lib.hid rfl
      cases hgk : g k with
      | true =>
        rw [hgk] at CK
        have HK := Lib.hid (fst_hit hlt hgk HN.out)
        clear hgk CG
        go_wp2_with fail
        refine (CK.out _ HG.out).mono ?_
        rintro e w2 ⟨rfl, b2⟩
        have HB := Lib.hid b2
        clear b2
        go_wp2_with fail
        go_ret
        exact ⟨ret_int HK.out.symm, HG.out.trans HB.out⟩
      | false =>
        rw [hgk] at CK
        have HK := Lib.hid (HN.out.succ hgk)
        clear hgk CG
        go_wp2_with fail
        refine (CK.out _ HG.out).mono ?_
        rintro e w2 ⟨rfl, b2⟩
        have HB := Lib.hid b2
        clear b2
        go_wp2_with fail
        first
          | exact ⟨⟨k + 1, by go_num, by omega, HK.out, HG.out.trans HB.out⟩, by simp [intOf]; omega⟩
          | (go_roundw
             case rel => exact ⟨k + 1, by go_num, by omega, HK.out, HG.out.trans HB.out⟩
             case measure => simp [intOf]; omega)
    · have h48 : k = 48 := by omega
      subst h48
      have HK := Lib.hid (fst_none HN.out)
      go_wp2_with fail
      go_ret
      exact ⟨ret_int HK.out.symm, HG.out⟩

end Go.Proofs.YthadlgjobjnhcaaDoor
