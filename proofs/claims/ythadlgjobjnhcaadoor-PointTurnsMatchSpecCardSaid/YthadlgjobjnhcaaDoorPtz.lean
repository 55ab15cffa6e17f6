/-
  Find.
-/
import Derived.Test.YthadlgjobjnhcaaDoorPty
import Derived.Test.YthadlgjobjnhcaaDoorPtu
import Derived.Handy
namespace Go.Proofs.YthadlgjobjnhcaaDoor
open Go.RowKit
set_option linter.unusedVariables false
set_option maxRecDepth 1000000 in
theorem fits_find_t (s q : Nat) (nm : ByteArray) (w : World) (hT : Tab w) (hs : s < 48) (rq : Row q [.string nm] w) (h : ((bstr (Pt.name s)).toList == nm.toList) = true) :
    Calls Tryd.prog 75 #[.int .i64 (s : Int), .pointer (some ⟨q, 0, none⟩)] w fun e w' => e = .returned (.bool true) ∧ Below w.heap.size w w' := by
  have RQ := Lib.hid rq
  have HQ := Lib.hid h
  clear rq h
  have G0 := Lib.hid (Below.refl w.heap.size w)
  have HT := Lib.hid hT
  clear hT
  go_enter Tryd.func75, Tryd.ntmps75
  go_upto_region 1 with fail
  refine wpK_region (by kernel_rfl) ?_
  refine wpK_ta (i := 0) (some 4) (v := .int .i64 (s : Int)) rfl rfl (by kernel_rfl) (fun _ _ _ h => h) (Or.inl ⟨rfl, fun _ => rfl⟩) ?_
  simp only [Act.put, List.setIfInBounds_toArray, List.set_cons_zero, List.set_cons_succ]
  refine wpK_tk (i := 1) (some 5) (v := .string (bstr (Pt.name s))) rfl rfl (by kernel_rfl) (fun _ _ _ h => h) (.call (f := 59) (args := #[.int .i64 (s : Int)]) (by rfl) (fun W => by go_simp) (fun W hg => name_any s W (HT.out.below (Gr.un hg)) hs)) ?_
  simp only [Act.put, List.setIfInBounds_toArray, List.set_cons_zero, List.set_cons_succ]
  refine wpK_tk (i := 2) (some 6) (v := .string nm) rfl rfl (by kernel_rfl) (fun _ _ _ h => h) (.val (by rfl) (fun W hg => by have c := (RQ.out.below (Gr.un hg) 0 _ rfl).1; go_simp)) ?_
  simp only [Act.put, List.setIfInBounds_toArray, List.set_cons_zero, List.set_cons_succ]
  refine wpK_ta (i := 3) (some 7) (v := .bool true) rfl rfl (by kernel_rfl) (fun _ _ _ h => h) (Or.inl ⟨by rfl, fun W => by have hq := HQ.out; go_simp⟩) ?_
  simp only [Act.put, List.setIfInBounds_toArray, List.set_cons_zero, List.set_cons_succ]
  refine wpK_ta (i := 4) (some 3) (v := .bool true) rfl rfl (by kernel_rfl) (fun _ _ _ h => h) (Or.inl ⟨rfl, fun _ => rfl⟩) ?_
  simp only [Act.put, List.setIfInBounds_toArray, List.set_cons_zero, List.set_cons_succ]
  refine wpK_done (by kernel_rfl) (fun V1 hv2 => ?_) _
  have GC3 := Lib.hid (Gr.un hv2)
  clear hv2
  go_wp2_with fail
  go_ret
  exact ⟨rfl, Gr.to G0.out GC3.out⟩
set_option maxRecDepth 1000000 in
theorem fits_find_f (s q : Nat) (nm : ByteArray) (w : World) (hT : Tab w) (hs : s < 48) (rq : Row q [.string nm] w) (h : ((bstr (Pt.name s)).toList == nm.toList) = false) :
    Calls Tryd.prog 75 #[.int .i64 (s : Int), .pointer (some ⟨q, 0, none⟩)] w fun e w' => e = .returned (.bool false) ∧ Below w.heap.size w w' := by
  have RQ := Lib.hid rq
  have HQ := Lib.hid h
  clear rq h
  have G0 := Lib.hid (Below.refl w.heap.size w)
  have HT := Lib.hid hT
  clear hT
  go_enter Tryd.func75, Tryd.ntmps75
  go_upto_region 1 with fail
  refine wpK_region (by kernel_rfl) ?_
  refine wpK_ta (i := 0) (some 4) (v := .int .i64 (s : Int)) rfl rfl (by kernel_rfl) (fun _ _ _ h => h) (Or.inl ⟨rfl, fun _ => rfl⟩) ?_
  simp only [Act.put, List.setIfInBounds_toArray, List.set_cons_zero, List.set_cons_succ]
  refine wpK_tk (i := 1) (some 5) (v := .string (bstr (Pt.name s))) rfl rfl (by kernel_rfl) (fun _ _ _ h => h) (.call (f := 59) (args := #[.int .i64 (s : Int)]) (by rfl) (fun W => by go_simp) (fun W hg => name_any s W (HT.out.below (Gr.un hg)) hs)) ?_
  simp only [Act.put, List.setIfInBounds_toArray, List.set_cons_zero, List.set_cons_succ]
  refine wpK_tk (i := 2) (some 6) (v := .string nm) rfl rfl (by kernel_rfl) (fun _ _ _ h => h) (.val (by rfl) (fun W hg => by have c := (RQ.out.below (Gr.un hg) 0 _ rfl).1; go_simp)) ?_
  simp only [Act.put, List.setIfInBounds_toArray, List.set_cons_zero, List.set_cons_succ]
  refine wpK_ta (i := 3) (some 7) (v := .bool false) rfl rfl (by kernel_rfl) (fun _ _ _ h => h) (Or.inl ⟨by rfl, fun W => by have hq := HQ.out; go_simp⟩) ?_
  simp only [Act.put, List.setIfInBounds_toArray, List.set_cons_zero, List.set_cons_succ]
  refine wpK_ta (i := 4) (some 3) (v := .bool false) rfl rfl (by kernel_rfl) (fun _ _ _ h => h) (Or.inl ⟨rfl, fun _ => rfl⟩) ?_
  simp only [Act.put, List.setIfInBounds_toArray, List.set_cons_zero, List.set_cons_succ]
  refine wpK_done (by kernel_rfl) (fun V1 hv2 => ?_) _
  have GC3 := Lib.hid (Gr.un hv2)
  clear hv2
  go_wp2_with fail
  go_ret
  exact ⟨rfl, Gr.to G0.out GC3.out⟩
def isName (nm : ByteArray) (s : Nat) : Bool := (bstr (Pt.name s)).toList == nm.toList
set_option maxRecDepth 1000000 in
set_option maxHeartbeats 1000000 in
theorem first_find (q : Nat) (nm : ByteArray) (g : Nat → Bool) (w : World) (hT : Tab w) (rq : Row q [.string nm] w) (hg : ∀ s, isName nm s = g s) :
    Calls Tryd.prog 74 #[.func (.func 75) #[] #[.pointer (some ⟨q, 0, none⟩)]] w fun e w' => e = .returned (.int .i64 (fst g)) ∧ Below w.heap.size w w' := by
  have CL : Hid (∀ (k : Nat) (W : World), k < 48 → Gr w W → Calls Tryd.prog 75 #[.int .i64 (k : Int), .pointer (some ⟨q, 0, none⟩)] W fun e w' => e = .returned (.bool (g k)) ∧ Below W.heap.size W w') :=
    Lib.hid (fun k W hk hW => by
      cases hgk : g k with
      | true => exact fits_find_t k q nm W (hT.below hW) hk (rq.below hW) ((hg k).trans hgk)
      | false => exact fits_find_f k q nm W (hT.below hW) hk (rq.below hW) ((hg k).trans hgk))
  clear hT rq hg
  go_enter Tryd.func74, Tryd.ntmps74
  go_wp2_with fail
  go_loopw [4] (fun i wr => ∃ k : Nat, i = .int .i64 (k : Int) ∧ k ≤ 48 ∧ NoneB g k ∧ Gr w wr) (fun i _ => 48 - (intOf i).toNat)
  case atStart => exact ⟨0, rfl, by omega, NoneB.zero g, Gr.refl _⟩
  case round =>
    obtain ⟨k, rfl, hk, hn, hG⟩ := hrel
    have HN := Lib.hid hn
    have HG := Lib.hid hG
    clear hn hG
    by_cases hlt : k < 48
    · have CK := Lib.hid (fun W => CL.out k W hlt)
      have CG : Hid (g k = g k) := Lib.hid rfl
      cases hgk : g k with
      | true =>
        rw [hgk] at CK
        have HK := Lib.hid (fst_hit hlt hgk HN.out)
        clear hgk CG
        go_wp2_with fail
        refine (CK.out _ HG.out).mono ?_
        rintro e w2 ⟨rfl, b2⟩
        have HB := Lib.hid b2
        clear b2
        go_wp2_with fail
        go_ret
        exact ⟨ret_int HK.out.symm, HG.out.trans HB.out⟩
      | false =>
        rw [hgk] at CK
        have HK := Lib.hid (HN.out.succ hgk)
        clear hgk CG
        go_wp2_with fail
        refine (CK.out _ HG.out).mono ?_
        rintro e w2 ⟨rfl, b2⟩
        have HB := Lib.hid b2
        clear b2
        go_wp2_with fail
        first
          | exact ⟨⟨k + 1, by go_num, by omega, HK.out, HG.out.trans HB.out⟩, by simp [intOf]; omega⟩
          | (go_roundw
             case rel => exact ⟨k + 1, by go_num, by omega, HK.out, HG.out.trans HB.out⟩
             case measure => simp [intOf]; omega)
    · have h48 : k = 48 := by omega
      subst h48
      have HK := Lib.hid (fst_none HN.out)
      go_wp2_with fail
      go_ret
      exact ⟨ret_int HK.out.symm, HG.out⟩
theorem fst_bd (g : Nat → Bool) : -1 ≤ fst g ∧ fst g ≤ 47 := by
  unfold fst
  split
  · rename_i s hs
    have := List.mem_range.1 (List.mem_of_find?_eq_some hs)
    omega
  · omega
set_option maxRecDepth 1000000 in
theorem find_any (nm : ByteArray) (w : World) (hT : Tab w) :
    Calls Tryd.prog 45 #[.string nm] w fun e w' => e = .returned (.tuple #[.int .i64 (max (fst (isName nm)) 0), .bool (decide (0 ≤ fst (isName nm)))]) ∧ Below w.heap.size w w' := by
  obtain ⟨u, hu, r0, g0⟩ := rows1 w [.string nm] 9
  have R0 := Lib.hid r0
  have G0 := Lib.hid g0
  have HU := Lib.hid hu
  have HT := Lib.hid (hT.below g0)
  clear hT
  clear hu g0 r0
  go_enter Tryd.func45, Tryd.ntmps45
  go_upto_region 1 with fail
  rw [← HU.out]
  refine wpG_region ?_
  refine wpG_tk (some 5) (v := .func (.func 75) #[] #[.pointer (some ⟨w.heap.size, 0, none⟩)]) rfl (.val (by rfl) (fun W hg => by go_simp)) ?_
  simp only [Act.put, List.setIfInBounds_toArray, List.set_cons_zero, List.set_cons_succ]
  refine wpG_tk (some 6) (v := .int .i64 (fst (isName nm))) rfl (.call (f := 74) (args := #[.func (.func 75) #[] #[.pointer (some ⟨w.heap.size, 0, none⟩)]]) (by rfl) (fun W => by go_simp) (fun W hg => first_find w.heap.size nm (isName nm) W (HT.out.below hg) (R0.out.below hg) (fun _ => rfl))) ?_
  simp only [Act.put, List.setIfInBounds_toArray, List.set_cons_zero, List.set_cons_succ]
  refine wpG_tk (some 4) (v := .int .i64 (fst (isName nm))) rfl (.val (by rfl) (fun _ _ => rfl)) ?_
  simp only [Act.put, List.setIfInBounds_toArray, List.set_cons_zero, List.set_cons_succ]
  refine wpG_done (fun V1 hv2 => ?_)
  have GC3 := Lib.hid hv2
  clear hv2
  have hb := fst_bd (isName nm)
  generalize hx : fst (isName nm) = x at hb ⊢
  have HX := Lib.hid hx
  clear hx
  clear HU
  go_wp2_with fail
  all_goals (refine bodyPost_ret (v := .tuple #[.int .i64 (max x 0), .bool (decide (0 ≤ x))]) ?_ rfl ?_)
  all_goals first | exact ⟨by rw [HX.out], Gr.to G0.out GC3.out⟩ | skip
  all_goals (simp [results, Tryd.results45, go_sem]; try omega)

end Go.Proofs.YthadlgjobjnhcaaDoor
