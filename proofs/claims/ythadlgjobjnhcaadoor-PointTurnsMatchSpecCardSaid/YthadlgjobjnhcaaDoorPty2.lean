/-
  The sanity check of the laws.
-/
import Derived.Test.YthadlgjobjnhcaaDoorPtz
import Derived.Test.YthadlgjobjnhcaaDoorPtv
import Derived.Test.YthadlgjobjnhcaaDoorPtf
import Derived.Test.YthadlgjobjnhcaaDoorPth
import Derived.Test.YthadlgjobjnhcaaDoorPtt
import Derived.Test.YthadlgjobjnhcaaDoorPtx
import Derived.Handy
namespace Go.Proofs.YthadlgjobjnhcaaDoor
open Go.RowKit
set_option linter.unusedVariables false
theorem ba_toList (a b : List UInt8) : ((bstr a).toList == (bstr b).toList) = (a == b) := by
  rw [ByteArray.toList_eq, ByteArray.toList_eq]
  rfl
theorem find9 : fst (isName ⟨#[45, 120, 43, 122, 43, 121]⟩) = 9 := by
  refine fst_hit (k := 9) (by decide) ?_ ?_
  · show ((bstr _).toList == (bstr _).toList) = true
    rw [ba_toList]; decide +kernel
  · intro j hj
    show ((bstr _).toList == (bstr _).toList) = false
    rw [ba_toList]
    have : ∀ j : Fin 9, (Pt.name j.val == [45, 120, 43, 122, 43, 121]) = false := by decide +kernel
    exact this ⟨j, hj⟩
set_option maxRecDepth 1000000 in
set_option maxHeartbeats 8000000 in
theorem sanity_any (w : World) (hT : Tab w) :
    Calls Tryd.prog 12 #[] w fun e w' => e = .returned (.bool true) ∧ Below w.heap.size w w' := by
  have G0 := Lib.hid (Below.refl w.heap.size w)
  have HT := Lib.hid hT
  clear hT
  go_enter Tryd.func12, Tryd.ntmps12
  go_upto_region 1 with fail
  refine wpG_region ?_
  refine wpG_tk (some 10) (v := .agg #[.int .i64 1, .int .i64 1, .int .i64 1]) rfl (.call (f := 63) (args := #[.int .i64 1, .int .i64 1, .int .i64 1]) (by rfl) (fun W => by go_simp) (fun W hg => lawat_any 1 1 1 W)) ?_
  simp only [Act.put, List.setIfInBounds_toArray, List.set_cons_zero, List.set_cons_succ]
  refine wpG_tk (some 11) (v := .agg #[.int .i64 3, .int .i64 4, .int .i64 5]) rfl (.call (f := 63) (args := #[.int .i64 3, .int .i64 4, .int .i64 5]) (by rfl) (fun W => by go_simp) (fun W hg => lawat_any 3 4 5 W)) ?_
  simp only [Act.put, List.setIfInBounds_toArray, List.set_cons_zero, List.set_cons_succ]
  refine wpG_tk (some 12) (v := .agg #[.int .i64 1, .int .i64 1, .int .i64 1, .int .i64 3, .int .i64 4, .int .i64 5]) rfl (.call (f := 64) (args := #[.agg #[.int .i64 1, .int .i64 1, .int .i64 1], .agg #[.int .i64 3, .int .i64 4, .int .i64 5]]) (by rfl) (fun W => by go_simp) (fun W hg => lawbox_any 1 1 1 3 4 5 W)) ?_
  simp only [Act.put, List.setIfInBounds_toArray, List.set_cons_zero, List.set_cons_succ]
  refine wpG_val (some 1) rfl (by rfl) (fun W1 hg2 => ⟨.pointer (some ⟨W1.heap.size, 0, none⟩), W1.alloc (.cells #[.int .i64 0, .int .i64 0, .int .i64 0, .int .i64 0, .int .i64 0, .int .i64 0] 31), by (go_simp <;> rfl), ?_⟩)
  simp only [Act.put, List.setIfInBounds_toArray, List.set_cons_zero, List.set_cons_succ]
  refine wpG_store (none) rfl (by rfl) (fun W3 hg4 => ⟨_, run_store_mid 31 (.tmp 1) (.tmp 12) rfl (W1.heap.size) 0 #[.int .i64 1, .int .i64 1, .int .i64 1, .int .i64 3, .int .i64 4, .int .i64 5] rfl rfl (Row.room hg4 6 rfl) (by kernel_rfl) (by kernel_rfl), ?_⟩)
  simp only [Act.put]
  refine wpG_done (fun V5 hv6 => ?_)
  have R8 := Lib.hid (Row.made (zs := [.int .i64 0, .int .i64 0, .int .i64 0, .int .i64 0, .int .i64 0, .int .i64 0]) (ds := [.int .i64 1, .int .i64 1, .int .i64 1, .int .i64 3, .int .i64 4, .int .i64 5]) rfl hg4 hv6)
  have G7 := Lib.hid (Gr.to (Gr.to G0.out hg2) (Gr.past hg4 hv6))
  have HT := Lib.hid (HT.out.below (hg2.trans (Gr.past hg4 hv6)))
  clear hg4 hv6 
  go_upto_region 2 with fail
  refine wpG_region ?_
  refine wpG_tk (some 14) (v := .agg #[.int .i64 1, .int .i64 1, .int .i64 1, .int .i64 3, .int .i64 4, .int .i64 5]) rfl (.load_mid (by rfl) 31 (.tmp 1) rfl (W1.heap.size) 0 rfl [.int .i64 1, .int .i64 1, .int .i64 1, .int .i64 3, .int .i64 4, .int .i64 5] _ (fun W hg => (R8.out.below hg).range) Tryd.underlying31 rfl (by kernel_rfl)) ?_
  simp only [Act.put, List.setIfInBounds_toArray, List.set_cons_zero, List.set_cons_succ]
  refine wpG_tk (some 15) (v := .tuple #[.agg #[.int .i64 2, .int .i64 3, .int .i64 1], .bool true]) rfl (.call (f := 21) (args := #[.agg #[.int .i64 1, .int .i64 1, .int .i64 1, .int .i64 3, .int .i64 4, .int .i64 5], .int .i64 5]) (by rfl) (fun W => by go_simp) (fun W hg => (by have c := at_ok 1 1 1 3 4 5 5 W (by omega) (by decide) (by decide) (by decide); exact c))) ?_
  simp only [Act.put, List.setIfInBounds_toArray, List.set_cons_zero, List.set_cons_succ]
  refine wpG_tk (some 13) (v := .tuple #[.agg #[.int .i64 2, .int .i64 3, .int .i64 1], .bool true]) rfl (.val (by rfl) (fun _ _ => rfl)) ?_
  simp only [Act.put, List.setIfInBounds_toArray, List.set_cons_zero, List.set_cons_succ]
  refine wpG_tk (some 16) (v := .agg #[.int .i64 2, .int .i64 3, .int .i64 1]) rfl (.val (by rfl) (fun W hg => by go_simp)) ?_
  simp only [Act.put, List.setIfInBounds_toArray, List.set_cons_zero, List.set_cons_succ]
  refine wpG_tk (some 17) (v := .bool true) rfl (.val (by rfl) (fun W hg => by go_simp)) ?_
  simp only [Act.put, List.setIfInBounds_toArray, List.set_cons_zero, List.set_cons_succ]
  refine wpG_val (some 2) rfl (by rfl) (fun W9 hg10 => ⟨.pointer (some ⟨W9.heap.size, 0, none⟩), W9.alloc (.cells #[.int .i64 0, .int .i64 0, .int .i64 0] 23), by (go_simp <;> rfl), ?_⟩)
  simp only [Act.put, List.setIfInBounds_toArray, List.set_cons_zero, List.set_cons_succ]
  refine wpG_store (none) rfl (by rfl) (fun W11 hg12 => ⟨_, run_store_mid 23 (.tmp 2) (.tmp 16) rfl (W9.heap.size) 0 #[.int .i64 2, .int .i64 3, .int .i64 1] rfl rfl (Row.room hg12 3 rfl) (by kernel_rfl) (by kernel_rfl), ?_⟩)
  simp only [Act.put]
  refine wpG_tk (some 3) (v := .bool true) rfl (.val (by rfl) (fun _ _ => rfl)) ?_
  simp only [Act.put, List.setIfInBounds_toArray, List.set_cons_zero, List.set_cons_succ]
  refine wpG_done (fun V13 hv14 => ?_)
  have R16 := Lib.hid ((R8.out.below hg10).past hg12 hv14)
  have R17 := Lib.hid (Row.made (zs := [.int .i64 0, .int .i64 0, .int .i64 0]) (ds := [.int .i64 2, .int .i64 3, .int .i64 1]) rfl hg12 hv14)
  have G15 := Lib.hid (Gr.to (Gr.to G7.out hg10) (Gr.past hg12 hv14))
  have HT := Lib.hid (HT.out.below (hg10.trans (Gr.past hg12 hv14)))
  clear hg12 hv14 
  go_upto_region 3 with fail
  refine wpG_region ?_
  refine wpG_tk (some 19) (v := .agg #[.int .i64 1, .int .i64 1, .int .i64 1, .int .i64 3, .int .i64 4, .int .i64 5]) rfl (.load_mid (by rfl) 31 (.tmp 1) rfl (W1.heap.size) 0 rfl [.int .i64 1, .int .i64 1, .int .i64 1, .int .i64 3, .int .i64 4, .int .i64 5] _ (fun W hg => (R16.out.below hg).range) Tryd.underlying31 rfl (by kernel_rfl)) ?_
  simp only [Act.put, List.setIfInBounds_toArray, List.set_cons_zero, List.set_cons_succ]
  refine wpG_tk (some 20) (v := .tuple #[.agg #[.int .i64 0, .int .i64 0, .int .i64 0], .bool false]) rfl (.call (f := 21) (args := #[.agg #[.int .i64 1, .int .i64 1, .int .i64 1, .int .i64 3, .int .i64 4, .int .i64 5], .int .i64 24]) (by rfl) (fun W => by go_simp) (fun W hg => at_big 1 1 1 3 4 5 24 W (by omega) (by decide) (by decide))) ?_
  simp only [Act.put, List.setIfInBounds_toArray, List.set_cons_zero, List.set_cons_succ]
  refine wpG_tk (some 18) (v := .tuple #[.agg #[.int .i64 0, .int .i64 0, .int .i64 0], .bool false]) rfl (.val (by rfl) (fun _ _ => rfl)) ?_
  simp only [Act.put, List.setIfInBounds_toArray, List.set_cons_zero, List.set_cons_succ]
  refine wpG_tk (some 21) (v := .agg #[.int .i64 0, .int .i64 0, .int .i64 0]) rfl (.val (by rfl) (fun W hg => by go_simp)) ?_
  simp only [Act.put, List.setIfInBounds_toArray, List.set_cons_zero, List.set_cons_succ]
  refine wpG_tk (some 22) (v := .bool false) rfl (.val (by rfl) (fun W hg => by go_simp)) ?_
  simp only [Act.put, List.setIfInBounds_toArray, List.set_cons_zero, List.set_cons_succ]
  refine wpG_val (some 4) rfl (by rfl) (fun W18 hg19 => ⟨.pointer (some ⟨W18.heap.size, 0, none⟩), W18.alloc (.cells #[.int .i64 0, .int .i64 0, .int .i64 0] 23), by (go_simp <;> rfl), ?_⟩)
  simp only [Act.put, List.setIfInBounds_toArray, List.set_cons_zero, List.set_cons_succ]
  refine wpG_store (none) rfl (by rfl) (fun W20 hg21 => ⟨_, run_store_mid 23 (.tmp 4) (.tmp 21) rfl (W18.heap.size) 0 #[.int .i64 0, .int .i64 0, .int .i64 0] rfl rfl (Row.room hg21 3 rfl) (by kernel_rfl) (by kernel_rfl), ?_⟩)
  simp only [Act.put]
  refine wpG_tk (some 5) (v := .bool false) rfl (.val (by rfl) (fun _ _ => rfl)) ?_
  simp only [Act.put, List.setIfInBounds_toArray, List.set_cons_zero, List.set_cons_succ]
  refine wpG_done (fun V22 hv23 => ?_)
  have R25 := Lib.hid ((R16.out.below hg19).past hg21 hv23)
  have R26 := Lib.hid ((R17.out.below hg19).past hg21 hv23)
  have R27 := Lib.hid (Row.made (zs := [.int .i64 0, .int .i64 0, .int .i64 0]) (ds := [.int .i64 0, .int .i64 0, .int .i64 0]) rfl hg21 hv23)
  have G24 := Lib.hid (Gr.to (Gr.to G15.out hg19) (Gr.past hg21 hv23))
  have HT := Lib.hid (HT.out.below (hg19.trans (Gr.past hg21 hv23)))
  clear hg21 hv23 
  go_upto_region 4 with fail
  refine wpG_region ?_
  refine wpG_tk (some 24) (v := .tuple #[.int .i64 9, .bool true]) rfl (.call (f := 45) (args := #[.string (⟨#[45, 120, 43, 122, 43, 121]⟩)]) (by rfl) (fun W => by go_simp) (fun W hg => (by have c := find_any ⟨#[45, 120, 43, 122, 43, 121]⟩ W (HT.out.below hg); rw [find9] at c; exact c))) ?_
  simp only [Act.put, List.setIfInBounds_toArray, List.set_cons_zero, List.set_cons_succ]
  refine wpG_tk (some 23) (v := .tuple #[.int .i64 9, .bool true]) rfl (.val (by rfl) (fun _ _ => rfl)) ?_
  simp only [Act.put, List.setIfInBounds_toArray, List.set_cons_zero, List.set_cons_succ]
  refine wpG_tk (some 25) (v := .int .i64 9) rfl (.val (by rfl) (fun W hg => by go_simp)) ?_
  simp only [Act.put, List.setIfInBounds_toArray, List.set_cons_zero, List.set_cons_succ]
  refine wpG_tk (some 26) (v := .bool true) rfl (.val (by rfl) (fun W hg => by go_simp)) ?_
  simp only [Act.put, List.setIfInBounds_toArray, List.set_cons_zero, List.set_cons_succ]
  refine wpG_tk (some 6) (v := .int .i64 9) rfl (.val (by rfl) (fun _ _ => rfl)) ?_
  simp only [Act.put, List.setIfInBounds_toArray, List.set_cons_zero, List.set_cons_succ]
  refine wpG_tk (some 7) (v := .bool true) rfl (.val (by rfl) (fun _ _ => rfl)) ?_
  simp only [Act.put, List.setIfInBounds_toArray, List.set_cons_zero, List.set_cons_succ]
  refine wpG_done (fun V28 hv29 => ?_)
  have GC30 := Lib.hid hv29
  clear hv29
  go_upto_region 5 with fail
  refine wpK_region (by kernel_rfl) ?_
  refine wpK_tk (i := 0) (some 27) (v := .agg #[.int .i64 1, .int .i64 2, .int .i64 3]) rfl rfl (by kernel_rfl) (fun _ _ _ h => h) (.call (f := 63) (args := #[.int .i64 1, .int .i64 2, .int .i64 3]) (by rfl) (fun W => by go_simp) (fun W hg => lawat_any 1 2 3 W)) ?_
  simp only [Act.put, List.setIfInBounds_toArray, List.set_cons_zero, List.set_cons_succ]
  refine wpK_tk (i := 1) (some 28) (v := .agg #[.int .i64 4, .int .i64 0, .int .i64 3]) rfl rfl (by kernel_rfl) (fun _ _ _ h => h) (.call (f := 63) (args := #[.int .i64 4, .int .i64 0, .int .i64 3]) (by rfl) (fun W => by go_simp) (fun W hg => lawat_any 4 0 3 W)) ?_
  simp only [Act.put, List.setIfInBounds_toArray, List.set_cons_zero, List.set_cons_succ]
  refine wpK_tk (i := 2) (some 29) (v := .int .i64 3) rfl rfl (by kernel_rfl) (fun _ _ _ h => h) (.call (f := 19) (args := #[.agg #[.int .i64 1, .int .i64 2, .int .i64 3], .agg #[.int .i64 4, .int .i64 0, .int .i64 3]]) (by rfl) (fun W => by go_simp) (fun W hg => (by have c := distance_any 1 2 3 4 0 3 W (by omega); exact c))) ?_
  simp only [Act.put, List.setIfInBounds_toArray, List.set_cons_zero, List.set_cons_succ]
  refine wpK_ta (i := 3) (some 30) (v := .bool true) rfl rfl (by kernel_rfl) (fun _ _ _ h => h) (Or.inl ⟨by rfl, fun W => by go_simp⟩) ?_
  simp only [Act.put, List.setIfInBounds_toArray, List.set_cons_zero, List.set_cons_succ]
  refine wpK_ta (i := 4) (some 31) (v := .bool true) rfl rfl (by kernel_rfl) (fun _ _ _ h => h) (Or.inl ⟨rfl, fun _ => rfl⟩) ?_
  simp only [Act.put, List.setIfInBounds_toArray, List.set_cons_zero, List.set_cons_succ]
  refine wpK_tk (i := 5) (some 32) (v := .agg #[.int .i64 9, .int .i64 0, .int .i64 0]) rfl rfl (by kernel_rfl) (fun _ _ _ h => h) (.call (f := 63) (args := #[.int .i64 9, .int .i64 0, .int .i64 0]) (by rfl) (fun W => by go_simp) (fun W hg => lawat_any 9 0 0 W)) ?_
  simp only [Act.put, List.setIfInBounds_toArray, List.set_cons_zero, List.set_cons_succ]
  refine wpK_tk (i := 6) (some 33) (v := .agg #[.int .i64 0, .int .i64 0, .int .i64 0, .int .i64 4, .int .i64 4, .int .i64 4]) rfl rfl (by kernel_rfl) (fun _ _ _ h => h) (.call (f := 31) (args := #[.int .i64 4]) (by rfl) (fun W => by go_simp) (fun W hg => cube_any 4 W)) ?_
  simp only [Act.put, List.setIfInBounds_toArray, List.set_cons_zero, List.set_cons_succ]
  refine wpK_tk (i := 7) (some 34) (v := .int .i64 5) rfl rfl (by kernel_rfl) (fun _ _ _ h => h) (.call (f := 41) (args := #[.agg #[.int .i64 9, .int .i64 0, .int .i64 0], .agg #[.int .i64 0, .int .i64 0, .int .i64 0, .int .i64 4, .int .i64 4, .int .i64 4]]) (by rfl) (fun W => by go_simp) (fun W hg => (by have c := (by have c := near_f 9 0 0 0 0 0 4 4 4 W (by omega) (by decide); rwa [near_dist (by decide)] at c); exact c))) ?_
  simp only [Act.put, List.setIfInBounds_toArray, List.set_cons_zero, List.set_cons_succ]
  refine wpK_ta (i := 8) (some 35) (v := .bool true) rfl rfl (by kernel_rfl) (fun _ _ _ h => h) (Or.inl ⟨by rfl, fun W => by go_simp⟩) ?_
  simp only [Act.put, List.setIfInBounds_toArray, List.set_cons_zero, List.set_cons_succ]
  refine wpK_ta (i := 9) (some 36) (v := .bool true) rfl rfl (by kernel_rfl) (fun _ _ _ h => h) (Or.inl ⟨by rfl, fun W => by go_simp⟩) ?_
  simp only [Act.put, List.setIfInBounds_toArray, List.set_cons_zero, List.set_cons_succ]
  refine wpK_ta (i := 10) (some 37) (v := .bool true) rfl rfl (by kernel_rfl) (fun _ _ _ h => h) (Or.inl ⟨rfl, fun _ => rfl⟩) ?_
  simp only [Act.put, List.setIfInBounds_toArray, List.set_cons_zero, List.set_cons_succ]
  refine wpK_tk (i := 11) (some 38) (v := .agg #[.int .i64 2, .int .i64 2, .int .i64 4]) rfl rfl (by kernel_rfl) (fun _ _ _ h => h) (.call (f := 63) (args := #[.int .i64 2, .int .i64 2, .int .i64 4]) (by rfl) (fun W => by go_simp) (fun W hg => lawat_any 2 2 4 W)) ?_
  simp only [Act.put, List.setIfInBounds_toArray, List.set_cons_zero, List.set_cons_succ]
  refine wpK_tk (i := 12) (some 39) (v := .agg #[.int .i64 0, .int .i64 0, .int .i64 0, .int .i64 4, .int .i64 4, .int .i64 4]) rfl rfl (by kernel_rfl) (fun _ _ _ h => h) (.call (f := 31) (args := #[.int .i64 4]) (by rfl) (fun W => by go_simp) (fun W hg => cube_any 4 W)) ?_
  simp only [Act.put, List.setIfInBounds_toArray, List.set_cons_zero, List.set_cons_succ]
  refine wpK_tk (i := 13) (some 40) (v := .int .i64 0) rfl rfl (by kernel_rfl) (fun _ _ _ h => h) (.call (f := 41) (args := #[.agg #[.int .i64 2, .int .i64 2, .int .i64 4], .agg #[.int .i64 0, .int .i64 0, .int .i64 0, .int .i64 4, .int .i64 4, .int .i64 4]]) (by rfl) (fun W => by go_simp) (fun W hg => (by have c := (by have c := near_f 2 2 4 0 0 0 4 4 4 W (by omega) (by decide); rwa [near_dist (by decide)] at c); exact c))) ?_
  simp only [Act.put, List.setIfInBounds_toArray, List.set_cons_zero, List.set_cons_succ]
  refine wpK_ta (i := 14) (some 41) (v := .bool true) rfl rfl (by kernel_rfl) (fun _ _ _ h => h) (Or.inl ⟨by rfl, fun W => by go_simp⟩) ?_
  simp only [Act.put, List.setIfInBounds_toArray, List.set_cons_zero, List.set_cons_succ]
  refine wpK_ta (i := 15) (some 42) (v := .bool true) rfl rfl (by kernel_rfl) (fun _ _ _ h => h) (Or.inl ⟨by rfl, fun W => by go_simp⟩) ?_
  simp only [Act.put, List.setIfInBounds_toArray, List.set_cons_zero, List.set_cons_succ]
  refine wpK_ta (i := 16) (some 43) (v := .bool true) rfl rfl (by kernel_rfl) (fun _ _ _ h => h) (Or.inl ⟨rfl, fun _ => rfl⟩) ?_
  simp only [Act.put, List.setIfInBounds_toArray, List.set_cons_zero, List.set_cons_succ]
  refine wpK_tk (i := 17) (some 44) (v := .agg #[.int .i64 0, .int .i64 0, .int .i64 0, .int .i64 4, .int .i64 4, .int .i64 4]) rfl rfl (by kernel_rfl) (fun _ _ _ h => h) (.call (f := 31) (args := #[.int .i64 4]) (by rfl) (fun W => by go_simp) (fun W hg => cube_any 4 W)) ?_
  simp only [Act.put, List.setIfInBounds_toArray, List.set_cons_zero, List.set_cons_succ]
  refine wpK_tk (i := 18) (some 45) (v := .agg #[.int .i64 2, .int .i64 (-1), .int .i64 3]) rfl rfl (by kernel_rfl) (fun _ _ _ h => h) (.call (f := 63) (args := #[.int .i64 2, .int .i64 (-1), .int .i64 3]) (by rfl) (fun W => by go_simp) (fun W hg => lawat_any 2 (-1) 3 W)) ?_
  simp only [Act.put, List.setIfInBounds_toArray, List.set_cons_zero, List.set_cons_succ]
  refine wpK_tk (i := 19) (some 46) (v := .agg #[.int .i64 9, .int .i64 1, .int .i64 9]) rfl rfl (by kernel_rfl) (fun _ _ _ h => h) (.call (f := 63) (args := #[.int .i64 9, .int .i64 1, .int .i64 9]) (by rfl) (fun W => by go_simp) (fun W hg => lawat_any 9 1 9 W)) ?_
  simp only [Act.put, List.setIfInBounds_toArray, List.set_cons_zero, List.set_cons_succ]
  refine wpK_tk (i := 20) (some 47) (v := .agg #[.int .i64 2, .int .i64 (-1), .int .i64 3, .int .i64 9, .int .i64 1, .int .i64 9]) rfl rfl (by kernel_rfl) (fun _ _ _ h => h) (.call (f := 64) (args := #[.agg #[.int .i64 2, .int .i64 (-1), .int .i64 3], .agg #[.int .i64 9, .int .i64 1, .int .i64 9]]) (by rfl) (fun W => by go_simp) (fun W hg => lawbox_any 2 (-1) 3 9 1 9 W)) ?_
  simp only [Act.put, List.setIfInBounds_toArray, List.set_cons_zero, List.set_cons_succ]
  refine wpK_tk (i := 21) (some 48) (v := .agg #[.int .i64 2, .int .i64 0, .int .i64 3, .int .i64 4, .int .i64 1, .int .i64 4]) rfl rfl (by kernel_rfl) (fun _ _ _ h => h) (.call (f := 35) (args := #[.agg #[.int .i64 0, .int .i64 0, .int .i64 0, .int .i64 4, .int .i64 4, .int .i64 4], .agg #[.int .i64 2, .int .i64 (-1), .int .i64 3, .int .i64 9, .int .i64 1, .int .i64 9]]) (by rfl) (fun W => by go_simp) (fun W hg => (by have c := inter_f 0 0 0 4 4 4 2 (-1) 3 9 1 9 W (by omega) (by decide); exact c))) ?_
  simp only [Act.put, List.setIfInBounds_toArray, List.set_cons_zero, List.set_cons_succ]
  refine wpK_tk (i := 22) (some 49) (v := .agg #[.int .i64 2, .int .i64 0, .int .i64 3]) rfl rfl (by kernel_rfl) (fun _ _ _ h => h) (.call (f := 63) (args := #[.int .i64 2, .int .i64 0, .int .i64 3]) (by rfl) (fun W => by go_simp) (fun W hg => lawat_any 2 0 3 W)) ?_
  simp only [Act.put, List.setIfInBounds_toArray, List.set_cons_zero, List.set_cons_succ]
  refine wpK_tk (i := 23) (some 50) (v := .agg #[.int .i64 4, .int .i64 1, .int .i64 4]) rfl rfl (by kernel_rfl) (fun _ _ _ h => h) (.call (f := 63) (args := #[.int .i64 4, .int .i64 1, .int .i64 4]) (by rfl) (fun W => by go_simp) (fun W hg => lawat_any 4 1 4 W)) ?_
  simp only [Act.put, List.setIfInBounds_toArray, List.set_cons_zero, List.set_cons_succ]
  refine wpK_tk (i := 24) (some 51) (v := .agg #[.int .i64 2, .int .i64 0, .int .i64 3, .int .i64 4, .int .i64 1, .int .i64 4]) rfl rfl (by kernel_rfl) (fun _ _ _ h => h) (.call (f := 64) (args := #[.agg #[.int .i64 2, .int .i64 0, .int .i64 3], .agg #[.int .i64 4, .int .i64 1, .int .i64 4]]) (by rfl) (fun W => by go_simp) (fun W hg => lawbox_any 2 0 3 4 1 4 W)) ?_
  simp only [Act.put, List.setIfInBounds_toArray, List.set_cons_zero, List.set_cons_succ]
  refine wpK_ta (i := 25) (some 52) (v := .bool true) rfl rfl (by kernel_rfl) (fun _ _ _ h => h) (Or.inl ⟨by rfl, fun W => by go_simp <;> omega⟩) ?_
  simp only [Act.put, List.setIfInBounds_toArray, List.set_cons_zero, List.set_cons_succ]
  refine wpK_ta (i := 26) (some 53) (v := .bool true) rfl rfl (by kernel_rfl) (fun _ _ _ h => h) (Or.inl ⟨by rfl, fun W => by go_simp⟩) ?_
  simp only [Act.put, List.setIfInBounds_toArray, List.set_cons_zero, List.set_cons_succ]
  refine wpK_ta (i := 27) (some 54) (v := .bool true) rfl rfl (by kernel_rfl) (fun _ _ _ h => h) (Or.inl ⟨rfl, fun _ => rfl⟩) ?_
  simp only [Act.put, List.setIfInBounds_toArray, List.set_cons_zero, List.set_cons_succ]
  refine wpK_tk (i := 28) (some 55) (v := .agg #[.int .i64 1, .int .i64 1, .int .i64 1, .int .i64 3, .int .i64 4, .int .i64 5]) rfl rfl (by kernel_rfl) (fun _ _ _ h => h) (.load_mid (by rfl) 31 (.tmp 1) rfl (W1.heap.size) 0 rfl [.int .i64 1, .int .i64 1, .int .i64 1, .int .i64 3, .int .i64 4, .int .i64 5] _ (fun W hg => (R25.out.below (GC30.out.trans (Gr.un hg))).range) Tryd.underlying31 rfl (by kernel_rfl)) ?_
  simp only [Act.put, List.setIfInBounds_toArray, List.set_cons_zero, List.set_cons_succ]
  refine wpK_tk (i := 29) (some 56) (v := .agg #[.int .i64 2, .int .i64 3, .int .i64 1]) rfl rfl (by kernel_rfl) (fun _ _ _ h => h) (.call (f := 63) (args := #[.int .i64 2, .int .i64 3, .int .i64 1]) (by rfl) (fun W => by go_simp) (fun W hg => lawat_any 2 3 1 W)) ?_
  simp only [Act.put, List.setIfInBounds_toArray, List.set_cons_zero, List.set_cons_succ]
  refine wpK_tk (i := 30) (some 57) (v := .int .i64 5) rfl rfl (by kernel_rfl) (fun _ _ _ h => h) (.call (f := 43) (args := #[.agg #[.int .i64 1, .int .i64 1, .int .i64 1, .int .i64 3, .int .i64 4, .int .i64 5], .agg #[.int .i64 2, .int .i64 3, .int .i64 1]]) (by rfl) (fun W => by go_simp) (fun W hg => (by have c := index_t 1 1 1 3 4 5 2 3 1 W (by omega) (by decide); exact c))) ?_
  simp only [Act.put, List.setIfInBounds_toArray, List.set_cons_zero, List.set_cons_succ]
  refine wpK_ta (i := 31) (some 58) (v := .bool true) rfl rfl (by kernel_rfl) (fun _ _ _ h => h) (Or.inl ⟨by rfl, fun W => by go_simp⟩) ?_
  simp only [Act.put, List.setIfInBounds_toArray, List.set_cons_zero, List.set_cons_succ]
  refine wpK_ta (i := 32) (some 59) (v := .bool true) rfl rfl (by kernel_rfl) (fun _ _ _ h => h) (Or.inl ⟨by rfl, fun W => by go_simp⟩) ?_
  simp only [Act.put, List.setIfInBounds_toArray, List.set_cons_zero, List.set_cons_succ]
  refine wpK_ta (i := 33) (some 60) (v := .bool true) rfl rfl (by kernel_rfl) (fun _ _ _ h => h) (Or.inl ⟨rfl, fun _ => rfl⟩) ?_
  simp only [Act.put, List.setIfInBounds_toArray, List.set_cons_zero, List.set_cons_succ]
  refine wpK_tk (i := 34) (some 61) (v := .agg #[.int .i64 2, .int .i64 3, .int .i64 1]) rfl rfl (by kernel_rfl) (fun _ _ _ h => h) (.load_mid (by rfl) 23 (.tmp 2) rfl (W9.heap.size) 0 rfl [.int .i64 2, .int .i64 3, .int .i64 1] _ (fun W hg => (R26.out.below (GC30.out.trans (Gr.un hg))).range) Tryd.underlying23 rfl (by kernel_rfl)) ?_
  simp only [Act.put, List.setIfInBounds_toArray, List.set_cons_zero, List.set_cons_succ]
  refine wpK_tk (i := 35) (some 62) (v := .agg #[.int .i64 2, .int .i64 3, .int .i64 1]) rfl rfl (by kernel_rfl) (fun _ _ _ h => h) (.call (f := 63) (args := #[.int .i64 2, .int .i64 3, .int .i64 1]) (by rfl) (fun W => by go_simp) (fun W hg => lawat_any 2 3 1 W)) ?_
  simp only [Act.put, List.setIfInBounds_toArray, List.set_cons_zero, List.set_cons_succ]
  refine wpK_ta (i := 36) (some 63) (v := .bool true) rfl rfl (by kernel_rfl) (fun _ _ _ h => h) (Or.inl ⟨by rfl, fun W => by go_simp <;> omega⟩) ?_
  simp only [Act.put, List.setIfInBounds_toArray, List.set_cons_zero, List.set_cons_succ]
  refine wpK_ta (i := 37) (some 64) (v := .bool true) rfl rfl (by kernel_rfl) (fun _ _ _ h => h) (Or.inl ⟨by rfl, fun W => by go_simp⟩) ?_
  simp only [Act.put, List.setIfInBounds_toArray, List.set_cons_zero, List.set_cons_succ]
  refine wpK_ta (i := 38) (some 65) (v := .bool true) rfl rfl (by kernel_rfl) (fun _ _ _ h => h) (Or.inl ⟨rfl, fun _ => rfl⟩) ?_
  simp only [Act.put, List.setIfInBounds_toArray, List.set_cons_zero, List.set_cons_succ]
  refine wpK_ta (i := 39) (some 66) (v := .bool true) rfl rfl (by kernel_rfl) (fun _ _ _ h => h) (Or.inl ⟨rfl, fun _ => rfl⟩) ?_
  simp only [Act.put, List.setIfInBounds_toArray, List.set_cons_zero, List.set_cons_succ]
  refine wpK_ta (i := 40) (some 67) (v := .bool true) rfl rfl (by kernel_rfl) (fun _ _ _ h => h) (Or.inl ⟨by rfl, fun W => by go_simp⟩) ?_
  simp only [Act.put, List.setIfInBounds_toArray, List.set_cons_zero, List.set_cons_succ]
  refine wpK_ta (i := 41) (some 68) (v := .bool true) rfl rfl (by kernel_rfl) (fun _ _ _ h => h) (Or.inl ⟨rfl, fun _ => rfl⟩) ?_
  simp only [Act.put, List.setIfInBounds_toArray, List.set_cons_zero, List.set_cons_succ]
  refine wpK_ta (i := 42) (some 69) (v := .bool false) rfl rfl (by kernel_rfl) (fun _ _ _ h => h) (Or.inl ⟨rfl, fun _ => rfl⟩) ?_
  simp only [Act.put, List.setIfInBounds_toArray, List.set_cons_zero, List.set_cons_succ]
  refine wpK_ta (i := 43) (some 70) (v := .bool true) rfl rfl (by kernel_rfl) (fun _ _ _ h => h) (Or.inl ⟨by rfl, fun W => by go_simp⟩) ?_
  simp only [Act.put, List.setIfInBounds_toArray, List.set_cons_zero, List.set_cons_succ]
  refine wpK_ta (i := 44) (some 71) (v := .bool true) rfl rfl (by kernel_rfl) (fun _ _ _ h => h) (Or.inl ⟨by rfl, fun W => by go_simp⟩) ?_
  simp only [Act.put, List.setIfInBounds_toArray, List.set_cons_zero, List.set_cons_succ]
  refine wpK_ta (i := 45) (some 72) (v := .bool true) rfl rfl (by kernel_rfl) (fun _ _ _ h => h) (Or.inl ⟨rfl, fun _ => rfl⟩) ?_
  simp only [Act.put, List.setIfInBounds_toArray, List.set_cons_zero, List.set_cons_succ]
  refine wpK_tk (i := 46) (some 73) (v := .agg #[.int .i64 1, .int .i64 1, .int .i64 1, .int .i64 3, .int .i64 4, .int .i64 5]) rfl rfl (by kernel_rfl) (fun _ _ _ h => h) (.load_mid (by rfl) 31 (.tmp 1) rfl (W1.heap.size) 0 rfl [.int .i64 1, .int .i64 1, .int .i64 1, .int .i64 3, .int .i64 4, .int .i64 5] _ (fun W hg => (R25.out.below (GC30.out.trans (Gr.un hg))).range) Tryd.underlying31 rfl (by kernel_rfl)) ?_
  simp only [Act.put, List.setIfInBounds_toArray, List.set_cons_zero, List.set_cons_succ]
  refine wpK_tk (i := 47) (some 74) (v := .int .i64 24) rfl rfl (by kernel_rfl) (fun _ _ _ h => h) (.call (f := 29) (args := #[.agg #[.int .i64 1, .int .i64 1, .int .i64 1, .int .i64 3, .int .i64 4, .int .i64 5]]) (by rfl) (fun W => by go_simp) (fun W hg => (by have c := volume_any 1 1 1 3 4 5 W (by omega); exact c))) ?_
  simp only [Act.put, List.setIfInBounds_toArray, List.set_cons_zero, List.set_cons_succ]
  refine wpK_ta (i := 48) (some 75) (v := .bool true) rfl rfl (by kernel_rfl) (fun _ _ _ h => h) (Or.inl ⟨by rfl, fun W => by go_simp⟩) ?_
  simp only [Act.put, List.setIfInBounds_toArray, List.set_cons_zero, List.set_cons_succ]
  refine wpK_ta (i := 49) (some 76) (v := .bool true) rfl rfl (by kernel_rfl) (fun _ _ _ h => h) (Or.inl ⟨by rfl, fun W => by go_simp⟩) ?_
  simp only [Act.put, List.setIfInBounds_toArray, List.set_cons_zero, List.set_cons_succ]
  refine wpK_ta (i := 50) (some 8) (v := .bool true) rfl rfl (by kernel_rfl) (fun _ _ _ h => h) (Or.inl ⟨rfl, fun _ => rfl⟩) ?_
  simp only [Act.put, List.setIfInBounds_toArray, List.set_cons_zero, List.set_cons_succ]
  refine wpK_done (by kernel_rfl) (fun V31 hv32 => ?_) _
  have GC33 := Lib.hid (GC30.out.trans (Gr.un hv32))
  clear hv32
  go_upto_region 6 with fail
  refine wpG_region ?_
  refine wpG_tk (some 77) (v := .agg #[.int .i64 1, .int .i64 2, .int .i64 3]) rfl (.call (f := 63) (args := #[.int .i64 1, .int .i64 2, .int .i64 3]) (by rfl) (fun W => by go_simp) (fun W hg => lawat_any 1 2 3 W)) ?_
  simp only [Act.put, List.setIfInBounds_toArray, List.set_cons_zero, List.set_cons_succ]
  refine wpG_tk (some 78) (v := .agg #[.int .i64 (-1), .int .i64 3, .int .i64 2]) rfl (.call (f := 47) (args := #[.int .i64 9, .agg #[.int .i64 1, .int .i64 2, .int .i64 3]]) (by rfl) (fun W => by go_simp) (fun W hg => (by have c := turn_any 9 1 2 3 W (HT.out.below (GC33.out.trans hg)) (by decide) (by omega); exact c))) ?_
  simp only [Act.put, List.setIfInBounds_toArray, List.set_cons_zero, List.set_cons_succ]
  refine wpG_tk (some 79) (v := .agg #[.int .i64 (-1), .int .i64 3, .int .i64 2]) rfl (.call (f := 63) (args := #[.int .i64 (-1), .int .i64 3, .int .i64 2]) (by rfl) (fun W => by go_simp) (fun W hg => lawat_any (-1) 3 2 W)) ?_
  simp only [Act.put, List.setIfInBounds_toArray, List.set_cons_zero, List.set_cons_succ]
  refine wpG_tk (some 80) (v := .bool true) rfl (.val (by rfl) (fun W hg => by go_simp <;> omega)) ?_
  simp only [Act.put, List.setIfInBounds_toArray, List.set_cons_zero, List.set_cons_succ]
  refine wpG_tk (some 81) (v := .bool true) rfl (.val (by rfl) (fun _ _ => rfl)) ?_
  simp only [Act.put, List.setIfInBounds_toArray, List.set_cons_zero, List.set_cons_succ]
  refine wpG_tk (some 82) (v := .string (⟨#[45, 120, 43, 122, 43, 121]⟩)) rfl (.call (f := 59) (args := #[.int .i64 9]) (by rfl) (fun W => by go_simp) (fun W hg => (by have c := name_any 9 W (HT.out.below (GC33.out.trans hg)) (by decide); rw [show Pt.name 9 = [45, 120, 43, 122, 43, 121] by decide +kernel] at c; exact c))) ?_
  simp only [Act.put, List.setIfInBounds_toArray, List.set_cons_zero, List.set_cons_succ]
  refine wpG_tk (some 83) (v := .bool true) rfl (.val (by rfl) (fun W hg => by go_simp)) ?_
  simp only [Act.put, List.setIfInBounds_toArray, List.set_cons_zero, List.set_cons_succ]
  refine wpG_tk (some 84) (v := .bool true) rfl (.val (by rfl) (fun W hg => by go_simp)) ?_
  simp only [Act.put, List.setIfInBounds_toArray, List.set_cons_zero, List.set_cons_succ]
  refine wpG_tk (some 85) (v := .bool true) rfl (.val (by rfl) (fun _ _ => rfl)) ?_
  simp only [Act.put, List.setIfInBounds_toArray, List.set_cons_zero, List.set_cons_succ]
  refine wpG_tk (some 86) (v := .int .i64 9) rfl (.val (by rfl) (fun _ _ => rfl)) ?_
  simp only [Act.put, List.setIfInBounds_toArray, List.set_cons_zero, List.set_cons_succ]
  refine wpG_tk (some 87) (v := .bool true) rfl (.val (by rfl) (fun W hg => by go_simp)) ?_
  simp only [Act.put, List.setIfInBounds_toArray, List.set_cons_zero, List.set_cons_succ]
  refine wpG_tk (some 88) (v := .bool true) rfl (.val (by rfl) (fun W hg => by go_simp)) ?_
  simp only [Act.put, List.setIfInBounds_toArray, List.set_cons_zero, List.set_cons_succ]
  refine wpG_tk (some 89) (v := .bool true) rfl (.val (by rfl) (fun _ _ => rfl)) ?_
  simp only [Act.put, List.setIfInBounds_toArray, List.set_cons_zero, List.set_cons_succ]
  refine wpG_tk (some 90) (v := .bool true) rfl (.val (by rfl) (fun _ _ => rfl)) ?_
  simp only [Act.put, List.setIfInBounds_toArray, List.set_cons_zero, List.set_cons_succ]
  refine wpG_tk (some 91) (v := .bool true) rfl (.val (by rfl) (fun W hg => by go_simp)) ?_
  simp only [Act.put, List.setIfInBounds_toArray, List.set_cons_zero, List.set_cons_succ]
  refine wpG_tk (some 92) (v := .bool true) rfl (.val (by rfl) (fun _ _ => rfl)) ?_
  simp only [Act.put, List.setIfInBounds_toArray, List.set_cons_zero, List.set_cons_succ]
  refine wpG_tk (some 93) (v := .agg #[.int .i64 1, .int .i64 2, .int .i64 3]) rfl (.call (f := 63) (args := #[.int .i64 1, .int .i64 2, .int .i64 3]) (by rfl) (fun W => by go_simp) (fun W hg => lawat_any 1 2 3 W)) ?_
  simp only [Act.put, List.setIfInBounds_toArray, List.set_cons_zero, List.set_cons_succ]
  refine wpG_tk (some 94) (v := .agg #[.int .i64 (-2), .int .i64 3, .int .i64 2]) rfl (.call (f := 49) (args := #[.int .i64 9, .agg #[.int .i64 1, .int .i64 2, .int .i64 3]]) (by rfl) (fun W => by go_simp) (fun W hg => (by have c := turncell_any 9 1 2 3 W (HT.out.below (GC33.out.trans hg)) (by decide) (by omega); exact c))) ?_
  simp only [Act.put, List.setIfInBounds_toArray, List.set_cons_zero, List.set_cons_succ]
  refine wpG_tk (some 95) (v := .agg #[.int .i64 (-2), .int .i64 3, .int .i64 2]) rfl (.call (f := 63) (args := #[.int .i64 (-2), .int .i64 3, .int .i64 2]) (by rfl) (fun W => by go_simp) (fun W hg => lawat_any (-2) 3 2 W)) ?_
  simp only [Act.put, List.setIfInBounds_toArray, List.set_cons_zero, List.set_cons_succ]
  refine wpG_tk (some 96) (v := .bool true) rfl (.val (by rfl) (fun W hg => by go_simp <;> omega)) ?_
  simp only [Act.put, List.setIfInBounds_toArray, List.set_cons_zero, List.set_cons_succ]
  refine wpG_tk (some 97) (v := .bool true) rfl (.val (by rfl) (fun W hg => by go_simp)) ?_
  simp only [Act.put, List.setIfInBounds_toArray, List.set_cons_zero, List.set_cons_succ]
  refine wpG_tk (some 98) (v := .bool true) rfl (.val (by rfl) (fun _ _ => rfl)) ?_
  simp only [Act.put, List.setIfInBounds_toArray, List.set_cons_zero, List.set_cons_succ]
  refine wpG_tk (some 99) (v := .agg #[.int .i64 0, .int .i64 0, .int .i64 0]) rfl (.call (f := 63) (args := #[.int .i64 0, .int .i64 0, .int .i64 0]) (by rfl) (fun W => by go_simp) (fun W hg => lawat_any 0 0 0 W)) ?_
  simp only [Act.put, List.setIfInBounds_toArray, List.set_cons_zero, List.set_cons_succ]
  refine wpG_tk (some 100) (v := .agg #[.int .i64 2, .int .i64 1, .int .i64 3]) rfl (.call (f := 63) (args := #[.int .i64 2, .int .i64 1, .int .i64 3]) (by rfl) (fun W => by go_simp) (fun W hg => lawat_any 2 1 3 W)) ?_
  simp only [Act.put, List.setIfInBounds_toArray, List.set_cons_zero, List.set_cons_succ]
  refine wpG_tk (some 101) (v := .agg #[.int .i64 0, .int .i64 0, .int .i64 0, .int .i64 2, .int .i64 1, .int .i64 3]) rfl (.call (f := 64) (args := #[.agg #[.int .i64 0, .int .i64 0, .int .i64 0], .agg #[.int .i64 2, .int .i64 1, .int .i64 3]]) (by rfl) (fun W => by go_simp) (fun W hg => lawbox_any 0 0 0 2 1 3 W)) ?_
  simp only [Act.put, List.setIfInBounds_toArray, List.set_cons_zero, List.set_cons_succ]
  refine wpG_tk (some 102) (v := .agg #[.int .i64 (-2), .int .i64 0, .int .i64 0, .int .i64 0, .int .i64 3, .int .i64 1]) rfl (.call (f := 51) (args := #[.int .i64 9, .agg #[.int .i64 0, .int .i64 0, .int .i64 0, .int .i64 2, .int .i64 1, .int .i64 3]]) (by rfl) (fun W => by go_simp) (fun W hg => (by have c := turnbox_f 9 0 0 0 2 1 3 W (HT.out.below (GC33.out.trans hg)) (by decide) (by omega) (by decide); exact c))) ?_
  simp only [Act.put, List.setIfInBounds_toArray, List.set_cons_zero, List.set_cons_succ]
  refine wpG_tk (some 103) (v := .agg #[.int .i64 (-2), .int .i64 0, .int .i64 0]) rfl (.call (f := 63) (args := #[.int .i64 (-2), .int .i64 0, .int .i64 0]) (by rfl) (fun W => by go_simp) (fun W hg => lawat_any (-2) 0 0 W)) ?_
  simp only [Act.put, List.setIfInBounds_toArray, List.set_cons_zero, List.set_cons_succ]
  refine wpG_tk (some 104) (v := .agg #[.int .i64 0, .int .i64 3, .int .i64 1]) rfl (.call (f := 63) (args := #[.int .i64 0, .int .i64 3, .int .i64 1]) (by rfl) (fun W => by go_simp) (fun W hg => lawat_any 0 3 1 W)) ?_
  simp only [Act.put, List.setIfInBounds_toArray, List.set_cons_zero, List.set_cons_succ]
  refine wpG_tk (some 105) (v := .agg #[.int .i64 (-2), .int .i64 0, .int .i64 0, .int .i64 0, .int .i64 3, .int .i64 1]) rfl (.call (f := 64) (args := #[.agg #[.int .i64 (-2), .int .i64 0, .int .i64 0], .agg #[.int .i64 0, .int .i64 3, .int .i64 1]]) (by rfl) (fun W => by go_simp) (fun W hg => lawbox_any (-2) 0 0 0 3 1 W)) ?_
  simp only [Act.put, List.setIfInBounds_toArray, List.set_cons_zero, List.set_cons_succ]
  refine wpG_tk (some 106) (v := .bool true) rfl (.val (by rfl) (fun W hg => by go_simp <;> omega)) ?_
  simp only [Act.put, List.setIfInBounds_toArray, List.set_cons_zero, List.set_cons_succ]
  refine wpG_tk (some 107) (v := .bool true) rfl (.val (by rfl) (fun W hg => by go_simp)) ?_
  simp only [Act.put, List.setIfInBounds_toArray, List.set_cons_zero, List.set_cons_succ]
  refine wpG_tk (some 108) (v := .bool true) rfl (.val (by rfl) (fun _ _ => rfl)) ?_
  simp only [Act.put, List.setIfInBounds_toArray, List.set_cons_zero, List.set_cons_succ]
  refine wpG_tk (some 109) (v := .int .i64 0) rfl (.call (f := 53) (args := #[.int .i64 9, .int .i64 9]) (by rfl) (fun W => by go_simp) (fun W hg => (by have c := compose_any 9 9 W (HT.out.below (GC33.out.trans hg)) (by decide) (by decide); rw [show Pt.comp 9 9 = 0 by decide +kernel] at c; exact c))) ?_
  simp only [Act.put, List.setIfInBounds_toArray, List.set_cons_zero, List.set_cons_succ]
  refine wpG_tk (some 110) (v := .bool true) rfl (.val (by rfl) (fun W hg => by go_simp)) ?_
  simp only [Act.put, List.setIfInBounds_toArray, List.set_cons_zero, List.set_cons_succ]
  refine wpG_tk (some 111) (v := .bool true) rfl (.val (by rfl) (fun W hg => by go_simp)) ?_
  simp only [Act.put, List.setIfInBounds_toArray, List.set_cons_zero, List.set_cons_succ]
  refine wpG_tk (some 112) (v := .bool true) rfl (.val (by rfl) (fun _ _ => rfl)) ?_
  simp only [Act.put, List.setIfInBounds_toArray, List.set_cons_zero, List.set_cons_succ]
  refine wpG_tk (some 113) (v := .int .i64 38) rfl (.call (f := 55) (args := #[.int .i64 27]) (by rfl) (fun W => by go_simp) (fun W hg => (by have c := invert_any 27 W (HT.out.below (GC33.out.trans hg)) (by decide); rw [show Pt.inv 27 = 38 by decide +kernel] at c; exact c))) ?_
  simp only [Act.put, List.setIfInBounds_toArray, List.set_cons_zero, List.set_cons_succ]
  refine wpG_tk (some 114) (v := .bool true) rfl (.val (by rfl) (fun W hg => by go_simp)) ?_
  simp only [Act.put, List.setIfInBounds_toArray, List.set_cons_zero, List.set_cons_succ]
  refine wpG_tk (some 115) (v := .bool true) rfl (.val (by rfl) (fun W hg => by go_simp)) ?_
  simp only [Act.put, List.setIfInBounds_toArray, List.set_cons_zero, List.set_cons_succ]
  refine wpG_tk (some 116) (v := .bool true) rfl (.val (by rfl) (fun _ _ => rfl)) ?_
  simp only [Act.put, List.setIfInBounds_toArray, List.set_cons_zero, List.set_cons_succ]
  refine wpG_tk (some 117) (v := .bool true) rfl (.call (f := 57) (args := #[.int .i64 1]) (by rfl) (fun W => by go_simp) (fun W hg => (by have c := mirror_any 1 W (HT.out.below (GC33.out.trans hg)) (by decide); rw [show Pt.mirror 1 = true by decide +kernel] at c; exact c))) ?_
  simp only [Act.put, List.setIfInBounds_toArray, List.set_cons_zero, List.set_cons_succ]
  refine wpG_tk (some 118) (v := .bool true) rfl (.val (by rfl) (fun W hg => by go_simp)) ?_
  simp only [Act.put, List.setIfInBounds_toArray, List.set_cons_zero, List.set_cons_succ]
  refine wpG_tk (some 119) (v := .bool true) rfl (.val (by rfl) (fun _ _ => rfl)) ?_
  simp only [Act.put, List.setIfInBounds_toArray, List.set_cons_zero, List.set_cons_succ]
  refine wpG_tk (some 120) (v := .bool false) rfl (.call (f := 57) (args := #[.int .i64 9]) (by rfl) (fun W => by go_simp) (fun W hg => (by have c := mirror_any 9 W (HT.out.below (GC33.out.trans hg)) (by decide); rw [show Pt.mirror 9 = false by decide +kernel] at c; exact c))) ?_
  simp only [Act.put, List.setIfInBounds_toArray, List.set_cons_zero, List.set_cons_succ]
  refine wpG_tk (some 121) (v := .bool true) rfl (.val (by rfl) (fun W hg => by go_simp)) ?_
  simp only [Act.put, List.setIfInBounds_toArray, List.set_cons_zero, List.set_cons_succ]
  refine wpG_tk (some 122) (v := .bool true) rfl (.val (by rfl) (fun W hg => by go_simp)) ?_
  simp only [Act.put, List.setIfInBounds_toArray, List.set_cons_zero, List.set_cons_succ]
  refine wpG_tk (some 123) (v := .bool true) rfl (.val (by rfl) (fun _ _ => rfl)) ?_
  simp only [Act.put, List.setIfInBounds_toArray, List.set_cons_zero, List.set_cons_succ]
  refine wpG_tk (some 124) (v := .int .i64 (-1)) rfl (.call (f := 53) (args := #[.int .i64 48, .int .i64 0]) (by rfl) (fun W => by go_simp) (fun W hg => compose_l 48 0 W (by decide))) ?_
  simp only [Act.put, List.setIfInBounds_toArray, List.set_cons_zero, List.set_cons_succ]
  refine wpG_tk (some 125) (v := .bool true) rfl (.val (by rfl) (fun W hg => by go_simp)) ?_
  simp only [Act.put, List.setIfInBounds_toArray, List.set_cons_zero, List.set_cons_succ]
  refine wpG_tk (some 126) (v := .bool true) rfl (.val (by rfl) (fun W hg => by go_simp)) ?_
  simp only [Act.put, List.setIfInBounds_toArray, List.set_cons_zero, List.set_cons_succ]
  refine wpG_tk (some 9) (v := .bool true) rfl (.val (by rfl) (fun _ _ => rfl)) ?_
  simp only [Act.put, List.setIfInBounds_toArray, List.set_cons_zero, List.set_cons_succ]
  refine wpG_done (fun V34 hv35 => ?_)
  have GC36 := Lib.hid (GC33.out.trans hv35)
  clear hv35
  go_upto_region 7 with fail
  refine wpK_region (by kernel_rfl) ?_
  refine wpK_ta (i := 0) (some 127) (v := .bool true) rfl rfl (by kernel_rfl) (fun _ _ _ h => h) (Or.inl ⟨rfl, fun _ => rfl⟩) ?_
  simp only [Act.put, List.setIfInBounds_toArray, List.set_cons_zero, List.set_cons_succ]
  refine wpK_ta (i := 1) (some 128) (v := .bool true) rfl rfl (by kernel_rfl) (fun _ _ _ h => h) (Or.inl ⟨rfl, fun _ => rfl⟩) ?_
  simp only [Act.put, List.setIfInBounds_toArray, List.set_cons_zero, List.set_cons_succ]
  refine wpK_ta (i := 2) (some 129) (v := .bool true) rfl rfl (by kernel_rfl) (fun _ _ _ h => h) (Or.inl ⟨rfl, fun _ => rfl⟩) ?_
  simp only [Act.put, List.setIfInBounds_toArray, List.set_cons_zero, List.set_cons_succ]
  refine wpK_ta (i := 3) (some 130) (v := .bool true) rfl rfl (by kernel_rfl) (fun _ _ _ h => h) (Or.inl ⟨by rfl, fun W => by go_simp⟩) ?_
  simp only [Act.put, List.setIfInBounds_toArray, List.set_cons_zero, List.set_cons_succ]
  refine wpK_ta (i := 4) (some 131) (v := .bool true) rfl rfl (by kernel_rfl) (fun _ _ _ h => h) (Or.inl ⟨rfl, fun _ => rfl⟩) ?_
  simp only [Act.put, List.setIfInBounds_toArray, List.set_cons_zero, List.set_cons_succ]
  refine wpK_tk (i := 5) (some 132) (v := .agg #[.int .i64 0, .int .i64 0, .int .i64 0, .int .i64 4, .int .i64 4, .int .i64 4]) rfl rfl (by kernel_rfl) (fun _ _ _ h => h) (.call (f := 31) (args := #[.int .i64 4]) (by rfl) (fun W => by go_simp) (fun W hg => cube_any 4 W)) ?_
  simp only [Act.put, List.setIfInBounds_toArray, List.set_cons_zero, List.set_cons_succ]
  refine wpK_tk (i := 6) (some 133) (v := .agg #[.int .i64 1, .int .i64 1, .int .i64 1, .int .i64 3, .int .i64 4, .int .i64 5]) rfl rfl (by kernel_rfl) (fun _ _ _ h => h) (.load_mid (by rfl) 31 (.tmp 1) rfl (W1.heap.size) 0 rfl [.int .i64 1, .int .i64 1, .int .i64 1, .int .i64 3, .int .i64 4, .int .i64 5] _ (fun W hg => (R25.out.below (GC36.out.trans (Gr.un hg))).range) Tryd.underlying31 rfl (by kernel_rfl)) ?_
  simp only [Act.put, List.setIfInBounds_toArray, List.set_cons_zero, List.set_cons_succ]
  refine wpK_tk (i := 7) (some 134) (v := .bool false) rfl rfl (by kernel_rfl) (fun _ _ _ h => h) (.call (f := 39) (args := #[.agg #[.int .i64 0, .int .i64 0, .int .i64 0, .int .i64 4, .int .i64 4, .int .i64 4], .agg #[.int .i64 1, .int .i64 1, .int .i64 1, .int .i64 3, .int .i64 4, .int .i64 5]]) (by rfl) (fun W => by go_simp) (fun W hg => contains_n 0 0 0 4 4 4 1 1 1 3 4 5 W (by omega) (by decide) (by decide) (by decide))) ?_
  simp only [Act.put, List.setIfInBounds_toArray, List.set_cons_zero, List.set_cons_succ]
  refine wpK_ta (i := 8) (some 135) (v := .bool true) rfl rfl (by kernel_rfl) (fun _ _ _ h => h) (Or.inl ⟨by rfl, fun W => by go_simp⟩) ?_
  simp only [Act.put, List.setIfInBounds_toArray, List.set_cons_zero, List.set_cons_succ]
  refine wpK_ta (i := 9) (some 136) (v := .bool true) rfl rfl (by kernel_rfl) (fun _ _ _ h => h) (Or.inl ⟨by rfl, fun W => by go_simp⟩) ?_
  simp only [Act.put, List.setIfInBounds_toArray, List.set_cons_zero, List.set_cons_succ]
  refine wpK_ta (i := 10) (some 137) (v := .bool true) rfl rfl (by kernel_rfl) (fun _ _ _ h => h) (Or.inl ⟨rfl, fun _ => rfl⟩) ?_
  simp only [Act.put, List.setIfInBounds_toArray, List.set_cons_zero, List.set_cons_succ]
  refine wpK_tk (i := 11) (some 138) (v := .agg #[.int .i64 1, .int .i64 1, .int .i64 1, .int .i64 3, .int .i64 4, .int .i64 5]) rfl rfl (by kernel_rfl) (fun _ _ _ h => h) (.load_mid (by rfl) 31 (.tmp 1) rfl (W1.heap.size) 0 rfl [.int .i64 1, .int .i64 1, .int .i64 1, .int .i64 3, .int .i64 4, .int .i64 5] _ (fun W hg => (R25.out.below (GC36.out.trans (Gr.un hg))).range) Tryd.underlying31 rfl (by kernel_rfl)) ?_
  simp only [Act.put, List.setIfInBounds_toArray, List.set_cons_zero, List.set_cons_succ]
  refine wpK_tk (i := 12) (some 139) (v := .agg #[.int .i64 0, .int .i64 0, .int .i64 0, .int .i64 2, .int .i64 2, .int .i64 2]) rfl rfl (by kernel_rfl) (fun _ _ _ h => h) (.call (f := 31) (args := #[.int .i64 2]) (by rfl) (fun W => by go_simp) (fun W hg => cube_any 2 W)) ?_
  simp only [Act.put, List.setIfInBounds_toArray, List.set_cons_zero, List.set_cons_succ]
  refine wpK_tk (i := 13) (some 140) (v := .agg #[.int .i64 0, .int .i64 0, .int .i64 0, .int .i64 3, .int .i64 4, .int .i64 5]) rfl rfl (by kernel_rfl) (fun _ _ _ h => h) (.call (f := 37) (args := #[.agg #[.int .i64 1, .int .i64 1, .int .i64 1, .int .i64 3, .int .i64 4, .int .i64 5], .agg #[.int .i64 0, .int .i64 0, .int .i64 0, .int .i64 2, .int .i64 2, .int .i64 2]]) (by rfl) (fun W => by go_simp) (fun W hg => (by have c := hull_ff 1 1 1 3 4 5 0 0 0 2 2 2 W (by omega) (by decide) (by decide); exact c))) ?_
  simp only [Act.put, List.setIfInBounds_toArray, List.set_cons_zero, List.set_cons_succ]
  refine wpK_tk (i := 14) (some 141) (v := .agg #[.int .i64 0, .int .i64 0, .int .i64 0]) rfl rfl (by kernel_rfl) (fun _ _ _ h => h) (.call (f := 63) (args := #[.int .i64 0, .int .i64 0, .int .i64 0]) (by rfl) (fun W => by go_simp) (fun W hg => lawat_any 0 0 0 W)) ?_
  simp only [Act.put, List.setIfInBounds_toArray, List.set_cons_zero, List.set_cons_succ]
  refine wpK_tk (i := 15) (some 142) (v := .agg #[.int .i64 3, .int .i64 4, .int .i64 5]) rfl rfl (by kernel_rfl) (fun _ _ _ h => h) (.call (f := 63) (args := #[.int .i64 3, .int .i64 4, .int .i64 5]) (by rfl) (fun W => by go_simp) (fun W hg => lawat_any 3 4 5 W)) ?_
  simp only [Act.put, List.setIfInBounds_toArray, List.set_cons_zero, List.set_cons_succ]
  refine wpK_tk (i := 16) (some 143) (v := .agg #[.int .i64 0, .int .i64 0, .int .i64 0, .int .i64 3, .int .i64 4, .int .i64 5]) rfl rfl (by kernel_rfl) (fun _ _ _ h => h) (.call (f := 64) (args := #[.agg #[.int .i64 0, .int .i64 0, .int .i64 0], .agg #[.int .i64 3, .int .i64 4, .int .i64 5]]) (by rfl) (fun W => by go_simp) (fun W hg => lawbox_any 0 0 0 3 4 5 W)) ?_
  simp only [Act.put, List.setIfInBounds_toArray, List.set_cons_zero, List.set_cons_succ]
  refine wpK_ta (i := 17) (some 144) (v := .bool true) rfl rfl (by kernel_rfl) (fun _ _ _ h => h) (Or.inl ⟨by rfl, fun W => by go_simp <;> omega⟩) ?_
  simp only [Act.put, List.setIfInBounds_toArray, List.set_cons_zero, List.set_cons_succ]
  refine wpK_ta (i := 18) (some 145) (v := .bool true) rfl rfl (by kernel_rfl) (fun _ _ _ h => h) (Or.inl ⟨by rfl, fun W => by go_simp⟩) ?_
  simp only [Act.put, List.setIfInBounds_toArray, List.set_cons_zero, List.set_cons_succ]
  refine wpK_ta (i := 19) (some 146) (v := .bool true) rfl rfl (by kernel_rfl) (fun _ _ _ h => h) (Or.inl ⟨rfl, fun _ => rfl⟩) ?_
  simp only [Act.put, List.setIfInBounds_toArray, List.set_cons_zero, List.set_cons_succ]
  refine wpK_tk (i := 20) (some 147) (v := .agg #[.int .i64 1, .int .i64 0, .int .i64 0]) rfl rfl (by kernel_rfl) (fun _ _ _ h => h) (.call (f := 63) (args := #[.int .i64 1, .int .i64 0, .int .i64 0]) (by rfl) (fun W => by go_simp) (fun W hg => lawat_any 1 0 0 W)) ?_
  simp only [Act.put, List.setIfInBounds_toArray, List.set_cons_zero, List.set_cons_succ]
  refine wpK_tk (i := 21) (some 148) (v := .agg #[.int .i64 1, .int .i64 5, .int .i64 5]) rfl rfl (by kernel_rfl) (fun _ _ _ h => h) (.call (f := 63) (args := #[.int .i64 1, .int .i64 5, .int .i64 5]) (by rfl) (fun W => by go_simp) (fun W hg => lawat_any 1 5 5 W)) ?_
  simp only [Act.put, List.setIfInBounds_toArray, List.set_cons_zero, List.set_cons_succ]
  refine wpK_tk (i := 22) (some 149) (v := .agg #[.int .i64 1, .int .i64 0, .int .i64 0, .int .i64 1, .int .i64 5, .int .i64 5]) rfl rfl (by kernel_rfl) (fun _ _ _ h => h) (.call (f := 64) (args := #[.agg #[.int .i64 1, .int .i64 0, .int .i64 0], .agg #[.int .i64 1, .int .i64 5, .int .i64 5]]) (by rfl) (fun W => by go_simp) (fun W hg => lawbox_any 1 0 0 1 5 5 W)) ?_
  simp only [Act.put, List.setIfInBounds_toArray, List.set_cons_zero, List.set_cons_succ]
  refine wpK_tk (i := 23) (some 150) (v := .bool true) rfl rfl (by kernel_rfl) (fun _ _ _ h => h) (.call (f := 23) (args := #[.agg #[.int .i64 1, .int .i64 0, .int .i64 0, .int .i64 1, .int .i64 5, .int .i64 5]]) (by rfl) (fun W => by go_simp) (fun W hg => empty_any 1 0 0 1 5 5 true W (by decide))) ?_
  simp only [Act.put, List.setIfInBounds_toArray, List.set_cons_zero, List.set_cons_succ]
  refine wpK_ta (i := 24) (some 151) (v := .bool true) rfl rfl (by kernel_rfl) (fun _ _ _ h => h) (Or.inl ⟨by rfl, fun W => by go_simp⟩) ?_
  simp only [Act.put, List.setIfInBounds_toArray, List.set_cons_zero, List.set_cons_succ]
  refine wpK_ta (i := 25) (some 0) (v := .bool true) rfl rfl (by kernel_rfl) (fun _ _ _ h => h) (Or.inl ⟨rfl, fun _ => rfl⟩) ?_
  simp only [Act.put, List.setIfInBounds_toArray, List.set_cons_zero]
  refine wpK_done (by kernel_rfl) (fun V37 hv38 => ?_) _
  have GC39 := Lib.hid (GC36.out.trans (Gr.un hv38))
  clear hv38
  go_wp2_with fail
  go_ret
  exact ⟨rfl, Gr.to G24.out GC39.out⟩

end Go.Proofs.YthadlgjobjnhcaaDoor
