/-
  The specification's Mirror and Name of what is no symmetry.
-/
import Derived.Test.YthadlgjobjnhcaaDoorPtw
import Derived.Test.YthadlgjobjnhcaaDoorPts
import Derived.Handy
namespace Go.Proofs.YthadlgjobjnhcaaDoor
open Go.RowKit
set_option linter.unusedVariables false
set_option maxRecDepth 1000000 in
theorem rmirror_out (a : Int) (w : World) (ha : decide (0 ≤ a ∧ a < 48) = false) :
    Calls Tryd.prog 58 #[.int .i64 a] w fun e w' => e = .returned (.bool false) ∧ Below w.heap.size w w' := by
  have HA := Lib.hid ha
  clear ha
  have G0 := Lib.hid (Below.refl w.heap.size w)
  go_enter Tryd.func58, Tryd.ntmps58
  go_upto_region 1 with fail
  refine wpG_region ?_
  refine wpG_tk (some 9) (v := .int .i64 a) rfl (.val (by rfl) (fun _ _ => rfl)) ?_
  simp only [Act.put, List.setIfInBounds_toArray, List.set_cons_zero, List.set_cons_succ]
  refine wpG_tk (some 10) (v := .bool false) rfl (.call (f := 81) (args := #[.int .i64 a]) (by rfl) (fun W => by go_simp) (fun W hg => is_is a false W HA.out)) ?_
  simp only [Act.put, List.setIfInBounds_toArray, List.set_cons_zero, List.set_cons_succ]
  refine wpG_tk (some 3) (v := .bool false) rfl (.val (by rfl) (fun _ _ => rfl)) ?_
  simp only [Act.put, List.setIfInBounds_toArray, List.set_cons_zero, List.set_cons_succ]
  refine wpG_done (fun V1 hv2 => ?_)
  have GC3 := Lib.hid hv2
  clear hv2
  go_upto_region 2 with fail
  refine wpG_region ?_
  refine wpG_tk (some 11) (v := .bool false) rfl (.val (by rfl) (fun _ _ => rfl)) ?_
  simp only [Act.put, List.setIfInBounds_toArray, List.set_cons_zero, List.set_cons_succ]
  refine wpG_tk (some 12) (v := .bool true) rfl (.val (by rfl) (fun W hg => by go_simp)) ?_
  simp only [Act.put, List.setIfInBounds_toArray, List.set_cons_zero, List.set_cons_succ]
  refine wpG_done (fun V4 hv5 => ?_)
  have GC6 := Lib.hid (GC3.out.trans hv5)
  clear hv5
  go_upto_region 3 with fail
  refine wpG_region ?_
  refine wpG_tk (some 2) (v := .bool false) rfl (.val (by rfl) (fun _ _ => rfl)) ?_
  simp only [Act.put, List.setIfInBounds_toArray, List.set_cons_zero, List.set_cons_succ]
  refine wpG_done (fun V7 hv8 => ?_)
  have GC9 := Lib.hid (GC6.out.trans hv8)
  clear hv8
  go_wp2_with fail
  go_ret
  exact ⟨rfl, Gr.to G0.out GC9.out⟩
set_option maxRecDepth 1000000 in
theorem rname_out (a : Int) (w : World) (ha : decide (0 ≤ a ∧ a < 48) = false) :
    Calls Tryd.prog 60 #[.int .i64 a] w fun e w' => e = .returned (.string (bstr [])) ∧ Below w.heap.size w w' := by
  have HA := Lib.hid ha
  clear ha
  have G0 := Lib.hid (Below.refl w.heap.size w)
  go_enter Tryd.func60, Tryd.ntmps60
  go_upto_region 1 with fail
  refine wpG_region ?_
  refine wpG_tk (some 9) (v := .int .i64 a) rfl (.val (by rfl) (fun _ _ => rfl)) ?_
  simp only [Act.put, List.setIfInBounds_toArray, List.set_cons_zero, List.set_cons_succ]
  refine wpG_tk (some 10) (v := .bool false) rfl (.call (f := 81) (args := #[.int .i64 a]) (by rfl) (fun W => by go_simp) (fun W hg => is_is a false W HA.out)) ?_
  simp only [Act.put, List.setIfInBounds_toArray, List.set_cons_zero, List.set_cons_succ]
  refine wpG_tk (some 3) (v := .bool false) rfl (.val (by rfl) (fun _ _ => rfl)) ?_
  simp only [Act.put, List.setIfInBounds_toArray, List.set_cons_zero, List.set_cons_succ]
  refine wpG_done (fun V1 hv2 => ?_)
  have GC3 := Lib.hid hv2
  clear hv2
  go_upto_region 2 with fail
  refine wpG_region ?_
  refine wpG_tk (some 11) (v := .bool false) rfl (.val (by rfl) (fun _ _ => rfl)) ?_
  simp only [Act.put, List.setIfInBounds_toArray, List.set_cons_zero, List.set_cons_succ]
  refine wpG_tk (some 12) (v := .bool true) rfl (.val (by rfl) (fun W hg => by go_simp)) ?_
  simp only [Act.put, List.setIfInBounds_toArray, List.set_cons_zero, List.set_cons_succ]
  refine wpG_done (fun V4 hv5 => ?_)
  have GC6 := Lib.hid (GC3.out.trans hv5)
  clear hv5
  go_upto_region 3 with fail
  refine wpG_region ?_
  refine wpG_tk (some 2) (v := .string (⟨#[]⟩)) rfl (.val (by rfl) (fun _ _ => rfl)) ?_
  simp only [Act.put, List.setIfInBounds_toArray, List.set_cons_zero, List.set_cons_succ]
  refine wpG_done (fun V7 hv8 => ?_)
  have GC9 := Lib.hid (GC6.out.trans hv8)
  clear hv8
  go_wp2_with fail
  go_ret
  exact ⟨rfl, Gr.to G0.out GC9.out⟩

end Go.Proofs.YthadlgjobjnhcaaDoor
