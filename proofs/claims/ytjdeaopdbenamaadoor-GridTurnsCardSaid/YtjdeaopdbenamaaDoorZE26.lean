/-
  Contracts of package point: turned points, cells and boxes.
-/
import Derived.Test.YtjdeaopdbenamaaDoorZE20
import Derived.Test.YtjdeaopdbenamaaDoorZE21
import Derived.Test.YtjdeaopdbenamaaDoorZE22
import Derived.Test.YtjdeaopdbenamaaDoorZE23
import Derived.Test.YtjdeaopdbenamaaDoorZE24
import Derived.Test.YtjdeaopdbenamaaDoorZE25
import Derived.Test.YtjdeaopdbenamaaDoorZE09
import Derived.Test.YtjdeaopdbenamaaDoorZE08
import Derived.Handy
namespace Go.Proofs.YtjdeaopdbenamaaDoor
open Go.RowKit
set_option linter.unusedVariables false
theorem sym_is (s : Int) (r : Bool) (w : World) (h : decide (0 ≤ s ∧ s < 48) = r) :
    Calls Tryd.prog 90 #[.int .i64 s] w fun e w'=>e = .returned (.bool r) ∧ Below w.heap.size w w':=by
  subst h;exact symmetry_any s w
theorem is_is (s : Int) (r : Bool) (w : World) (h : decide (0 ≤ s ∧ s < 48) = r) :
    Calls Tryd.prog 69 #[.int .i64 s] w fun e w'=>e = .returned (.bool r) ∧ Below w.heap.size w w':=by
  subst h;exact is_any s w
theorem turn0_any (s : Nat) (x1 x2 x3 : Int) (w : World) (hT : Tab w) (hs : s < 48) (h : (-2097152 ≤ x1 ∧ x1 ≤ 2097152) ∧ (-2097152 ≤ x2 ∧ x2 ≤ 2097152) ∧ (-2097152 ≤ x3 ∧ x3 ≤ 2097152)) :
    Calls Tryd.prog 93 #[.int .i64 (s : Int), .agg #[.int .i64 x1, .int .i64 x2, .int .i64 x3], .func (.func 108) #[] #[]] w fun e w'=>e = .returned (.agg #[.int .i64 (Pt.tc 0 s 0 x1 x2 x3), .int .i64 (Pt.tc 0 s 1 x1 x2 x3), .int .i64 (Pt.tc 0 s 2 x1 x2 x3)]) ∧ Below w.heap.size w w':=by
  have hn : ∀ (l : Array Value) (W : World),(callFunc 108 l).run Tryd.prog W = .ok (.enter 108 l) W:=fun l W=>by go_simp
  have hf : ∀ (v : Int) (W : World),-2097152 ≤ v ∧ v ≤ 2097152 → Calls Tryd.prog 108 #[.int .i64 v] W fun e w'=>e = .returned (.int .i64 (-v - 0)) ∧ w' = W:=fun v W hv=>neg0_same v W hv
  have hk : (s : Int) / 8 = 0 ∨ (s : Int) / 8 = 1 ∨ (s : Int) / 8 = 2 ∨ (s : Int) / 8 = 3 ∨ (s : Int) / 8 = 4 ∨ (s : Int) / 8 = 5:=by omega
  rcases hk with hk | hk | hk | hk | hk | hk
  · exact turn_o0 108 0 s x1 x2 x3 w hT hs hk h hn hf
  · exact turn_o1 108 0 s x1 x2 x3 w hT hs hk h hn hf
  · exact turn_o2 108 0 s x1 x2 x3 w hT hs hk h hn hf
  · exact turn_o3 108 0 s x1 x2 x3 w hT hs hk h hn hf
  · exact turn_o4 108 0 s x1 x2 x3 w hT hs hk h hn hf
  · exact turn_o5 108 0 s x1 x2 x3 w hT hs hk h hn hf
theorem turn1_any (s : Nat) (x1 x2 x3 : Int) (w : World) (hT : Tab w) (hs : s < 48) (h : (-2097152 ≤ x1 ∧ x1 ≤ 2097152) ∧ (-2097152 ≤ x2 ∧ x2 ≤ 2097152) ∧ (-2097152 ≤ x3 ∧ x3 ≤ 2097152)) :
    Calls Tryd.prog 93 #[.int .i64 (s : Int), .agg #[.int .i64 x1, .int .i64 x2, .int .i64 x3], .func (.func 94) #[] #[]] w fun e w'=>e = .returned (.agg #[.int .i64 (Pt.tc 1 s 0 x1 x2 x3), .int .i64 (Pt.tc 1 s 1 x1 x2 x3), .int .i64 (Pt.tc 1 s 2 x1 x2 x3)]) ∧ Below w.heap.size w w':=by
  have hn : ∀ (l : Array Value) (W : World),(callFunc 94 l).run Tryd.prog W = .ok (.enter 94 l) W:=fun l W=>by go_simp
  have hf : ∀ (v : Int) (W : World),-2097152 ≤ v ∧ v ≤ 2097152 → Calls Tryd.prog 94 #[.int .i64 v] W fun e w'=>e = .returned (.int .i64 (-v - 1)) ∧ w' = W:=fun v W hv=>neg1_same v W hv
  have hk : (s : Int) / 8 = 0 ∨ (s : Int) / 8 = 1 ∨ (s : Int) / 8 = 2 ∨ (s : Int) / 8 = 3 ∨ (s : Int) / 8 = 4 ∨ (s : Int) / 8 = 5:=by omega
  rcases hk with hk | hk | hk | hk | hk | hk
  · exact turn_o0 94 1 s x1 x2 x3 w hT hs hk h hn hf
  · exact turn_o1 94 1 s x1 x2 x3 w hT hs hk h hn hf
  · exact turn_o2 94 1 s x1 x2 x3 w hT hs hk h hn hf
  · exact turn_o3 94 1 s x1 x2 x3 w hT hs hk h hn hf
  · exact turn_o4 94 1 s x1 x2 x3 w hT hs hk h hn hf
  · exact turn_o5 94 1 s x1 x2 x3 w hT hs hk h hn hf
set_option maxRecDepth 1000000 in
theorem turn1_out (s x1 x2 x3 : Int) (w : World) (h : decide (0 ≤ s ∧ s < 48) = false) :
    Calls Tryd.prog 93 #[.int .i64 s, .agg #[.int .i64 x1, .int .i64 x2, .int .i64 x3], .func (.func 94) #[] #[]] w fun e w'=>e = .returned (.agg #[.int .i64 x1, .int .i64 x2, .int .i64 x3]) ∧ Below w.heap.size w w':=by
  have HS:=Lib.hid h
  clear h
  obtain ⟨u,hu,r0,r1,g0⟩:=rows2 w [.int .i64 x1, .int .i64 x2, .int .i64 x3] 23 [.int .i64 0, .int .i64 0, .int .i64 0] 23
  have R0:=Lib.hid r0
  have R1:=Lib.hid r1
  have G0:=Lib.hid g0
  have HU:=Lib.hid hu
  clear hu g0 r0 r1
  go_enter Tryd.func93,Tryd.ntmps93
  go_upto_region 1 with fail
  rw [← HU.out]
  refine wpG_region ?_
  refine wpG_tk (some 11) (v:=.int .i64 s) rfl (.val (by rfl) (fun _ _=>rfl)) ?_
  simp only [Act.put,List.setIfInBounds_toArray,List.set_cons_zero,List.set_cons_succ]
  refine wpG_tk (some 12) (v:=.bool false) rfl (.call (f:=90) (args:=#[.int .i64 s]) (by rfl) (fun W=>by go_simp) (fun W hg=>sym_is s false W HS.out)) ?_
  simp only [Act.put,List.setIfInBounds_toArray,List.set_cons_zero,List.set_cons_succ]
  refine wpG_tk (some 13) (v:=.bool true) rfl (.val (by rfl) (fun W hg=>by go_simp)) ?_
  simp only [Act.put,List.setIfInBounds_toArray,List.set_cons_zero,List.set_cons_succ]
  refine wpG_done (fun V1 hv2=>?_)
  have GC3:=Lib.hid hv2
  clear hv2
  go_upto_region 2 with fail
  refine wpG_region ?_
  refine wpG_tk (some 14) (v:=.agg #[.int .i64 x1, .int .i64 x2, .int .i64 x3]) rfl (.load_mid (by rfl) 23 (.tmp 4) rfl (w.heap.size) 0 rfl [.int .i64 x1, .int .i64 x2, .int .i64 x3] _ (fun W hg=>(R0.out.below (GC3.out.trans hg)).range) Tryd.underlying23 rfl (by kernel_rfl)) ?_
  simp only [Act.put,List.setIfInBounds_toArray,List.set_cons_zero,List.set_cons_succ]
  refine wpG_store (none) rfl (by rfl) (fun W4 hg5=>⟨_,run_store_mid 23 (.tmp 6) (.tmp 14) rfl (w.heap.size + 1) 0 #[.int .i64 x1, .int .i64 x2, .int .i64 x3] rfl rfl (((R1.out.below (GC3.out.trans hg5)).there 0 3 (by decide))) (by kernel_rfl) (by kernel_rfl), ?_⟩)
  simp only [Act.put]
  refine wpG_done (fun V6 hv7=>?_)
  have R9:=Lib.hid (Row.put (ds:=[.int .i64 x1, .int .i64 x2, .int .i64 x3]) R1.out (GC3.out.trans hg5) rfl hv7)
  have G8:=Lib.hid (Gr.put G0.out (GC3.out.trans hg5) (by omega) hv7)
  go_wp2_with fail
  refine bodyPost_ret (results_cell_mid rfl _ _ _ (w.heap.size + 1) 0 [.int .i64 x1, .int .i64 x2, .int .i64 x3] _ rfl R9.out.range Tryd.underlying23 rfl (by kernel_rfl)) rfl ?_
  exact ⟨rfl,G8.out⟩
set_option maxRecDepth 1000000 in
theorem turn_any (s : Nat) (x1 x2 x3 : Int) (w : World) (hT : Tab w) (hs : s < 48) (h : (-2097152 ≤ x1 ∧ x1 ≤ 2097152) ∧ (-2097152 ≤ x2 ∧ x2 ≤ 2097152) ∧ (-2097152 ≤ x3 ∧ x3 ≤ 2097152)) :
    Calls Tryd.prog 91 #[.int .i64 (s : Int), .agg #[.int .i64 x1, .int .i64 x2, .int .i64 x3]] w fun e w'=>e = .returned (.agg #[.int .i64 (Pt.tc 0 s 0 x1 x2 x3), .int .i64 (Pt.tc 0 s 1 x1 x2 x3), .int .i64 (Pt.tc 0 s 2 x1 x2 x3)]) ∧ Below w.heap.size w w':=by
  obtain ⟨u,hu,r0,r1,g0⟩:=rows2 w [.int .i64 x1, .int .i64 x2, .int .i64 x3] 23 [.int .i64 0, .int .i64 0, .int .i64 0] 23
  have R0:=Lib.hid r0
  have R1:=Lib.hid r1
  have G0:=Lib.hid g0
  have HU:=Lib.hid hu
  have HT:=Lib.hid (hT.below g0)
  clear hT
  clear hu g0 r0 r1
  go_enter Tryd.func91,Tryd.ntmps91
  go_upto_region 1 with fail
  rw [← HU.out]
  refine wpG_region ?_
  refine wpG_tk (some 5) (v:=.int .i64 (s : Int)) rfl (.val (by rfl) (fun _ _=>rfl)) ?_
  simp only [Act.put,List.setIfInBounds_toArray,List.set_cons_zero,List.set_cons_succ]
  refine wpG_tk (some 6) (v:=.agg #[.int .i64 x1, .int .i64 x2, .int .i64 x3]) rfl (.load_mid (by rfl) 23 (.tmp 3) rfl (w.heap.size) 0 rfl [.int .i64 x1, .int .i64 x2, .int .i64 x3] _ (fun W hg=>(R0.out.below hg).range) Tryd.underlying23 rfl (by kernel_rfl)) ?_
  simp only [Act.put,List.setIfInBounds_toArray,List.set_cons_zero,List.set_cons_succ]
  refine wpG_tk (some 7) (v:=.agg #[.int .i64 (Pt.tc 0 s 0 x1 x2 x3), .int .i64 (Pt.tc 0 s 1 x1 x2 x3), .int .i64 (Pt.tc 0 s 2 x1 x2 x3)]) rfl (.call (f:=93) (args:=#[.int .i64 (s : Int), .agg #[.int .i64 x1, .int .i64 x2, .int .i64 x3], .func (.func 108) #[] #[]]) (by rfl) (fun W=>by go_simp) (fun W hg=>turn0_any s x1 x2 x3 W (HT.out.below hg) hs h)) ?_
  simp only [Act.put,List.setIfInBounds_toArray,List.set_cons_zero,List.set_cons_succ]
  refine wpG_store (none) rfl (by rfl) (fun W1 hg2=>⟨_,run_store_mid 23 (.tmp 4) (.tmp 7) rfl (w.heap.size + 1) 0 #[.int .i64 (Pt.tc 0 s 0 x1 x2 x3), .int .i64 (Pt.tc 0 s 1 x1 x2 x3), .int .i64 (Pt.tc 0 s 2 x1 x2 x3)] rfl rfl (((R1.out.below hg2).there 0 3 (by decide))) (by kernel_rfl) (by kernel_rfl), ?_⟩)
  simp only [Act.put]
  refine wpG_done (fun V3 hv4=>?_)
  have R6:=Lib.hid (Row.put (ds:=[.int .i64 (Pt.tc 0 s 0 x1 x2 x3), .int .i64 (Pt.tc 0 s 1 x1 x2 x3), .int .i64 (Pt.tc 0 s 2 x1 x2 x3)]) R1.out hg2 rfl hv4)
  have G5:=Lib.hid (Gr.put G0.out hg2 (by omega) hv4)
  go_wp2_with fail
  refine bodyPost_ret (results_cell_mid rfl _ _ _ (w.heap.size + 1) 0 [.int .i64 (Pt.tc 0 s 0 x1 x2 x3), .int .i64 (Pt.tc 0 s 1 x1 x2 x3), .int .i64 (Pt.tc 0 s 2 x1 x2 x3)] _ rfl R6.out.range Tryd.underlying23 rfl (by kernel_rfl)) rfl ?_
  exact ⟨rfl,G5.out⟩
set_option maxRecDepth 1000000 in
theorem turncell_any (s : Nat) (x1 x2 x3 : Int) (w : World) (hT : Tab w) (hs : s < 48) (h : (-2097152 ≤ x1 ∧ x1 ≤ 2097152) ∧ (-2097152 ≤ x2 ∧ x2 ≤ 2097152) ∧ (-2097152 ≤ x3 ∧ x3 ≤ 2097152)) :
    Calls Tryd.prog 67 #[.int .i64 (s : Int), .agg #[.int .i64 x1, .int .i64 x2, .int .i64 x3]] w fun e w'=>e = .returned (.agg #[.int .i64 (Pt.tc 1 s 0 x1 x2 x3), .int .i64 (Pt.tc 1 s 1 x1 x2 x3), .int .i64 (Pt.tc 1 s 2 x1 x2 x3)]) ∧ Below w.heap.size w w':=by
  obtain ⟨u,hu,r0,r1,g0⟩:=rows2 w [.int .i64 x1, .int .i64 x2, .int .i64 x3] 23 [.int .i64 0, .int .i64 0, .int .i64 0] 23
  have R0:=Lib.hid r0
  have R1:=Lib.hid r1
  have G0:=Lib.hid g0
  have HU:=Lib.hid hu
  have HT:=Lib.hid (hT.below g0)
  clear hT
  clear hu g0 r0 r1
  go_enter Tryd.func67,Tryd.ntmps67
  go_upto_region 1 with fail
  rw [← HU.out]
  refine wpG_region ?_
  refine wpG_tk (some 5) (v:=.int .i64 (s : Int)) rfl (.val (by rfl) (fun _ _=>rfl)) ?_
  simp only [Act.put,List.setIfInBounds_toArray,List.set_cons_zero,List.set_cons_succ]
  refine wpG_tk (some 6) (v:=.agg #[.int .i64 x1, .int .i64 x2, .int .i64 x3]) rfl (.load_mid (by rfl) 23 (.tmp 3) rfl (w.heap.size) 0 rfl [.int .i64 x1, .int .i64 x2, .int .i64 x3] _ (fun W hg=>(R0.out.below hg).range) Tryd.underlying23 rfl (by kernel_rfl)) ?_
  simp only [Act.put,List.setIfInBounds_toArray,List.set_cons_zero,List.set_cons_succ]
  refine wpG_tk (some 7) (v:=.agg #[.int .i64 (Pt.tc 1 s 0 x1 x2 x3), .int .i64 (Pt.tc 1 s 1 x1 x2 x3), .int .i64 (Pt.tc 1 s 2 x1 x2 x3)]) rfl (.call (f:=93) (args:=#[.int .i64 (s : Int), .agg #[.int .i64 x1, .int .i64 x2, .int .i64 x3], .func (.func 94) #[] #[]]) (by rfl) (fun W=>by go_simp) (fun W hg=>turn1_any s x1 x2 x3 W (HT.out.below hg) hs h)) ?_
  simp only [Act.put,List.setIfInBounds_toArray,List.set_cons_zero,List.set_cons_succ]
  refine wpG_store (none) rfl (by rfl) (fun W1 hg2=>⟨_,run_store_mid 23 (.tmp 4) (.tmp 7) rfl (w.heap.size + 1) 0 #[.int .i64 (Pt.tc 1 s 0 x1 x2 x3), .int .i64 (Pt.tc 1 s 1 x1 x2 x3), .int .i64 (Pt.tc 1 s 2 x1 x2 x3)] rfl rfl (((R1.out.below hg2).there 0 3 (by decide))) (by kernel_rfl) (by kernel_rfl), ?_⟩)
  simp only [Act.put]
  refine wpG_done (fun V3 hv4=>?_)
  have R6:=Lib.hid (Row.put (ds:=[.int .i64 (Pt.tc 1 s 0 x1 x2 x3), .int .i64 (Pt.tc 1 s 1 x1 x2 x3), .int .i64 (Pt.tc 1 s 2 x1 x2 x3)]) R1.out hg2 rfl hv4)
  have G5:=Lib.hid (Gr.put G0.out hg2 (by omega) hv4)
  go_wp2_with fail
  refine bodyPost_ret (results_cell_mid rfl _ _ _ (w.heap.size + 1) 0 [.int .i64 (Pt.tc 1 s 0 x1 x2 x3), .int .i64 (Pt.tc 1 s 1 x1 x2 x3), .int .i64 (Pt.tc 1 s 2 x1 x2 x3)] _ rfl R6.out.range Tryd.underlying23 rfl (by kernel_rfl)) rfl ?_
  exact ⟨rfl,G5.out⟩
set_option maxRecDepth 1000000 in
theorem turncell_out (s x1 x2 x3 : Int) (w : World) (h : decide (0 ≤ s ∧ s < 48) = false) :
    Calls Tryd.prog 67 #[.int .i64 s, .agg #[.int .i64 x1, .int .i64 x2, .int .i64 x3]] w fun e w'=>e = .returned (.agg #[.int .i64 x1, .int .i64 x2, .int .i64 x3]) ∧ Below w.heap.size w w':=by
  have HS:=Lib.hid h
  clear h
  obtain ⟨u,hu,r0,r1,g0⟩:=rows2 w [.int .i64 x1, .int .i64 x2, .int .i64 x3] 23 [.int .i64 0, .int .i64 0, .int .i64 0] 23
  have R0:=Lib.hid r0
  have R1:=Lib.hid r1
  have G0:=Lib.hid g0
  have HU:=Lib.hid hu
  clear hu g0 r0 r1
  go_enter Tryd.func67,Tryd.ntmps67
  go_upto_region 1 with fail
  rw [← HU.out]
  refine wpG_region ?_
  refine wpG_tk (some 5) (v:=.int .i64 s) rfl (.val (by rfl) (fun _ _=>rfl)) ?_
  simp only [Act.put,List.setIfInBounds_toArray,List.set_cons_zero,List.set_cons_succ]
  refine wpG_tk (some 6) (v:=.agg #[.int .i64 x1, .int .i64 x2, .int .i64 x3]) rfl (.load_mid (by rfl) 23 (.tmp 3) rfl (w.heap.size) 0 rfl [.int .i64 x1, .int .i64 x2, .int .i64 x3] _ (fun W hg=>(R0.out.below hg).range) Tryd.underlying23 rfl (by kernel_rfl)) ?_
  simp only [Act.put,List.setIfInBounds_toArray,List.set_cons_zero,List.set_cons_succ]
  refine wpG_tk (some 7) (v:=.agg #[.int .i64 x1, .int .i64 x2, .int .i64 x3]) rfl (.call (f:=93) (args:=#[.int .i64 s, .agg #[.int .i64 x1, .int .i64 x2, .int .i64 x3], .func (.func 94) #[] #[]]) (by rfl) (fun W=>by go_simp) (fun W hg=>turn1_out s x1 x2 x3 W HS.out)) ?_
  simp only [Act.put,List.setIfInBounds_toArray,List.set_cons_zero,List.set_cons_succ]
  refine wpG_store (none) rfl (by rfl) (fun W1 hg2=>⟨_,run_store_mid 23 (.tmp 4) (.tmp 7) rfl (w.heap.size + 1) 0 #[.int .i64 x1, .int .i64 x2, .int .i64 x3] rfl rfl (((R1.out.below hg2).there 0 3 (by decide))) (by kernel_rfl) (by kernel_rfl), ?_⟩)
  simp only [Act.put]
  refine wpG_done (fun V3 hv4=>?_)
  have R6:=Lib.hid (Row.put (ds:=[.int .i64 x1, .int .i64 x2, .int .i64 x3]) R1.out hg2 rfl hv4)
  have G5:=Lib.hid (Gr.put G0.out hg2 (by omega) hv4)
  go_wp2_with fail
  refine bodyPost_ret (results_cell_mid rfl _ _ _ (w.heap.size + 1) 0 [.int .i64 x1, .int .i64 x2, .int .i64 x3] _ rfl R6.out.range Tryd.underlying23 rfl (by kernel_rfl)) rfl ?_
  exact ⟨rfl,G5.out⟩

end Go.Proofs.YtjdeaopdbenamaaDoor
/-
  Contracts of package point: compositions and inverses of symmetries.
-/
namespace Go.Proofs.YtjdeaopdbenamaaDoor
open Go.RowKit
set_option linter.unusedVariables false
/-- the first symmetry that fits, or -1 -/
def fst (g : Nat → Bool) : Int:=match (List.range 48).find? g with
  | some s=>(s : Int)
  | none=>-1
def NoneB (g : Nat → Bool) (k : Nat) : Prop:=∀ j,j < k → g j = false
theorem NoneB.succ {g : Nat → Bool} {k : Nat} (h : NoneB g k) (hk : g k = false) : NoneB g (k + 1):=fun j hj=>by
  rcases Nat.lt_or_ge j k with l | l
  · exact h j l
  · rw [show j = k by omega];exact hk
theorem NoneB.zero (g : Nat → Bool) : NoneB g 0:=fun _ h=>absurd h (Nat.not_lt_zero _)
end Go.Proofs.YtjdeaopdbenamaaDoor
/-
  Contracts of package point: Compose, Invert.
-/
namespace Go.Proofs.YtjdeaopdbenamaaDoor
open Go.RowKit
set_option linter.unusedVariables false
theorem mk_bd (s : Nat) : (-2097152 ≤ (Pt.tc 0 s 0 1 2 3) ∧ (Pt.tc 0 s 0 1 2 3) ≤ 2097152) ∧ (-2097152 ≤ (Pt.tc 0 s 1 1 2 3) ∧ (Pt.tc 0 s 1 1 2 3) ≤ 2097152) ∧ (-2097152 ≤ (Pt.tc 0 s 2 1 2 3) ∧ (Pt.tc 0 s 2 1 2 3) ≤ 2097152):=⟨Pt.tc_bd0 (L:=2097152) (by omega),Pt.tc_bd0 (L:=2097152) (by omega),Pt.tc_bd0 (L:=2097152) (by omega)⟩
end Go.Proofs.YtjdeaopdbenamaaDoor
