/-
  Contracts of package point: turned points, cells and boxes.
-/
import Derived.Test.YtpapbbolefnkmaaDoorZB00
import Derived.Test.YtpapbbolefnkmaaDoorZB09
import Derived.Test.YtpapbbolefnkmaaDoorZB10
import Derived.Test.YtpapbbolefnkmaaDoorZB11
import Derived.Test.YtpapbbolefnkmaaDoorZB12
import Derived.Test.YtpapbbolefnkmaaDoorZB13
import Derived.Test.YtpapbbolefnkmaaDoorZB14
import Derived.Test.YtpapbbolefnkmaaDoorZB07
import Derived.Test.YtpapbbolefnkmaaDoorZB06
import Derived.Handy
namespace Go.Proofs.YtpapbbolefnkmaaDoor
open Go.RowKit
set_option linter.unusedVariables false
theorem sym_is (s : Int) (r : Bool) (w : World) (h : decide (0 ≤ s ∧ s < 48) = r) :
    Calls Tryd.prog 90 #[s] w fun e w'=>e = .returned (.bool r) ∧ Below w.heap.size w w':=by
  subst h;exact symmetry_any s w
theorem turn0_any (s : Nat) (x1 x2 x3 : Int) (w : World) (hT : Tab w) (hs : s < 48) (h : (-2097152 ≤ x1 ∧ x1 ≤ 2097152) ∧ (-2097152 ≤ x2 ∧ x2 ≤ 2097152) ∧ (-2097152 ≤ x3 ∧ x3 ≤ 2097152)) :
    Calls Tryd.prog 93 #[(s : Int), .agg #[x1, x2, x3], .func (.func 108) #[] #[]] w fun e w'=>e = .returned (.agg #[(Pt.tc 0 s 0 x1 x2 x3), (Pt.tc 0 s 1 x1 x2 x3), (Pt.tc 0 s 2 x1 x2 x3)]) ∧ Below w.heap.size w w':=by
  have hn : ∀ (l : Array Value) (W : World),(callFunc 108 l).run Tryd.prog W = .ok (.enter 108 l) W:=fun l W=>by go_simp
  have hf : ∀ (v : Int) (W : World),-2097152 ≤ v ∧ v ≤ 2097152 → Calls Tryd.prog 108 #[v] W fun e w'=>e = .returned (-v - 0:Int) ∧ w' = W:=fun v W hv=>neg0_same v W hv
  have hk : (s : Int) / 8 = 0 ∨ (s : Int) / 8 = 1 ∨ (s : Int) / 8 = 2 ∨ (s : Int) / 8 = 3 ∨ (s : Int) / 8 = 4 ∨ (s : Int) / 8 = 5:=by omega
  rcases hk with hk | hk | hk | hk | hk | hk
  · exact turn_o0 108 0 s x1 x2 x3 w hT hs hk h hn hf
  · exact turn_o1 108 0 s x1 x2 x3 w hT hs hk h hn hf
  · exact turn_o2 108 0 s x1 x2 x3 w hT hs hk h hn hf
  · exact turn_o3 108 0 s x1 x2 x3 w hT hs hk h hn hf
  · exact turn_o4 108 0 s x1 x2 x3 w hT hs hk h hn hf
  · exact turn_o5 108 0 s x1 x2 x3 w hT hs hk h hn hf
theorem turn1_any (s : Nat) (x1 x2 x3 : Int) (w : World) (hT : Tab w) (hs : s < 48) (h : (-2097152 ≤ x1 ∧ x1 ≤ 2097152) ∧ (-2097152 ≤ x2 ∧ x2 ≤ 2097152) ∧ (-2097152 ≤ x3 ∧ x3 ≤ 2097152)) :
    Calls Tryd.prog 93 #[(s : Int), .agg #[x1, x2, x3], .func (.func 94) #[] #[]] w fun e w'=>e = .returned (.agg #[(Pt.tc 1 s 0 x1 x2 x3), (Pt.tc 1 s 1 x1 x2 x3), (Pt.tc 1 s 2 x1 x2 x3)]) ∧ Below w.heap.size w w':=by
  have hn : ∀ (l : Array Value) (W : World),(callFunc 94 l).run Tryd.prog W = .ok (.enter 94 l) W:=fun l W=>by go_simp
  have hf : ∀ (v : Int) (W : World),-2097152 ≤ v ∧ v ≤ 2097152 → Calls Tryd.prog 94 #[v] W fun e w'=>e = .returned (-v - 1:Int) ∧ w' = W:=fun v W hv=>neg1_same v W hv
  have hk : (s : Int) / 8 = 0 ∨ (s : Int) / 8 = 1 ∨ (s : Int) / 8 = 2 ∨ (s : Int) / 8 = 3 ∨ (s : Int) / 8 = 4 ∨ (s : Int) / 8 = 5:=by omega
  rcases hk with hk | hk | hk | hk | hk | hk
  · exact turn_o0 94 1 s x1 x2 x3 w hT hs hk h hn hf
  · exact turn_o1 94 1 s x1 x2 x3 w hT hs hk h hn hf
  · exact turn_o2 94 1 s x1 x2 x3 w hT hs hk h hn hf
  · exact turn_o3 94 1 s x1 x2 x3 w hT hs hk h hn hf
  · exact turn_o4 94 1 s x1 x2 x3 w hT hs hk h hn hf
  · exact turn_o5 94 1 s x1 x2 x3 w hT hs hk h hn hf
set_option maxRecDepth 1000000 in
theorem turn1_out (s x1 x2 x3 : Int) (w : World) (h : decide (0 ≤ s ∧ s < 48) = false) :
    Calls Tryd.prog 93 #[s, .agg #[x1, x2, x3], .func (.func 94) #[] #[]] w fun e w'=>e = .returned (.agg #[x1, x2, x3]) ∧ Below w.heap.size w w':=by
  have HS:=Lib.hid h
  clear h
  obtain ⟨u,hu,r0,r1,g0⟩:=rows2 w [.int .i64 x1, .int .i64 x2, .int .i64 x3] 23 [.int .i64 0, .int .i64 0, .int .i64 0] 23
  have R0:=Lib.hid r0
  have R1:=Lib.hid r1
  have G0:=Lib.hid g0
  have HU:=Lib.hid hu
  clear hu g0 r0 r1
  go_enter Tryd.func93,Tryd.ntmps93
  go_upto_region 1 with fail
  rw [← HU.out]
  refine wpG_region ?_
  refine wpG_tk (some 11) (v:=s) rfl (.val (by rfl) (fun _ _=>rfl)) ?_
  simp only [Act.put,zA,zB,zC]
  refine wpG_tk (some 12) (v:=.bool false) rfl (.call (f:=90) (args:=#[s]) (by rfl) (fun W=>by go_simp) (fun W hg=>sym_is s false W HS.out)) ?_
  simp only [Act.put,zA,zB,zC]
  refine wpG_tk (some 13) (v:=.bool true) rfl (.val (by rfl) (fun W hg=>by go_simp)) ?_
  simp only [Act.put,zA,zB,zC]
  refine wpG_done (fun V1 hv2=>?_)
  have GC3:=Lib.hid hv2
  clear hv2
  go_upto_region 2 with fail
  refine wpG_region ?_
  refine wpG_tk (some 14) (v:=.agg #[x1, x2, x3]) rfl (.load_mid (by rfl) 23 (.tmp 4) rfl (w.heap.size) 0 rfl [.int .i64 x1, .int .i64 x2, .int .i64 x3] _ (fun W hg=>(R0.out.below (GC3.out.trans hg)).range) Tryd.underlying23 rfl (by kernel_rfl)) ?_
  simp only [Act.put,zA,zB,zC]
  refine wpG_store (none) rfl (by rfl) (fun W4 hg5=>⟨_,run_store_mid 23 (.tmp 6) (.tmp 14) rfl (w.heap.size + 1) 0 #[x1, x2, x3] rfl rfl (((R1.out.below (GC3.out.trans hg5)).there 0 3 (by decide))) (by kernel_rfl) (by kernel_rfl), ?_⟩)
  simp only [Act.put]
  refine wpG_done (fun V6 hv7=>?_)
  have R9:=Lib.hid (Row.put (ds:=[.int .i64 x1, .int .i64 x2, .int .i64 x3]) R1.out (GC3.out.trans hg5) rfl hv7)
  have G8:=Lib.hid (Gr.put G0.out (GC3.out.trans hg5) (by omega) hv7)
  go_wp2_with fail
  refine bodyPost_ret (results_cell_mid rfl _ _ _ (w.heap.size + 1) 0 [.int .i64 x1, .int .i64 x2, .int .i64 x3] _ rfl R9.out.range Tryd.underlying23 rfl (by kernel_rfl)) rfl ?_
  exact ⟨rfl,G8.out⟩
set_option maxRecDepth 1000000 in
theorem turn_any (s : Nat) (x1 x2 x3 : Int) (w : World) (hT : Tab w) (hs : s < 48) (h : (-2097152 ≤ x1 ∧ x1 ≤ 2097152) ∧ (-2097152 ≤ x2 ∧ x2 ≤ 2097152) ∧ (-2097152 ≤ x3 ∧ x3 ≤ 2097152)) :
    Calls Tryd.prog 91 #[(s : Int), .agg #[x1, x2, x3]] w fun e w'=>e = .returned (.agg #[(Pt.tc 0 s 0 x1 x2 x3), (Pt.tc 0 s 1 x1 x2 x3), (Pt.tc 0 s 2 x1 x2 x3)]) ∧ Below w.heap.size w w':=by
  obtain ⟨u,hu,r0,r1,g0⟩:=rows2 w [.int .i64 x1, .int .i64 x2, .int .i64 x3] 23 [.int .i64 0, .int .i64 0, .int .i64 0] 23
  have R0:=Lib.hid r0
  have R1:=Lib.hid r1
  have G0:=Lib.hid g0
  have HU:=Lib.hid hu
  have HT:=Lib.hid (hT.below g0)
  clear hT
  clear hu g0 r0 r1
  go_enter Tryd.func91,Tryd.ntmps91
  go_upto_region 1 with fail
  rw [← HU.out]
  refine wpG_region ?_
  refine wpG_tk (some 5) (v:=(s : Int)) rfl (.val (by rfl) (fun _ _=>rfl)) ?_
  simp only [Act.put,zA,zB,zC]
  refine wpG_tk (some 6) (v:=.agg #[x1, x2, x3]) rfl (.load_mid (by rfl) 23 (.tmp 3) rfl (w.heap.size) 0 rfl [.int .i64 x1, .int .i64 x2, .int .i64 x3] _ (fun W hg=>(R0.out.below hg).range) Tryd.underlying23 rfl (by kernel_rfl)) ?_
  simp only [Act.put,zA,zB,zC]
  refine wpG_tk (some 7) (v:=.agg #[(Pt.tc 0 s 0 x1 x2 x3), (Pt.tc 0 s 1 x1 x2 x3), (Pt.tc 0 s 2 x1 x2 x3)]) rfl (.call (f:=93) (args:=#[(s : Int), .agg #[x1, x2, x3], .func (.func 108) #[] #[]]) (by rfl) (fun W=>by go_simp) (fun W hg=>turn0_any s x1 x2 x3 W (HT.out.below hg) hs h)) ?_
  simp only [Act.put,zA,zB,zC]
  refine wpG_store (none) rfl (by rfl) (fun W1 hg2=>⟨_,run_store_mid 23 (.tmp 4) (.tmp 7) rfl (w.heap.size + 1) 0 #[(Pt.tc 0 s 0 x1 x2 x3), (Pt.tc 0 s 1 x1 x2 x3), (Pt.tc 0 s 2 x1 x2 x3)] rfl rfl (((R1.out.below hg2).there 0 3 (by decide))) (by kernel_rfl) (by kernel_rfl), ?_⟩)
  simp only [Act.put]
  refine wpG_done (fun V3 hv4=>?_)
  have R6:=Lib.hid (Row.put (ds:=[.int .i64 (Pt.tc 0 s 0 x1 x2 x3), .int .i64 (Pt.tc 0 s 1 x1 x2 x3), .int .i64 (Pt.tc 0 s 2 x1 x2 x3)]) R1.out hg2 rfl hv4)
  have G5:=Lib.hid (Gr.put G0.out hg2 (by omega) hv4)
  go_wp2_with fail
  refine bodyPost_ret (results_cell_mid rfl _ _ _ (w.heap.size + 1) 0 [.int .i64 (Pt.tc 0 s 0 x1 x2 x3), .int .i64 (Pt.tc 0 s 1 x1 x2 x3), .int .i64 (Pt.tc 0 s 2 x1 x2 x3)] _ rfl R6.out.range Tryd.underlying23 rfl (by kernel_rfl)) rfl ?_
  exact ⟨rfl,G5.out⟩
set_option maxRecDepth 1000000 in
theorem turncell_any (s : Nat) (x1 x2 x3 : Int) (w : World) (hT : Tab w) (hs : s < 48) (h : (-2097152 ≤ x1 ∧ x1 ≤ 2097152) ∧ (-2097152 ≤ x2 ∧ x2 ≤ 2097152) ∧ (-2097152 ≤ x3 ∧ x3 ≤ 2097152)) :
    Calls Tryd.prog 67 #[(s : Int), .agg #[x1, x2, x3]] w fun e w'=>e = .returned (.agg #[(Pt.tc 1 s 0 x1 x2 x3), (Pt.tc 1 s 1 x1 x2 x3), (Pt.tc 1 s 2 x1 x2 x3)]) ∧ Below w.heap.size w w':=by
  obtain ⟨u,hu,r0,r1,g0⟩:=rows2 w [.int .i64 x1, .int .i64 x2, .int .i64 x3] 23 [.int .i64 0, .int .i64 0, .int .i64 0] 23
  have R0:=Lib.hid r0
  have R1:=Lib.hid r1
  have G0:=Lib.hid g0
  have HU:=Lib.hid hu
  have HT:=Lib.hid (hT.below g0)
  clear hT
  clear hu g0 r0 r1
  go_enter Tryd.func67,Tryd.ntmps67
  go_upto_region 1 with fail
  rw [← HU.out]
  refine wpG_region ?_
  refine wpG_tk (some 5) (v:=(s : Int)) rfl (.val (by rfl) (fun _ _=>rfl)) ?_
  simp only [Act.put,zA,zB,zC]
  refine wpG_tk (some 6) (v:=.agg #[x1, x2, x3]) rfl (.load_mid (by rfl) 23 (.tmp 3) rfl (w.heap.size) 0 rfl [.int .i64 x1, .int .i64 x2, .int .i64 x3] _ (fun W hg=>(R0.out.below hg).range) Tryd.underlying23 rfl (by kernel_rfl)) ?_
  simp only [Act.put,zA,zB,zC]
  refine wpG_tk (some 7) (v:=.agg #[(Pt.tc 1 s 0 x1 x2 x3), (Pt.tc 1 s 1 x1 x2 x3), (Pt.tc 1 s 2 x1 x2 x3)]) rfl (.call (f:=93) (args:=#[(s : Int), .agg #[x1, x2, x3], .func (.func 94) #[] #[]]) (by rfl) (fun W=>by go_simp) (fun W hg=>turn1_any s x1 x2 x3 W (HT.out.below hg) hs h)) ?_
  simp only [Act.put,zA,zB,zC]
  refine wpG_store (none) rfl (by rfl) (fun W1 hg2=>⟨_,run_store_mid 23 (.tmp 4) (.tmp 7) rfl (w.heap.size + 1) 0 #[(Pt.tc 1 s 0 x1 x2 x3), (Pt.tc 1 s 1 x1 x2 x3), (Pt.tc 1 s 2 x1 x2 x3)] rfl rfl (((R1.out.below hg2).there 0 3 (by decide))) (by kernel_rfl) (by kernel_rfl), ?_⟩)
  simp only [Act.put]
  refine wpG_done (fun V3 hv4=>?_)
  have R6:=Lib.hid (Row.put (ds:=[.int .i64 (Pt.tc 1 s 0 x1 x2 x3), .int .i64 (Pt.tc 1 s 1 x1 x2 x3), .int .i64 (Pt.tc 1 s 2 x1 x2 x3)]) R1.out hg2 rfl hv4)
  have G5:=Lib.hid (Gr.put G0.out hg2 (by omega) hv4)
  go_wp2_with fail
  refine bodyPost_ret (results_cell_mid rfl _ _ _ (w.heap.size + 1) 0 [.int .i64 (Pt.tc 1 s 0 x1 x2 x3), .int .i64 (Pt.tc 1 s 1 x1 x2 x3), .int .i64 (Pt.tc 1 s 2 x1 x2 x3)] _ rfl R6.out.range Tryd.underlying23 rfl (by kernel_rfl)) rfl ?_
  exact ⟨rfl,G5.out⟩
set_option maxRecDepth 1000000 in
theorem turncell_out (s x1 x2 x3 : Int) (w : World) (h : decide (0 ≤ s ∧ s < 48) = false) :
    Calls Tryd.prog 67 #[s, .agg #[x1, x2, x3]] w fun e w'=>e = .returned (.agg #[x1, x2, x3]) ∧ Below w.heap.size w w':=by
  have HS:=Lib.hid h
  clear h
  obtain ⟨u,hu,r0,r1,g0⟩:=rows2 w [.int .i64 x1, .int .i64 x2, .int .i64 x3] 23 [.int .i64 0, .int .i64 0, .int .i64 0] 23
  have R0:=Lib.hid r0
  have R1:=Lib.hid r1
  have G0:=Lib.hid g0
  have HU:=Lib.hid hu
  clear hu g0 r0 r1
  go_enter Tryd.func67,Tryd.ntmps67
  go_upto_region 1 with fail
  rw [← HU.out]
  refine wpG_region ?_
  refine wpG_tk (some 5) (v:=s) rfl (.val (by rfl) (fun _ _=>rfl)) ?_
  simp only [Act.put,zA,zB,zC]
  refine wpG_tk (some 6) (v:=.agg #[x1, x2, x3]) rfl (.load_mid (by rfl) 23 (.tmp 3) rfl (w.heap.size) 0 rfl [.int .i64 x1, .int .i64 x2, .int .i64 x3] _ (fun W hg=>(R0.out.below hg).range) Tryd.underlying23 rfl (by kernel_rfl)) ?_
  simp only [Act.put,zA,zB,zC]
  refine wpG_tk (some 7) (v:=.agg #[x1, x2, x3]) rfl (.call (f:=93) (args:=#[s, .agg #[x1, x2, x3], .func (.func 94) #[] #[]]) (by rfl) (fun W=>by go_simp) (fun W hg=>turn1_out s x1 x2 x3 W HS.out)) ?_
  simp only [Act.put,zA,zB,zC]
  refine wpG_store (none) rfl (by rfl) (fun W1 hg2=>⟨_,run_store_mid 23 (.tmp 4) (.tmp 7) rfl (w.heap.size + 1) 0 #[x1, x2, x3] rfl rfl (((R1.out.below hg2).there 0 3 (by decide))) (by kernel_rfl) (by kernel_rfl), ?_⟩)
  simp only [Act.put]
  refine wpG_done (fun V3 hv4=>?_)
  have R6:=Lib.hid (Row.put (ds:=[.int .i64 x1, .int .i64 x2, .int .i64 x3]) R1.out hg2 rfl hv4)
  have G5:=Lib.hid (Gr.put G0.out hg2 (by omega) hv4)
  go_wp2_with fail
  refine bodyPost_ret (results_cell_mid rfl _ _ _ (w.heap.size + 1) 0 [.int .i64 x1, .int .i64 x2, .int .i64 x3] _ rfl R6.out.range Tryd.underlying23 rfl (by kernel_rfl)) rfl ?_
  exact ⟨rfl,G5.out⟩

end Go.Proofs.YtpapbbolefnkmaaDoor
