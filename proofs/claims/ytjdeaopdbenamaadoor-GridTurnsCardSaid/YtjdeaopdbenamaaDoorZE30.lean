/-
  Contracts of the specification: compositions and inverses.
-/
import Derived.Test.YtjdeaopdbenamaaDoorZE27
import Derived.Test.YtjdeaopdbenamaaDoorZE26
import Derived.Test.YtjdeaopdbenamaaDoorZE03
import Derived.Handy
import Derived.Laws.StructEq
namespace Go.Proofs.YtjdeaopdbenamaaDoor
open Go.RowKit
set_option linter.unusedVariables false
theorem mk_iff (k a c : Nat) (hk : k < 48) (ha : a < 48) (hc : c < 48) : ((Pt.tc 0 k 0 1 2 3) = (Pt.tc 0 a 0 (Pt.tc 0 c 0 1 2 3) (Pt.tc 0 c 1 1 2 3) (Pt.tc 0 c 2 1 2 3)) ∧ (Pt.tc 0 k 1 1 2 3) = (Pt.tc 0 a 1 (Pt.tc 0 c 0 1 2 3) (Pt.tc 0 c 1 1 2 3) (Pt.tc 0 c 2 1 2 3)) ∧ (Pt.tc 0 k 2 1 2 3) = (Pt.tc 0 a 2 (Pt.tc 0 c 0 1 2 3) (Pt.tc 0 c 1 1 2 3) (Pt.tc 0 c 2 1 2 3))) ↔ k = Pt.comp a c:=by
  have h:=Pt.comp_lt ⟨a,ha⟩ ⟨c,hc⟩
  simp only at h
  constructor
  · intro e
    have e2 : Pt.mk k = Pt.mk2 a c:=by unfold Pt.mk2 Pt.mk;simp only [Prod.mk.injEq];exact e
    exact Fin.mk.inj (Pt.mk_inj ⟨k,hk⟩ ⟨Pt.comp a c,h.1⟩ (by rw [e2];exact h.2.symm))
  · intro e
    have h2:=h.2
    rw [← e] at h2
    unfold Pt.mk2 Pt.mk at h2
    simp only [Prod.mk.injEq] at h2
    exact h2
theorem inv_iff : ∀ k a : Fin 48,Pt.comp k a = 0 ↔ k.val = Pt.inv a:=by decide +kernel
set_option maxRecDepth 1000000 in
set_option maxHeartbeats 4000000 in
theorem rcompose_any (a c : Nat) (w : World) (ha : a < 48) (hc : c < 48) :
    Calls Tryd.prog 30 #[.int .i64 (a : Int), .int .i64 (c : Int)] w fun e w'=>e = .returned (.int .i64 (Pt.comp a c : Int)) ∧ Below w.heap.size w w':=by
  have HA : Hid (decide (0 ≤ (a : Int) ∧ (a : Int) < 48) = true):=Lib.hid (decide_eq_true (by omega))
  have HB : Hid (decide (0 ≤ (c : Int) ∧ (c : Int) < 48) = true):=Lib.hid (decide_eq_true (by omega))
  obtain ⟨m,hm⟩ : ∃ m,m = Pt.comp a c:=⟨_,rfl⟩
  have hm48 : m < 48:=by rw [hm];exact (Pt.comp_lt ⟨a,ha⟩ ⟨c,hc⟩).1
  have HM:=Lib.hid hm
  clear hm
  have G0:=Lib.hid (Below.refl w.heap.size w)
  go_enter Tryd.func30,Tryd.ntmps30
  go_upto_region 1 with fail
  refine wpG_region ?_
  refine wpG_tk (some 9) (v:=.int .i64 (a : Int)) rfl (.val (by rfl) (fun _ _=>rfl)) ?_
  simp only [Act.put,List.setIfInBounds_toArray,List.set_cons_zero,List.set_cons_succ]
  refine wpG_tk (some 10) (v:=.bool true) rfl (.call (f:=69) (args:=#[.int .i64 (a : Int)]) (by rfl) (fun W=>by go_simp) (fun W hg=>is_is (a : Int) true W HA.out)) ?_
  simp only [Act.put,List.setIfInBounds_toArray,List.set_cons_zero,List.set_cons_succ]
  refine wpG_tk (some 5) (v:=.bool true) rfl (.val (by rfl) (fun _ _=>rfl)) ?_
  simp only [Act.put,List.setIfInBounds_toArray,List.set_cons_zero,List.set_cons_succ]
  refine wpG_done (fun V1 hv2=>?_)
  have GC3:=Lib.hid hv2
  clear hv2
  go_upto_region 2 with fail
  refine wpG_region ?_
  refine wpG_tk (some 11) (v:=.int .i64 (c : Int)) rfl (.val (by rfl) (fun _ _=>rfl)) ?_
  simp only [Act.put,List.setIfInBounds_toArray,List.set_cons_zero,List.set_cons_succ]
  refine wpG_tk (some 12) (v:=.bool true) rfl (.call (f:=69) (args:=#[.int .i64 (c : Int)]) (by rfl) (fun W=>by go_simp) (fun W hg=>is_is (c : Int) true W HB.out)) ?_
  simp only [Act.put,List.setIfInBounds_toArray,List.set_cons_zero,List.set_cons_succ]
  refine wpG_tk (some 6) (v:=.bool true) rfl (.val (by rfl) (fun _ _=>rfl)) ?_
  simp only [Act.put,List.setIfInBounds_toArray,List.set_cons_zero,List.set_cons_succ]
  refine wpG_done (fun V4 hv5=>?_)
  have GC6:=Lib.hid (GC3.out.trans hv5)
  clear hv5
  go_upto_region 3 with fail
  refine wpG_region ?_
  refine wpG_tk (some 13) (v:=.bool true) rfl (.val (by rfl) (fun _ _=>rfl)) ?_
  simp only [Act.put,List.setIfInBounds_toArray,List.set_cons_zero,List.set_cons_succ]
  refine wpG_tk (some 14) (v:=.bool false) rfl (.val (by rfl) (fun W hg=>by go_simp)) ?_
  simp only [Act.put,List.setIfInBounds_toArray,List.set_cons_zero,List.set_cons_succ]
  refine wpG_tk (some 15) (v:=.bool false) rfl (.val (by rfl) (fun _ _=>rfl)) ?_
  simp only [Act.put,List.setIfInBounds_toArray,List.set_cons_zero,List.set_cons_succ]
  refine wpG_tk (some 16) (v:=.bool true) rfl (.val (by rfl) (fun _ _=>rfl)) ?_
  simp only [Act.put,List.setIfInBounds_toArray,List.set_cons_zero,List.set_cons_succ]
  refine wpG_tk (some 17) (v:=.bool false) rfl (.val (by rfl) (fun W hg=>by go_simp)) ?_
  simp only [Act.put,List.setIfInBounds_toArray,List.set_cons_zero,List.set_cons_succ]
  refine wpG_tk (some 18) (v:=.bool false) rfl (.val (by rfl) (fun W hg=>by go_simp)) ?_
  simp only [Act.put,List.setIfInBounds_toArray,List.set_cons_zero,List.set_cons_succ]
  refine wpG_done (fun V7 hv8=>?_)
  have GC9:=Lib.hid (GC6.out.trans hv8)
  clear hv8
  go_upto_region 5 with fail
  refine wpG_region ?_
  refine wpG_tk (some 19) (v:=.int .i64 (a : Int)) rfl (.val (by rfl) (fun _ _=>rfl)) ?_
  simp only [Act.put,List.setIfInBounds_toArray,List.set_cons_zero,List.set_cons_succ]
  refine wpG_tk (some 20) (v:=.int .i64 (c : Int)) rfl (.val (by rfl) (fun _ _=>rfl)) ?_
  simp only [Act.put,List.setIfInBounds_toArray,List.set_cons_zero,List.set_cons_succ]
  refine wpG_tk (some 21) (v:=.agg #[.int .i64 1, .int .i64 2, .int .i64 3]) rfl (.call (f:=71) (args:=#[]) (by rfl) (fun W=>by go_simp) (fun W hg=>rmark_any W)) ?_
  simp only [Act.put,List.setIfInBounds_toArray,List.set_cons_zero,List.set_cons_succ]
  refine wpG_tk (some 22) (v:=.agg #[.int .i64 (Pt.tc 0 c 0 1 2 3), .int .i64 (Pt.tc 0 c 1 1 2 3), .int .i64 (Pt.tc 0 c 2 1 2 3)]) rfl (.call (f:=70) (args:=#[.int .i64 (c : Int), .agg #[.int .i64 1, .int .i64 2, .int .i64 3]]) (by rfl) (fun W=>by go_simp) (fun W hg=>rturn_any c 1 2 3 W hc (by first | omega | exact mk_bd c))) ?_
  simp only [Act.put,List.setIfInBounds_toArray,List.set_cons_zero,List.set_cons_succ]
  refine wpG_tk (some 23) (v:=.agg #[.int .i64 (Pt.tc 0 a 0 (Pt.tc 0 c 0 1 2 3) (Pt.tc 0 c 1 1 2 3) (Pt.tc 0 c 2 1 2 3)), .int .i64 (Pt.tc 0 a 1 (Pt.tc 0 c 0 1 2 3) (Pt.tc 0 c 1 1 2 3) (Pt.tc 0 c 2 1 2 3)), .int .i64 (Pt.tc 0 a 2 (Pt.tc 0 c 0 1 2 3) (Pt.tc 0 c 1 1 2 3) (Pt.tc 0 c 2 1 2 3))]) rfl (.call (f:=70) (args:=#[.int .i64 (a : Int), .agg #[.int .i64 (Pt.tc 0 c 0 1 2 3), .int .i64 (Pt.tc 0 c 1 1 2 3), .int .i64 (Pt.tc 0 c 2 1 2 3)]]) (by rfl) (fun W=>by go_simp) (fun W hg=>rturn_any a (Pt.tc 0 c 0 1 2 3) (Pt.tc 0 c 1 1 2 3) (Pt.tc 0 c 2 1 2 3) W ha (by first | omega | exact mk_bd c))) ?_
  simp only [Act.put,List.setIfInBounds_toArray,List.set_cons_zero,List.set_cons_succ]
  refine wpG_val (some 7) rfl (by rfl) (fun W10 hg11=>⟨.pointer (some ⟨W10.heap.size,0,none⟩),W10.alloc (.cells #[.int .i64 0, .int .i64 0, .int .i64 0] 23),by (go_simp <;> rfl), ?_⟩)
  simp only [Act.put,List.setIfInBounds_toArray,List.set_cons_zero,List.set_cons_succ]
  refine wpG_store (none) rfl (by rfl) (fun W12 hg13=>⟨_,run_store_mid 23 (.tmp 7) (.tmp 23) rfl (W10.heap.size) 0 #[.int .i64 (Pt.tc 0 a 0 (Pt.tc 0 c 0 1 2 3) (Pt.tc 0 c 1 1 2 3) (Pt.tc 0 c 2 1 2 3)), .int .i64 (Pt.tc 0 a 1 (Pt.tc 0 c 0 1 2 3) (Pt.tc 0 c 1 1 2 3) (Pt.tc 0 c 2 1 2 3)), .int .i64 (Pt.tc 0 a 2 (Pt.tc 0 c 0 1 2 3) (Pt.tc 0 c 1 1 2 3) (Pt.tc 0 c 2 1 2 3))] rfl rfl (Row.room hg13 3 rfl) (by kernel_rfl) (by kernel_rfl), ?_⟩)
  simp only [Act.put]
  refine wpG_done (fun V14 hv15=>?_)
  have l17 : w.heap.size ≤ W10.heap.size:=(Gr.to G0.out (GC9.out.trans hg11)).size
  have R18:=Lib.hid (Row.made (zs:=[.int .i64 0, .int .i64 0, .int .i64 0]) (ds:=[.int .i64 (Pt.tc 0 a 0 (Pt.tc 0 c 0 1 2 3) (Pt.tc 0 c 1 1 2 3) (Pt.tc 0 c 2 1 2 3)), .int .i64 (Pt.tc 0 a 1 (Pt.tc 0 c 0 1 2 3) (Pt.tc 0 c 1 1 2 3) (Pt.tc 0 c 2 1 2 3)), .int .i64 (Pt.tc 0 a 2 (Pt.tc 0 c 0 1 2 3) (Pt.tc 0 c 1 1 2 3) (Pt.tc 0 c 2 1 2 3))]) rfl hg13 hv15)
  have G16:=Lib.hid (Gr.to (Gr.to G0.out (GC9.out.trans hg11)) (Gr.past hg13 hv15))
  clear hg13 hv15 
  go_upto_region 6 with fail
  refine wpG_region ?_
  refine wpG_tk (some 8) (v:=.int .i64 0) rfl (.val (by rfl) (fun _ _=>rfl)) ?_
  simp only [Act.put,List.setIfInBounds_toArray,List.set_cons_zero,List.set_cons_succ]
  refine wpG_done (fun V19 hv20=>?_)
  have GC21:=Lib.hid hv20
  clear hv20
  go_wp2_with fail
  go_loopw [8] (fun c wr=>∃ k : Nat,c = .int .i64 (k : Int) ∧ k ≤ m ∧ Gr V14 wr) (fun c _=>m - (intOf c).toNat)
  case atStart=>exact ⟨0,rfl,by omega,GC21.out⟩
  case round =>
    obtain ⟨k,rfl,hkm,hG⟩:=hrel
    have HG:=Lib.hid hG
    clear hG
    have hk48 : k < 48:=by omega
    by_cases hkc : k = m
    · have hq:=(mk_iff k a c hk48 ha hc).2 (hkc.trans HM.out)
      have HK:=Lib.hid hkc
      clear hkc
      go_upto_region 7 with fail
      refine wpK_region (by kernel_rfl) ?_
      refine wpK_ta (i:=0) (some 24) (v:=.int .i64 (k : Int)) rfl rfl (by kernel_rfl) (fun _ _ _ h=>h) (Or.inl ⟨rfl,fun _=>rfl⟩) ?_
      simp only [Act.put,List.setIfInBounds_toArray,List.set_cons_zero,List.set_cons_succ]
      refine wpK_tk (i:=1) (some 25) (v:=.agg #[.int .i64 1, .int .i64 2, .int .i64 3]) rfl rfl (by kernel_rfl) (fun _ _ _ h=>h) (.call (f:=71) (args:=#[]) (by rfl) (fun W=>by go_simp) (fun W hg=>rmark_any W)) ?_
      simp only [Act.put,List.setIfInBounds_toArray,List.set_cons_zero,List.set_cons_succ]
      refine wpK_tk (i:=2) (some 26) (v:=.agg #[.int .i64 (Pt.tc 0 k 0 1 2 3), .int .i64 (Pt.tc 0 k 1 1 2 3), .int .i64 (Pt.tc 0 k 2 1 2 3)]) rfl rfl (by kernel_rfl) (fun _ _ _ h=>h) (.call (f:=70) (args:=#[.int .i64 (k : Int), .agg #[.int .i64 1, .int .i64 2, .int .i64 3]]) (by rfl) (fun W=>by go_simp) (fun W hg=>rturn_any k 1 2 3 W hk48 (by first | omega | exact mk_bd c))) ?_
      simp only [Act.put,List.setIfInBounds_toArray,List.set_cons_zero,List.set_cons_succ]
      refine wpK_tk (i:=3) (some 27) (v:=.agg #[.int .i64 (Pt.tc 0 a 0 (Pt.tc 0 c 0 1 2 3) (Pt.tc 0 c 1 1 2 3) (Pt.tc 0 c 2 1 2 3)), .int .i64 (Pt.tc 0 a 1 (Pt.tc 0 c 0 1 2 3) (Pt.tc 0 c 1 1 2 3) (Pt.tc 0 c 2 1 2 3)), .int .i64 (Pt.tc 0 a 2 (Pt.tc 0 c 0 1 2 3) (Pt.tc 0 c 1 1 2 3) (Pt.tc 0 c 2 1 2 3))]) rfl rfl (by kernel_rfl) (fun _ _ _ h=>h) (.load_mid (by rfl) 23 (.tmp 7) rfl (W10.heap.size) 0 rfl [.int .i64 (Pt.tc 0 a 0 (Pt.tc 0 c 0 1 2 3) (Pt.tc 0 c 1 1 2 3) (Pt.tc 0 c 2 1 2 3)), .int .i64 (Pt.tc 0 a 1 (Pt.tc 0 c 0 1 2 3) (Pt.tc 0 c 1 1 2 3) (Pt.tc 0 c 2 1 2 3)), .int .i64 (Pt.tc 0 a 2 (Pt.tc 0 c 0 1 2 3) (Pt.tc 0 c 1 1 2 3) (Pt.tc 0 c 2 1 2 3))] _ (fun W hg=>(R18.out.below (HG.out.trans (Gr.un hg))).range) Tryd.underlying23 rfl (by kernel_rfl)) ?_
      simp only [Act.put,List.setIfInBounds_toArray,List.set_cons_zero,List.set_cons_succ]
      refine wpK_ta (i:=4) (some 28) (v:=.bool false) rfl rfl (by kernel_rfl) (fun _ _ _ h=>h) (Or.inl ⟨by rfl,fun W=>by go_simp <;> omega⟩) ?_
      simp only [Act.put,List.setIfInBounds_toArray,List.set_cons_zero,List.set_cons_succ]
      refine wpK_done (by kernel_rfl) (fun V22 hv23=>?_) _
      have GC24:=Lib.hid (HG.out.trans (Gr.un hv23))
      clear hv23
      clear hq
      go_wp2_with fail
      go_ret
      exact ⟨ret_int (by rw [HK.out,HM.out]),Gr.to G16.out GC24.out⟩
    · have hq : ¬ ((Pt.tc 0 k 0 1 2 3) = (Pt.tc 0 a 0 (Pt.tc 0 c 0 1 2 3) (Pt.tc 0 c 1 1 2 3) (Pt.tc 0 c 2 1 2 3)) ∧ (Pt.tc 0 k 1 1 2 3) = (Pt.tc 0 a 1 (Pt.tc 0 c 0 1 2 3) (Pt.tc 0 c 1 1 2 3) (Pt.tc 0 c 2 1 2 3)) ∧ (Pt.tc 0 k 2 1 2 3) = (Pt.tc 0 a 2 (Pt.tc 0 c 0 1 2 3) (Pt.tc 0 c 1 1 2 3) (Pt.tc 0 c 2 1 2 3))):=fun e=>hkc (((mk_iff k a c hk48 ha hc).1 e).trans HM.out.symm)
      go_upto_region 7 with fail
      refine wpK_region (by kernel_rfl) ?_
      refine wpK_ta (i:=0) (some 24) (v:=.int .i64 (k : Int)) rfl rfl (by kernel_rfl) (fun _ _ _ h=>h) (Or.inl ⟨rfl,fun _=>rfl⟩) ?_
      simp only [Act.put,List.setIfInBounds_toArray,List.set_cons_zero,List.set_cons_succ]
      refine wpK_tk (i:=1) (some 25) (v:=.agg #[.int .i64 1, .int .i64 2, .int .i64 3]) rfl rfl (by kernel_rfl) (fun _ _ _ h=>h) (.call (f:=71) (args:=#[]) (by rfl) (fun W=>by go_simp) (fun W hg=>rmark_any W)) ?_
      simp only [Act.put,List.setIfInBounds_toArray,List.set_cons_zero,List.set_cons_succ]
      refine wpK_tk (i:=2) (some 26) (v:=.agg #[.int .i64 (Pt.tc 0 k 0 1 2 3), .int .i64 (Pt.tc 0 k 1 1 2 3), .int .i64 (Pt.tc 0 k 2 1 2 3)]) rfl rfl (by kernel_rfl) (fun _ _ _ h=>h) (.call (f:=70) (args:=#[.int .i64 (k : Int), .agg #[.int .i64 1, .int .i64 2, .int .i64 3]]) (by rfl) (fun W=>by go_simp) (fun W hg=>rturn_any k 1 2 3 W hk48 (by first | omega | exact mk_bd c))) ?_
      simp only [Act.put,List.setIfInBounds_toArray,List.set_cons_zero,List.set_cons_succ]
      refine wpK_tk (i:=3) (some 27) (v:=.agg #[.int .i64 (Pt.tc 0 a 0 (Pt.tc 0 c 0 1 2 3) (Pt.tc 0 c 1 1 2 3) (Pt.tc 0 c 2 1 2 3)), .int .i64 (Pt.tc 0 a 1 (Pt.tc 0 c 0 1 2 3) (Pt.tc 0 c 1 1 2 3) (Pt.tc 0 c 2 1 2 3)), .int .i64 (Pt.tc 0 a 2 (Pt.tc 0 c 0 1 2 3) (Pt.tc 0 c 1 1 2 3) (Pt.tc 0 c 2 1 2 3))]) rfl rfl (by kernel_rfl) (fun _ _ _ h=>h) (.load_mid (by rfl) 23 (.tmp 7) rfl (W10.heap.size) 0 rfl [.int .i64 (Pt.tc 0 a 0 (Pt.tc 0 c 0 1 2 3) (Pt.tc 0 c 1 1 2 3) (Pt.tc 0 c 2 1 2 3)), .int .i64 (Pt.tc 0 a 1 (Pt.tc 0 c 0 1 2 3) (Pt.tc 0 c 1 1 2 3) (Pt.tc 0 c 2 1 2 3)), .int .i64 (Pt.tc 0 a 2 (Pt.tc 0 c 0 1 2 3) (Pt.tc 0 c 1 1 2 3) (Pt.tc 0 c 2 1 2 3))] _ (fun W hg=>(R18.out.below (HG.out.trans (Gr.un hg))).range) Tryd.underlying23 rfl (by kernel_rfl)) ?_
      simp only [Act.put,List.setIfInBounds_toArray,List.set_cons_zero,List.set_cons_succ]
      refine wpK_ta (i:=4) (some 28) (v:=.bool true) rfl rfl (by kernel_rfl) (fun _ _ _ h=>h) (Or.inl ⟨by rfl,fun W=>by go_simp <;> omega⟩) ?_
      simp only [Act.put,List.setIfInBounds_toArray,List.set_cons_zero,List.set_cons_succ]
      refine wpK_done (by kernel_rfl) (fun V25 hv26=>?_) _
      have GC27:=Lib.hid (HG.out.trans (Gr.un hv26))
      clear hv26
      clear hq
      go_wp2_with fail
      go_roundw
      case rel=>exact ⟨k + 1,by go_num,by omega,GC27.out⟩
      case measure=>simp [intOf];omega
set_option maxRecDepth 1000000 in
set_option maxHeartbeats 4000000 in
theorem rinvert_any (a : Nat) (w : World) (ha : a < 48) :
    Calls Tryd.prog 31 #[.int .i64 (a : Int)] w fun e w'=>e = .returned (.int .i64 (Pt.inv a : Int)) ∧ Below w.heap.size w w':=by
  have HA : Hid (decide (0 ≤ (a : Int) ∧ (a : Int) < 48) = true):=Lib.hid (decide_eq_true (by omega))
  obtain ⟨m,hm⟩ : ∃ m,m = Pt.inv a:=⟨_,rfl⟩
  have hm48 : m < 48:=by rw [hm];exact (Pt.inv_lt ⟨a,ha⟩).1
  have HM:=Lib.hid hm
  clear hm
  have G0:=Lib.hid (Below.refl w.heap.size w)
  go_enter Tryd.func31,Tryd.ntmps31
  go_upto_region 1 with fail
  refine wpG_region ?_
  refine wpG_tk (some 5) (v:=.int .i64 (a : Int)) rfl (.val (by rfl) (fun _ _=>rfl)) ?_
  simp only [Act.put,List.setIfInBounds_toArray,List.set_cons_zero,List.set_cons_succ]
  refine wpG_tk (some 6) (v:=.bool true) rfl (.call (f:=69) (args:=#[.int .i64 (a : Int)]) (by rfl) (fun W=>by go_simp) (fun W hg=>is_is (a : Int) true W HA.out)) ?_
  simp only [Act.put,List.setIfInBounds_toArray,List.set_cons_zero,List.set_cons_succ]
  refine wpG_tk (some 3) (v:=.bool true) rfl (.val (by rfl) (fun _ _=>rfl)) ?_
  simp only [Act.put,List.setIfInBounds_toArray,List.set_cons_zero,List.set_cons_succ]
  refine wpG_done (fun V1 hv2=>?_)
  have GC3:=Lib.hid hv2
  clear hv2
  go_upto_region 2 with fail
  refine wpG_region ?_
  refine wpG_tk (some 7) (v:=.bool true) rfl (.val (by rfl) (fun _ _=>rfl)) ?_
  simp only [Act.put,List.setIfInBounds_toArray,List.set_cons_zero,List.set_cons_succ]
  refine wpG_tk (some 8) (v:=.bool false) rfl (.val (by rfl) (fun W hg=>by go_simp)) ?_
  simp only [Act.put,List.setIfInBounds_toArray,List.set_cons_zero,List.set_cons_succ]
  refine wpG_done (fun V4 hv5=>?_)
  have GC6:=Lib.hid (GC3.out.trans hv5)
  clear hv5
  go_upto_region 4 with fail
  refine wpG_region ?_
  refine wpG_tk (some 4) (v:=.int .i64 0) rfl (.val (by rfl) (fun _ _=>rfl)) ?_
  simp only [Act.put,List.setIfInBounds_toArray,List.set_cons_zero,List.set_cons_succ]
  refine wpG_done (fun V7 hv8=>?_)
  have GC9:=Lib.hid (GC6.out.trans hv8)
  clear hv8
  go_wp2_with fail
  go_loopw [4] (fun c wr=>∃ k : Nat,c = .int .i64 (k : Int) ∧ k ≤ m ∧ Gr w wr) (fun c _=>m - (intOf c).toNat)
  case atStart=>exact ⟨0,rfl,by omega,GC9.out⟩
  case round =>
    obtain ⟨k,rfl,hkm,hG⟩:=hrel
    have HG:=Lib.hid hG
    clear hG
    have hk48 : k < 48:=by omega
    have hv:=inv_iff ⟨k,hk48⟩ ⟨a,ha⟩
    simp only at hv
    by_cases hkc : k = m
    · have hq : (Pt.comp k a = 0):=hv.2 (hkc.trans HM.out)
      have HK:=Lib.hid hkc
      clear hkc
      have HQ:=Lib.hid hq
      clear hv hq
      go_upto_region 5 with fail
      refine wpG_region ?_
      refine wpG_tk (some 9) (v:=.int .i64 (k : Int)) rfl (.val (by rfl) (fun _ _=>rfl)) ?_
      simp only [Act.put,List.setIfInBounds_toArray,List.set_cons_zero,List.set_cons_succ]
      refine wpG_tk (some 10) (v:=.int .i64 (a : Int)) rfl (.val (by rfl) (fun _ _=>rfl)) ?_
      simp only [Act.put,List.setIfInBounds_toArray,List.set_cons_zero,List.set_cons_succ]
      refine wpG_tk (some 11) (v:=.int .i64 (Pt.comp k a : Int)) rfl (.call (f:=30) (args:=#[.int .i64 (k : Int), .int .i64 (a : Int)]) (by rfl) (fun W=>by go_simp) (fun W hg=>rcompose_any k a W hk48 ha)) ?_
      simp only [Act.put,List.setIfInBounds_toArray,List.set_cons_zero,List.set_cons_succ]
      refine wpG_tk (some 12) (v:=.bool false) rfl (.val (by rfl) (fun W hg=>by have hq:=HQ.out;go_simp)) ?_
      simp only [Act.put,List.setIfInBounds_toArray,List.set_cons_zero,List.set_cons_succ]
      refine wpG_done (fun V10 hv11=>?_)
      have GC12:=Lib.hid (HG.out.trans hv11)
      clear hv11
      go_wp2_with fail
      go_ret
      exact ⟨ret_int (by rw [HK.out,HM.out]),Gr.to G0.out GC12.out⟩
    · have hq : ¬ (Pt.comp k a = 0):=fun e=>hkc ((hv.1 e).trans HM.out.symm)
      have HQ:=Lib.hid hq
      clear hv hq
      go_upto_region 5 with fail
      refine wpG_region ?_
      refine wpG_tk (some 9) (v:=.int .i64 (k : Int)) rfl (.val (by rfl) (fun _ _=>rfl)) ?_
      simp only [Act.put,List.setIfInBounds_toArray,List.set_cons_zero,List.set_cons_succ]
      refine wpG_tk (some 10) (v:=.int .i64 (a : Int)) rfl (.val (by rfl) (fun _ _=>rfl)) ?_
      simp only [Act.put,List.setIfInBounds_toArray,List.set_cons_zero,List.set_cons_succ]
      refine wpG_tk (some 11) (v:=.int .i64 (Pt.comp k a : Int)) rfl (.call (f:=30) (args:=#[.int .i64 (k : Int), .int .i64 (a : Int)]) (by rfl) (fun W=>by go_simp) (fun W hg=>rcompose_any k a W hk48 ha)) ?_
      simp only [Act.put,List.setIfInBounds_toArray,List.set_cons_zero,List.set_cons_succ]
      refine wpG_tk (some 12) (v:=.bool true) rfl (.val (by rfl) (fun W hg=>by have hq:=HQ.out;go_simp)) ?_
      simp only [Act.put,List.setIfInBounds_toArray,List.set_cons_zero,List.set_cons_succ]
      refine wpG_done (fun V13 hv14=>?_)
      have GC15:=Lib.hid (HG.out.trans hv14)
      clear hv14
      go_wp2_with fail
      go_roundw
      case rel=>exact ⟨k + 1,by go_num,by omega,GC15.out⟩
      case measure=>simp [intOf];omega
end Go.Proofs.YtjdeaopdbenamaaDoor
