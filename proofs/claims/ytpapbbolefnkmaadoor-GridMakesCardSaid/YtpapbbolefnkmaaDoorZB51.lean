/-
  The chapter's examples hold.
-/
import Derived.Test.YtpapbbolefnkmaaDoorZB47
import Derived.Test.YtpapbbolefnkmaaDoorZB48
import Derived.Test.YtpapbbolefnkmaaDoorZB49
import Derived.Test.YtpapbbolefnkmaaDoorZB33
import Derived.Handy
namespace Go.Proofs.YtpapbbolefnkmaaDoor
open Go Go.RowKit
set_option linter.unusedVariables false
set_option linter.unusedSimpArgs false
section
variable {P : Program} {ops : Array Oper} {md : Region.Mode} {Q : Exit → Act → World → Prop}
theorem wpK_ca {i j : Nat} {oi oj : Oper} {fuel : Nat} {listed : Array Bool} {a : Act} {w : World} (d dj : Option Tmp) (f : FuncId) (args : Array Value) (hi : ops[i]? = some oi) (hj : ops[j]? = some oj) (hd : oi.dst = d) (hdj : oj.dst = dj) (hr : Region.ready md ops listed = [i,j])
    (hwi : Region.wanted oi (yielded ops a.tmps) = true) (hwj : Region.wanted oj (yielded ops a.tmps) = true) (he : ∀ w',(execOp a.eval oi).run P w' = .ok (.enter f args) w')
    (h1 : ∀ w',Gr w w' → Calls P f args w' fun e w1=>∃ v,e = .returned v ∧ Gr w' w1 ∧ wpK P md ops Q fuel (listed.setIfInBounds i true) (a.put d v) w1)
    (h2 : ∀ w',Gr w w' → ∃ v w1,(execOp a.eval oj).run P w' = .ok (.value v) w1 ∧ Gr w' w1 ∧ wpK P md ops Q fuel (listed.setIfInBounds j true) (a.put dj v) w1) :
    wpK P md ops Q (fuel + 1) listed a w:=by
  subst hd hdj
  intro w' hg
  refine ⟨fun h0=>(by rw [hr] at h0;cases h0),fun m hm=>?_⟩
  rw [hr] at hm
  simp only [List.mem_cons,List.not_mem_nil,or_false] at hm
  rcases hm with rfl | rfl
  · unfold wpOp
    rw [hi]
    simp only [hwi,if_true]
    refine .inl ?_
    unfold Oper.wp
    rw [he w']
    refine (h1 w' hg).mono fun e w1 hx=>?_
    obtain ⟨v,rfl,e2,e3⟩:=hx
    exact ⟨.inr e2,e3⟩
  · unfold wpOp
    rw [hj]
    simp only [hwj,if_true]
    obtain ⟨v,w1,e1,e2,e3⟩:=h2 w' hg
    refine .inl ?_
    unfold Oper.wp
    rw [e1]
    exact ⟨.inr e2,e3⟩
end
set_option maxRecDepth 1000000 in
set_option maxHeartbeats 4000000 in
theorem sanity_any (w : World) (hT : Tab w) :
    Calls Tryd.prog 11 #[] w fun e w'=>e = .returned (.bool true) ∧ Below w.heap.size w w':=by
  have HTB:=Lib.hid hT
  clear hT
  have S1 : Hid (St w noB [] w):=Lib.hid (St.start w)
  go_enter Tryd.func11,Tryd.ntmps11
  go_upto_region 0 with fail
  refine wpG_region_k (fun K hK=>?_)
  refine @wpG_p _ _ _ _ _ (some 0) (.bool false) _ _ rfl (by rfl) (fun _=>rfl) ?_
  simp only [n1,n3]
  refine wpG_done (fun V2 hv3=>?_)
  have S4 : Hid (St w noB [] V2):=Lib.hid (S1.out.gr hv3)
  clear S1
  clear hv3
  refine ⟨rfl,hK _ _ ?_⟩
  clear hK
  go_upto_region 1 with fail
  refine wpG_region_k (fun K hK=>?_)
  refine @wpG_tk _ _ _ _ _ (some 14) (.agg #[.int .i64 0, .int .i64 0, .int .i64 0]) _ _ rfl (.call (f:=41) (args:=#[.int .i64 0, .int .i64 0, .int .i64 0]) (by rfl) (fun W=>by go_simp) (fun W hg=>lat_any 0 0 0 W)) ?_
  simp only [n1,n3,n4]
  refine @wpG_tk _ _ _ _ _ (some 15) (.agg #[.int .i64 2, .int .i64 1, .int .i64 2]) _ _ rfl (.call (f:=41) (args:=#[.int .i64 2, .int .i64 1, .int .i64 2]) (by rfl) (fun W=>by go_simp) (fun W hg=>lat_any 2 1 2 W)) ?_
  simp only [n1,n3,n4]
  refine @wpG_tk _ _ _ _ _ (some 16) (.agg #[.int .i64 0, .int .i64 0, .int .i64 0, .int .i64 2, .int .i64 1, .int .i64 2]) _ _ rfl (.call (f:=40) (args:=#[.agg #[.int .i64 0, .int .i64 0, .int .i64 0], .agg #[.int .i64 2, .int .i64 1, .int .i64 2]]) (by rfl) (fun W=>by go_simp) (fun W hg=>lbox_any 0 0 0 2 1 2 W)) ?_
  simp only [n1,n3,n4]
  refine wpG_call (some 17) 14 #[.agg #[.int .i64 0, .int .i64 0, .int .i64 0, .int .i64 2, .int .i64 1, .int .i64 2], .int .i64 5] rfl (by rfl) (fun W=>by go_simp) (fun W8 hg9=>?_)
  refine ((show Calls Tryd.prog 14 #[.agg #[.int .i64 0, .int .i64 0, .int .i64 0, .int .i64 2, .int .i64 1, .int .i64 2], .int .i64 5] W8 (fun e w'=>∃ A n c,e = .returned (.tuple #[.agg #[.int .i64 0, .int .i64 0, .int .i64 0, .int .i64 2, .int .i64 1, .int .i64 2, .slice A n c], .int .i64 0]) ∧ St W8 noB [own (.slice A n c) 3 1 n (ic [5,5,5,5])] w') from by have h_:=new_any (⟨0,0,0,2,1,2⟩ : Gm.Bx) 5 W8;rw [show Gm.nB (⟨0,0,0,2,1,2⟩ : Gm.Bx) 5 = (⟨0,0,0,2,1,2⟩ : Gm.Bx) from by decide +kernel,show Gm.nE (⟨0,0,0,2,1,2⟩ : Gm.Bx) 5 = 0 from by decide +kernel,show Gm.nL (⟨0,0,0,2,1,2⟩ : Gm.Bx) 5 = [5,5,5,5] from by decide +kernel] at h_;exact h_)).mono ?_
  rintro e w10 ⟨A5,n6,c7,rfl,hS_⟩
  refine ⟨_,rfl, ?_⟩
  have hT_:=(S4.out.gr hg9).got hS_
  simp only [n1,n3,n4]
  have S11 : Hid (St w noB [own (.slice A5 n6 c7) 3 1 n6 (ic [5,5,5,5])] w10):=Lib.hid hT_
  clear S4
  clear hT_ hS_ hg9
  refine @wpG_p _ _ _ _ _ (some 13) (.tuple #[.agg #[.int .i64 0, .int .i64 0, .int .i64 0, .int .i64 2, .int .i64 1, .int .i64 2, .slice A5 n6 c7], .int .i64 0]) _ _ rfl (by rfl) (fun _=>rfl) ?_
  simp only [n1,n3,n4]
  refine @wpG_p _ _ _ _ _ (some 18) (.agg #[.int .i64 0, .int .i64 0, .int .i64 0, .int .i64 2, .int .i64 1, .int .i64 2, .slice A5 n6 c7]) _ _ rfl (by rfl) (fun W=>by go_simp) ?_
  simp only [n1,n3,n4]
  refine @wpG_p _ _ _ _ _ (some 19) (.int .i64 0) _ _ rfl (by rfl) (fun W=>by go_simp) ?_
  simp only [n1,n3,n4]
  refine wpG_val (some 1) rfl (by rfl) (fun W12 hg13=>⟨.pointer (some ⟨W12.heap.size,0,none⟩),W12.alloc (.cells #[.int .i64 0, .int .i64 0, .int .i64 0, .int .i64 0, .int .i64 0, .int .i64 0, .slice none 0 0] 28),by (first | (go_simp;done) | (go_simp <;> rfl)), ?_⟩)
  simp only [n1,n3,n4]
  obtain ⟨g14,U15,hg_,hu_,hS_⟩:=(S11.out.gr hg13).made [.int .i64 0, .int .i64 0, .int .i64 0, .int .i64 0, .int .i64 0, .int .i64 0, .slice none 0 0] 28
  rw [← hu_,← hg_]
  have S16 : Hid (St w noB [blk g14 28 [.int .i64 0, .int .i64 0, .int .i64 0, .int .i64 0, .int .i64 0, .int .i64 0, .slice none 0 0],own (.slice A5 n6 c7) 3 1 n6 (ic [5,5,5,5])] U15):=Lib.hid hS_
  clear S11
  clear hg_ hu_ hS_ hg13
  refine wpG_store (none) rfl (by rfl) (fun W17 hg18=>⟨_,run_store_mid 28 (.tmp 1) (.tmp 18) rfl g14 0 #[.int .i64 0, .int .i64 0, .int .i64 0, .int .i64 2, .int .i64 1, .int .i64 2, .slice A5 n6 c7] rfl rfl ((S16.out.gr hg18).room 0 rfl 0 7 (by simp)) (by kernel_rfl) (by kernel_rfl), ?_⟩)
  simp only [n2]
  obtain ⟨U19,hu_,hS_⟩:=((S16.out.gr hg18).put 0 rfl 0 (#[.int .i64 0, .int .i64 0, .int .i64 0, .int .i64 2, .int .i64 1, .int .i64 2, .slice A5 n6 c7] : Array Value).toList (ds:=[.int .i64 0, .int .i64 0, .int .i64 0, .int .i64 2, .int .i64 1, .int .i64 2, .slice A5 n6 c7]) rfl).named
  rw [← hu_]
  have S20 : Hid (St w noB [blk g14 28 [.int .i64 0, .int .i64 0, .int .i64 0, .int .i64 2, .int .i64 1, .int .i64 2, .slice A5 n6 c7],own (.slice A5 n6 c7) 3 1 n6 (ic [5,5,5,5])] U19):=Lib.hid hS_
  clear S16
  clear hu_ hS_ hg18
  refine @wpG_p _ _ _ _ _ (some 2) (.int .i64 0) _ _ rfl (by rfl) (fun _=>rfl) ?_
  simp only [n1,n3,n4]
  refine wpG_done (fun V21 hv22=>?_)
  have S23 : Hid (St w noB [blk g14 28 [.int .i64 0, .int .i64 0, .int .i64 0, .int .i64 2, .int .i64 1, .int .i64 2, .slice A5 n6 c7],own (.slice A5 n6 c7) 3 1 n6 (ic [5,5,5,5])] V21):=Lib.hid (S20.out.gr hv22)
  clear S20
  clear hv22
  refine ⟨rfl,hK _ _ ?_⟩
  clear hK
  go_upto_region 2 with fail
  refine wpK_region_k (by kernel_rfl) (fun K hK=>?_)
  refine wpK_tk (i:=0) (some 20) (v:=.agg #[.int .i64 0, .int .i64 0, .int .i64 0, .int .i64 2, .int .i64 1, .int .i64 2, .slice A5 n6 c7]) rfl rfl (by kernel_rfl) (fun _ _ _ h=>onN_panic h) (.load_mid (by rfl) 28 (.tmp 1) rfl g14 0 rfl [.int .i64 0, .int .i64 0, .int .i64 0, .int .i64 2, .int .i64 1, .int .i64 2, .slice A5 n6 c7] _ (fun W hg=>(S23.out.gr (Gr.un hg)).range 0 rfl 0 7 rfl) Tryd.underlying28 rfl (by kernel_rfl)) ?_
  simp only [n1,n3,n4]
  refine wpK_tk (i:=1) (some 21) (v:=.agg #[.int .i64 1, .int .i64 0, .int .i64 1]) rfl rfl (by kernel_rfl) (fun _ _ _ h=>onN_panic h) (.call (f:=41) (args:=#[.int .i64 1, .int .i64 0, .int .i64 1]) (by rfl) (fun W=>by go_simp) (fun W hg=>lat_any 1 0 1 W)) ?_
  simp only [n1,n3,n4]
  refine wpK_call (i:=2) (some 22) 22 #[.agg #[.int .i64 0, .int .i64 0, .int .i64 0, .int .i64 2, .int .i64 1, .int .i64 2, .slice A5 n6 c7], .agg #[.int .i64 1, .int .i64 0, .int .i64 1], .int .i64 7] rfl rfl (by kernel_rfl) (by rfl) (fun W=>by go_simp) (fun W27 hg28=>?_)
  refine ((show Calls Tryd.prog 22 #[.agg #[.int .i64 0, .int .i64 0, .int .i64 0, .int .i64 2, .int .i64 1, .int .i64 2, .slice A5 n6 c7], .agg #[.int .i64 1, .int .i64 0, .int .i64 1], .int .i64 7] W27 (fun e w'=>∃ A n c,e = .returned (.agg #[.int .i64 0, .int .i64 0, .int .i64 0, .int .i64 2, .int .i64 1, .int .i64 2, .slice A n c]) ∧ St W27 noB [own (.slice A n c) 3 1 n (ic [5,5,5,7])] w') from by have h_:=set_any (⟨0,0,0,2,1,2⟩ : Gm.Bx) _ _ _ [5,5,5,5] 1 0 1 7 W27 (SL.ofOwn ((S23.out.gr (Gr.un hg28)).ownr 1 rfl)) (by constructor <;> decide +kernel : Gm.ok (⟨0,0,0,2,1,2⟩ : Gm.Bx) [5,5,5,5]) (by decide);rw [show Gm.wr1 (⟨0,0,0,2,1,2⟩ : Gm.Bx) [5,5,5,5] ⟨1,0,1,0,7⟩ = [5,5,5,7] from by decide +kernel] at h_;exact h_)).mono ?_
  rintro e w29 ⟨A24,n25,c26,rfl,hS_⟩
  refine ⟨_,rfl,hS_.bel, ?_⟩
  have hT_:=(S23.out.gr (Gr.un hg28)).got hS_
  simp only [n1,n3,n4]
  have S30 : Hid (St w noB [own (.slice A24 n25 c26) 3 1 n25 (ic [5,5,5,7]),blk g14 28 [.int .i64 0, .int .i64 0, .int .i64 0, .int .i64 2, .int .i64 1, .int .i64 2, .slice A5 n6 c7],own (.slice A5 n6 c7) 3 1 n6 (ic [5,5,5,5])] w29):=Lib.hid hT_
  clear S23
  clear hT_ hS_ hg28
  refine wpK_store (i:=3) (none) rfl rfl (by kernel_rfl) (by rfl) (by rfl) (fun W31 hg32=>⟨_,run_store_mid 28 (.tmp 1) (.tmp 22) rfl g14 0 #[.int .i64 0, .int .i64 0, .int .i64 0, .int .i64 2, .int .i64 1, .int .i64 2, .slice A24 n25 c26] rfl rfl ((S30.out.gr hg32).room 1 rfl 0 7 (by simp)) (by kernel_rfl) (by kernel_rfl), ?_⟩)
  simp only [n2]
  obtain ⟨U33,hu_,hS_⟩:=((S30.out.gr hg32).put 1 rfl 0 (#[.int .i64 0, .int .i64 0, .int .i64 0, .int .i64 2, .int .i64 1, .int .i64 2, .slice A24 n25 c26] : Array Value).toList (ds:=[.int .i64 0, .int .i64 0, .int .i64 0, .int .i64 2, .int .i64 1, .int .i64 2, .slice A24 n25 c26]) rfl).named
  rw [← hu_]
  have S34 : Hid (St w noB [own (.slice A24 n25 c26) 3 1 n25 (ic [5,5,5,7]),blk g14 28 [.int .i64 0, .int .i64 0, .int .i64 0, .int .i64 2, .int .i64 1, .int .i64 2, .slice A24 n25 c26],own (.slice A5 n6 c7) 3 1 n6 (ic [5,5,5,5])] U33):=Lib.hid hS_
  clear S30
  clear hu_ hS_ hg32
  refine wpK_done (by kernel_rfl) (fun V35 hv36=>?_) _
  have S37 : Hid (St w noB [own (.slice A24 n25 c26) 3 1 n25 (ic [5,5,5,7]),blk g14 28 [.int .i64 0, .int .i64 0, .int .i64 0, .int .i64 2, .int .i64 1, .int .i64 2, .slice A24 n25 c26],own (.slice A5 n6 c7) 3 1 n6 (ic [5,5,5,5])] V35):=Lib.hid (S34.out.gr hv36)
  clear S34
  clear hv36
  refine ⟨rfl,hK _ _ ?_⟩
  clear hK
  go_step
  go_step
  obtain ⟨J38,hJ_⟩ : ∃ J_ : Act → World → Prop,J_ = (fun a_ w_=>∃ (g3j : Nat) (Aj : Option Addr) (nj cj : Nat) (u23 u24 u25 u26 u27 u28 u29 u30 : Value),a_ = ⟨#[.bool false, .pointer (some ⟨g14,0,none⟩), .int .i64 0, .pointer (some ⟨g3j,0,none⟩), .int .i64 0,undef,undef,undef,undef,undef,undef,undef,undef, .tuple #[.agg #[.int .i64 0, .int .i64 0, .int .i64 0, .int .i64 2, .int .i64 1, .int .i64 2, .slice A5 n6 c7], .int .i64 0], .agg #[.int .i64 0, .int .i64 0, .int .i64 0], .agg #[.int .i64 2, .int .i64 1, .int .i64 2], .agg #[.int .i64 0, .int .i64 0, .int .i64 0, .int .i64 2, .int .i64 1, .int .i64 2], .tuple #[.agg #[.int .i64 0, .int .i64 0, .int .i64 0, .int .i64 2, .int .i64 1, .int .i64 2, .slice A5 n6 c7], .int .i64 0], .agg #[.int .i64 0, .int .i64 0, .int .i64 0, .int .i64 2, .int .i64 1, .int .i64 2, .slice A5 n6 c7], .int .i64 0, .agg #[.int .i64 0, .int .i64 0, .int .i64 0, .int .i64 2, .int .i64 1, .int .i64 2, .slice A5 n6 c7], .agg #[.int .i64 1, .int .i64 0, .int .i64 1], .agg #[.int .i64 0, .int .i64 0, .int .i64 0, .int .i64 2, .int .i64 1, .int .i64 2, .slice A24 n25 c26],u23,u24,u25,u26,u27,u28,u29,u30,undef,undef,undef,undef,undef,undef,undef,undef,undef,undef,undef,undef,undef,undef,undef,undef,undef,undef,undef,undef,undef,undef,undef,undef,undef,undef,undef,undef,undef,undef,undef,undef,undef,undef,undef,undef,undef,undef,undef,undef,undef,undef,undef,undef,undef,undef,undef,undef,undef,undef,undef,undef,undef,undef,undef,undef,undef,undef,undef,undef,undef,undef,undef,undef,undef,undef,undef,undef,undef,undef,undef,undef,undef,undef,undef,undef,undef,undef,undef,undef,undef,undef,undef,undef,undef,undef,undef,undef,undef,undef,undef,undef,undef,undef,undef,undef,undef,undef,undef,undef,undef,undef,undef,undef,undef,undef,undef,undef,undef,undef,undef,undef],[]⟩ ∧ St w noB [blk g3j 28 [.int .i64 1, .int .i64 0, .int .i64 0, .int .i64 3, .int .i64 1, .int .i64 2, .slice Aj nj cj],own (.slice Aj nj cj) 3 1 nj (ic [5,0,7,0]),own (.slice A24 n25 c26) 3 1 n25 (ic [5,5,5,7]),blk g14 28 [.int .i64 0, .int .i64 0, .int .i64 0, .int .i64 2, .int .i64 1, .int .i64 2, .slice A24 n25 c26],own (.slice A5 n6 c7) 3 1 n6 (ic [5,5,5,5])] w_):=⟨_,rfl⟩
  have HJ38:=Lib.hid hJ_
  clear hJ_
  refine wp_join J38 ?_ ?_
  · skip
    go_upto_region 3 with fail
    refine wpK_region_k (by kernel_rfl) (fun K hK=>?_)
    refine wpK_tk (i:=0) (some 24) (v:=.agg #[.int .i64 0, .int .i64 0, .int .i64 0, .int .i64 2, .int .i64 1, .int .i64 2, .slice A24 n25 c26]) rfl rfl (by kernel_rfl) (fun _ _ _ h=>onN_panic h) (.load_mid (by rfl) 28 (.tmp 1) rfl g14 0 rfl [.int .i64 0, .int .i64 0, .int .i64 0, .int .i64 2, .int .i64 1, .int .i64 2, .slice A24 n25 c26] _ (fun W hg=>(S37.out.gr (Gr.un hg)).range 1 rfl 0 7 rfl) Tryd.underlying28 rfl (by kernel_rfl)) ?_
    simp only [n1,n3,n4]
    refine wpK_tk (i:=1) (some 25) (v:=.agg #[.int .i64 1, .int .i64 0, .int .i64 0]) rfl rfl (by kernel_rfl) (fun _ _ _ h=>onN_panic h) (.call (f:=41) (args:=#[.int .i64 1, .int .i64 0, .int .i64 0]) (by rfl) (fun W=>by go_simp) (fun W hg=>lat_any 1 0 0 W)) ?_
    simp only [n1,n3,n4]
    refine wpK_tk (i:=2) (some 26) (v:=.agg #[.int .i64 3, .int .i64 1, .int .i64 2]) rfl rfl (by kernel_rfl) (fun _ _ _ h=>onN_panic h) (.call (f:=41) (args:=#[.int .i64 3, .int .i64 1, .int .i64 2]) (by rfl) (fun W=>by go_simp) (fun W hg=>lat_any 3 1 2 W)) ?_
    simp only [n1,n3,n4]
    refine wpK_tk (i:=3) (some 27) (v:=.agg #[.int .i64 1, .int .i64 0, .int .i64 0, .int .i64 3, .int .i64 1, .int .i64 2]) rfl rfl (by kernel_rfl) (fun _ _ _ h=>onN_panic h) (.call (f:=40) (args:=#[.agg #[.int .i64 1, .int .i64 0, .int .i64 0], .agg #[.int .i64 3, .int .i64 1, .int .i64 2]]) (by rfl) (fun W=>by go_simp) (fun W hg=>lbox_any 1 0 0 3 1 2 W)) ?_
    simp only [n1,n3,n4]
    refine wpK_ca (i:=4) (j:=8) (some 28) (some 3) 17 #[.agg #[.int .i64 0, .int .i64 0, .int .i64 0, .int .i64 2, .int .i64 1, .int .i64 2, .slice A24 n25 c26], .agg #[.int .i64 1, .int .i64 0, .int .i64 0, .int .i64 3, .int .i64 1, .int .i64 2]] rfl rfl rfl rfl (by kernel_rfl) (by rfl) (by rfl) (fun W=>by go_simp) ?_ ?_
    · skip
      intro W42 hg43
      refine ((show Calls Tryd.prog 17 #[.agg #[.int .i64 0, .int .i64 0, .int .i64 0, .int .i64 2, .int .i64 1, .int .i64 2, .slice A24 n25 c26], .agg #[.int .i64 1, .int .i64 0, .int .i64 0, .int .i64 3, .int .i64 1, .int .i64 2]] W42 (fun e w'=>∃ A n c,e = .returned (.tuple #[.agg #[.int .i64 1, .int .i64 0, .int .i64 0, .int .i64 3, .int .i64 1, .int .i64 2, .slice A n c], .int .i64 0]) ∧ St W42 noB [own (.slice A n c) 3 1 n (ic [5,0,7,0])] w') from by have h_:=crop_any (⟨0,0,0,2,1,2⟩ : Gm.Bx) _ _ _ [5,5,5,7] (⟨1,0,0,3,1,2⟩ : Gm.Bx) W42 (SL.ofOwn ((S37.out.gr (Gr.un hg43)).ownr 0 rfl)) (by constructor <;> decide +kernel : Gm.ok (⟨0,0,0,2,1,2⟩ : Gm.Bx) [5,5,5,7]);rw [show Gm.nB (⟨1,0,0,3,1,2⟩ : Gm.Bx) 0 = (⟨1,0,0,3,1,2⟩ : Gm.Bx) from by decide +kernel,show Gm.nE (⟨1,0,0,3,1,2⟩ : Gm.Bx) 0 = 0 from by decide +kernel,show Gm.nL (⟨1,0,0,3,1,2⟩ : Gm.Bx) 0 = [0,0,0,0] from by decide +kernel,show Gm.paste (⟨1,0,0,3,1,2⟩ : Gm.Bx) [0,0,0,0] (⟨0,0,0,2,1,2⟩ : Gm.Bx) [5,5,5,7] = [5,0,7,0] from by decide +kernel] at h_;exact h_)).mono ?_
      rintro e w44 ⟨A39,n40,c41,rfl,hS_⟩
      refine ⟨_,rfl,hS_.bel, ?_⟩
      have hT_:=(S37.out.gr (Gr.un hg43)).got hS_
      simp only [n1,n3,n4]
      have S45 : Hid (St w noB [own (.slice A39 n40 c41) 3 1 n40 (ic [5,0,7,0]),own (.slice A24 n25 c26) 3 1 n25 (ic [5,5,5,7]),blk g14 28 [.int .i64 0, .int .i64 0, .int .i64 0, .int .i64 2, .int .i64 1, .int .i64 2, .slice A24 n25 c26],own (.slice A5 n6 c7) 3 1 n6 (ic [5,5,5,5])] w44):=Lib.hid hT_
      clear S37
      clear hT_ hS_ hg43
      refine wpK_ta (i:=5) (some 23) (v:=.tuple #[.agg #[.int .i64 1, .int .i64 0, .int .i64 0, .int .i64 3, .int .i64 1, .int .i64 2, .slice A39 n40 c41], .int .i64 0]) rfl rfl (by kernel_rfl) (fun _ _ _ h=>onN_panic h) (Or.inl ⟨rfl,fun _=>rfl⟩) ?_
      simp only [n1,n3,n4]
      refine wpK_ta (i:=6) (some 29) (v:=.agg #[.int .i64 1, .int .i64 0, .int .i64 0, .int .i64 3, .int .i64 1, .int .i64 2, .slice A39 n40 c41]) rfl rfl (by kernel_rfl) (fun _ _ _ h=>onN_panic h) (Or.inl ⟨by rfl,fun W=>by go_simp⟩) ?_
      simp only [n1,n3,n4]
      refine wpK_ta (i:=7) (some 30) (v:=.int .i64 0) rfl rfl (by kernel_rfl) (fun _ _ _ h=>onN_panic h) (Or.inl ⟨by rfl,fun W=>by go_simp⟩) ?_
      simp only [n1,n3,n4]
      refine wpK_val (i:=8) (some 3) rfl rfl (by kernel_rfl) (by rfl) (fun W46 hg47=>⟨.pointer (some ⟨W46.heap.size,0,none⟩),W46.alloc (.cells #[.int .i64 0, .int .i64 0, .int .i64 0, .int .i64 0, .int .i64 0, .int .i64 0, .slice none 0 0] 28),by (first | (go_simp;done) | (go_simp <;> rfl)),Gr.al _ _, ?_⟩)
      simp only [n1,n3,n4]
      obtain ⟨g48,U49,hg_,hu_,hS_⟩:=(S45.out.gr hg47).made [.int .i64 0, .int .i64 0, .int .i64 0, .int .i64 0, .int .i64 0, .int .i64 0, .slice none 0 0] 28
      rw [← hu_,← hg_]
      have S50 : Hid (St w noB [blk g48 28 [.int .i64 0, .int .i64 0, .int .i64 0, .int .i64 0, .int .i64 0, .int .i64 0, .slice none 0 0],own (.slice A39 n40 c41) 3 1 n40 (ic [5,0,7,0]),own (.slice A24 n25 c26) 3 1 n25 (ic [5,5,5,7]),blk g14 28 [.int .i64 0, .int .i64 0, .int .i64 0, .int .i64 2, .int .i64 1, .int .i64 2, .slice A24 n25 c26],own (.slice A5 n6 c7) 3 1 n6 (ic [5,5,5,5])] U49):=Lib.hid hS_
      clear S45
      clear hg_ hu_ hS_ hg47
      refine wpK_store (i:=9) (none) rfl rfl (by kernel_rfl) (by rfl) (by rfl) (fun W51 hg52=>⟨_,run_store_mid 28 (.tmp 3) (.tmp 29) rfl g48 0 #[.int .i64 1, .int .i64 0, .int .i64 0, .int .i64 3, .int .i64 1, .int .i64 2, .slice A39 n40 c41] rfl rfl ((S50.out.gr hg52).room 0 rfl 0 7 (by simp)) (by kernel_rfl) (by kernel_rfl), ?_⟩)
      simp only [n2]
      obtain ⟨U53,hu_,hS_⟩:=((S50.out.gr hg52).put 0 rfl 0 (#[.int .i64 1, .int .i64 0, .int .i64 0, .int .i64 3, .int .i64 1, .int .i64 2, .slice A39 n40 c41] : Array Value).toList (ds:=[.int .i64 1, .int .i64 0, .int .i64 0, .int .i64 3, .int .i64 1, .int .i64 2, .slice A39 n40 c41]) rfl).named
      rw [← hu_]
      have S54 : Hid (St w noB [blk g48 28 [.int .i64 1, .int .i64 0, .int .i64 0, .int .i64 3, .int .i64 1, .int .i64 2, .slice A39 n40 c41],own (.slice A39 n40 c41) 3 1 n40 (ic [5,0,7,0]),own (.slice A24 n25 c26) 3 1 n25 (ic [5,5,5,7]),blk g14 28 [.int .i64 0, .int .i64 0, .int .i64 0, .int .i64 2, .int .i64 1, .int .i64 2, .slice A24 n25 c26],own (.slice A5 n6 c7) 3 1 n6 (ic [5,5,5,5])] U53):=Lib.hid hS_
      clear S50
      clear hu_ hS_ hg52
      refine wpK_ta (i:=10) (some 4) (v:=.int .i64 0) rfl rfl (by kernel_rfl) (fun _ _ _ h=>onN_panic h) (Or.inl ⟨rfl,fun _=>rfl⟩) ?_
      simp only [n1,n3,n4]
      refine wpK_done (by kernel_rfl) (fun V55 hv56=>?_) _
      have S57 : Hid (St w noB [blk g48 28 [.int .i64 1, .int .i64 0, .int .i64 0, .int .i64 3, .int .i64 1, .int .i64 2, .slice A39 n40 c41],own (.slice A39 n40 c41) 3 1 n40 (ic [5,0,7,0]),own (.slice A24 n25 c26) 3 1 n25 (ic [5,5,5,7]),blk g14 28 [.int .i64 0, .int .i64 0, .int .i64 0, .int .i64 2, .int .i64 1, .int .i64 2, .slice A24 n25 c26],own (.slice A5 n6 c7) 3 1 n6 (ic [5,5,5,5])] V55):=Lib.hid (S54.out.gr hv56)
      clear S54
      clear hv56
      refine ⟨rfl,hK _ _ ?_⟩
      clear hK
      go_wp2_with fail
      rw [HJ38.out]
      have S58 : Hid (St w noB [blk g48 28 [.int .i64 1, .int .i64 0, .int .i64 0, .int .i64 3, .int .i64 1, .int .i64 2, .slice A39 n40 c41],own (.slice A39 n40 c41) 3 1 n40 (ic [5,0,7,0]),own (.slice A24 n25 c26) 3 1 n25 (ic [5,5,5,7]),blk g14 28 [.int .i64 0, .int .i64 0, .int .i64 0, .int .i64 2, .int .i64 1, .int .i64 2, .slice A24 n25 c26],own (.slice A5 n6 c7) 3 1 n6 (ic [5,5,5,5])] V55):=Lib.hid (((((S57.out.front 4 rfl).front 4 rfl).front 4 rfl).front 4 rfl).front 4 rfl)
      clear S57
      exact ⟨g48,A39,n40,c41,_,_,_,_,_,_,_,_,rfl,S58.out⟩
    · skip
      intro W59 hg60
      refine ⟨.pointer (some ⟨W59.heap.size,0,none⟩),W59.alloc (.cells #[.int .i64 0, .int .i64 0, .int .i64 0, .int .i64 0, .int .i64 0, .int .i64 0, .slice none 0 0] 28),by (first | (go_simp;done) | (go_simp <;> rfl)),Gr.al _ _, ?_⟩
      simp only [n1,n3,n4]
      obtain ⟨g61,U62,hg_,hu_,hS_⟩:=(S37.out.gr (Gr.un hg60)).made [.int .i64 0, .int .i64 0, .int .i64 0, .int .i64 0, .int .i64 0, .int .i64 0, .slice none 0 0] 28
      rw [← hu_,← hg_]
      have S63 : Hid (St w noB [blk g61 28 [.int .i64 0, .int .i64 0, .int .i64 0, .int .i64 0, .int .i64 0, .int .i64 0, .slice none 0 0],own (.slice A24 n25 c26) 3 1 n25 (ic [5,5,5,7]),blk g14 28 [.int .i64 0, .int .i64 0, .int .i64 0, .int .i64 2, .int .i64 1, .int .i64 2, .slice A24 n25 c26],own (.slice A5 n6 c7) 3 1 n6 (ic [5,5,5,5])] U62):=Lib.hid hS_
      clear S37
      clear hg_ hu_ hS_ hg60
      refine wpK_call (i:=4) (some 28) 17 #[.agg #[.int .i64 0, .int .i64 0, .int .i64 0, .int .i64 2, .int .i64 1, .int .i64 2, .slice A24 n25 c26], .agg #[.int .i64 1, .int .i64 0, .int .i64 0, .int .i64 3, .int .i64 1, .int .i64 2]] rfl rfl (by kernel_rfl) (by rfl) (fun W=>by go_simp) (fun W67 hg68=>?_)
      refine ((show Calls Tryd.prog 17 #[.agg #[.int .i64 0, .int .i64 0, .int .i64 0, .int .i64 2, .int .i64 1, .int .i64 2, .slice A24 n25 c26], .agg #[.int .i64 1, .int .i64 0, .int .i64 0, .int .i64 3, .int .i64 1, .int .i64 2]] W67 (fun e w'=>∃ A n c,e = .returned (.tuple #[.agg #[.int .i64 1, .int .i64 0, .int .i64 0, .int .i64 3, .int .i64 1, .int .i64 2, .slice A n c], .int .i64 0]) ∧ St W67 noB [own (.slice A n c) 3 1 n (ic [5,0,7,0])] w') from by have h_:=crop_any (⟨0,0,0,2,1,2⟩ : Gm.Bx) _ _ _ [5,5,5,7] (⟨1,0,0,3,1,2⟩ : Gm.Bx) W67 (SL.ofOwn ((S63.out.gr hg68).ownr 1 rfl)) (by constructor <;> decide +kernel : Gm.ok (⟨0,0,0,2,1,2⟩ : Gm.Bx) [5,5,5,7]);rw [show Gm.nB (⟨1,0,0,3,1,2⟩ : Gm.Bx) 0 = (⟨1,0,0,3,1,2⟩ : Gm.Bx) from by decide +kernel,show Gm.nE (⟨1,0,0,3,1,2⟩ : Gm.Bx) 0 = 0 from by decide +kernel,show Gm.nL (⟨1,0,0,3,1,2⟩ : Gm.Bx) 0 = [0,0,0,0] from by decide +kernel,show Gm.paste (⟨1,0,0,3,1,2⟩ : Gm.Bx) [0,0,0,0] (⟨0,0,0,2,1,2⟩ : Gm.Bx) [5,5,5,7] = [5,0,7,0] from by decide +kernel] at h_;exact h_)).mono ?_
      rintro e w69 ⟨A64,n65,c66,rfl,hS_⟩
      refine ⟨_,rfl,hS_.bel, ?_⟩
      have hT_:=(S63.out.gr hg68).got hS_
      simp only [n1,n3,n4]
      have S70 : Hid (St w noB [own (.slice A64 n65 c66) 3 1 n65 (ic [5,0,7,0]),blk g61 28 [.int .i64 0, .int .i64 0, .int .i64 0, .int .i64 0, .int .i64 0, .int .i64 0, .slice none 0 0],own (.slice A24 n25 c26) 3 1 n25 (ic [5,5,5,7]),blk g14 28 [.int .i64 0, .int .i64 0, .int .i64 0, .int .i64 2, .int .i64 1, .int .i64 2, .slice A24 n25 c26],own (.slice A5 n6 c7) 3 1 n6 (ic [5,5,5,5])] w69):=Lib.hid hT_
      clear S63
      clear hT_ hS_ hg68
      refine wpK_ta (i:=5) (some 23) (v:=.tuple #[.agg #[.int .i64 1, .int .i64 0, .int .i64 0, .int .i64 3, .int .i64 1, .int .i64 2, .slice A64 n65 c66], .int .i64 0]) rfl rfl (by kernel_rfl) (fun _ _ _ h=>onN_panic h) (Or.inl ⟨rfl,fun _=>rfl⟩) ?_
      simp only [n1,n3,n4]
      refine wpK_ta (i:=6) (some 29) (v:=.agg #[.int .i64 1, .int .i64 0, .int .i64 0, .int .i64 3, .int .i64 1, .int .i64 2, .slice A64 n65 c66]) rfl rfl (by kernel_rfl) (fun _ _ _ h=>onN_panic h) (Or.inl ⟨by rfl,fun W=>by go_simp⟩) ?_
      simp only [n1,n3,n4]
      refine wpK_ta (i:=7) (some 30) (v:=.int .i64 0) rfl rfl (by kernel_rfl) (fun _ _ _ h=>onN_panic h) (Or.inl ⟨by rfl,fun W=>by go_simp⟩) ?_
      simp only [n1,n3,n4]
      refine wpK_store (i:=9) (none) rfl rfl (by kernel_rfl) (by rfl) (by rfl) (fun W71 hg72=>⟨_,run_store_mid 28 (.tmp 3) (.tmp 29) rfl g61 0 #[.int .i64 1, .int .i64 0, .int .i64 0, .int .i64 3, .int .i64 1, .int .i64 2, .slice A64 n65 c66] rfl rfl ((S70.out.gr hg72).room 1 rfl 0 7 (by simp)) (by kernel_rfl) (by kernel_rfl), ?_⟩)
      simp only [n2]
      obtain ⟨U73,hu_,hS_⟩:=((S70.out.gr hg72).put 1 rfl 0 (#[.int .i64 1, .int .i64 0, .int .i64 0, .int .i64 3, .int .i64 1, .int .i64 2, .slice A64 n65 c66] : Array Value).toList (ds:=[.int .i64 1, .int .i64 0, .int .i64 0, .int .i64 3, .int .i64 1, .int .i64 2, .slice A64 n65 c66]) rfl).named
      rw [← hu_]
      have S74 : Hid (St w noB [own (.slice A64 n65 c66) 3 1 n65 (ic [5,0,7,0]),blk g61 28 [.int .i64 1, .int .i64 0, .int .i64 0, .int .i64 3, .int .i64 1, .int .i64 2, .slice A64 n65 c66],own (.slice A24 n25 c26) 3 1 n25 (ic [5,5,5,7]),blk g14 28 [.int .i64 0, .int .i64 0, .int .i64 0, .int .i64 2, .int .i64 1, .int .i64 2, .slice A24 n25 c26],own (.slice A5 n6 c7) 3 1 n6 (ic [5,5,5,5])] U73):=Lib.hid hS_
      clear S70
      clear hu_ hS_ hg72
      refine wpK_ta (i:=10) (some 4) (v:=.int .i64 0) rfl rfl (by kernel_rfl) (fun _ _ _ h=>onN_panic h) (Or.inl ⟨rfl,fun _=>rfl⟩) ?_
      simp only [n1,n3,n4]
      refine wpK_done (by kernel_rfl) (fun V75 hv76=>?_) _
      have S77 : Hid (St w noB [own (.slice A64 n65 c66) 3 1 n65 (ic [5,0,7,0]),blk g61 28 [.int .i64 1, .int .i64 0, .int .i64 0, .int .i64 3, .int .i64 1, .int .i64 2, .slice A64 n65 c66],own (.slice A24 n25 c26) 3 1 n25 (ic [5,5,5,7]),blk g14 28 [.int .i64 0, .int .i64 0, .int .i64 0, .int .i64 2, .int .i64 1, .int .i64 2, .slice A24 n25 c26],own (.slice A5 n6 c7) 3 1 n6 (ic [5,5,5,5])] V75):=Lib.hid (S74.out.gr hv76)
      clear S74
      clear hv76
      refine ⟨rfl,hK _ _ ?_⟩
      clear hK
      go_wp2_with fail
      rw [HJ38.out]
      have S78 : Hid (St w noB [blk g61 28 [.int .i64 1, .int .i64 0, .int .i64 0, .int .i64 3, .int .i64 1, .int .i64 2, .slice A64 n65 c66],own (.slice A64 n65 c66) 3 1 n65 (ic [5,0,7,0]),own (.slice A24 n25 c26) 3 1 n25 (ic [5,5,5,7]),blk g14 28 [.int .i64 0, .int .i64 0, .int .i64 0, .int .i64 2, .int .i64 1, .int .i64 2, .slice A24 n25 c26],own (.slice A5 n6 c7) 3 1 n6 (ic [5,5,5,5])] V75):=Lib.hid (((((S77.out.front 4 rfl).front 4 rfl).front 4 rfl).front 3 rfl).front 4 rfl)
      clear S77
      exact ⟨g61,A64,n65,c66,_,_,_,_,_,_,_,_,rfl,S78.out⟩
  · intro a_ w_ hj_
    rw [HJ38.out] at hj_
    clear HJ38
    obtain ⟨g3j,Aj,nj,cj,u23,u24,u25,u26,u27,u28,u29,u30,rfl,hS_⟩:=hj_
    have S79 : Hid (St w noB [blk g3j 28 [.int .i64 1, .int .i64 0, .int .i64 0, .int .i64 3, .int .i64 1, .int .i64 2, .slice Aj nj cj],own (.slice Aj nj cj) 3 1 nj (ic [5,0,7,0]),own (.slice A24 n25 c26) 3 1 n25 (ic [5,5,5,7]),blk g14 28 [.int .i64 0, .int .i64 0, .int .i64 0, .int .i64 2, .int .i64 1, .int .i64 2, .slice A24 n25 c26],own (.slice A5 n6 c7) 3 1 n6 (ic [5,5,5,5])] w_):=Lib.hid hS_
    clear S37
    clear hS_
    go_upto_region 4 with fail
    refine wpK_region_k (by kernel_rfl) (fun K hK=>?_)
    refine wpK_tk (i:=0) (some 31) (v:=.agg #[.int .i64 0, .int .i64 0, .int .i64 0, .int .i64 2, .int .i64 1, .int .i64 2, .slice A24 n25 c26]) rfl rfl (by kernel_rfl) (fun _ _ _ h=>onN_panic h) (.load_mid (by rfl) 28 (.tmp 1) rfl g14 0 rfl [.int .i64 0, .int .i64 0, .int .i64 0, .int .i64 2, .int .i64 1, .int .i64 2, .slice A24 n25 c26] _ (fun W hg=>(S79.out.gr (Gr.un hg)).range 3 rfl 0 7 rfl) Tryd.underlying28 rfl (by kernel_rfl)) ?_
    simp only [n1,n3,n4]
    refine wpK_tk (i:=1) (some 32) (v:=.agg #[.int .i64 0, .int .i64 0, .int .i64 0, .int .i64 2, .int .i64 1, .int .i64 2, .slice A24 n25 c26]) rfl rfl (by kernel_rfl) (fun _ _ _ h=>onN_panic h) (.load_mid (by rfl) 28 (.tmp 1) rfl g14 0 rfl [.int .i64 0, .int .i64 0, .int .i64 0, .int .i64 2, .int .i64 1, .int .i64 2, .slice A24 n25 c26] _ (fun W hg=>(S79.out.gr (Gr.un hg)).range 3 rfl 0 7 rfl) Tryd.underlying28 rfl (by kernel_rfl)) ?_
    simp only [n1,n3,n4]
    refine wpK_tk (i:=2) (some 33) (v:=.agg #[.int .i64 0, .int .i64 0, .int .i64 1]) rfl rfl (by kernel_rfl) (fun _ _ _ h=>onN_panic h) (.call (f:=41) (args:=#[.int .i64 0, .int .i64 0, .int .i64 1]) (by rfl) (fun W=>by go_simp) (fun W hg=>lat_any 0 0 1 W)) ?_
    simp only [n1,n3,n4]
    refine wpK_tk (i:=3) (some 34) (v:=.agg #[.int .i64 9, .int .i64 9, .int .i64 9]) rfl rfl (by kernel_rfl) (fun _ _ _ h=>onN_panic h) (.call (f:=41) (args:=#[.int .i64 9, .int .i64 9, .int .i64 9]) (by rfl) (fun W=>by go_simp) (fun W hg=>lat_any 9 9 9 W)) ?_
    simp only [n1,n3,n4]
    refine wpK_tk (i:=4) (some 35) (v:=.agg #[.int .i64 0, .int .i64 0, .int .i64 1, .int .i64 9, .int .i64 9, .int .i64 9]) rfl rfl (by kernel_rfl) (fun _ _ _ h=>onN_panic h) (.call (f:=40) (args:=#[.agg #[.int .i64 0, .int .i64 0, .int .i64 1], .agg #[.int .i64 9, .int .i64 9, .int .i64 9]]) (by rfl) (fun W=>by go_simp) (fun W hg=>lbox_any 0 0 1 9 9 9 W)) ?_
    simp only [n1,n3,n4]
    refine wpK_call (i:=5) (some 36) 42 #[.agg #[.int .i64 0, .int .i64 0, .int .i64 0, .int .i64 2, .int .i64 1, .int .i64 2, .slice A24 n25 c26], .agg #[.int .i64 0, .int .i64 0, .int .i64 1, .int .i64 9, .int .i64 9, .int .i64 9], .int .i64 6] rfl rfl (by kernel_rfl) (by rfl) (fun W=>by go_simp) (fun W84 hg85=>?_)
    refine ((show Calls Tryd.prog 42 #[.agg #[.int .i64 0, .int .i64 0, .int .i64 0, .int .i64 2, .int .i64 1, .int .i64 2, .slice A24 n25 c26], .agg #[.int .i64 0, .int .i64 0, .int .i64 1, .int .i64 9, .int .i64 9, .int .i64 9], .int .i64 6] W84 (fun e w'=>∃ A n c,e = .returned (.agg #[.int .i64 0, .int .i64 0, .int .i64 0, .int .i64 2, .int .i64 1, .int .i64 2, .slice A n c]) ∧ St W84 noB [own (.slice A n c) 3 1 n (ic [5,5,6,6])] w') from by have h_:=fill_any (⟨0,0,0,2,1,2⟩ : Gm.Bx) _ _ _ [5,5,5,7] (⟨0,0,1,9,9,9⟩ : Gm.Bx) 6 W84 (SL.ofOwn ((S79.out.gr (Gr.un hg85)).ownr 2 rfl)) (by constructor <;> decide +kernel : Gm.ok (⟨0,0,0,2,1,2⟩ : Gm.Bx) [5,5,5,7]) (by decide);rw [show Gm.fill (⟨0,0,0,2,1,2⟩ : Gm.Bx) [5,5,5,7] (⟨0,0,1,9,9,9⟩ : Gm.Bx) 6 = [5,5,6,6] from by decide +kernel] at h_;exact h_)).mono ?_
    rintro e w86 ⟨A81,n82,c83,rfl,hS_⟩
    refine ⟨_,rfl,hS_.bel, ?_⟩
    have hT_:=(S79.out.gr (Gr.un hg85)).got hS_
    simp only [n1,n3,n4]
    have S87 : Hid (St w noB [own (.slice A81 n82 c83) 3 1 n82 (ic [5,5,6,6]),blk g3j 28 [.int .i64 1, .int .i64 0, .int .i64 0, .int .i64 3, .int .i64 1, .int .i64 2, .slice Aj nj cj],own (.slice Aj nj cj) 3 1 nj (ic [5,0,7,0]),own (.slice A24 n25 c26) 3 1 n25 (ic [5,5,5,7]),blk g14 28 [.int .i64 0, .int .i64 0, .int .i64 0, .int .i64 2, .int .i64 1, .int .i64 2, .slice A24 n25 c26],own (.slice A5 n6 c7) 3 1 n6 (ic [5,5,5,5])] w86):=Lib.hid hT_
    clear S79
    clear hT_ hS_ hg85
    refine wpK_call (i:=6) (some 37) 25 #[.agg #[.int .i64 0, .int .i64 0, .int .i64 0, .int .i64 2, .int .i64 1, .int .i64 2, .slice A24 n25 c26], .agg #[.int .i64 0, .int .i64 0, .int .i64 0, .int .i64 2, .int .i64 1, .int .i64 2, .slice A81 n82 c83]] rfl rfl (by kernel_rfl) (by rfl) (fun W=>by go_simp) (fun W91 hg92=>?_)
    refine ((show Calls Tryd.prog 25 #[.agg #[.int .i64 0, .int .i64 0, .int .i64 0, .int .i64 2, .int .i64 1, .int .i64 2, .slice A24 n25 c26], .agg #[.int .i64 0, .int .i64 0, .int .i64 0, .int .i64 2, .int .i64 1, .int .i64 2, .slice A81 n82 c83]] W91 (fun e w'=>∃ A n c,e = .returned (.slice A n c) ∧ St W91 noB [own (.slice A n c) 74 5 n (ccs [⟨0,0,1,5,6⟩,⟨1,0,1,7,6⟩])] w') from by have h_:=diff_any (⟨0,0,0,2,1,2⟩ : Gm.Bx) _ _ _ [5,5,5,7] (⟨0,0,0,2,1,2⟩ : Gm.Bx) _ _ _ [5,5,6,6] W91 (SL.ofOwn ((S87.out.gr hg92).ownr 3 rfl)) (SL.ofOwn ((S87.out.gr hg92).ownr 0 rfl)) (by constructor <;> decide +kernel : Gm.ok (⟨0,0,0,2,1,2⟩ : Gm.Bx) [5,5,5,7]) (by constructor <;> decide +kernel : Gm.ok (⟨0,0,0,2,1,2⟩ : Gm.Bx) [5,5,6,6]);rw [show Gm.dif (⟨0,0,0,2,1,2⟩ : Gm.Bx) [5,5,5,7] (⟨0,0,0,2,1,2⟩ : Gm.Bx) [5,5,6,6] ([5,5,5,7] : List Int).length = [⟨0,0,1,5,6⟩,⟨1,0,1,7,6⟩] from by decide +kernel] at h_;exact h_)).mono ?_
    rintro e w93 ⟨A88,n89,c90,rfl,hS_⟩
    refine ⟨_,rfl,hS_.bel, ?_⟩
    have hT_:=(S87.out.gr hg92).got hS_
    simp only [n1,n3,n4]
    have S94 : Hid (St w noB [own (.slice A88 n89 c90) 74 5 n89 (ccs ([⟨0,0,1,5,6⟩,⟨1,0,1,7,6⟩] : List Gm.Ch)),own (.slice A81 n82 c83) 3 1 n82 (ic [5,5,6,6]),blk g3j 28 [.int .i64 1, .int .i64 0, .int .i64 0, .int .i64 3, .int .i64 1, .int .i64 2, .slice Aj nj cj],own (.slice Aj nj cj) 3 1 nj (ic [5,0,7,0]),own (.slice A24 n25 c26) 3 1 n25 (ic [5,5,5,7]),blk g14 28 [.int .i64 0, .int .i64 0, .int .i64 0, .int .i64 2, .int .i64 1, .int .i64 2, .slice A24 n25 c26],own (.slice A5 n6 c7) 3 1 n6 (ic [5,5,5,5])] w93):=Lib.hid hT_
    clear S87
    clear hT_ hS_ hg92
    refine wpK_ta (i:=7) (some 5) (v:=.slice A88 n89 c90) rfl rfl (by kernel_rfl) (fun _ _ _ h=>onN_panic h) (Or.inl ⟨rfl,fun _=>rfl⟩) ?_
    simp only [n1,n3,n4]
    refine wpK_done (by kernel_rfl) (fun V95 hv96=>?_) _
    have S97 : Hid (St w noB [own (.slice A88 n89 c90) 74 5 n89 (ccs ([⟨0,0,1,5,6⟩,⟨1,0,1,7,6⟩] : List Gm.Ch)),own (.slice A81 n82 c83) 3 1 n82 (ic [5,5,6,6]),blk g3j 28 [.int .i64 1, .int .i64 0, .int .i64 0, .int .i64 3, .int .i64 1, .int .i64 2, .slice Aj nj cj],own (.slice Aj nj cj) 3 1 nj (ic [5,0,7,0]),own (.slice A24 n25 c26) 3 1 n25 (ic [5,5,5,7]),blk g14 28 [.int .i64 0, .int .i64 0, .int .i64 0, .int .i64 2, .int .i64 1, .int .i64 2, .slice A24 n25 c26],own (.slice A5 n6 c7) 3 1 n6 (ic [5,5,5,5])] V95):=Lib.hid (S94.out.gr hv96)
    clear S94
    clear hv96
    refine ⟨rfl,hK _ _ ?_⟩
    clear hK
    go_upto_region 5 with fail
    refine wpG_region_k (fun K hK=>?_)
    refine @wpG_tk _ _ _ _ _ (some 39) (.agg #[.int .i64 0, .int .i64 0, .int .i64 0, .int .i64 200, .int .i64 200, .int .i64 200]) _ _ rfl (.call (f:=43) (args:=#[.int .i64 200]) (by rfl) (fun W=>by go_simp) (fun W hg=>rcube_any 200 W)) ?_
    simp only [n1,n3,n4]
    refine wpG_call (some 40) 14 #[.agg #[.int .i64 0, .int .i64 0, .int .i64 0, .int .i64 200, .int .i64 200, .int .i64 200], .int .i64 0] rfl (by rfl) (fun W=>by go_simp) (fun W101 hg102=>?_)
    refine ((show Calls Tryd.prog 14 #[.agg #[.int .i64 0, .int .i64 0, .int .i64 0, .int .i64 200, .int .i64 200, .int .i64 200], .int .i64 0] W101 (fun e w'=>∃ A n c,e = .returned (.tuple #[.agg #[.int .i64 0, .int .i64 0, .int .i64 0, .int .i64 0, .int .i64 0, .int .i64 0, .slice A n c], .int .i64 2]) ∧ St W101 noB [own (.slice A n c) 3 1 n (ic [])] w') from by have h_:=new_any (⟨0,0,0,200,200,200⟩ : Gm.Bx) 0 W101;rw [show Gm.nB (⟨0,0,0,200,200,200⟩ : Gm.Bx) 0 = (⟨0,0,0,0,0,0⟩ : Gm.Bx) from by decide +kernel,show Gm.nE (⟨0,0,0,200,200,200⟩ : Gm.Bx) 0 = 2 from by decide +kernel,show Gm.nL (⟨0,0,0,200,200,200⟩ : Gm.Bx) 0 = [] from by decide +kernel] at h_;exact h_)).mono ?_
    rintro e w103 ⟨A98,n99,c100,rfl,hS_⟩
    refine ⟨_,rfl, ?_⟩
    have hT_:=(S97.out.gr hg102).got hS_
    simp only [n1,n3,n4]
    have S104 : Hid (St w noB [own (.slice A98 n99 c100) 3 1 n99 (ic []),own (.slice A88 n89 c90) 74 5 n89 (ccs ([⟨0,0,1,5,6⟩,⟨1,0,1,7,6⟩] : List Gm.Ch)),own (.slice A81 n82 c83) 3 1 n82 (ic [5,5,6,6]),blk g3j 28 [.int .i64 1, .int .i64 0, .int .i64 0, .int .i64 3, .int .i64 1, .int .i64 2, .slice Aj nj cj],own (.slice Aj nj cj) 3 1 nj (ic [5,0,7,0]),own (.slice A24 n25 c26) 3 1 n25 (ic [5,5,5,7]),blk g14 28 [.int .i64 0, .int .i64 0, .int .i64 0, .int .i64 2, .int .i64 1, .int .i64 2, .slice A24 n25 c26],own (.slice A5 n6 c7) 3 1 n6 (ic [5,5,5,5])] w103):=Lib.hid hT_
    clear S97
    clear hT_ hS_ hg102
    refine @wpG_p _ _ _ _ _ (some 38) (.tuple #[.agg #[.int .i64 0, .int .i64 0, .int .i64 0, .int .i64 0, .int .i64 0, .int .i64 0, .slice A98 n99 c100], .int .i64 2]) _ _ rfl (by rfl) (fun _=>rfl) ?_
    simp only [n1,n3,n4]
    refine @wpG_p _ _ _ _ _ (some 41) (.agg #[.int .i64 0, .int .i64 0, .int .i64 0, .int .i64 0, .int .i64 0, .int .i64 0, .slice A98 n99 c100]) _ _ rfl (by rfl) (fun W=>by go_simp) ?_
    simp only [n1,n3,n4]
    refine @wpG_p _ _ _ _ _ (some 42) (.int .i64 2) _ _ rfl (by rfl) (fun W=>by go_simp) ?_
    simp only [n1,n3,n4]
    refine wpG_val (some 6) rfl (by rfl) (fun W105 hg106=>⟨.pointer (some ⟨W105.heap.size,0,none⟩),W105.alloc (.cells #[.int .i64 0, .int .i64 0, .int .i64 0, .int .i64 0, .int .i64 0, .int .i64 0, .slice none 0 0] 28),by (first | (go_simp;done) | (go_simp <;> rfl)), ?_⟩)
    simp only [n1,n3,n4]
    obtain ⟨g107,U108,hg_,hu_,hS_⟩:=(S104.out.gr hg106).made [.int .i64 0, .int .i64 0, .int .i64 0, .int .i64 0, .int .i64 0, .int .i64 0, .slice none 0 0] 28
    rw [← hu_,← hg_]
    have S109 : Hid (St w noB [blk g107 28 [.int .i64 0, .int .i64 0, .int .i64 0, .int .i64 0, .int .i64 0, .int .i64 0, .slice none 0 0],own (.slice A98 n99 c100) 3 1 n99 (ic []),own (.slice A88 n89 c90) 74 5 n89 (ccs ([⟨0,0,1,5,6⟩,⟨1,0,1,7,6⟩] : List Gm.Ch)),own (.slice A81 n82 c83) 3 1 n82 (ic [5,5,6,6]),blk g3j 28 [.int .i64 1, .int .i64 0, .int .i64 0, .int .i64 3, .int .i64 1, .int .i64 2, .slice Aj nj cj],own (.slice Aj nj cj) 3 1 nj (ic [5,0,7,0]),own (.slice A24 n25 c26) 3 1 n25 (ic [5,5,5,7]),blk g14 28 [.int .i64 0, .int .i64 0, .int .i64 0, .int .i64 2, .int .i64 1, .int .i64 2, .slice A24 n25 c26],own (.slice A5 n6 c7) 3 1 n6 (ic [5,5,5,5])] U108):=Lib.hid hS_
    clear S104
    clear hg_ hu_ hS_ hg106
    refine wpG_store (none) rfl (by rfl) (fun W110 hg111=>⟨_,run_store_mid 28 (.tmp 6) (.tmp 41) rfl g107 0 #[.int .i64 0, .int .i64 0, .int .i64 0, .int .i64 0, .int .i64 0, .int .i64 0, .slice A98 n99 c100] rfl rfl ((S109.out.gr hg111).room 0 rfl 0 7 (by simp)) (by kernel_rfl) (by kernel_rfl), ?_⟩)
    simp only [n2]
    obtain ⟨U112,hu_,hS_⟩:=((S109.out.gr hg111).put 0 rfl 0 (#[.int .i64 0, .int .i64 0, .int .i64 0, .int .i64 0, .int .i64 0, .int .i64 0, .slice A98 n99 c100] : Array Value).toList (ds:=[.int .i64 0, .int .i64 0, .int .i64 0, .int .i64 0, .int .i64 0, .int .i64 0, .slice A98 n99 c100]) rfl).named
    rw [← hu_]
    have S113 : Hid (St w noB [blk g107 28 [.int .i64 0, .int .i64 0, .int .i64 0, .int .i64 0, .int .i64 0, .int .i64 0, .slice A98 n99 c100],own (.slice A98 n99 c100) 3 1 n99 (ic []),own (.slice A88 n89 c90) 74 5 n89 (ccs ([⟨0,0,1,5,6⟩,⟨1,0,1,7,6⟩] : List Gm.Ch)),own (.slice A81 n82 c83) 3 1 n82 (ic [5,5,6,6]),blk g3j 28 [.int .i64 1, .int .i64 0, .int .i64 0, .int .i64 3, .int .i64 1, .int .i64 2, .slice Aj nj cj],own (.slice Aj nj cj) 3 1 nj (ic [5,0,7,0]),own (.slice A24 n25 c26) 3 1 n25 (ic [5,5,5,7]),blk g14 28 [.int .i64 0, .int .i64 0, .int .i64 0, .int .i64 2, .int .i64 1, .int .i64 2, .slice A24 n25 c26],own (.slice A5 n6 c7) 3 1 n6 (ic [5,5,5,5])] U112):=Lib.hid hS_
    clear S109
    clear hu_ hS_ hg111
    refine @wpG_p _ _ _ _ _ (some 7) (.int .i64 2) _ _ rfl (by rfl) (fun _=>rfl) ?_
    simp only [n1,n3,n4]
    refine wpG_done (fun V114 hv115=>?_)
    have S116 : Hid (St w noB [blk g107 28 [.int .i64 0, .int .i64 0, .int .i64 0, .int .i64 0, .int .i64 0, .int .i64 0, .slice A98 n99 c100],own (.slice A98 n99 c100) 3 1 n99 (ic []),own (.slice A88 n89 c90) 74 5 n89 (ccs ([⟨0,0,1,5,6⟩,⟨1,0,1,7,6⟩] : List Gm.Ch)),own (.slice A81 n82 c83) 3 1 n82 (ic [5,5,6,6]),blk g3j 28 [.int .i64 1, .int .i64 0, .int .i64 0, .int .i64 3, .int .i64 1, .int .i64 2, .slice Aj nj cj],own (.slice Aj nj cj) 3 1 nj (ic [5,0,7,0]),own (.slice A24 n25 c26) 3 1 n25 (ic [5,5,5,7]),blk g14 28 [.int .i64 0, .int .i64 0, .int .i64 0, .int .i64 2, .int .i64 1, .int .i64 2, .slice A24 n25 c26],own (.slice A5 n6 c7) 3 1 n6 (ic [5,5,5,5])] V114):=Lib.hid (S113.out.gr hv115)
    clear S113
    clear hv115
    refine ⟨rfl,hK _ _ ?_⟩
    clear hK
    go_upto_region 6 with fail
    refine wpG_region_k (fun K hK=>?_)
    refine @wpG_tk _ _ _ _ _ (some 44) (.agg #[.int .i64 0, .int .i64 0, .int .i64 0, .int .i64 1, .int .i64 1, .int .i64 1]) _ _ rfl (.call (f:=43) (args:=#[.int .i64 1]) (by rfl) (fun W=>by go_simp) (fun W hg=>rcube_any 1 W)) ?_
    simp only [n1,n3,n4]
    refine wpG_call (some 45) 14 #[.agg #[.int .i64 0, .int .i64 0, .int .i64 0, .int .i64 1, .int .i64 1, .int .i64 1], .int .i64 256] rfl (by rfl) (fun W=>by go_simp) (fun W120 hg121=>?_)
    refine ((show Calls Tryd.prog 14 #[.agg #[.int .i64 0, .int .i64 0, .int .i64 0, .int .i64 1, .int .i64 1, .int .i64 1], .int .i64 256] W120 (fun e w'=>∃ A n c,e = .returned (.tuple #[.agg #[.int .i64 0, .int .i64 0, .int .i64 0, .int .i64 0, .int .i64 0, .int .i64 0, .slice A n c], .int .i64 1]) ∧ St W120 noB [own (.slice A n c) 3 1 n (ic [])] w') from by have h_:=new_any (⟨0,0,0,1,1,1⟩ : Gm.Bx) 256 W120;rw [show Gm.nB (⟨0,0,0,1,1,1⟩ : Gm.Bx) 256 = (⟨0,0,0,0,0,0⟩ : Gm.Bx) from by decide +kernel,show Gm.nE (⟨0,0,0,1,1,1⟩ : Gm.Bx) 256 = 1 from by decide +kernel,show Gm.nL (⟨0,0,0,1,1,1⟩ : Gm.Bx) 256 = [] from by decide +kernel] at h_;exact h_)).mono ?_
    rintro e w122 ⟨A117,n118,c119,rfl,hS_⟩
    refine ⟨_,rfl, ?_⟩
    have hT_:=(S116.out.gr hg121).got hS_
    simp only [n1,n3,n4]
    have S123 : Hid (St w noB [own (.slice A117 n118 c119) 3 1 n118 (ic []),blk g107 28 [.int .i64 0, .int .i64 0, .int .i64 0, .int .i64 0, .int .i64 0, .int .i64 0, .slice A98 n99 c100],own (.slice A98 n99 c100) 3 1 n99 (ic []),own (.slice A88 n89 c90) 74 5 n89 (ccs ([⟨0,0,1,5,6⟩,⟨1,0,1,7,6⟩] : List Gm.Ch)),own (.slice A81 n82 c83) 3 1 n82 (ic [5,5,6,6]),blk g3j 28 [.int .i64 1, .int .i64 0, .int .i64 0, .int .i64 3, .int .i64 1, .int .i64 2, .slice Aj nj cj],own (.slice Aj nj cj) 3 1 nj (ic [5,0,7,0]),own (.slice A24 n25 c26) 3 1 n25 (ic [5,5,5,7]),blk g14 28 [.int .i64 0, .int .i64 0, .int .i64 0, .int .i64 2, .int .i64 1, .int .i64 2, .slice A24 n25 c26],own (.slice A5 n6 c7) 3 1 n6 (ic [5,5,5,5])] w122):=Lib.hid hT_
    clear S116
    clear hT_ hS_ hg121
    refine @wpG_p _ _ _ _ _ (some 43) (.tuple #[.agg #[.int .i64 0, .int .i64 0, .int .i64 0, .int .i64 0, .int .i64 0, .int .i64 0, .slice A117 n118 c119], .int .i64 1]) _ _ rfl (by rfl) (fun _=>rfl) ?_
    simp only [n1,n3,n4]
    refine @wpG_p _ _ _ _ _ (some 46) (.agg #[.int .i64 0, .int .i64 0, .int .i64 0, .int .i64 0, .int .i64 0, .int .i64 0, .slice A117 n118 c119]) _ _ rfl (by rfl) (fun W=>by go_simp) ?_
    simp only [n1,n3,n4]
    refine @wpG_p _ _ _ _ _ (some 47) (.int .i64 1) _ _ rfl (by rfl) (fun W=>by go_simp) ?_
    simp only [n1,n3,n4]
    refine wpG_val (some 8) rfl (by rfl) (fun W124 hg125=>⟨.pointer (some ⟨W124.heap.size,0,none⟩),W124.alloc (.cells #[.int .i64 0, .int .i64 0, .int .i64 0, .int .i64 0, .int .i64 0, .int .i64 0, .slice none 0 0] 28),by (first | (go_simp;done) | (go_simp <;> rfl)), ?_⟩)
    simp only [n1,n3,n4]
    obtain ⟨g126,U127,hg_,hu_,hS_⟩:=(S123.out.gr hg125).made [.int .i64 0, .int .i64 0, .int .i64 0, .int .i64 0, .int .i64 0, .int .i64 0, .slice none 0 0] 28
    rw [← hu_,← hg_]
    have S128 : Hid (St w noB [blk g126 28 [.int .i64 0, .int .i64 0, .int .i64 0, .int .i64 0, .int .i64 0, .int .i64 0, .slice none 0 0],own (.slice A117 n118 c119) 3 1 n118 (ic []),blk g107 28 [.int .i64 0, .int .i64 0, .int .i64 0, .int .i64 0, .int .i64 0, .int .i64 0, .slice A98 n99 c100],own (.slice A98 n99 c100) 3 1 n99 (ic []),own (.slice A88 n89 c90) 74 5 n89 (ccs ([⟨0,0,1,5,6⟩,⟨1,0,1,7,6⟩] : List Gm.Ch)),own (.slice A81 n82 c83) 3 1 n82 (ic [5,5,6,6]),blk g3j 28 [.int .i64 1, .int .i64 0, .int .i64 0, .int .i64 3, .int .i64 1, .int .i64 2, .slice Aj nj cj],own (.slice Aj nj cj) 3 1 nj (ic [5,0,7,0]),own (.slice A24 n25 c26) 3 1 n25 (ic [5,5,5,7]),blk g14 28 [.int .i64 0, .int .i64 0, .int .i64 0, .int .i64 2, .int .i64 1, .int .i64 2, .slice A24 n25 c26],own (.slice A5 n6 c7) 3 1 n6 (ic [5,5,5,5])] U127):=Lib.hid hS_
    clear S123
    clear hg_ hu_ hS_ hg125
    refine wpG_store (none) rfl (by rfl) (fun W129 hg130=>⟨_,run_store_mid 28 (.tmp 8) (.tmp 46) rfl g126 0 #[.int .i64 0, .int .i64 0, .int .i64 0, .int .i64 0, .int .i64 0, .int .i64 0, .slice A117 n118 c119] rfl rfl ((S128.out.gr hg130).room 0 rfl 0 7 (by simp)) (by kernel_rfl) (by kernel_rfl), ?_⟩)
    simp only [n2]
    obtain ⟨U131,hu_,hS_⟩:=((S128.out.gr hg130).put 0 rfl 0 (#[.int .i64 0, .int .i64 0, .int .i64 0, .int .i64 0, .int .i64 0, .int .i64 0, .slice A117 n118 c119] : Array Value).toList (ds:=[.int .i64 0, .int .i64 0, .int .i64 0, .int .i64 0, .int .i64 0, .int .i64 0, .slice A117 n118 c119]) rfl).named
    rw [← hu_]
    have S132 : Hid (St w noB [blk g126 28 [.int .i64 0, .int .i64 0, .int .i64 0, .int .i64 0, .int .i64 0, .int .i64 0, .slice A117 n118 c119],own (.slice A117 n118 c119) 3 1 n118 (ic []),blk g107 28 [.int .i64 0, .int .i64 0, .int .i64 0, .int .i64 0, .int .i64 0, .int .i64 0, .slice A98 n99 c100],own (.slice A98 n99 c100) 3 1 n99 (ic []),own (.slice A88 n89 c90) 74 5 n89 (ccs ([⟨0,0,1,5,6⟩,⟨1,0,1,7,6⟩] : List Gm.Ch)),own (.slice A81 n82 c83) 3 1 n82 (ic [5,5,6,6]),blk g3j 28 [.int .i64 1, .int .i64 0, .int .i64 0, .int .i64 3, .int .i64 1, .int .i64 2, .slice Aj nj cj],own (.slice Aj nj cj) 3 1 nj (ic [5,0,7,0]),own (.slice A24 n25 c26) 3 1 n25 (ic [5,5,5,7]),blk g14 28 [.int .i64 0, .int .i64 0, .int .i64 0, .int .i64 2, .int .i64 1, .int .i64 2, .slice A24 n25 c26],own (.slice A5 n6 c7) 3 1 n6 (ic [5,5,5,5])] U131):=Lib.hid hS_
    clear S128
    clear hu_ hS_ hg130
    refine @wpG_p _ _ _ _ _ (some 9) (.int .i64 1) _ _ rfl (by rfl) (fun _=>rfl) ?_
    simp only [n1,n3,n4]
    refine wpG_done (fun V133 hv134=>?_)
    have S135 : Hid (St w noB [blk g126 28 [.int .i64 0, .int .i64 0, .int .i64 0, .int .i64 0, .int .i64 0, .int .i64 0, .slice A117 n118 c119],own (.slice A117 n118 c119) 3 1 n118 (ic []),blk g107 28 [.int .i64 0, .int .i64 0, .int .i64 0, .int .i64 0, .int .i64 0, .int .i64 0, .slice A98 n99 c100],own (.slice A98 n99 c100) 3 1 n99 (ic []),own (.slice A88 n89 c90) 74 5 n89 (ccs ([⟨0,0,1,5,6⟩,⟨1,0,1,7,6⟩] : List Gm.Ch)),own (.slice A81 n82 c83) 3 1 n82 (ic [5,5,6,6]),blk g3j 28 [.int .i64 1, .int .i64 0, .int .i64 0, .int .i64 3, .int .i64 1, .int .i64 2, .slice Aj nj cj],own (.slice Aj nj cj) 3 1 nj (ic [5,0,7,0]),own (.slice A24 n25 c26) 3 1 n25 (ic [5,5,5,7]),blk g14 28 [.int .i64 0, .int .i64 0, .int .i64 0, .int .i64 2, .int .i64 1, .int .i64 2, .slice A24 n25 c26],own (.slice A5 n6 c7) 3 1 n6 (ic [5,5,5,5])] V133):=Lib.hid (S132.out.gr hv134)
    clear S132
    clear hv134
    refine ⟨rfl,hK _ _ ?_⟩
    clear hK
    go_upto_region 7 with fail
    refine wpG_region_k (fun K hK=>?_)
    refine @wpG_tk _ _ _ _ _ (some 48) (.agg #[.int .i64 0, .int .i64 0, .int .i64 0, .int .i64 2, .int .i64 1, .int .i64 2, .slice A24 n25 c26]) _ _ rfl (.load_mid (by rfl) 28 (.tmp 1) rfl g14 0 rfl [.int .i64 0, .int .i64 0, .int .i64 0, .int .i64 2, .int .i64 1, .int .i64 2, .slice A24 n25 c26] _ (fun W hg=>(S135.out.gr hg).range 9 rfl 0 7 rfl) Tryd.underlying28 rfl (by kernel_rfl)) ?_
    simp only [n1,n3,n4]
    refine wpG_call (some 49) 28 #[.int .i64 1, .agg #[.int .i64 0, .int .i64 0, .int .i64 0, .int .i64 2, .int .i64 1, .int .i64 2, .slice A24 n25 c26]] rfl (by rfl) (fun W=>by go_simp) (fun W139 hg140=>?_)
    refine ((show Calls Tryd.prog 28 #[.int .i64 1, .agg #[.int .i64 0, .int .i64 0, .int .i64 0, .int .i64 2, .int .i64 1, .int .i64 2, .slice A24 n25 c26]] W139 (fun e w'=>∃ A n c,e = .returned (.agg #[.int .i64 (-2), .int .i64 0, .int .i64 0, .int .i64 0, .int .i64 1, .int .i64 2, .slice A n c]) ∧ St W139 noB [own (.slice A n c) 3 1 n (ic [5,5,7,5])] w') from by have h_:=turng_any 1 (⟨0,0,0,2,1,2⟩ : Gm.Bx) _ _ _ [5,5,5,7] W139 (SL.ofOwn ((S135.out.gr hg140).ownr 8 rfl)) (by constructor <;> decide +kernel : Gm.ok (⟨0,0,0,2,1,2⟩ : Gm.Bx) [5,5,5,7]) (HTB.out.below (S135.out.gr hg140).bel);rw [show Gm.tB 1 (⟨0,0,0,2,1,2⟩ : Gm.Bx) = (⟨-2,0,0,0,1,2⟩ : Gm.Bx) from by decide +kernel,show Gm.turn 1 (⟨0,0,0,2,1,2⟩ : Gm.Bx) [5,5,5,7] = [5,5,7,5] from by decide +kernel] at h_;exact h_)).mono ?_
    rintro e w141 ⟨A136,n137,c138,rfl,hS_⟩
    refine ⟨_,rfl, ?_⟩
    have hT_:=(S135.out.gr hg140).got hS_
    simp only [n1,n3,n4]
    have S142 : Hid (St w noB [own (.slice A136 n137 c138) 3 1 n137 (ic [5,5,7,5]),blk g126 28 [.int .i64 0, .int .i64 0, .int .i64 0, .int .i64 0, .int .i64 0, .int .i64 0, .slice A117 n118 c119],own (.slice A117 n118 c119) 3 1 n118 (ic []),blk g107 28 [.int .i64 0, .int .i64 0, .int .i64 0, .int .i64 0, .int .i64 0, .int .i64 0, .slice A98 n99 c100],own (.slice A98 n99 c100) 3 1 n99 (ic []),own (.slice A88 n89 c90) 74 5 n89 (ccs ([⟨0,0,1,5,6⟩,⟨1,0,1,7,6⟩] : List Gm.Ch)),own (.slice A81 n82 c83) 3 1 n82 (ic [5,5,6,6]),blk g3j 28 [.int .i64 1, .int .i64 0, .int .i64 0, .int .i64 3, .int .i64 1, .int .i64 2, .slice Aj nj cj],own (.slice Aj nj cj) 3 1 nj (ic [5,0,7,0]),own (.slice A24 n25 c26) 3 1 n25 (ic [5,5,5,7]),blk g14 28 [.int .i64 0, .int .i64 0, .int .i64 0, .int .i64 2, .int .i64 1, .int .i64 2, .slice A24 n25 c26],own (.slice A5 n6 c7) 3 1 n6 (ic [5,5,5,5])] w141):=Lib.hid hT_
    clear S135
    clear hT_ hS_ hg140
    refine wpG_val (some 10) rfl (by rfl) (fun W143 hg144=>⟨.pointer (some ⟨W143.heap.size,0,none⟩),W143.alloc (.cells #[.int .i64 0, .int .i64 0, .int .i64 0, .int .i64 0, .int .i64 0, .int .i64 0, .slice none 0 0] 28),by (first | (go_simp;done) | (go_simp <;> rfl)), ?_⟩)
    simp only [n1,n3,n4]
    obtain ⟨g145,U146,hg_,hu_,hS_⟩:=(S142.out.gr hg144).made [.int .i64 0, .int .i64 0, .int .i64 0, .int .i64 0, .int .i64 0, .int .i64 0, .slice none 0 0] 28
    rw [← hu_,← hg_]
    have S147 : Hid (St w noB [blk g145 28 [.int .i64 0, .int .i64 0, .int .i64 0, .int .i64 0, .int .i64 0, .int .i64 0, .slice none 0 0],own (.slice A136 n137 c138) 3 1 n137 (ic [5,5,7,5]),blk g126 28 [.int .i64 0, .int .i64 0, .int .i64 0, .int .i64 0, .int .i64 0, .int .i64 0, .slice A117 n118 c119],own (.slice A117 n118 c119) 3 1 n118 (ic []),blk g107 28 [.int .i64 0, .int .i64 0, .int .i64 0, .int .i64 0, .int .i64 0, .int .i64 0, .slice A98 n99 c100],own (.slice A98 n99 c100) 3 1 n99 (ic []),own (.slice A88 n89 c90) 74 5 n89 (ccs ([⟨0,0,1,5,6⟩,⟨1,0,1,7,6⟩] : List Gm.Ch)),own (.slice A81 n82 c83) 3 1 n82 (ic [5,5,6,6]),blk g3j 28 [.int .i64 1, .int .i64 0, .int .i64 0, .int .i64 3, .int .i64 1, .int .i64 2, .slice Aj nj cj],own (.slice Aj nj cj) 3 1 nj (ic [5,0,7,0]),own (.slice A24 n25 c26) 3 1 n25 (ic [5,5,5,7]),blk g14 28 [.int .i64 0, .int .i64 0, .int .i64 0, .int .i64 2, .int .i64 1, .int .i64 2, .slice A24 n25 c26],own (.slice A5 n6 c7) 3 1 n6 (ic [5,5,5,5])] U146):=Lib.hid hS_
    clear S142
    clear hg_ hu_ hS_ hg144
    refine wpG_store (none) rfl (by rfl) (fun W148 hg149=>⟨_,run_store_mid 28 (.tmp 10) (.tmp 49) rfl g145 0 #[.int .i64 (-2), .int .i64 0, .int .i64 0, .int .i64 0, .int .i64 1, .int .i64 2, .slice A136 n137 c138] rfl rfl ((S147.out.gr hg149).room 0 rfl 0 7 (by simp)) (by kernel_rfl) (by kernel_rfl), ?_⟩)
    simp only [n2]
    obtain ⟨U150,hu_,hS_⟩:=((S147.out.gr hg149).put 0 rfl 0 (#[.int .i64 (-2), .int .i64 0, .int .i64 0, .int .i64 0, .int .i64 1, .int .i64 2, .slice A136 n137 c138] : Array Value).toList (ds:=[.int .i64 (-2), .int .i64 0, .int .i64 0, .int .i64 0, .int .i64 1, .int .i64 2, .slice A136 n137 c138]) rfl).named
    rw [← hu_]
    have S151 : Hid (St w noB [blk g145 28 [.int .i64 (-2), .int .i64 0, .int .i64 0, .int .i64 0, .int .i64 1, .int .i64 2, .slice A136 n137 c138],own (.slice A136 n137 c138) 3 1 n137 (ic [5,5,7,5]),blk g126 28 [.int .i64 0, .int .i64 0, .int .i64 0, .int .i64 0, .int .i64 0, .int .i64 0, .slice A117 n118 c119],own (.slice A117 n118 c119) 3 1 n118 (ic []),blk g107 28 [.int .i64 0, .int .i64 0, .int .i64 0, .int .i64 0, .int .i64 0, .int .i64 0, .slice A98 n99 c100],own (.slice A98 n99 c100) 3 1 n99 (ic []),own (.slice A88 n89 c90) 74 5 n89 (ccs ([⟨0,0,1,5,6⟩,⟨1,0,1,7,6⟩] : List Gm.Ch)),own (.slice A81 n82 c83) 3 1 n82 (ic [5,5,6,6]),blk g3j 28 [.int .i64 1, .int .i64 0, .int .i64 0, .int .i64 3, .int .i64 1, .int .i64 2, .slice Aj nj cj],own (.slice Aj nj cj) 3 1 nj (ic [5,0,7,0]),own (.slice A24 n25 c26) 3 1 n25 (ic [5,5,5,7]),blk g14 28 [.int .i64 0, .int .i64 0, .int .i64 0, .int .i64 2, .int .i64 1, .int .i64 2, .slice A24 n25 c26],own (.slice A5 n6 c7) 3 1 n6 (ic [5,5,5,5])] U150):=Lib.hid hS_
    clear S147
    clear hu_ hS_ hg149
    refine wpG_done (fun V152 hv153=>?_)
    have S154 : Hid (St w noB [blk g145 28 [.int .i64 (-2), .int .i64 0, .int .i64 0, .int .i64 0, .int .i64 1, .int .i64 2, .slice A136 n137 c138],own (.slice A136 n137 c138) 3 1 n137 (ic [5,5,7,5]),blk g126 28 [.int .i64 0, .int .i64 0, .int .i64 0, .int .i64 0, .int .i64 0, .int .i64 0, .slice A117 n118 c119],own (.slice A117 n118 c119) 3 1 n118 (ic []),blk g107 28 [.int .i64 0, .int .i64 0, .int .i64 0, .int .i64 0, .int .i64 0, .int .i64 0, .slice A98 n99 c100],own (.slice A98 n99 c100) 3 1 n99 (ic []),own (.slice A88 n89 c90) 74 5 n89 (ccs ([⟨0,0,1,5,6⟩,⟨1,0,1,7,6⟩] : List Gm.Ch)),own (.slice A81 n82 c83) 3 1 n82 (ic [5,5,6,6]),blk g3j 28 [.int .i64 1, .int .i64 0, .int .i64 0, .int .i64 3, .int .i64 1, .int .i64 2, .slice Aj nj cj],own (.slice Aj nj cj) 3 1 nj (ic [5,0,7,0]),own (.slice A24 n25 c26) 3 1 n25 (ic [5,5,5,7]),blk g14 28 [.int .i64 0, .int .i64 0, .int .i64 0, .int .i64 2, .int .i64 1, .int .i64 2, .slice A24 n25 c26],own (.slice A5 n6 c7) 3 1 n6 (ic [5,5,5,5])] V152):=Lib.hid (S151.out.gr hv153)
    clear S151
    clear hv153
    refine ⟨rfl,hK _ _ ?_⟩
    clear hK
    go_upto_region 8 with fail
    refine wpK_region_k (by kernel_rfl) (fun K hK=>?_)
    refine wpK_ta (i:=0) (some 50) (v:=.int .i64 0) rfl rfl (by kernel_rfl) (fun _ _ _ h=>onN_panic h) (Or.inl ⟨rfl,fun _=>rfl⟩) ?_
    simp only [n1,n3,n4]
    refine wpK_ta (i:=1) (some 51) (v:=.bool true) rfl rfl (by kernel_rfl) (fun _ _ _ h=>onN_panic h) (Or.inl ⟨by rfl,fun W=>by go_simp⟩) ?_
    simp only [n1,n3,n4]
    refine wpK_ta (i:=2) (some 52) (v:=.bool true) rfl rfl (by kernel_rfl) (fun _ _ _ h=>onN_panic h) (Or.inl ⟨rfl,fun _=>rfl⟩) ?_
    simp only [n1,n3,n4]
    refine wpK_ta (i:=3) (some 53) (v:=.pointer (some ⟨g14,6,none⟩)) rfl rfl (by kernel_rfl) (fun _ _ _ h=>onN_panic h) (Or.inl ⟨by rfl,fun W=>by go_simp⟩) ?_
    simp only [n1,n3,n4]
    refine wpK_tk (i:=4) (some 54) (v:=.slice A24 n25 c26) rfl rfl (by kernel_rfl) (fun _ _ _ h=>onN_panic h) (.val (by rfl) (fun W hg=>by have c:=(S154.out.gr (Gr.un hg)).cell 11 rfl 6 rfl;go_simp)) ?_
    simp only [n1,n3,n4]
    refine wpK_val (i:=5) (some 55) rfl rfl (by kernel_rfl) (by rfl) (fun W155 hg156=>⟨.slice (some ⟨W155.heap.size,0,none⟩) 4 4,W155.alloc (.cells #[.int .i64 5, .int .i64 5, .int .i64 5, .int .i64 7] 3),by (go_simp <;> rfl),Gr.al _ _, ?_⟩)
    simp only [n1,n3,n4]
    obtain ⟨g157,U158,hg_,hu_,hS_⟩:=(S154.out.gr (Gr.un hg156)).made [.int .i64 5, .int .i64 5, .int .i64 5, .int .i64 7] 3
    rw [← hu_,← hg_]
    have S159 : Hid (St w noB [blk g157 3 [.int .i64 5, .int .i64 5, .int .i64 5, .int .i64 7],blk g145 28 [.int .i64 (-2), .int .i64 0, .int .i64 0, .int .i64 0, .int .i64 1, .int .i64 2, .slice A136 n137 c138],own (.slice A136 n137 c138) 3 1 n137 (ic [5,5,7,5]),blk g126 28 [.int .i64 0, .int .i64 0, .int .i64 0, .int .i64 0, .int .i64 0, .int .i64 0, .slice A117 n118 c119],own (.slice A117 n118 c119) 3 1 n118 (ic []),blk g107 28 [.int .i64 0, .int .i64 0, .int .i64 0, .int .i64 0, .int .i64 0, .int .i64 0, .slice A98 n99 c100],own (.slice A98 n99 c100) 3 1 n99 (ic []),own (.slice A88 n89 c90) 74 5 n89 (ccs ([⟨0,0,1,5,6⟩,⟨1,0,1,7,6⟩] : List Gm.Ch)),own (.slice A81 n82 c83) 3 1 n82 (ic [5,5,6,6]),blk g3j 28 [.int .i64 1, .int .i64 0, .int .i64 0, .int .i64 3, .int .i64 1, .int .i64 2, .slice Aj nj cj],own (.slice Aj nj cj) 3 1 nj (ic [5,0,7,0]),own (.slice A24 n25 c26) 3 1 n25 (ic [5,5,5,7]),blk g14 28 [.int .i64 0, .int .i64 0, .int .i64 0, .int .i64 2, .int .i64 1, .int .i64 2, .slice A24 n25 c26],own (.slice A5 n6 c7) 3 1 n6 (ic [5,5,5,5])] U158):=Lib.hid hS_
    clear S154
    clear hg_ hu_ hS_ hg156
    refine wpK_tk (i:=6) (some 56) (v:=.bool true) rfl rfl (by kernel_rfl) (fun _ _ _ h=>onN_panic h) (.call (f:=44) (args:=#[.slice A24 n25 c26, .slice (some ⟨g157,0,none⟩) 4 4]) (by rfl) (fun W=>by go_simp) (fun W hg=>((sameints_any _ _ _ [5,5,5,7] _ _ _ [5,5,5,7] W (SL.ofOwn ((S159.out.gr hg).ownr 11 rfl)) (SL.ofBlk (S159.out.gr hg) 0 rfl 1 4 (ic [5,5,5,7]) rfl rfl (by decide))).mono (fun e w' h=>⟨h.1.trans (by first | kernel_rfl | rw [show (decide ([5,5,5,7] = [5,5,5,7])) = true from by decide +kernel]),h.2⟩)))) ?_
    simp only [n1,n3,n4]
    refine wpK_ta (i:=7) (some 57) (v:=.bool true) rfl rfl (by kernel_rfl) (fun _ _ _ h=>onN_panic h) (Or.inl ⟨by rfl,fun W=>by go_simp⟩) ?_
    simp only [n1,n3,n4]
    refine wpK_ta (i:=8) (some 58) (v:=.bool true) rfl rfl (by kernel_rfl) (fun _ _ _ h=>onN_panic h) (Or.inl ⟨rfl,fun _=>rfl⟩) ?_
    simp only [n1,n3,n4]
    refine wpK_tk (i:=9) (some 59) (v:=.agg #[.int .i64 0, .int .i64 0, .int .i64 0, .int .i64 2, .int .i64 1, .int .i64 2, .slice A24 n25 c26]) rfl rfl (by kernel_rfl) (fun _ _ _ h=>onN_panic h) (.load_mid (by rfl) 28 (.tmp 1) rfl g14 0 rfl [.int .i64 0, .int .i64 0, .int .i64 0, .int .i64 2, .int .i64 1, .int .i64 2, .slice A24 n25 c26] _ (fun W hg=>(S159.out.gr hg).range 12 rfl 0 7 rfl) Tryd.underlying28 rfl (by kernel_rfl)) ?_
    simp only [n1,n3,n4]
    refine wpK_tk (i:=10) (some 60) (v:=.agg #[.int .i64 1, .int .i64 0, .int .i64 1]) rfl rfl (by kernel_rfl) (fun _ _ _ h=>onN_panic h) (.call (f:=41) (args:=#[.int .i64 1, .int .i64 0, .int .i64 1]) (by rfl) (fun W=>by go_simp) (fun W hg=>lat_any 1 0 1 W)) ?_
    simp only [n1,n3,n4]
    refine wpK_tk (i:=11) (some 61) (v:=.int .i64 7) rfl rfl (by kernel_rfl) (fun _ _ _ h=>onN_panic h) (.call (f:=21) (args:=#[.agg #[.int .i64 0, .int .i64 0, .int .i64 0, .int .i64 2, .int .i64 1, .int .i64 2, .slice A24 n25 c26], .agg #[.int .i64 1, .int .i64 0, .int .i64 1]]) (by rfl) (fun W=>by go_simp) (fun W hg=>((get_any (⟨0,0,0,2,1,2⟩ : Gm.Bx) _ _ _ [5,5,5,7] 1 0 1 W (SL.ofOwn ((S159.out.gr hg).ownr 11 rfl)) (by constructor <;> decide +kernel : Gm.ok (⟨0,0,0,2,1,2⟩ : Gm.Bx) [5,5,5,7]) (by decide)).mono (fun e w' h=>⟨h.1.trans (by first | kernel_rfl | rw [show (Gm.get (⟨0,0,0,2,1,2⟩ : Gm.Bx) [5,5,5,7] 1 0 1) = 7 from by decide +kernel]),h.2⟩)))) ?_
    simp only [n1,n3,n4]
    refine wpK_ta (i:=12) (some 62) (v:=.bool true) rfl rfl (by kernel_rfl) (fun _ _ _ h=>onN_panic h) (Or.inl ⟨by rfl,fun W=>by go_simp⟩) ?_
    simp only [n1,n3,n4]
    refine wpK_ta (i:=13) (some 63) (v:=.bool true) rfl rfl (by kernel_rfl) (fun _ _ _ h=>onN_panic h) (Or.inl ⟨by rfl,fun W=>by go_simp⟩) ?_
    simp only [n1,n3,n4]
    refine wpK_ta (i:=14) (some 64) (v:=.bool true) rfl rfl (by kernel_rfl) (fun _ _ _ h=>onN_panic h) (Or.inl ⟨rfl,fun _=>rfl⟩) ?_
    simp only [n1,n3,n4]
    refine wpK_tk (i:=15) (some 65) (v:=.agg #[.int .i64 0, .int .i64 0, .int .i64 0, .int .i64 2, .int .i64 1, .int .i64 2, .slice A24 n25 c26]) rfl rfl (by kernel_rfl) (fun _ _ _ h=>onN_panic h) (.load_mid (by rfl) 28 (.tmp 1) rfl g14 0 rfl [.int .i64 0, .int .i64 0, .int .i64 0, .int .i64 2, .int .i64 1, .int .i64 2, .slice A24 n25 c26] _ (fun W hg=>(S159.out.gr hg).range 12 rfl 0 7 rfl) Tryd.underlying28 rfl (by kernel_rfl)) ?_
    simp only [n1,n3,n4]
    refine wpK_tk (i:=16) (some 66) (v:=.agg #[.int .i64 2, .int .i64 0, .int .i64 0]) rfl rfl (by kernel_rfl) (fun _ _ _ h=>onN_panic h) (.call (f:=41) (args:=#[.int .i64 2, .int .i64 0, .int .i64 0]) (by rfl) (fun W=>by go_simp) (fun W hg=>lat_any 2 0 0 W)) ?_
    simp only [n1,n3,n4]
    refine wpK_tk (i:=17) (some 67) (v:=.int .i64 0) rfl rfl (by kernel_rfl) (fun _ _ _ h=>onN_panic h) (.call (f:=21) (args:=#[.agg #[.int .i64 0, .int .i64 0, .int .i64 0, .int .i64 2, .int .i64 1, .int .i64 2, .slice A24 n25 c26], .agg #[.int .i64 2, .int .i64 0, .int .i64 0]]) (by rfl) (fun W=>by go_simp) (fun W hg=>((get_any (⟨0,0,0,2,1,2⟩ : Gm.Bx) _ _ _ [5,5,5,7] 2 0 0 W (SL.ofOwn ((S159.out.gr hg).ownr 11 rfl)) (by constructor <;> decide +kernel : Gm.ok (⟨0,0,0,2,1,2⟩ : Gm.Bx) [5,5,5,7]) (by decide)).mono (fun e w' h=>⟨h.1.trans (by first | kernel_rfl | rw [show (Gm.get (⟨0,0,0,2,1,2⟩ : Gm.Bx) [5,5,5,7] 2 0 0) = 0 from by decide +kernel]),h.2⟩)))) ?_
    simp only [n1,n3,n4]
    refine wpK_ta (i:=18) (some 68) (v:=.bool true) rfl rfl (by kernel_rfl) (fun _ _ _ h=>onN_panic h) (Or.inl ⟨by rfl,fun W=>by go_simp⟩) ?_
    simp only [n1,n3,n4]
    refine wpK_ta (i:=19) (some 69) (v:=.bool true) rfl rfl (by kernel_rfl) (fun _ _ _ h=>onN_panic h) (Or.inl ⟨by rfl,fun W=>by go_simp⟩) ?_
    simp only [n1,n3,n4]
    refine wpK_ta (i:=20) (some 70) (v:=.bool true) rfl rfl (by kernel_rfl) (fun _ _ _ h=>onN_panic h) (Or.inl ⟨rfl,fun _=>rfl⟩) ?_
    simp only [n1,n3,n4]
    refine wpK_tk (i:=21) (some 71) (v:=.agg #[.int .i64 0, .int .i64 0, .int .i64 0, .int .i64 2, .int .i64 1, .int .i64 2, .slice A24 n25 c26]) rfl rfl (by kernel_rfl) (fun _ _ _ h=>onN_panic h) (.load_mid (by rfl) 28 (.tmp 1) rfl g14 0 rfl [.int .i64 0, .int .i64 0, .int .i64 0, .int .i64 2, .int .i64 1, .int .i64 2, .slice A24 n25 c26] _ (fun W hg=>(S159.out.gr hg).range 12 rfl 0 7 rfl) Tryd.underlying28 rfl (by kernel_rfl)) ?_
    simp only [n1,n3,n4]
    refine wpK_tk (i:=22) (some 72) (v:=.int .i64 3) rfl rfl (by kernel_rfl) (fun _ _ _ h=>onN_panic h) (.call (f:=37) (args:=#[.agg #[.int .i64 0, .int .i64 0, .int .i64 0, .int .i64 2, .int .i64 1, .int .i64 2, .slice A24 n25 c26], .int .i64 5]) (by rfl) (fun W=>by go_simp) (fun W hg=>((count_any (⟨0,0,0,2,1,2⟩ : Gm.Bx) _ _ _ [5,5,5,7] 5 W (SL.ofOwn ((S159.out.gr hg).ownr 11 rfl))).mono (fun e w' h=>⟨h.1.trans (by first | kernel_rfl | rw [show ((Gm.cnt [5,5,5,7] 5 : Int)) = 3 from by decide +kernel]),h.2⟩)))) ?_
    simp only [n1,n3,n4]
    refine wpK_ta (i:=23) (some 73) (v:=.bool true) rfl rfl (by kernel_rfl) (fun _ _ _ h=>onN_panic h) (Or.inl ⟨by rfl,fun W=>by go_simp⟩) ?_
    simp only [n1,n3,n4]
    refine wpK_ta (i:=24) (some 74) (v:=.bool true) rfl rfl (by kernel_rfl) (fun _ _ _ h=>onN_panic h) (Or.inl ⟨by rfl,fun W=>by go_simp⟩) ?_
    simp only [n1,n3,n4]
    refine wpK_ta (i:=25) (some 75) (v:=.bool true) rfl rfl (by kernel_rfl) (fun _ _ _ h=>onN_panic h) (Or.inl ⟨rfl,fun _=>rfl⟩) ?_
    simp only [n1,n3,n4]
    refine wpK_ta (i:=26) (some 76) (v:=.int .i64 0) rfl rfl (by kernel_rfl) (fun _ _ _ h=>onN_panic h) (Or.inl ⟨rfl,fun _=>rfl⟩) ?_
    simp only [n1,n3,n4]
    refine wpK_ta (i:=27) (some 77) (v:=.bool true) rfl rfl (by kernel_rfl) (fun _ _ _ h=>onN_panic h) (Or.inl ⟨by rfl,fun W=>by go_simp⟩) ?_
    simp only [n1,n3,n4]
    refine wpK_ta (i:=28) (some 78) (v:=.bool true) rfl rfl (by kernel_rfl) (fun _ _ _ h=>onN_panic h) (Or.inl ⟨by rfl,fun W=>by go_simp⟩) ?_
    simp only [n1,n3,n4]
    refine wpK_ta (i:=29) (some 79) (v:=.bool true) rfl rfl (by kernel_rfl) (fun _ _ _ h=>onN_panic h) (Or.inl ⟨rfl,fun _=>rfl⟩) ?_
    simp only [n1,n3,n4]
    refine wpK_ta (i:=30) (some 80) (v:=.pointer (some ⟨g3j,6,none⟩)) rfl rfl (by kernel_rfl) (fun _ _ _ h=>onN_panic h) (Or.inl ⟨by rfl,fun W=>by go_simp⟩) ?_
    simp only [n1,n3,n4]
    refine wpK_tk (i:=31) (some 81) (v:=.slice Aj nj cj) rfl rfl (by kernel_rfl) (fun _ _ _ h=>onN_panic h) (.val (by rfl) (fun W hg=>by have c:=(S159.out.gr hg).cell 9 rfl 6 rfl;go_simp)) ?_
    simp only [n1,n3,n4]
    refine wpK_val (i:=32) (some 82) rfl rfl (by kernel_rfl) (by rfl) (fun W160 hg161=>⟨.slice (some ⟨W160.heap.size,0,none⟩) 4 4,W160.alloc (.cells #[.int .i64 5, .int .i64 0, .int .i64 7, .int .i64 0] 3),by (go_simp <;> rfl),Gr.al _ _, ?_⟩)
    simp only [n1,n3,n4]
    obtain ⟨g162,U163,hg_,hu_,hS_⟩:=(S159.out.gr hg161).made [.int .i64 5, .int .i64 0, .int .i64 7, .int .i64 0] 3
    rw [← hu_,← hg_]
    have S164 : Hid (St w noB [blk g162 3 [.int .i64 5, .int .i64 0, .int .i64 7, .int .i64 0],blk g157 3 [.int .i64 5, .int .i64 5, .int .i64 5, .int .i64 7],blk g145 28 [.int .i64 (-2), .int .i64 0, .int .i64 0, .int .i64 0, .int .i64 1, .int .i64 2, .slice A136 n137 c138],own (.slice A136 n137 c138) 3 1 n137 (ic [5,5,7,5]),blk g126 28 [.int .i64 0, .int .i64 0, .int .i64 0, .int .i64 0, .int .i64 0, .int .i64 0, .slice A117 n118 c119],own (.slice A117 n118 c119) 3 1 n118 (ic []),blk g107 28 [.int .i64 0, .int .i64 0, .int .i64 0, .int .i64 0, .int .i64 0, .int .i64 0, .slice A98 n99 c100],own (.slice A98 n99 c100) 3 1 n99 (ic []),own (.slice A88 n89 c90) 74 5 n89 (ccs ([⟨0,0,1,5,6⟩,⟨1,0,1,7,6⟩] : List Gm.Ch)),own (.slice A81 n82 c83) 3 1 n82 (ic [5,5,6,6]),blk g3j 28 [.int .i64 1, .int .i64 0, .int .i64 0, .int .i64 3, .int .i64 1, .int .i64 2, .slice Aj nj cj],own (.slice Aj nj cj) 3 1 nj (ic [5,0,7,0]),own (.slice A24 n25 c26) 3 1 n25 (ic [5,5,5,7]),blk g14 28 [.int .i64 0, .int .i64 0, .int .i64 0, .int .i64 2, .int .i64 1, .int .i64 2, .slice A24 n25 c26],own (.slice A5 n6 c7) 3 1 n6 (ic [5,5,5,5])] U163):=Lib.hid hS_
    clear S159
    clear hg_ hu_ hS_ hg161
    refine wpK_tk (i:=33) (some 83) (v:=.bool true) rfl rfl (by kernel_rfl) (fun _ _ _ h=>onN_panic h) (.call (f:=44) (args:=#[.slice Aj nj cj, .slice (some ⟨g162,0,none⟩) 4 4]) (by rfl) (fun W=>by go_simp) (fun W hg=>((sameints_any _ _ _ [5,0,7,0] _ _ _ [5,0,7,0] W (SL.ofOwn ((S164.out.gr hg).ownr 11 rfl)) (SL.ofBlk (S164.out.gr hg) 0 rfl 1 4 (ic [5,0,7,0]) rfl rfl (by decide))).mono (fun e w' h=>⟨h.1.trans (by first | kernel_rfl | rw [show (decide ([5,0,7,0] = [5,0,7,0])) = true from by decide +kernel]),h.2⟩)))) ?_
    simp only [n1,n3,n4]
    refine wpK_ta (i:=34) (some 84) (v:=.bool true) rfl rfl (by kernel_rfl) (fun _ _ _ h=>onN_panic h) (Or.inl ⟨by rfl,fun W=>by go_simp⟩) ?_
    simp only [n1,n3,n4]
    refine wpK_ta (i:=35) (some 11) (v:=.bool true) rfl rfl (by kernel_rfl) (fun _ _ _ h=>onN_panic h) (Or.inl ⟨rfl,fun _=>rfl⟩) ?_
    simp only [n1,n3,n4]
    refine wpK_done (by kernel_rfl) (fun V165 hv166=>?_) _
    have S167 : Hid (St w noB [blk g162 3 [.int .i64 5, .int .i64 0, .int .i64 7, .int .i64 0],blk g157 3 [.int .i64 5, .int .i64 5, .int .i64 5, .int .i64 7],blk g145 28 [.int .i64 (-2), .int .i64 0, .int .i64 0, .int .i64 0, .int .i64 1, .int .i64 2, .slice A136 n137 c138],own (.slice A136 n137 c138) 3 1 n137 (ic [5,5,7,5]),blk g126 28 [.int .i64 0, .int .i64 0, .int .i64 0, .int .i64 0, .int .i64 0, .int .i64 0, .slice A117 n118 c119],own (.slice A117 n118 c119) 3 1 n118 (ic []),blk g107 28 [.int .i64 0, .int .i64 0, .int .i64 0, .int .i64 0, .int .i64 0, .int .i64 0, .slice A98 n99 c100],own (.slice A98 n99 c100) 3 1 n99 (ic []),own (.slice A88 n89 c90) 74 5 n89 (ccs ([⟨0,0,1,5,6⟩,⟨1,0,1,7,6⟩] : List Gm.Ch)),own (.slice A81 n82 c83) 3 1 n82 (ic [5,5,6,6]),blk g3j 28 [.int .i64 1, .int .i64 0, .int .i64 0, .int .i64 3, .int .i64 1, .int .i64 2, .slice Aj nj cj],own (.slice Aj nj cj) 3 1 nj (ic [5,0,7,0]),own (.slice A24 n25 c26) 3 1 n25 (ic [5,5,5,7]),blk g14 28 [.int .i64 0, .int .i64 0, .int .i64 0, .int .i64 2, .int .i64 1, .int .i64 2, .slice A24 n25 c26],own (.slice A5 n6 c7) 3 1 n6 (ic [5,5,5,5])] V165):=Lib.hid (S164.out.gr hv166)
    clear S164
    clear hv166
    refine ⟨rfl,hK _ _ ?_⟩
    clear hK
    go_upto_region 9 with fail
    refine wpK_region_k (by kernel_rfl) (fun K hK=>?_)
    refine wpK_ta (i:=0) (some 85) (v:=.pointer (some ⟨g145,6,none⟩)) rfl rfl (by kernel_rfl) (fun _ _ _ h=>onN_panic h) (Or.inl ⟨by rfl,fun W=>by go_simp⟩) ?_
    simp only [n1,n3,n4]
    refine wpK_tk (i:=1) (some 86) (v:=.slice A136 n137 c138) rfl rfl (by kernel_rfl) (fun _ _ _ h=>onN_panic h) (.val (by rfl) (fun W hg=>by have c:=(S167.out.gr (Gr.un hg)).cell 2 rfl 6 rfl;go_simp)) ?_
    simp only [n1,n3,n4]
    refine wpK_val (i:=2) (some 87) rfl rfl (by kernel_rfl) (by rfl) (fun W168 hg169=>⟨.slice (some ⟨W168.heap.size,0,none⟩) 4 4,W168.alloc (.cells #[.int .i64 5, .int .i64 5, .int .i64 7, .int .i64 5] 3),by (go_simp <;> rfl),Gr.al _ _, ?_⟩)
    simp only [n1,n3,n4]
    obtain ⟨g170,U171,hg_,hu_,hS_⟩:=(S167.out.gr (Gr.un hg169)).made [.int .i64 5, .int .i64 5, .int .i64 7, .int .i64 5] 3
    rw [← hu_,← hg_]
    have S172 : Hid (St w noB [blk g170 3 [.int .i64 5, .int .i64 5, .int .i64 7, .int .i64 5],blk g162 3 [.int .i64 5, .int .i64 0, .int .i64 7, .int .i64 0],blk g157 3 [.int .i64 5, .int .i64 5, .int .i64 5, .int .i64 7],blk g145 28 [.int .i64 (-2), .int .i64 0, .int .i64 0, .int .i64 0, .int .i64 1, .int .i64 2, .slice A136 n137 c138],own (.slice A136 n137 c138) 3 1 n137 (ic [5,5,7,5]),blk g126 28 [.int .i64 0, .int .i64 0, .int .i64 0, .int .i64 0, .int .i64 0, .int .i64 0, .slice A117 n118 c119],own (.slice A117 n118 c119) 3 1 n118 (ic []),blk g107 28 [.int .i64 0, .int .i64 0, .int .i64 0, .int .i64 0, .int .i64 0, .int .i64 0, .slice A98 n99 c100],own (.slice A98 n99 c100) 3 1 n99 (ic []),own (.slice A88 n89 c90) 74 5 n89 (ccs ([⟨0,0,1,5,6⟩,⟨1,0,1,7,6⟩] : List Gm.Ch)),own (.slice A81 n82 c83) 3 1 n82 (ic [5,5,6,6]),blk g3j 28 [.int .i64 1, .int .i64 0, .int .i64 0, .int .i64 3, .int .i64 1, .int .i64 2, .slice Aj nj cj],own (.slice Aj nj cj) 3 1 nj (ic [5,0,7,0]),own (.slice A24 n25 c26) 3 1 n25 (ic [5,5,5,7]),blk g14 28 [.int .i64 0, .int .i64 0, .int .i64 0, .int .i64 2, .int .i64 1, .int .i64 2, .slice A24 n25 c26],own (.slice A5 n6 c7) 3 1 n6 (ic [5,5,5,5])] U171):=Lib.hid hS_
    clear S167
    clear hg_ hu_ hS_ hg169
    refine wpK_tk (i:=3) (some 88) (v:=.bool true) rfl rfl (by kernel_rfl) (fun _ _ _ h=>onN_panic h) (.call (f:=44) (args:=#[.slice A136 n137 c138, .slice (some ⟨g170,0,none⟩) 4 4]) (by rfl) (fun W=>by go_simp) (fun W hg=>((sameints_any _ _ _ [5,5,7,5] _ _ _ [5,5,7,5] W (SL.ofOwn ((S172.out.gr hg).ownr 4 rfl)) (SL.ofBlk (S172.out.gr hg) 0 rfl 1 4 (ic [5,5,7,5]) rfl rfl (by decide))).mono (fun e w' h=>⟨h.1.trans (by first | kernel_rfl | rw [show (decide ([5,5,7,5] = [5,5,7,5])) = true from by decide +kernel]),h.2⟩)))) ?_
    simp only [n1,n3,n4]
    refine wpK_ta (i:=4) (some 89) (v:=.bool true) rfl rfl (by kernel_rfl) (fun _ _ _ h=>onN_panic h) (Or.inl ⟨rfl,fun _=>rfl⟩) ?_
    simp only [n1,n3,n4]
    refine wpK_ta (i:=5) (some 90) (v:=.pointer (some ⟨g145,0,none⟩)) rfl rfl (by kernel_rfl) (fun _ _ _ h=>onN_panic h) (Or.inl ⟨by rfl,fun W=>by go_simp⟩) ?_
    simp only [n1,n3,n4]
    refine wpK_tk (i:=6) (some 91) (v:=.agg #[.int .i64 (-2), .int .i64 0, .int .i64 0, .int .i64 0, .int .i64 1, .int .i64 2]) rfl rfl (by kernel_rfl) (fun _ _ _ h=>onN_panic h) (.load_mid (by rfl) 25 (.tmp 90) rfl g145 0 rfl [.int .i64 (-2), .int .i64 0, .int .i64 0, .int .i64 0, .int .i64 1, .int .i64 2] _ (fun W hg=>(S172.out.gr hg).range 3 rfl 0 6 rfl) Tryd.underlying25 rfl (by kernel_rfl)) ?_
    simp only [n1,n3,n4]
    refine wpK_tk (i:=7) (some 92) (v:=.agg #[.int .i64 (-2), .int .i64 0, .int .i64 0]) rfl rfl (by kernel_rfl) (fun _ _ _ h=>onN_panic h) (.call (f:=41) (args:=#[.int .i64 (-2), .int .i64 0, .int .i64 0]) (by rfl) (fun W=>by go_simp) (fun W hg=>lat_any (-2) 0 0 W)) ?_
    simp only [n1,n3,n4]
    refine wpK_tk (i:=8) (some 93) (v:=.agg #[.int .i64 0, .int .i64 1, .int .i64 2]) rfl rfl (by kernel_rfl) (fun _ _ _ h=>onN_panic h) (.call (f:=41) (args:=#[.int .i64 0, .int .i64 1, .int .i64 2]) (by rfl) (fun W=>by go_simp) (fun W hg=>lat_any 0 1 2 W)) ?_
    simp only [n1,n3,n4]
    refine wpK_tk (i:=9) (some 94) (v:=.agg #[.int .i64 (-2), .int .i64 0, .int .i64 0, .int .i64 0, .int .i64 1, .int .i64 2]) rfl rfl (by kernel_rfl) (fun _ _ _ h=>onN_panic h) (.call (f:=40) (args:=#[.agg #[.int .i64 (-2), .int .i64 0, .int .i64 0], .agg #[.int .i64 0, .int .i64 1, .int .i64 2]]) (by rfl) (fun W=>by go_simp) (fun W hg=>lbox_any (-2) 0 0 0 1 2 W)) ?_
    simp only [n1,n3,n4]
    refine wpK_ta (i:=10) (some 95) (v:=.bool true) rfl rfl (by kernel_rfl) (fun _ _ _ h=>onN_panic h) (Or.inl ⟨by rfl,fun W=>by exact (op_bx_eql W (-2) 0 0 0 1 2 (-2) 0 0 0 1 2 rfl rfl rfl).trans (by simp)⟩) ?_
    simp only [n1,n3,n4]
    refine wpK_ta (i:=11) (some 96) (v:=.bool true) rfl rfl (by kernel_rfl) (fun _ _ _ h=>onN_panic h) (Or.inl ⟨by rfl,fun W=>by go_simp⟩) ?_
    simp only [n1,n3,n4]
    refine wpK_ta (i:=12) (some 97) (v:=.bool true) rfl rfl (by kernel_rfl) (fun _ _ _ h=>onN_panic h) (Or.inl ⟨rfl,fun _=>rfl⟩) ?_
    simp only [n1,n3,n4]
    refine wpK_ta (i:=13) (some 98) (v:=.slice A88 n89 c90) rfl rfl (by kernel_rfl) (fun _ _ _ h=>onN_panic h) (Or.inl ⟨rfl,fun _=>rfl⟩) ?_
    simp only [n1,n3,n4]
    refine wpK_tk (i:=14) (some 99) (v:=.agg #[.int .i64 0, .int .i64 0, .int .i64 1]) rfl rfl (by kernel_rfl) (fun _ _ _ h=>onN_panic h) (.call (f:=41) (args:=#[.int .i64 0, .int .i64 0, .int .i64 1]) (by rfl) (fun W=>by go_simp) (fun W hg=>lat_any 0 0 1 W)) ?_
    simp only [n1,n3,n4]
    refine wpK_ta (i:=15) (some 100) (v:=.agg #[.int .i64 0, .int .i64 0, .int .i64 1, .int .i64 5, .int .i64 6]) rfl rfl (by kernel_rfl) (fun _ _ _ h=>onN_panic h) (Or.inl ⟨by rfl,fun W=>by go_simp⟩) ?_
    simp only [n1,n3,n4]
    refine wpK_tk (i:=16) (some 101) (v:=.agg #[.int .i64 1, .int .i64 0, .int .i64 1]) rfl rfl (by kernel_rfl) (fun _ _ _ h=>onN_panic h) (.call (f:=41) (args:=#[.int .i64 1, .int .i64 0, .int .i64 1]) (by rfl) (fun W=>by go_simp) (fun W hg=>lat_any 1 0 1 W)) ?_
    simp only [n1,n3,n4]
    refine wpK_ta (i:=17) (some 102) (v:=.agg #[.int .i64 1, .int .i64 0, .int .i64 1, .int .i64 7, .int .i64 6]) rfl rfl (by kernel_rfl) (fun _ _ _ h=>onN_panic h) (Or.inl ⟨by rfl,fun W=>by go_simp⟩) ?_
    simp only [n1,n3,n4]
    refine wpK_val (i:=18) (some 103) rfl rfl (by kernel_rfl) (by rfl) (fun W173 hg174=>⟨.slice (some ⟨W173.heap.size,0,none⟩) 2 2,W173.alloc (.cells #[.int .i64 0, .int .i64 0, .int .i64 1, .int .i64 5, .int .i64 6, .int .i64 1, .int .i64 0, .int .i64 1, .int .i64 7, .int .i64 6] 74),by (go_simp <;> rfl),Gr.al _ _, ?_⟩)
    simp only [n1,n3,n4]
    obtain ⟨g175,U176,hg_,hu_,hS_⟩:=(S172.out.gr hg174).made [.int .i64 0, .int .i64 0, .int .i64 1, .int .i64 5, .int .i64 6, .int .i64 1, .int .i64 0, .int .i64 1, .int .i64 7, .int .i64 6] 74
    rw [← hu_,← hg_]
    have S177 : Hid (St w noB [blk g175 74 [.int .i64 0, .int .i64 0, .int .i64 1, .int .i64 5, .int .i64 6, .int .i64 1, .int .i64 0, .int .i64 1, .int .i64 7, .int .i64 6],blk g170 3 [.int .i64 5, .int .i64 5, .int .i64 7, .int .i64 5],blk g162 3 [.int .i64 5, .int .i64 0, .int .i64 7, .int .i64 0],blk g157 3 [.int .i64 5, .int .i64 5, .int .i64 5, .int .i64 7],blk g145 28 [.int .i64 (-2), .int .i64 0, .int .i64 0, .int .i64 0, .int .i64 1, .int .i64 2, .slice A136 n137 c138],own (.slice A136 n137 c138) 3 1 n137 (ic [5,5,7,5]),blk g126 28 [.int .i64 0, .int .i64 0, .int .i64 0, .int .i64 0, .int .i64 0, .int .i64 0, .slice A117 n118 c119],own (.slice A117 n118 c119) 3 1 n118 (ic []),blk g107 28 [.int .i64 0, .int .i64 0, .int .i64 0, .int .i64 0, .int .i64 0, .int .i64 0, .slice A98 n99 c100],own (.slice A98 n99 c100) 3 1 n99 (ic []),own (.slice A88 n89 c90) 74 5 n89 (ccs ([⟨0,0,1,5,6⟩,⟨1,0,1,7,6⟩] : List Gm.Ch)),own (.slice A81 n82 c83) 3 1 n82 (ic [5,5,6,6]),blk g3j 28 [.int .i64 1, .int .i64 0, .int .i64 0, .int .i64 3, .int .i64 1, .int .i64 2, .slice Aj nj cj],own (.slice Aj nj cj) 3 1 nj (ic [5,0,7,0]),own (.slice A24 n25 c26) 3 1 n25 (ic [5,5,5,7]),blk g14 28 [.int .i64 0, .int .i64 0, .int .i64 0, .int .i64 2, .int .i64 1, .int .i64 2, .slice A24 n25 c26],own (.slice A5 n6 c7) 3 1 n6 (ic [5,5,5,5])] U176):=Lib.hid hS_
    clear S172
    clear hg_ hu_ hS_ hg174
    refine wpK_tk (i:=19) (some 104) (v:=.bool true) rfl rfl (by kernel_rfl) (fun _ _ _ h=>onN_panic h) (.call (f:=45) (args:=#[.slice A88 n89 c90, .slice (some ⟨g175,0,none⟩) 2 2]) (by rfl) (fun W=>by go_simp) (fun W hg=>((rsamech_any _ _ _ ([⟨0,0,1,5,6⟩,⟨1,0,1,7,6⟩] : List Gm.Ch) _ _ _ ([⟨0,0,1,5,6⟩,⟨1,0,1,7,6⟩] : List Gm.Ch) W (SL.ofOwn ((S177.out.gr hg).ownr 10 rfl)) (SL.ofBlk (S177.out.gr hg) 0 rfl 5 2 (ccs [⟨0,0,1,5,6⟩,⟨1,0,1,7,6⟩]) rfl rfl (by decide))).mono (fun e w' h=>⟨h.1.trans (by first | kernel_rfl | rw [show (decide (([⟨0,0,1,5,6⟩,⟨1,0,1,7,6⟩] : List Gm.Ch) = ([⟨0,0,1,5,6⟩,⟨1,0,1,7,6⟩] : List Gm.Ch))) = true from by decide +kernel]),h.2⟩)))) ?_
    simp only [n1,n3,n4]
    refine wpK_ta (i:=20) (some 105) (v:=.bool true) rfl rfl (by kernel_rfl) (fun _ _ _ h=>onN_panic h) (Or.inl ⟨by rfl,fun W=>by go_simp⟩) ?_
    simp only [n1,n3,n4]
    refine wpK_ta (i:=21) (some 106) (v:=.bool true) rfl rfl (by kernel_rfl) (fun _ _ _ h=>onN_panic h) (Or.inl ⟨rfl,fun _=>rfl⟩) ?_
    simp only [n1,n3,n4]
    refine wpK_ta (i:=22) (some 107) (v:=.int .i64 2) rfl rfl (by kernel_rfl) (fun _ _ _ h=>onN_panic h) (Or.inl ⟨rfl,fun _=>rfl⟩) ?_
    simp only [n1,n3,n4]
    refine wpK_ta (i:=23) (some 108) (v:=.bool true) rfl rfl (by kernel_rfl) (fun _ _ _ h=>onN_panic h) (Or.inl ⟨by rfl,fun W=>by go_simp⟩) ?_
    simp only [n1,n3,n4]
    refine wpK_ta (i:=24) (some 109) (v:=.bool true) rfl rfl (by kernel_rfl) (fun _ _ _ h=>onN_panic h) (Or.inl ⟨by rfl,fun W=>by go_simp⟩) ?_
    simp only [n1,n3,n4]
    refine wpK_ta (i:=25) (some 110) (v:=.bool true) rfl rfl (by kernel_rfl) (fun _ _ _ h=>onN_panic h) (Or.inl ⟨rfl,fun _=>rfl⟩) ?_
    simp only [n1,n3,n4]
    refine wpK_ta (i:=26) (some 111) (v:=.int .i64 1) rfl rfl (by kernel_rfl) (fun _ _ _ h=>onN_panic h) (Or.inl ⟨rfl,fun _=>rfl⟩) ?_
    simp only [n1,n3,n4]
    refine wpK_ta (i:=27) (some 112) (v:=.bool true) rfl rfl (by kernel_rfl) (fun _ _ _ h=>onN_panic h) (Or.inl ⟨by rfl,fun W=>by go_simp⟩) ?_
    simp only [n1,n3,n4]
    refine wpK_ta (i:=28) (some 113) (v:=.bool true) rfl rfl (by kernel_rfl) (fun _ _ _ h=>onN_panic h) (Or.inl ⟨by rfl,fun W=>by go_simp⟩) ?_
    simp only [n1,n3,n4]
    refine wpK_ta (i:=29) (some 12) (v:=.bool true) rfl rfl (by kernel_rfl) (fun _ _ _ h=>onN_panic h) (Or.inl ⟨rfl,fun _=>rfl⟩) ?_
    simp only [n1,n3,n4]
    refine wpK_done (by kernel_rfl) (fun V178 hv179=>?_) _
    have S180 : Hid (St w noB [blk g175 74 [.int .i64 0, .int .i64 0, .int .i64 1, .int .i64 5, .int .i64 6, .int .i64 1, .int .i64 0, .int .i64 1, .int .i64 7, .int .i64 6],blk g170 3 [.int .i64 5, .int .i64 5, .int .i64 7, .int .i64 5],blk g162 3 [.int .i64 5, .int .i64 0, .int .i64 7, .int .i64 0],blk g157 3 [.int .i64 5, .int .i64 5, .int .i64 5, .int .i64 7],blk g145 28 [.int .i64 (-2), .int .i64 0, .int .i64 0, .int .i64 0, .int .i64 1, .int .i64 2, .slice A136 n137 c138],own (.slice A136 n137 c138) 3 1 n137 (ic [5,5,7,5]),blk g126 28 [.int .i64 0, .int .i64 0, .int .i64 0, .int .i64 0, .int .i64 0, .int .i64 0, .slice A117 n118 c119],own (.slice A117 n118 c119) 3 1 n118 (ic []),blk g107 28 [.int .i64 0, .int .i64 0, .int .i64 0, .int .i64 0, .int .i64 0, .int .i64 0, .slice A98 n99 c100],own (.slice A98 n99 c100) 3 1 n99 (ic []),own (.slice A88 n89 c90) 74 5 n89 (ccs ([⟨0,0,1,5,6⟩,⟨1,0,1,7,6⟩] : List Gm.Ch)),own (.slice A81 n82 c83) 3 1 n82 (ic [5,5,6,6]),blk g3j 28 [.int .i64 1, .int .i64 0, .int .i64 0, .int .i64 3, .int .i64 1, .int .i64 2, .slice Aj nj cj],own (.slice Aj nj cj) 3 1 nj (ic [5,0,7,0]),own (.slice A24 n25 c26) 3 1 n25 (ic [5,5,5,7]),blk g14 28 [.int .i64 0, .int .i64 0, .int .i64 0, .int .i64 2, .int .i64 1, .int .i64 2, .slice A24 n25 c26],own (.slice A5 n6 c7) 3 1 n6 (ic [5,5,5,5])] V178):=Lib.hid (S177.out.gr hv179)
    clear S177
    clear hv179
    refine ⟨rfl,hK _ _ ?_⟩
    clear hK
    go_upto_region 10 with fail
    refine wpK_region_k (by kernel_rfl) (fun K hK=>?_)
    refine wpK_ta (i:=0) (some 114) (v:=.bool true) rfl rfl (by kernel_rfl) (fun _ _ _ h=>onN_panic h) (Or.inl ⟨rfl,fun _=>rfl⟩) ?_
    simp only [n1,n3,n4]
    refine wpK_ta (i:=1) (some 115) (v:=.bool true) rfl rfl (by kernel_rfl) (fun _ _ _ h=>onN_panic h) (Or.inl ⟨rfl,fun _=>rfl⟩) ?_
    simp only [n1,n3,n4]
    refine wpK_ta (i:=2) (some 116) (v:=.bool true) rfl rfl (by kernel_rfl) (fun _ _ _ h=>onN_panic h) (Or.inl ⟨rfl,fun _=>rfl⟩) ?_
    simp only [n1,n3,n4]
    refine wpK_ta (i:=3) (some 117) (v:=.bool true) rfl rfl (by kernel_rfl) (fun _ _ _ h=>onN_panic h) (Or.inl ⟨by rfl,fun W=>by go_simp⟩) ?_
    simp only [n1,n3,n4]
    refine wpK_ta (i:=4) (some 118) (v:=.bool true) rfl rfl (by kernel_rfl) (fun _ _ _ h=>onN_panic h) (Or.inl ⟨rfl,fun _=>rfl⟩) ?_
    simp only [n1,n3,n4]
    refine wpK_tk (i:=5) (some 119) (v:=.agg #[.int .i64 0, .int .i64 0, .int .i64 0, .int .i64 2, .int .i64 1, .int .i64 2, .slice A24 n25 c26]) rfl rfl (by kernel_rfl) (fun _ _ _ h=>onN_panic h) (.load_mid (by rfl) 28 (.tmp 1) rfl g14 0 rfl [.int .i64 0, .int .i64 0, .int .i64 0, .int .i64 2, .int .i64 1, .int .i64 2, .slice A24 n25 c26] _ (fun W hg=>(S180.out.gr (Gr.un hg)).range 15 rfl 0 7 rfl) Tryd.underlying28 rfl (by kernel_rfl)) ?_
    simp only [n1,n3,n4]
    refine wpK_tk (i:=6) (some 120) (v:=.bool true) rfl rfl (by kernel_rfl) (fun _ _ _ h=>onN_panic h) (.call (f:=12) (args:=#[.agg #[.int .i64 0, .int .i64 0, .int .i64 0, .int .i64 2, .int .i64 1, .int .i64 2, .slice A24 n25 c26]]) (by rfl) (fun W=>by go_simp) (fun W hg=>((valid_any (⟨0,0,0,2,1,2⟩ : Gm.Bx) _ _ _ [5,5,5,7] W (SL.ofOwn ((S180.out.gr (Gr.un hg)).ownr 14 rfl))).mono (fun e w' h=>⟨h.1.trans (by first | kernel_rfl | rw [show (decide (Gm.vld (⟨0,0,0,2,1,2⟩ : Gm.Bx) [5,5,5,7])) = true from by decide +kernel]),h.2⟩)))) ?_
    simp only [n1,n3,n4]
    refine wpK_ta (i:=7) (some 121) (v:=.bool true) rfl rfl (by kernel_rfl) (fun _ _ _ h=>onN_panic h) (Or.inl ⟨by rfl,fun W=>by go_simp⟩) ?_
    simp only [n1,n3,n4]
    refine wpK_ta (i:=8) (some 122) (v:=.bool true) rfl rfl (by kernel_rfl) (fun _ _ _ h=>onN_panic h) (Or.inl ⟨rfl,fun _=>rfl⟩) ?_
    simp only [n1,n3,n4]
    refine wpK_val (i:=9) (some 123) rfl rfl (by kernel_rfl) (by rfl) (fun W181 hg182=>⟨.slice (some ⟨W181.heap.size,0,none⟩) 1 1,W181.alloc (.cells #[.int .i64 1] 3),by (go_simp <;> rfl),Gr.al _ _, ?_⟩)
    simp only [n1,n3,n4]
    obtain ⟨g183,U184,hg_,hu_,hS_⟩:=(S180.out.gr (Gr.un hg182)).made [.int .i64 1] 3
    rw [← hu_,← hg_]
    have S185 : Hid (St w noB [blk g183 3 [.int .i64 1],blk g175 74 [.int .i64 0, .int .i64 0, .int .i64 1, .int .i64 5, .int .i64 6, .int .i64 1, .int .i64 0, .int .i64 1, .int .i64 7, .int .i64 6],blk g170 3 [.int .i64 5, .int .i64 5, .int .i64 7, .int .i64 5],blk g162 3 [.int .i64 5, .int .i64 0, .int .i64 7, .int .i64 0],blk g157 3 [.int .i64 5, .int .i64 5, .int .i64 5, .int .i64 7],blk g145 28 [.int .i64 (-2), .int .i64 0, .int .i64 0, .int .i64 0, .int .i64 1, .int .i64 2, .slice A136 n137 c138],own (.slice A136 n137 c138) 3 1 n137 (ic [5,5,7,5]),blk g126 28 [.int .i64 0, .int .i64 0, .int .i64 0, .int .i64 0, .int .i64 0, .int .i64 0, .slice A117 n118 c119],own (.slice A117 n118 c119) 3 1 n118 (ic []),blk g107 28 [.int .i64 0, .int .i64 0, .int .i64 0, .int .i64 0, .int .i64 0, .int .i64 0, .slice A98 n99 c100],own (.slice A98 n99 c100) 3 1 n99 (ic []),own (.slice A88 n89 c90) 74 5 n89 (ccs ([⟨0,0,1,5,6⟩,⟨1,0,1,7,6⟩] : List Gm.Ch)),own (.slice A81 n82 c83) 3 1 n82 (ic [5,5,6,6]),blk g3j 28 [.int .i64 1, .int .i64 0, .int .i64 0, .int .i64 3, .int .i64 1, .int .i64 2, .slice Aj nj cj],own (.slice Aj nj cj) 3 1 nj (ic [5,0,7,0]),own (.slice A24 n25 c26) 3 1 n25 (ic [5,5,5,7]),blk g14 28 [.int .i64 0, .int .i64 0, .int .i64 0, .int .i64 2, .int .i64 1, .int .i64 2, .slice A24 n25 c26],own (.slice A5 n6 c7) 3 1 n6 (ic [5,5,5,5])] U184):=Lib.hid hS_
    clear S180
    clear hg_ hu_ hS_ hg182
    refine wpK_ta (i:=10) (some 124) (v:=.agg #[.int .i64 0, .int .i64 0, .int .i64 0, .int .i64 0, .int .i64 0, .int .i64 0, .slice (some ⟨g183,0,none⟩) 1 1]) rfl rfl (by kernel_rfl) (fun _ _ _ h=>onN_panic h) (Or.inl ⟨by rfl,fun W=>by go_simp⟩) ?_
    simp only [n1,n3,n4]
    refine wpK_tk (i:=11) (some 125) (v:=.bool false) rfl rfl (by kernel_rfl) (fun _ _ _ h=>onN_panic h) (.call (f:=12) (args:=#[.agg #[.int .i64 0, .int .i64 0, .int .i64 0, .int .i64 0, .int .i64 0, .int .i64 0, .slice (some ⟨g183,0,none⟩) 1 1]]) (by rfl) (fun W=>by go_simp) (fun W hg=>((valid_any Gm.zb _ _ _ [1] W (SL.ofBlk (S185.out.gr hg) 0 rfl 1 1 (ic [1]) rfl rfl (by decide))).mono (fun e w' h=>⟨h.1.trans (by first | kernel_rfl | rw [show (decide (Gm.vld Gm.zb [1])) = false from by decide +kernel]),h.2⟩)))) ?_
    simp only [n1,n3,n4]
    refine wpK_ta (i:=12) (some 126) (v:=.bool true) rfl rfl (by kernel_rfl) (fun _ _ _ h=>onN_panic h) (Or.inl ⟨by rfl,fun W=>by first | (go_simp;done) | (cases false <;> rfl)⟩) ?_
    simp only [n1,n3,n4]
    refine wpK_ta (i:=13) (some 127) (v:=.bool true) rfl rfl (by kernel_rfl) (fun _ _ _ h=>onN_panic h) (Or.inl ⟨by rfl,fun W=>by go_simp⟩) ?_
    simp only [n1,n3,n4]
    refine wpK_ta (i:=14) (some 128) (v:=.bool true) rfl rfl (by kernel_rfl) (fun _ _ _ h=>onN_panic h) (Or.inl ⟨rfl,fun _=>rfl⟩) ?_
    simp only [n1,n3,n4]
    refine wpK_tk (i:=15) (some 129) (v:=.agg #[.int .i64 0, .int .i64 0, .int .i64 0, .int .i64 2, .int .i64 1, .int .i64 2, .slice A24 n25 c26]) rfl rfl (by kernel_rfl) (fun _ _ _ h=>onN_panic h) (.load_mid (by rfl) 28 (.tmp 1) rfl g14 0 rfl [.int .i64 0, .int .i64 0, .int .i64 0, .int .i64 2, .int .i64 1, .int .i64 2, .slice A24 n25 c26] _ (fun W hg=>(S185.out.gr hg).range 16 rfl 0 7 rfl) Tryd.underlying28 rfl (by kernel_rfl)) ?_
    simp only [n1,n3,n4]
    refine wpK_tk (i:=16) (some 130) (v:=.agg #[.int .i64 1, .int .i64 0, .int .i64 0, .int .i64 3, .int .i64 1, .int .i64 2, .slice Aj nj cj]) rfl rfl (by kernel_rfl) (fun _ _ _ h=>onN_panic h) (.load_mid (by rfl) 28 (.tmp 3) rfl g3j 0 rfl [.int .i64 1, .int .i64 0, .int .i64 0, .int .i64 3, .int .i64 1, .int .i64 2, .slice Aj nj cj] _ (fun W hg=>(S185.out.gr hg).range 13 rfl 0 7 rfl) Tryd.underlying28 rfl (by kernel_rfl)) ?_
    simp only [n1,n3,n4]
    refine wpK_tk (i:=17) (some 131) (v:=.agg #[.int .i64 0, .int .i64 0, .int .i64 0, .int .i64 2, .int .i64 1, .int .i64 2, .slice A24 n25 c26]) rfl rfl (by kernel_rfl) (fun _ _ _ h=>onN_panic h) (.load_mid (by rfl) 28 (.tmp 1) rfl g14 0 rfl [.int .i64 0, .int .i64 0, .int .i64 0, .int .i64 2, .int .i64 1, .int .i64 2, .slice A24 n25 c26] _ (fun W hg=>(S185.out.gr hg).range 16 rfl 0 7 rfl) Tryd.underlying28 rfl (by kernel_rfl)) ?_
    simp only [n1,n3,n4]
    refine wpK_call (i:=18) (some 132) 24 #[.agg #[.int .i64 1, .int .i64 0, .int .i64 0, .int .i64 3, .int .i64 1, .int .i64 2, .slice Aj nj cj], .agg #[.int .i64 0, .int .i64 0, .int .i64 0, .int .i64 2, .int .i64 1, .int .i64 2, .slice A24 n25 c26]] rfl rfl (by kernel_rfl) (by rfl) (fun W=>by go_simp) (fun W189 hg190=>?_)
    refine ((show Calls Tryd.prog 24 #[.agg #[.int .i64 1, .int .i64 0, .int .i64 0, .int .i64 3, .int .i64 1, .int .i64 2, .slice Aj nj cj], .agg #[.int .i64 0, .int .i64 0, .int .i64 0, .int .i64 2, .int .i64 1, .int .i64 2, .slice A24 n25 c26]] W189 (fun e w'=>∃ A n c,e = .returned (.agg #[.int .i64 1, .int .i64 0, .int .i64 0, .int .i64 3, .int .i64 1, .int .i64 2, .slice A n c]) ∧ St W189 noB [own (.slice A n c) 3 1 n (ic [5,0,7,0])] w') from by have h_:=paste_any (⟨1,0,0,3,1,2⟩ : Gm.Bx) _ _ _ [5,0,7,0] (⟨0,0,0,2,1,2⟩ : Gm.Bx) _ _ _ [5,5,5,7] W189 (SL.ofOwn ((S185.out.gr hg190).ownr 14 rfl)) (SL.ofOwn ((S185.out.gr hg190).ownr 15 rfl)) (by constructor <;> decide +kernel : Gm.ok (⟨1,0,0,3,1,2⟩ : Gm.Bx) [5,0,7,0]) (by constructor <;> decide +kernel : Gm.ok (⟨0,0,0,2,1,2⟩ : Gm.Bx) [5,5,5,7]);rw [show Gm.paste (⟨1,0,0,3,1,2⟩ : Gm.Bx) [5,0,7,0] (⟨0,0,0,2,1,2⟩ : Gm.Bx) [5,5,5,7] = [5,0,7,0] from by decide +kernel] at h_;exact h_)).mono ?_
    rintro e w191 ⟨A186,n187,c188,rfl,hS_⟩
    refine ⟨_,rfl,hS_.bel, ?_⟩
    have hT_:=(S185.out.gr hg190).got hS_
    simp only [n1,n3,n4]
    have S192 : Hid (St w noB [own (.slice A186 n187 c188) 3 1 n187 (ic [5,0,7,0]),blk g183 3 [.int .i64 1],blk g175 74 [.int .i64 0, .int .i64 0, .int .i64 1, .int .i64 5, .int .i64 6, .int .i64 1, .int .i64 0, .int .i64 1, .int .i64 7, .int .i64 6],blk g170 3 [.int .i64 5, .int .i64 5, .int .i64 7, .int .i64 5],blk g162 3 [.int .i64 5, .int .i64 0, .int .i64 7, .int .i64 0],blk g157 3 [.int .i64 5, .int .i64 5, .int .i64 5, .int .i64 7],blk g145 28 [.int .i64 (-2), .int .i64 0, .int .i64 0, .int .i64 0, .int .i64 1, .int .i64 2, .slice A136 n137 c138],own (.slice A136 n137 c138) 3 1 n137 (ic [5,5,7,5]),blk g126 28 [.int .i64 0, .int .i64 0, .int .i64 0, .int .i64 0, .int .i64 0, .int .i64 0, .slice A117 n118 c119],own (.slice A117 n118 c119) 3 1 n118 (ic []),blk g107 28 [.int .i64 0, .int .i64 0, .int .i64 0, .int .i64 0, .int .i64 0, .int .i64 0, .slice A98 n99 c100],own (.slice A98 n99 c100) 3 1 n99 (ic []),own (.slice A88 n89 c90) 74 5 n89 (ccs ([⟨0,0,1,5,6⟩,⟨1,0,1,7,6⟩] : List Gm.Ch)),own (.slice A81 n82 c83) 3 1 n82 (ic [5,5,6,6]),blk g3j 28 [.int .i64 1, .int .i64 0, .int .i64 0, .int .i64 3, .int .i64 1, .int .i64 2, .slice Aj nj cj],own (.slice Aj nj cj) 3 1 nj (ic [5,0,7,0]),own (.slice A24 n25 c26) 3 1 n25 (ic [5,5,5,7]),blk g14 28 [.int .i64 0, .int .i64 0, .int .i64 0, .int .i64 2, .int .i64 1, .int .i64 2, .slice A24 n25 c26],own (.slice A5 n6 c7) 3 1 n6 (ic [5,5,5,5])] w191):=Lib.hid hT_
    clear S185
    clear hT_ hS_ hg190
    refine wpK_tk (i:=19) (some 133) (v:=.bool false) rfl rfl (by kernel_rfl) (fun _ _ _ h=>onN_panic h) (.call (f:=26) (args:=#[.agg #[.int .i64 0, .int .i64 0, .int .i64 0, .int .i64 2, .int .i64 1, .int .i64 2, .slice A24 n25 c26], .agg #[.int .i64 1, .int .i64 0, .int .i64 0, .int .i64 3, .int .i64 1, .int .i64 2, .slice A186 n187 c188]]) (by rfl) (fun W=>by go_simp) (fun W hg=>((equal_any (⟨0,0,0,2,1,2⟩ : Gm.Bx) _ _ _ [5,5,5,7] (⟨1,0,0,3,1,2⟩ : Gm.Bx) _ _ _ [5,0,7,0] W (SL.ofOwn ((S192.out.gr hg).ownr 16 rfl)) (SL.ofOwn ((S192.out.gr hg).ownr 0 rfl))).mono (fun e w' h=>⟨h.1.trans (by first | kernel_rfl | rw [show (Gm.same (⟨0,0,0,2,1,2⟩ : Gm.Bx) [5,5,5,7] (⟨1,0,0,3,1,2⟩ : Gm.Bx) [5,0,7,0]) = false from by decide +kernel]),h.2⟩)))) ?_
    simp only [n1,n3,n4]
    refine wpK_ta (i:=20) (some 134) (v:=.bool true) rfl rfl (by kernel_rfl) (fun _ _ _ h=>onN_panic h) (Or.inl ⟨by rfl,fun W=>by first | (go_simp;done) | (skip <;> rfl) | (skip <;> go_simp)⟩) ?_
    simp only [n1,n3,n4]
    refine wpK_ta (i:=21) (some 135) (v:=.bool true) rfl rfl (by kernel_rfl) (fun _ _ _ h=>onN_panic h) (Or.inl ⟨by rfl,fun W=>by go_simp⟩) ?_
    simp only [n1,n3,n4]
    refine wpK_ta (i:=22) (some 136) (v:=.bool true) rfl rfl (by kernel_rfl) (fun _ _ _ h=>onN_panic h) (Or.inl ⟨rfl,fun _=>rfl⟩) ?_
    simp only [n1,n3,n4]
    refine wpK_tk (i:=23) (some 137) (v:=.agg #[.int .i64 0, .int .i64 0, .int .i64 0, .int .i64 2, .int .i64 1, .int .i64 2, .slice A24 n25 c26]) rfl rfl (by kernel_rfl) (fun _ _ _ h=>onN_panic h) (.load_mid (by rfl) 28 (.tmp 1) rfl g14 0 rfl [.int .i64 0, .int .i64 0, .int .i64 0, .int .i64 2, .int .i64 1, .int .i64 2, .slice A24 n25 c26] _ (fun W hg=>(S192.out.gr hg).range 17 rfl 0 7 rfl) Tryd.underlying28 rfl (by kernel_rfl)) ?_
    simp only [n1,n3,n4]
    refine wpK_tk (i:=24) (some 138) (v:=.agg #[.int .i64 0, .int .i64 0, .int .i64 0]) rfl rfl (by kernel_rfl) (fun _ _ _ h=>onN_panic h) (.call (f:=41) (args:=#[.int .i64 0, .int .i64 0, .int .i64 0]) (by rfl) (fun W=>by go_simp) (fun W hg=>lat_any 0 0 0 W)) ?_
    simp only [n1,n3,n4]
    refine wpK_tk (i:=26) (some 140) (v:=.agg #[.int .i64 0, .int .i64 0, .int .i64 0, .int .i64 2, .int .i64 1, .int .i64 2, .slice A24 n25 c26]) rfl rfl (by kernel_rfl) (fun _ _ _ h=>onN_panic h) (.load_mid (by rfl) 28 (.tmp 1) rfl g14 0 rfl [.int .i64 0, .int .i64 0, .int .i64 0, .int .i64 2, .int .i64 1, .int .i64 2, .slice A24 n25 c26] _ (fun W hg=>(S192.out.gr hg).range 17 rfl 0 7 rfl) Tryd.underlying28 rfl (by kernel_rfl)) ?_
    simp only [n1,n3,n4]
    refine wpK_call (i:=25) (some 139) 32 #[.agg #[.int .i64 0, .int .i64 0, .int .i64 0, .int .i64 2, .int .i64 1, .int .i64 2, .slice A24 n25 c26], .agg #[.int .i64 0, .int .i64 0, .int .i64 0]] rfl rfl (by kernel_rfl) (by rfl) (fun W=>by go_simp) (fun W196 hg197=>?_)
    refine ((show Calls Tryd.prog 32 #[.agg #[.int .i64 0, .int .i64 0, .int .i64 0, .int .i64 2, .int .i64 1, .int .i64 2, .slice A24 n25 c26], .agg #[.int .i64 0, .int .i64 0, .int .i64 0]] W196 (fun e w'=>∃ A n c,e = .returned (.agg #[.int .i64 0, .int .i64 0, .int .i64 0, .int .i64 2, .int .i64 1, .int .i64 2, .slice A n c]) ∧ St W196 noB [own (.slice A n c) 3 1 n (ic [5,5,5,7])] w') from by have h_:=shiftg_any (⟨0,0,0,2,1,2⟩ : Gm.Bx) _ _ _ [5,5,5,7] 0 0 0 W196 (SL.ofOwn ((S192.out.gr hg197).ownr 16 rfl)) (by constructor <;> decide +kernel : Gm.ok (⟨0,0,0,2,1,2⟩ : Gm.Bx) [5,5,5,7]) (by decide);rw [show Gm.shB (⟨0,0,0,2,1,2⟩ : Gm.Bx) [5,5,5,7] 0 0 0 = (⟨0,0,0,2,1,2⟩ : Gm.Bx) from by decide +kernel] at h_;exact h_)).mono ?_
    rintro e w198 ⟨A193,n194,c195,rfl,hS_⟩
    refine ⟨_,rfl,hS_.bel, ?_⟩
    have hT_:=(S192.out.gr hg197).got hS_
    simp only [n1,n3,n4]
    have S199 : Hid (St w noB [own (.slice A193 n194 c195) 3 1 n194 (ic [5,5,5,7]),own (.slice A186 n187 c188) 3 1 n187 (ic [5,0,7,0]),blk g183 3 [.int .i64 1],blk g175 74 [.int .i64 0, .int .i64 0, .int .i64 1, .int .i64 5, .int .i64 6, .int .i64 1, .int .i64 0, .int .i64 1, .int .i64 7, .int .i64 6],blk g170 3 [.int .i64 5, .int .i64 5, .int .i64 7, .int .i64 5],blk g162 3 [.int .i64 5, .int .i64 0, .int .i64 7, .int .i64 0],blk g157 3 [.int .i64 5, .int .i64 5, .int .i64 5, .int .i64 7],blk g145 28 [.int .i64 (-2), .int .i64 0, .int .i64 0, .int .i64 0, .int .i64 1, .int .i64 2, .slice A136 n137 c138],own (.slice A136 n137 c138) 3 1 n137 (ic [5,5,7,5]),blk g126 28 [.int .i64 0, .int .i64 0, .int .i64 0, .int .i64 0, .int .i64 0, .int .i64 0, .slice A117 n118 c119],own (.slice A117 n118 c119) 3 1 n118 (ic []),blk g107 28 [.int .i64 0, .int .i64 0, .int .i64 0, .int .i64 0, .int .i64 0, .int .i64 0, .slice A98 n99 c100],own (.slice A98 n99 c100) 3 1 n99 (ic []),own (.slice A88 n89 c90) 74 5 n89 (ccs ([⟨0,0,1,5,6⟩,⟨1,0,1,7,6⟩] : List Gm.Ch)),own (.slice A81 n82 c83) 3 1 n82 (ic [5,5,6,6]),blk g3j 28 [.int .i64 1, .int .i64 0, .int .i64 0, .int .i64 3, .int .i64 1, .int .i64 2, .slice Aj nj cj],own (.slice Aj nj cj) 3 1 nj (ic [5,0,7,0]),own (.slice A24 n25 c26) 3 1 n25 (ic [5,5,5,7]),blk g14 28 [.int .i64 0, .int .i64 0, .int .i64 0, .int .i64 2, .int .i64 1, .int .i64 2, .slice A24 n25 c26],own (.slice A5 n6 c7) 3 1 n6 (ic [5,5,5,5])] w198):=Lib.hid hT_
    clear S192
    clear hT_ hS_ hg197
    refine wpK_tk (i:=27) (some 141) (v:=.bool true) rfl rfl (by kernel_rfl) (fun _ _ _ h=>onN_panic h) (.call (f:=26) (args:=#[.agg #[.int .i64 0, .int .i64 0, .int .i64 0, .int .i64 2, .int .i64 1, .int .i64 2, .slice A193 n194 c195], .agg #[.int .i64 0, .int .i64 0, .int .i64 0, .int .i64 2, .int .i64 1, .int .i64 2, .slice A24 n25 c26]]) (by rfl) (fun W=>by go_simp) (fun W hg=>((equal_any (⟨0,0,0,2,1,2⟩ : Gm.Bx) _ _ _ [5,5,5,7] (⟨0,0,0,2,1,2⟩ : Gm.Bx) _ _ _ [5,5,5,7] W (SL.ofOwn ((S199.out.gr hg).ownr 0 rfl)) (SL.ofOwn ((S199.out.gr hg).ownr 17 rfl))).mono (fun e w' h=>⟨h.1.trans (by first | kernel_rfl | rw [show (Gm.same (⟨0,0,0,2,1,2⟩ : Gm.Bx) [5,5,5,7] (⟨0,0,0,2,1,2⟩ : Gm.Bx) [5,5,5,7]) = true from by decide +kernel]),h.2⟩)))) ?_
    simp only [n1,n3,n4]
    refine wpK_ta (i:=28) (some 142) (v:=.bool true) rfl rfl (by kernel_rfl) (fun _ _ _ h=>onN_panic h) (Or.inl ⟨by rfl,fun W=>by go_simp⟩) ?_
    simp only [n1,n3,n4]
    refine wpK_ta (i:=29) (some 0) (v:=.bool true) rfl rfl (by kernel_rfl) (fun _ _ _ h=>onN_panic h) (Or.inl ⟨rfl,fun _=>rfl⟩) ?_
    simp only [n1,n3]
    refine wpK_done (by kernel_rfl) (fun V200 hv201=>?_) _
    have S202 : Hid (St w noB [own (.slice A193 n194 c195) 3 1 n194 (ic [5,5,5,7]),own (.slice A186 n187 c188) 3 1 n187 (ic [5,0,7,0]),blk g183 3 [.int .i64 1],blk g175 74 [.int .i64 0, .int .i64 0, .int .i64 1, .int .i64 5, .int .i64 6, .int .i64 1, .int .i64 0, .int .i64 1, .int .i64 7, .int .i64 6],blk g170 3 [.int .i64 5, .int .i64 5, .int .i64 7, .int .i64 5],blk g162 3 [.int .i64 5, .int .i64 0, .int .i64 7, .int .i64 0],blk g157 3 [.int .i64 5, .int .i64 5, .int .i64 5, .int .i64 7],blk g145 28 [.int .i64 (-2), .int .i64 0, .int .i64 0, .int .i64 0, .int .i64 1, .int .i64 2, .slice A136 n137 c138],own (.slice A136 n137 c138) 3 1 n137 (ic [5,5,7,5]),blk g126 28 [.int .i64 0, .int .i64 0, .int .i64 0, .int .i64 0, .int .i64 0, .int .i64 0, .slice A117 n118 c119],own (.slice A117 n118 c119) 3 1 n118 (ic []),blk g107 28 [.int .i64 0, .int .i64 0, .int .i64 0, .int .i64 0, .int .i64 0, .int .i64 0, .slice A98 n99 c100],own (.slice A98 n99 c100) 3 1 n99 (ic []),own (.slice A88 n89 c90) 74 5 n89 (ccs ([⟨0,0,1,5,6⟩,⟨1,0,1,7,6⟩] : List Gm.Ch)),own (.slice A81 n82 c83) 3 1 n82 (ic [5,5,6,6]),blk g3j 28 [.int .i64 1, .int .i64 0, .int .i64 0, .int .i64 3, .int .i64 1, .int .i64 2, .slice Aj nj cj],own (.slice Aj nj cj) 3 1 nj (ic [5,0,7,0]),own (.slice A24 n25 c26) 3 1 n25 (ic [5,5,5,7]),blk g14 28 [.int .i64 0, .int .i64 0, .int .i64 0, .int .i64 2, .int .i64 1, .int .i64 2, .slice A24 n25 c26],own (.slice A5 n6 c7) 3 1 n6 (ic [5,5,5,5])] V200):=Lib.hid (S199.out.gr hv201)
    clear S199
    clear hv201
    refine ⟨rfl,hK _ _ ?_⟩
    clear hK
    go_wp2_with fail
    go_ret
    refine ⟨?_,S202.out.bel⟩
    show Ending.returned (.bool true) = _
    (first | rfl | (rfl))

end Go.Proofs.YtpapbbolefnkmaaDoor
