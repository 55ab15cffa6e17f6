/-
  Package grid: differences.
-/
import Derived.Test.YtpapbbolefnkmaaDoorZB00
import Derived.Test.YtpapbbolefnkmaaDoorZB46
import Derived.Test.YtpapbbolefnkmaaDoorZB35
import Derived.Test.YtpapbbolefnkmaaDoorZB41
import Derived.Handy
namespace Go.Proofs.YtpapbbolefnkmaaDoor
open Go Go.RowKit
set_option linter.unusedVariables false
set_option linter.unusedSimpArgs false
set_option maxRecDepth 1000000 in
set_option maxHeartbeats 4000000 in
theorem diff_any (B : Gm.Bx) (A : Option Addr) (n c : Nat) (l : List Int) (C : Gm.Bx) (E : Option Addr) (ne ce : Nat) (m : List Int) (w : World) (hG : SL w 1 A n c (ic l)) (hG2 : SL w 1 E ne ce (ic m)) (hok : Gm.ok B l) (hok2 : Gm.ok C m) :
    Calls Tryd.prog 25 #[.agg #[B.a, B.b, B.c, B.d, B.e, B.f, .slice A n c], .agg #[C.a, C.b, C.c, C.d, C.e, C.f, .slice E ne ce]] w fun e w'=>∃ D n c,e = .returned (.slice D n c) ∧ St w noB [own (.slice D n c) 74 5 n (ccs (Gm.dif B l C m l.length))] w':=by
  have HGA:=Lib.hid hG
  have HLEN : Hid (l.length = n):=Lib.hid (by have h_:=hG.len;rw [ic_len] at h_;omega)
  have hnbHGA : n ≤ 9223372036854775807:=Nat.le_trans hG.cap hG.bnd
  clear hG
  have HGB:=Lib.hid hG2
  have HLEN2 : Hid (m.length = ne):=Lib.hid (by have h_:=hG2.len;rw [ic_len] at h_;omega)
  have hnbHGB : ne ≤ 9223372036854775807:=Nat.le_trans hG2.cap hG2.bnd
  clear hG2
  have HOK:=Lib.hid hok
  clear hok
  have HOK2:=Lib.hid hok2
  clear hok2
  have HW00 : Hid (Gr w w):=Lib.hid (Gr.refl w)
  have HF00 : Hid (∀ k,noB k → w.heap.size ≤ k):=Lib.hid (fun k h=>h.elim)
  have S1 : Hid (St w noB [] w):=Lib.hid (St.start w)
  refine calls_marks Tryd.func25 rfl ?_
  simp only [Tryd.ntmps25,List.size_toArray,List.length_cons,List.length_nil,Nat.reduceAdd,Nat.reduceSub,Array.replicate_succ,Array.replicate_zero,List.push_toArray,List.append_toArray,List.nil_append,List.cons_append]
  go_upto_region 0 with fail
  refine wpG_region_k (fun K hK=>?_)
  refine wpG_val (some 2) rfl (by rfl) (fun W2 hg3=>⟨.pointer (some ⟨W2.heap.size,0,none⟩),W2.alloc (.cells #[B.a, B.b, B.c, B.d, B.e, B.f, .slice A n c] 28),by (first | (go_simp;done) | (go_simp <;> rfl)), ?_⟩)
  simp only [n1,n3,n4]
  obtain ⟨g4,U5,hg_,hu_,hS_⟩:=(S1.out.gr hg3).made [B.a, B.b, B.c, B.d, B.e, B.f, .slice A n c] 28
  rw [← hu_,← hg_]
  have S6 : Hid (St w noB [blk g4 28 [B.a, B.b, B.c, B.d, B.e, B.f, .slice A n c]] U5):=Lib.hid hS_
  clear S1
  clear hg_ hu_ hS_ hg3
  refine wpG_val (some 3) rfl (by rfl) (fun W7 hg8=>⟨.pointer (some ⟨W7.heap.size,0,none⟩),W7.alloc (.cells #[C.a, C.b, C.c, C.d, C.e, C.f, .slice E ne ce] 28),by (first | (go_simp;done) | (go_simp <;> rfl)), ?_⟩)
  simp only [n1,n3,n4]
  obtain ⟨g9,U10,hg_,hu_,hS_⟩:=(S6.out.gr hg8).made [C.a, C.b, C.c, C.d, C.e, C.f, .slice E ne ce] 28
  rw [← hu_,← hg_]
  have S11 : Hid (St w noB [blk g9 28 [C.a, C.b, C.c, C.d, C.e, C.f, .slice E ne ce],blk g4 28 [B.a, B.b, B.c, B.d, B.e, B.f, .slice A n c]] U10):=Lib.hid hS_
  clear S6
  clear hg_ hu_ hS_ hg8
  refine @wpG_p _ _ _ _ _ (some 4) (.slice none 0 0) _ _ rfl (by rfl) (fun _=>rfl) ?_
  simp only [n1,n3,n4]
  refine wpG_done (fun V12 hv13=>?_)
  have S14 : Hid (St w noB [blk g9 28 [C.a, C.b, C.c, C.d, C.e, C.f, .slice E ne ce],blk g4 28 [B.a, B.b, B.c, B.d, B.e, B.f, .slice A n c]] V12):=Lib.hid (S11.out.gr hv13)
  clear S11
  clear hv13
  refine ⟨rfl,hK _ _ ?_⟩
  clear hK
  go_upto_region 1 with fail
  refine wpG_region_k (fun K hK=>?_)
  refine wpG_val (some 5) rfl (by rfl) (fun W15 hg16=>⟨.pointer (some ⟨W15.heap.size,0,none⟩),W15.alloc (.cells #[.slice none 0 0] 46),by (first | (go_simp;done) | (go_simp <;> rfl)), ?_⟩)
  simp only [n1,n3,n4]
  obtain ⟨g17,U18,hg_,hu_,hS_⟩:=(S14.out.gr hg16).made [.slice none 0 0] 46
  rw [← hu_,← hg_]
  have S19 : Hid (St w noB [blk g17 46 [.slice none 0 0],blk g9 28 [C.a, C.b, C.c, C.d, C.e, C.f, .slice E ne ce],blk g4 28 [B.a, B.b, B.c, B.d, B.e, B.f, .slice A n c]] U18):=Lib.hid hS_
  clear S14
  clear hg_ hu_ hS_ hg16
  refine wpG_done (fun V20 hv21=>?_)
  have S22 : Hid (St w noB [blk g17 46 [.slice none 0 0],blk g9 28 [C.a, C.b, C.c, C.d, C.e, C.f, .slice E ne ce],blk g4 28 [B.a, B.b, B.c, B.d, B.e, B.f, .slice A n c]] V20):=Lib.hid (S19.out.gr hv21)
  clear S19
  clear hv21
  refine ⟨rfl,hK _ _ ?_⟩
  clear hK
  go_upto_region 2 with fail
  refine wpG_region_k (fun K hK=>?_)
  refine @wpG_p _ _ _ _ _ (some 9) (.pointer (some ⟨g4,0,none⟩)) _ _ rfl (by rfl) (fun W=>by go_simp) ?_
  simp only [n1,n3,n4]
  refine @wpG_tk _ _ _ _ _ (some 10) (.agg #[B.a, B.b, B.c, B.d, B.e, B.f]) _ _ rfl (.load_mid (by rfl) 25 (.tmp 9) rfl g4 0 rfl [B.a, B.b, B.c, B.d, B.e, B.f] _ (fun W hg=>(S22.out.gr hg).range 2 rfl 0 6 rfl) Tryd.underlying25 rfl (by kernel_rfl)) ?_
  simp only [n1,n3,n4]
  refine @wpG_p _ _ _ _ _ (some 11) (.pointer (some ⟨g9,0,none⟩)) _ _ rfl (by rfl) (fun W=>by go_simp) ?_
  simp only [n1,n3,n4]
  refine @wpG_tk _ _ _ _ _ (some 12) (.agg #[C.a, C.b, C.c, C.d, C.e, C.f]) _ _ rfl (.load_mid (by rfl) 25 (.tmp 11) rfl g9 0 rfl [C.a, C.b, C.c, C.d, C.e, C.f] _ (fun W hg=>(S22.out.gr hg).range 1 rfl 0 6 rfl) Tryd.underlying25 rfl (by kernel_rfl)) ?_
  simp only [n1,n3,n4]
  refine @wpG_tk _ _ _ _ _ (some 13) (.agg #[((Gm.cap B C).a:Int), ((Gm.cap B C).b:Int), ((Gm.cap B C).c:Int), ((Gm.cap B C).d:Int), ((Gm.cap B C).e:Int), ((Gm.cap B C).f:Int)]) _ _ rfl (.call (f:=61) (args:=#[.agg #[B.a, B.b, B.c, B.d, B.e, B.f], .agg #[C.a, C.b, C.c, C.d, C.e, C.f]]) (by rfl) (fun W=>by go_simp) (fun W hg=>pinter_b W B C HOK.out.rg HOK2.out.rg)) ?_
  simp only [n1,n3,n4]
  refine wpG_call (some 14) 60 #[.agg #[((Gm.cap B C).a:Int), ((Gm.cap B C).b:Int), ((Gm.cap B C).c:Int), ((Gm.cap B C).d:Int), ((Gm.cap B C).e:Int), ((Gm.cap B C).f:Int)]] rfl (by rfl) (fun W=>by go_simp) (fun W24 hg25=>?_)
  refine (places_any (Gm.cap B C) W24).mono ?_
  rintro e w26 ⟨bb23,rfl,hS_⟩
  refine ⟨_,rfl, ?_⟩
  have hT_:=(S22.out.gr hg25).got hS_
  simp only [n1,n3,n4]
  have S27 : Hid (St w noB [blk bb23 25 [((Gm.cap B C).a:Int), ((Gm.cap B C).b:Int), ((Gm.cap B C).c:Int), ((Gm.cap B C).d:Int), ((Gm.cap B C).e:Int), ((Gm.cap B C).f:Int)],blk g17 46 [.slice none 0 0],blk g9 28 [C.a, C.b, C.c, C.d, C.e, C.f, .slice E ne ce],blk g4 28 [B.a, B.b, B.c, B.d, B.e, B.f, .slice A n c]] w26):=Lib.hid hT_
  clear S22
  clear hT_ hS_ hg25
  refine wpG_done (fun V28 hv29=>?_)
  have S30 : Hid (St w noB [blk bb23 25 [((Gm.cap B C).a:Int), ((Gm.cap B C).b:Int), ((Gm.cap B C).c:Int), ((Gm.cap B C).d:Int), ((Gm.cap B C).e:Int), ((Gm.cap B C).f:Int)],blk g17 46 [.slice none 0 0],blk g9 28 [C.a, C.b, C.c, C.d, C.e, C.f, .slice E ne ce],blk g4 28 [B.a, B.b, B.c, B.d, B.e, B.f, .slice A n c]] V28):=Lib.hid (S27.out.gr hv29)
  clear S27
  clear hv29
  refine ⟨rfl,hK _ _ ?_⟩
  clear hK
  have S31 : Hid (St w noB [own (.slice none 0 0) 74 5 0 (ccs []),blk bb23 25 [((Gm.cap B C).a:Int), ((Gm.cap B C).b:Int), ((Gm.cap B C).c:Int), ((Gm.cap B C).d:Int), ((Gm.cap B C).e:Int), ((Gm.cap B C).f:Int)],blk g17 46 [.slice none 0 0],blk g9 28 [C.a, C.b, C.c, C.d, C.e, C.f, .slice E ne ce],blk g4 28 [B.a, B.b, B.c, B.d, B.e, B.f, .slice A n c]] V28):=Lib.hid (S30.out.nilOwn 74 5)
  clear S30
  go_wp2_with fail
  have hB_ : w.heap.size ≤ V28.heap.size:=S31.out.size
  have hbb_ : bb23 < V28.heap.size:=blk_lt S31.out 1 rfl
  refine range_law (gf:=87) (lb:=#[.pointer (some ⟨bb23,0,none⟩)]) (T':=(fun k=>k = V28.heap.size ∨ k = V28.heap.size + 1 ∨ k = bb23)) rfl (enters_of Tryd.func87 (by kernel_rfl) rfl) (places1_seq bb23 (Gm.cap B C) V28 (S31.out.row 1 rfl) (Gm.cap_fits HOK.out HOK2.out.rg)) (fun W1_ hs_ k_ hk_=>⟨.inr (.inr hk_),by (have e_ : k_ = bb23:=hk_);omega,by (have e_ : k_ = bb23:=hk_);omega⟩) (.inl rfl) (.inr (.inl rfl)) (fun _=>rfl) (fun kk wr=>∃ (Dd : Option Addr) (nd cd : Nat),nd ≤ kk ∧ St w noB [own (.slice Dd nd cd) 74 5 nd (ccs (Gm.dfc B l C m kk)),blk bb23 25 [((Gm.cap B C).a:Int), ((Gm.cap B C).b:Int), ((Gm.cap B C).c:Int), ((Gm.cap B C).d:Int), ((Gm.cap B C).e:Int), ((Gm.cap B C).f:Int)],blk g17 46 [.slice Dd nd cd],blk g9 28 [C.a, C.b, C.c, C.d, C.e, C.f, .slice E ne ce],blk g4 28 [B.a, B.b, B.c, B.d, B.e, B.f, .slice A n c]] wr) (fun _ _ _=>False) (fun kk a_ wr=>∃ (u6 : Nat) (Dd : Option Addr) (nd cd : Nat),a_ = ⟨#[.agg #[B.a, B.b, B.c, B.d, B.e, B.f, .slice A n c], .agg #[C.a, C.b, C.c, C.d, C.e, C.f, .slice E ne ce], .pointer (some ⟨g4,0,none⟩), .pointer (some ⟨g9,0,none⟩), .slice none 0 0, .pointer (some ⟨g17,0,none⟩), .pointer (some ⟨u6,0,none⟩),undef,undef, .pointer (some ⟨g4,0,none⟩), .agg #[B.a, B.b, B.c, B.d, B.e, B.f], .pointer (some ⟨g9,0,none⟩), .agg #[C.a, C.b, C.c, C.d, C.e, C.f], .agg #[((Gm.cap B C).a:Int), ((Gm.cap B C).b:Int), ((Gm.cap B C).c:Int), ((Gm.cap B C).d:Int), ((Gm.cap B C).e:Int), ((Gm.cap B C).f:Int)], .func (.func 87) #[] #[.pointer (some ⟨bb23,0,none⟩)], .agg #[((Gm.cap B C).ax kk:Int), ((Gm.cap B C).ay kk:Int), ((Gm.cap B C).az kk:Int)],undef,undef,undef,undef,undef,undef,undef,undef,undef,undef,undef,undef,undef,undef,undef,undef,undef],[]⟩ ∧ nd ≤ kk ∧ St w noB [blk u6 23 [((Gm.cap B C).ax kk:Int), ((Gm.cap B C).ay kk:Int), ((Gm.cap B C).az kk:Int)],own (.slice Dd nd cd) 74 5 nd (ccs (Gm.dfc B l C m kk)),blk bb23 25 [((Gm.cap B C).a:Int), ((Gm.cap B C).b:Int), ((Gm.cap B C).c:Int), ((Gm.cap B C).d:Int), ((Gm.cap B C).e:Int), ((Gm.cap B C).f:Int)],blk g17 46 [.slice Dd nd cd],blk g9 28 [C.a, C.b, C.c, C.d, C.e, C.f, .slice E ne ce],blk g4 28 [B.a, B.b, B.c, B.d, B.e, B.f, .slice A n c]] wr) (fun s_ X_ Y_ row_ h_ hg_ hr_=>(match h_ with | ⟨x0_,x1_,x2_,p0_,hs_⟩=>⟨x0_,x1_,x2_,p0_,hs_.turned (cels_cons (cel_own _ _ _ _ _) (cels_cons (cel_blk _ _ _) (cels_cons (cel_blk _ _ _) (cels_cons (cel_blk _ _ _) (cels_cons (cel_blk _ _ _) cels_nil))))) hB_ hg_ hr_⟩)) (fun _ _ _ _ _ h_ _ _=>h_) (fun kk a_=>fun s_ X_ Y_ row_ h_ hg_ hr_=>(match h_ with | ⟨x0_,x1_,x2_,x3_,p0_,p1_,hs_⟩=>⟨x0_,x1_,x2_,x3_,p0_,p1_,hs_.turned (cels_cons (cel_blk _ _ _) (cels_cons (cel_own _ _ _ _ _) (cels_cons (cel_blk _ _ _) (cels_cons (cel_blk _ _ _) (cels_cons (cel_blk _ _ _) (cels_cons (cel_blk _ _ _) cels_nil)))))) hB_ hg_ hr_⟩)) ⟨none,0,0,(Nat.le_refl _),S31.out⟩ ?_ ?_ ?_ ?_
  · intro l_ kk W_ hk_ hi_ hR_
    obtain ⟨Dd,nd,cd,hnd_,hS_⟩:=hi_
    have hS0_:=hS_
    obtain ⟨f_,hA_,hsts_,hfp_,hback_⟩:=hS_.anew
    clear hS_
    have HW_ : Hid (Gr w W_):=Lib.hid (hS0_.belo HW00.out HF00.out)
    have HF_ : Hid (∀ k,f_ k → w.heap.size ≤ k):=Lib.hid (fun k hk=>by rcases hfp_ k hk with h_ | h_;exact HF00.out k h_;exact Nat.le_trans (Gr.size HW00.out) h_)
    have hsz_ : w.heap.size ≤ W_.heap.size:=hS0_.size
    clear hS0_
    have HBB : Hid (W_.heap[bb23]? = some (.cells (List.toArray [((Gm.cap B C).a:Int), ((Gm.cap B C).b:Int), ((Gm.cap B C).c:Int), ((Gm.cap B C).d:Int), ((Gm.cap B C).e:Int), ((Gm.cap B C).f:Int)]) 25 (0,0))):=Lib.hid (hA_.heap 1 rfl)
    have SR:=Lib.hid hA_
    clear hA_
    have S32:=SR
    clear SR
    rw [zip1];simp only [n3,n4]
    refine wpGI_region_k rfl (fun K hK=>?_)
    refine wpG_val (some 6) rfl (by rfl) (fun W33 hg34=>⟨.pointer (some ⟨W33.heap.size,0,none⟩),W33.alloc (.cells #[(), (), ()] 23),by (first | (go_simp;done) | (go_simp <;> rfl)), ?_⟩)
    simp only [n1,n3,n4]
    obtain ⟨g35,U36,hg_,hu_,hS_⟩:=(S32.out.gr hg34).made [(), (), ()] 23
    rw [← hu_,← hg_]
    have S37 : Hid (St W_ f_ [blk g35 23 [(), (), ()],own (.slice Dd nd cd) 74 5 nd (ccs (Gm.dfc B l C m kk)),blk bb23 25 [((Gm.cap B C).a:Int), ((Gm.cap B C).b:Int), ((Gm.cap B C).c:Int), ((Gm.cap B C).d:Int), ((Gm.cap B C).e:Int), ((Gm.cap B C).f:Int)],blk g17 46 [.slice Dd nd cd],blk g9 28 [C.a, C.b, C.c, C.d, C.e, C.f, .slice E ne ce],blk g4 28 [B.a, B.b, B.c, B.d, B.e, B.f, .slice A n c]] U36):=Lib.hid hS_
    clear S32
    clear hg_ hu_ hS_ hg34
    refine wpG_store (none) rfl (by rfl) (fun W38 hg39=>⟨_,run_store_mid 23 (.tmp 6) (.tmp 15) rfl g35 0 #[((Gm.cap B C).ax kk:Int), ((Gm.cap B C).ay kk:Int), ((Gm.cap B C).az kk:Int)] rfl rfl ((S37.out.gr hg39).room 0 rfl 0 3 (by simp)) (by kernel_rfl) (by kernel_rfl), ?_⟩)
    simp only [n2]
    obtain ⟨U40,hu_,hS_⟩:=((S37.out.gr hg39).put 0 rfl 0 (#[((Gm.cap B C).ax kk:Int), ((Gm.cap B C).ay kk:Int), ((Gm.cap B C).az kk:Int)] : Array Value).toList (ds:=[((Gm.cap B C).ax kk:Int), ((Gm.cap B C).ay kk:Int), ((Gm.cap B C).az kk:Int)]) rfl).named
    rw [← hu_]
    have S41 : Hid (St W_ f_ [blk g35 23 [((Gm.cap B C).ax kk:Int), ((Gm.cap B C).ay kk:Int), ((Gm.cap B C).az kk:Int)],own (.slice Dd nd cd) 74 5 nd (ccs (Gm.dfc B l C m kk)),blk bb23 25 [((Gm.cap B C).a:Int), ((Gm.cap B C).b:Int), ((Gm.cap B C).c:Int), ((Gm.cap B C).d:Int), ((Gm.cap B C).e:Int), ((Gm.cap B C).f:Int)],blk g17 46 [.slice Dd nd cd],blk g9 28 [C.a, C.b, C.c, C.d, C.e, C.f, .slice E ne ce],blk g4 28 [B.a, B.b, B.c, B.d, B.e, B.f, .slice A n c]] U40):=Lib.hid hS_
    clear S37
    clear hu_ hS_ hg39
    refine wpG_done (fun V42 hv43=>?_)
    have S44 : Hid (St W_ f_ [blk g35 23 [((Gm.cap B C).ax kk:Int), ((Gm.cap B C).ay kk:Int), ((Gm.cap B C).az kk:Int)],own (.slice Dd nd cd) 74 5 nd (ccs (Gm.dfc B l C m kk)),blk bb23 25 [((Gm.cap B C).a:Int), ((Gm.cap B C).b:Int), ((Gm.cap B C).c:Int), ((Gm.cap B C).d:Int), ((Gm.cap B C).e:Int), ((Gm.cap B C).f:Int)],blk g17 46 [.slice Dd nd cd],blk g9 28 [C.a, C.b, C.c, C.d, C.e, C.f, .slice E ne ce],blk g4 28 [B.a, B.b, B.c, B.d, B.e, B.f, .slice A n c]] V42):=Lib.hid (S41.out.gr hv43)
    clear S41
    clear hv43
    refine ⟨rfl,hK _ _ ?_⟩
    clear hK
    (try simp only [Exit.then,Exit.inBlock])
    exact ⟨keep_st S44.out hsts_ (cels_cons (cel_own _ _ _ _ _) (cels_cons (cel_blk _ _ _) (cels_cons (cel_blk _ _ _) (cels_cons (cel_blk _ _ _) (cels_cons (cel_blk _ _ _) cels_nil))))) hR_ HBB.out 2 rfl,⟨g35,Dd,nd,cd,rfl,hnd_,hback_ ((((((S44.out.front 5 rfl).front 5 rfl).front 5 rfl).front 5 rfl).front 5 rfl).front 5 rfl)⟩⟩
  · intro l_ kk a_ W_ hk_ hax_ hR_
    obtain ⟨u6,Dd,nd,cd,rfl,hnd_,hS_⟩:=hax_
    have hS0_:=hS_
    obtain ⟨f_,hA_,hsts_,hfp_,hback_⟩:=hS_.anew
    clear hS_
    have HW_ : Hid (Gr w W_):=Lib.hid (hS0_.belo HW00.out HF00.out)
    have HF_ : Hid (∀ k,f_ k → w.heap.size ≤ k):=Lib.hid (fun k hk=>by rcases hfp_ k hk with h_ | h_;exact HF00.out k h_;exact Nat.le_trans (Gr.size HW00.out) h_)
    have hsz_ : w.heap.size ≤ W_.heap.size:=hS0_.size
    clear hS0_
    have HBB : Hid (W_.heap[bb23]? = some (.cells (List.toArray [((Gm.cap B C).a:Int), ((Gm.cap B C).b:Int), ((Gm.cap B C).c:Int), ((Gm.cap B C).d:Int), ((Gm.cap B C).e:Int), ((Gm.cap B C).f:Int)]) 25 (0,0))):=Lib.hid (hA_.heap 2 rfl)
    have SR:=Lib.hid hA_
    clear hA_
    have S45:=SR
    clear SR
    refine wpIn_block ?_
    refine wpIn_seq ?_
    refine wpKI_region_k rfl (by kernel_rfl) (fun K hK=>?_)
    refine wpK_tk (i:=0) (some 16) (v:=.agg #[B.a, B.b, B.c, B.d, B.e, B.f, .slice A n c]) rfl rfl (by kernel_rfl) (fun _ _ _ h=>onN_panic h) (.load_mid (by rfl) 28 (.tmp 2) rfl g4 0 rfl [B.a, B.b, B.c, B.d, B.e, B.f, .slice A n c] _ (fun W hg=>(S45.out.gr (Gr.un hg)).range 5 rfl 0 7 rfl) Tryd.underlying28 rfl (by kernel_rfl)) ?_
    simp only [n1,n3,n4]
    refine wpK_tk (i:=1) (some 17) (v:=.agg #[((Gm.cap B C).ax kk:Int), ((Gm.cap B C).ay kk:Int), ((Gm.cap B C).az kk:Int)]) rfl rfl (by kernel_rfl) (fun _ _ _ h=>onN_panic h) (.load_mid (by rfl) 23 (.tmp 6) rfl u6 0 rfl [((Gm.cap B C).ax kk:Int), ((Gm.cap B C).ay kk:Int), ((Gm.cap B C).az kk:Int)] _ (fun W hg=>(S45.out.gr (Gr.un hg)).range 0 rfl 0 3 rfl) Tryd.underlying23 rfl (by kernel_rfl)) ?_
    simp only [n1,n3,n4]
    refine wpK_tk (i:=2) (some 18) (v:=(Gm.get B l ((Gm.cap B C).ax kk) ((Gm.cap B C).ay kk) ((Gm.cap B C).az kk))) rfl rfl (by kernel_rfl) (fun _ _ _ h=>onN_panic h) (.call (f:=21) (args:=#[.agg #[B.a, B.b, B.c, B.d, B.e, B.f, .slice A n c], .agg #[((Gm.cap B C).ax kk:Int), ((Gm.cap B C).ay kk:Int), ((Gm.cap B C).az kk:Int)]]) (by rfl) (fun W=>by go_simp) (fun W hg=>get_any B _ _ _ l ((Gm.cap B C).ax kk) ((Gm.cap B C).ay kk) ((Gm.cap B C).az kk) W (HGA.out.gr ((S45.out.gr (Gr.un hg)).belo HW_.out HF_.out)) HOK.out (Gm.at_rp (Gm.cap_rg HOK.out.rg HOK2.out.rg) (Int.natCast_nonneg _) (by omega)))) ?_
    simp only [n1,n3,n4]
    refine wpK_tk (i:=3) (some 19) (v:=.agg #[C.a, C.b, C.c, C.d, C.e, C.f, .slice E ne ce]) rfl rfl (by kernel_rfl) (fun _ _ _ h=>onN_panic h) (.load_mid (by rfl) 28 (.tmp 3) rfl g9 0 rfl [C.a, C.b, C.c, C.d, C.e, C.f, .slice E ne ce] _ (fun W hg=>(S45.out.gr (Gr.un hg)).range 4 rfl 0 7 rfl) Tryd.underlying28 rfl (by kernel_rfl)) ?_
    simp only [n1,n3,n4]
    refine wpK_tk (i:=4) (some 20) (v:=.agg #[((Gm.cap B C).ax kk:Int), ((Gm.cap B C).ay kk:Int), ((Gm.cap B C).az kk:Int)]) rfl rfl (by kernel_rfl) (fun _ _ _ h=>onN_panic h) (.load_mid (by rfl) 23 (.tmp 6) rfl u6 0 rfl [((Gm.cap B C).ax kk:Int), ((Gm.cap B C).ay kk:Int), ((Gm.cap B C).az kk:Int)] _ (fun W hg=>(S45.out.gr (Gr.un hg)).range 0 rfl 0 3 rfl) Tryd.underlying23 rfl (by kernel_rfl)) ?_
    simp only [n1,n3,n4]
    refine wpK_tk (i:=5) (some 21) (v:=(Gm.get C m ((Gm.cap B C).ax kk) ((Gm.cap B C).ay kk) ((Gm.cap B C).az kk))) rfl rfl (by kernel_rfl) (fun _ _ _ h=>onN_panic h) (.call (f:=21) (args:=#[.agg #[C.a, C.b, C.c, C.d, C.e, C.f, .slice E ne ce], .agg #[((Gm.cap B C).ax kk:Int), ((Gm.cap B C).ay kk:Int), ((Gm.cap B C).az kk:Int)]]) (by rfl) (fun W=>by go_simp) (fun W hg=>get_any C _ _ _ m ((Gm.cap B C).ax kk) ((Gm.cap B C).ay kk) ((Gm.cap B C).az kk) W (HGB.out.gr ((S45.out.gr (Gr.un hg)).belo HW_.out HF_.out)) HOK2.out (Gm.at_rp (Gm.cap_rg HOK.out.rg HOK2.out.rg) (Int.natCast_nonneg _) (by omega)))) ?_
    simp only [n1,n3,n4]
    refine wpK_ta (i:=6) (some 7) (v:=(Gm.get B l ((Gm.cap B C).ax kk) ((Gm.cap B C).ay kk) ((Gm.cap B C).az kk))) rfl rfl (by kernel_rfl) (fun _ _ _ h=>onN_panic h) (Or.inl ⟨rfl,fun _=>rfl⟩) ?_
    simp only [n1,n3,n4]
    refine wpK_ta (i:=7) (some 8) (v:=(Gm.get C m ((Gm.cap B C).ax kk) ((Gm.cap B C).ay kk) ((Gm.cap B C).az kk))) rfl rfl (by kernel_rfl) (fun _ _ _ h=>onN_panic h) (Or.inl ⟨rfl,fun _=>rfl⟩) ?_
    simp only [n1,n3,n4]
    refine wpK_done (by kernel_rfl) (fun V46 hv47=>?_) _
    have S48 : Hid (St W_ f_ [blk u6 23 [((Gm.cap B C).ax kk:Int), ((Gm.cap B C).ay kk:Int), ((Gm.cap B C).az kk:Int)],own (.slice Dd nd cd) 74 5 nd (ccs (Gm.dfc B l C m kk)),blk bb23 25 [((Gm.cap B C).a:Int), ((Gm.cap B C).b:Int), ((Gm.cap B C).c:Int), ((Gm.cap B C).d:Int), ((Gm.cap B C).e:Int), ((Gm.cap B C).f:Int)],blk g17 46 [.slice Dd nd cd],blk g9 28 [C.a, C.b, C.c, C.d, C.e, C.f, .slice E ne ce],blk g4 28 [B.a, B.b, B.c, B.d, B.e, B.f, .slice A n c]] V46):=Lib.hid (S45.out.gr (Gr.un hv47))
    clear S45
    clear hv47
    refine ⟨rfl,hK _ _ ?_⟩
    clear hK
    (try simp only [Exit.then,Exit.inBlock])
    refine wpIn_seq ?_
    refine wpGI_region_k rfl (fun K hK=>?_)
    refine @wpG_p _ _ _ _ _ (some 22) (Gm.get B l ((Gm.cap B C).ax kk) ((Gm.cap B C).ay kk) ((Gm.cap B C).az kk)) _ _ rfl (by rfl) (fun _=>rfl) ?_
    simp only [n1,n3,n4]
    refine @wpG_p _ _ _ _ _ (some 23) (Gm.get C m ((Gm.cap B C).ax kk) ((Gm.cap B C).ay kk) ((Gm.cap B C).az kk)) _ _ rfl (by rfl) (fun _=>rfl) ?_
    simp only [n1,n3,n4]
    refine @wpG_p _ _ _ _ _ (some 24) (.bool (decide (Gm.get B l ((Gm.cap B C).ax kk) ((Gm.cap B C).ay kk) ((Gm.cap B C).az kk) ≠ Gm.get C m ((Gm.cap B C).ax kk) ((Gm.cap B C).ay kk) ((Gm.cap B C).az kk)))) _ _ rfl (by rfl) (fun W=>op_int_neq W (Gm.get B l ((Gm.cap B C).ax kk) ((Gm.cap B C).ay kk) ((Gm.cap B C).az kk)) (Gm.get C m ((Gm.cap B C).ax kk) ((Gm.cap B C).ay kk) ((Gm.cap B C).az kk)) rfl rfl rfl Tryd.underlying3) ?_
    simp only [n1,n3,n4]
    refine wpG_done (fun V49 hv50=>?_)
    have S51 : Hid (St W_ f_ [blk u6 23 [((Gm.cap B C).ax kk:Int), ((Gm.cap B C).ay kk:Int), ((Gm.cap B C).az kk:Int)],own (.slice Dd nd cd) 74 5 nd (ccs (Gm.dfc B l C m kk)),blk bb23 25 [((Gm.cap B C).a:Int), ((Gm.cap B C).b:Int), ((Gm.cap B C).c:Int), ((Gm.cap B C).d:Int), ((Gm.cap B C).e:Int), ((Gm.cap B C).f:Int)],blk g17 46 [.slice Dd nd cd],blk g9 28 [C.a, C.b, C.c, C.d, C.e, C.f, .slice E ne ce],blk g4 28 [B.a, B.b, B.c, B.d, B.e, B.f, .slice A n c]] V49):=Lib.hid (S48.out.gr hv50)
    clear S48
    clear hv50
    refine ⟨rfl,hK _ _ ?_⟩
    clear hK
    (try simp only [Exit.then,Exit.inBlock])
    obtain ⟨c52,hc52⟩ : ∃ q_,q_ = (decide (Gm.get B l ((Gm.cap B C).ax kk) ((Gm.cap B C).ay kk) ((Gm.cap B C).az kk) ≠ Gm.get C m ((Gm.cap B C).ax kk) ((Gm.cap B C).ay kk) ((Gm.cap B C).az kk))):=⟨_,rfl⟩
    rw [← hc52]
    have Hc52:=Lib.hid hc52
    clear hc52
    cases c52 with
    | true =>
      have f53:=of_decide_eq_true Hc52.out.symm
      refine wpIn_cond_true rfl ?_
      refine wpGI_region_k rfl (fun K hK=>?_)
      refine @wpG_r _ _ _ _ _ (some 25) (.slice Dd nd cd) _ _ rfl (by rfl) (fun W hg=>by have c:=(S51.out.gr hg).cell 3 rfl 0 rfl;go_simp) ?_
      simp only [n1,n3,n4]
      refine @wpG_tk _ _ _ _ _ (some 26) (.agg #[((Gm.cap B C).ax kk:Int), ((Gm.cap B C).ay kk:Int), ((Gm.cap B C).az kk:Int)]) _ _ rfl (.load_mid (by rfl) 23 (.tmp 6) rfl u6 0 rfl [((Gm.cap B C).ax kk:Int), ((Gm.cap B C).ay kk:Int), ((Gm.cap B C).az kk:Int)] _ (fun W hg=>(S51.out.gr hg).range 0 rfl 0 3 rfl) Tryd.underlying23 rfl (by kernel_rfl)) ?_
      simp only [n1,n3,n4]
      refine @wpG_p _ _ _ _ _ (some 27) (Gm.get B l ((Gm.cap B C).ax kk) ((Gm.cap B C).ay kk) ((Gm.cap B C).az kk)) _ _ rfl (by rfl) (fun _=>rfl) ?_
      simp only [n1,n3,n4]
      refine @wpG_p _ _ _ _ _ (some 28) (Gm.get C m ((Gm.cap B C).ax kk) ((Gm.cap B C).ay kk) ((Gm.cap B C).az kk)) _ _ rfl (by rfl) (fun _=>rfl) ?_
      simp only [n1,n3,n4]
      refine @wpG_p _ _ _ _ _ (some 29) (.agg #[((Gm.cap B C).ax kk:Int), ((Gm.cap B C).ay kk:Int), ((Gm.cap B C).az kk:Int), (Gm.get B l ((Gm.cap B C).ax kk) ((Gm.cap B C).ay kk) ((Gm.cap B C).az kk)), (Gm.get C m ((Gm.cap B C).ax kk) ((Gm.cap B C).ay kk) ((Gm.cap B C).az kk))]) _ _ rfl (by rfl) (fun W=>by go_simp) ?_
      simp only [n1,n3,n4]
      refine wpG_val (some 30) rfl (by rfl) (fun W54 hg55=>⟨.slice (some ⟨W54.heap.size,0,none⟩) 1 1,W54.alloc (.cells #[((Gm.cap B C).ax kk:Int), ((Gm.cap B C).ay kk:Int), ((Gm.cap B C).az kk:Int), (Gm.get B l ((Gm.cap B C).ax kk) ((Gm.cap B C).ay kk) ((Gm.cap B C).az kk)), (Gm.get C m ((Gm.cap B C).ax kk) ((Gm.cap B C).ay kk) ((Gm.cap B C).az kk))] 74),by (go_simp <;> rfl), ?_⟩)
      simp only [n1,n3,n4]
      obtain ⟨g56,U57,hg_,hu_,hS_⟩:=(S51.out.gr hg55).made [((Gm.cap B C).ax kk:Int), ((Gm.cap B C).ay kk:Int), ((Gm.cap B C).az kk:Int), (Gm.get B l ((Gm.cap B C).ax kk) ((Gm.cap B C).ay kk) ((Gm.cap B C).az kk)), (Gm.get C m ((Gm.cap B C).ax kk) ((Gm.cap B C).ay kk) ((Gm.cap B C).az kk))] 74
      rw [← hu_,← hg_]
      have S58 : Hid (St W_ f_ [blk g56 74 [((Gm.cap B C).ax kk:Int), ((Gm.cap B C).ay kk:Int), ((Gm.cap B C).az kk:Int), (Gm.get B l ((Gm.cap B C).ax kk) ((Gm.cap B C).ay kk) ((Gm.cap B C).az kk)), (Gm.get C m ((Gm.cap B C).ax kk) ((Gm.cap B C).ay kk) ((Gm.cap B C).az kk))],blk u6 23 [((Gm.cap B C).ax kk:Int), ((Gm.cap B C).ay kk:Int), ((Gm.cap B C).az kk:Int)],own (.slice Dd nd cd) 74 5 nd (ccs (Gm.dfc B l C m kk)),blk bb23 25 [((Gm.cap B C).a:Int), ((Gm.cap B C).b:Int), ((Gm.cap B C).c:Int), ((Gm.cap B C).d:Int), ((Gm.cap B C).e:Int), ((Gm.cap B C).f:Int)],blk g17 46 [.slice Dd nd cd],blk g9 28 [C.a, C.b, C.c, C.d, C.e, C.f, .slice E ne ce],blk g4 28 [B.a, B.b, B.c, B.d, B.e, B.f, .slice A n c]] U57):=Lib.hid hS_
      clear S51
      clear hg_ hu_ hS_ hg55
      have S59 : Hid (St W_ f_ [own (.slice Dd nd cd) 74 5 nd (ccs (Gm.dfc B l C m kk)),blk g56 74 [((Gm.cap B C).ax kk:Int), ((Gm.cap B C).ay kk:Int), ((Gm.cap B C).az kk:Int), (Gm.get B l ((Gm.cap B C).ax kk) ((Gm.cap B C).ay kk) ((Gm.cap B C).az kk)), (Gm.get C m ((Gm.cap B C).ax kk) ((Gm.cap B C).ay kk) ((Gm.cap B C).az kk))],blk u6 23 [((Gm.cap B C).ax kk:Int), ((Gm.cap B C).ay kk:Int), ((Gm.cap B C).az kk:Int)],blk bb23 25 [((Gm.cap B C).a:Int), ((Gm.cap B C).b:Int), ((Gm.cap B C).c:Int), ((Gm.cap B C).d:Int), ((Gm.cap B C).e:Int), ((Gm.cap B C).f:Int)],blk g17 46 [.slice Dd nd cd],blk g9 28 [C.a, C.b, C.c, C.d, C.e, C.f, .slice E ne ce],blk g4 28 [B.a, B.b, B.c, B.d, B.e, B.f, .slice A n c]] U57):=Lib.hid (S58.out.front 2 rfl)
      clear S58
      refine wpG_appS (some 31) rfl rfl (.tmp 25) (.tmp 30) 46 46 rfl 74 5 40 Tryd.underlying46 (by kernel_rfl) (.slice Dd nd cd) nd (ccs (Gm.dfc B l C m kk)) S59.out (.slice (some ⟨g56,0,none⟩) 1 1) 1 [((Gm.cap B C).ax kk:Int), ((Gm.cap B C).ay kk:Int), ((Gm.cap B C).az kk:Int), (Gm.get B l ((Gm.cap B C).ax kk) ((Gm.cap B C).ay kk) ((Gm.cap B C).az kk)), (Gm.get C m ((Gm.cap B C).ax kk) ((Gm.cap B C).ay kk) ((Gm.cap B C).az kk))] (fun W hg=>src_lies Tryd.underlying46 1 rfl (fun h=>by cases h) (by intro u hu;simp at hu;rcases hu with rfl | rfl | rfl | rfl | rfl <;> rfl) ((S59.out.gr hg).liesBlk 1 rfl)) rfl rfl (by simp only [maxLen];(have a1:=HOK.out.max;have a2:=Gm.cap_vol B C;omega)) (by (have a1:=HOK.out.max;have a2:=Gm.cap_vol B C;omega)) (fun v60 W61 hS_=>?_)
      simp only [n1,n3,n4]
      rw [show ccs (Gm.dfc B l C m kk) ++ [.int .i64 ((Gm.cap B C).ax kk), .int .i64 ((Gm.cap B C).ay kk), .int .i64 ((Gm.cap B C).az kk), .int .i64 (Gm.get B l ((Gm.cap B C).ax kk) ((Gm.cap B C).ay kk) ((Gm.cap B C).az kk)), .int .i64 (Gm.get C m ((Gm.cap B C).ax kk) ((Gm.cap B C).ay kk) ((Gm.cap B C).az kk))] = ccs ((Gm.dfc B l C m kk) ++ [⟨(Gm.cap B C).ax kk,(Gm.cap B C).ay kk,(Gm.cap B C).az kk,Gm.get B l ((Gm.cap B C).ax kk) ((Gm.cap B C).ay kk) ((Gm.cap B C).az kk),Gm.get C m ((Gm.cap B C).ax kk) ((Gm.cap B C).ay kk) ((Gm.cap B C).az kk)⟩]) by simp [ccs,cc]] at hS_
      obtain ⟨A62,k63,rfl,hle_,hcap_,_⟩:=own_shape (hS_.ownr 0 rfl)
      have S64 : Hid (St W_ f_ [own (.slice A62 (nd + 1) k63) 74 5 (nd + 1) (ccs ((Gm.dfc B l C m kk) ++ [⟨(Gm.cap B C).ax kk,(Gm.cap B C).ay kk,(Gm.cap B C).az kk,Gm.get B l ((Gm.cap B C).ax kk) ((Gm.cap B C).ay kk) ((Gm.cap B C).az kk),Gm.get C m ((Gm.cap B C).ax kk) ((Gm.cap B C).ay kk) ((Gm.cap B C).az kk)⟩])),blk g56 74 [((Gm.cap B C).ax kk:Int), ((Gm.cap B C).ay kk:Int), ((Gm.cap B C).az kk:Int), (Gm.get B l ((Gm.cap B C).ax kk) ((Gm.cap B C).ay kk) ((Gm.cap B C).az kk)), (Gm.get C m ((Gm.cap B C).ax kk) ((Gm.cap B C).ay kk) ((Gm.cap B C).az kk))],blk u6 23 [((Gm.cap B C).ax kk:Int), ((Gm.cap B C).ay kk:Int), ((Gm.cap B C).az kk:Int)],blk bb23 25 [((Gm.cap B C).a:Int), ((Gm.cap B C).b:Int), ((Gm.cap B C).c:Int), ((Gm.cap B C).d:Int), ((Gm.cap B C).e:Int), ((Gm.cap B C).f:Int)],blk g17 46 [.slice Dd nd cd],blk g9 28 [C.a, C.b, C.c, C.d, C.e, C.f, .slice E ne ce],blk g4 28 [B.a, B.b, B.c, B.d, B.e, B.f, .slice A n c]] W61):=Lib.hid hS_
      clear S59
      clear hS_
      refine wpG_store (none) rfl (by rfl) (fun W65 hg66=>⟨W65.setCell ⟨g17,0,none⟩ (.slice A62 (nd + 1) k63),by have c:=(S64.out.gr hg66).cell 4 rfl 0 rfl;have c2:=(S64.out.gr hg66).soft 4 rfl 0 rfl;go_simp, ?_⟩)
      simp only [n2]
      obtain ⟨U67,hu_,hS_⟩:=((S64.out.gr hg66).put1 4 rfl 0 (.slice A62 (nd + 1) k63)).named
      rw [← hu_]
      have S68 : Hid (St W_ f_ [own (.slice A62 (nd + 1) k63) 74 5 (nd + 1) (ccs ((Gm.dfc B l C m kk) ++ [⟨(Gm.cap B C).ax kk,(Gm.cap B C).ay kk,(Gm.cap B C).az kk,Gm.get B l ((Gm.cap B C).ax kk) ((Gm.cap B C).ay kk) ((Gm.cap B C).az kk),Gm.get C m ((Gm.cap B C).ax kk) ((Gm.cap B C).ay kk) ((Gm.cap B C).az kk)⟩])),blk g56 74 [((Gm.cap B C).ax kk:Int), ((Gm.cap B C).ay kk:Int), ((Gm.cap B C).az kk:Int), (Gm.get B l ((Gm.cap B C).ax kk) ((Gm.cap B C).ay kk) ((Gm.cap B C).az kk)), (Gm.get C m ((Gm.cap B C).ax kk) ((Gm.cap B C).ay kk) ((Gm.cap B C).az kk))],blk u6 23 [((Gm.cap B C).ax kk:Int), ((Gm.cap B C).ay kk:Int), ((Gm.cap B C).az kk:Int)],blk bb23 25 [((Gm.cap B C).a:Int), ((Gm.cap B C).b:Int), ((Gm.cap B C).c:Int), ((Gm.cap B C).d:Int), ((Gm.cap B C).e:Int), ((Gm.cap B C).f:Int)],blk g17 46 [.slice A62 (nd + 1) k63],blk g9 28 [C.a, C.b, C.c, C.d, C.e, C.f, .slice E ne ce],blk g4 28 [B.a, B.b, B.c, B.d, B.e, B.f, .slice A n c]] U67):=Lib.hid hS_
      clear S64
      clear hu_ hS_ hg66
      refine wpG_done (fun V69 hv70=>?_)
      have S71 : Hid (St W_ f_ [own (.slice A62 (nd + 1) k63) 74 5 (nd + 1) (ccs ((Gm.dfc B l C m kk) ++ [⟨(Gm.cap B C).ax kk,(Gm.cap B C).ay kk,(Gm.cap B C).az kk,Gm.get B l ((Gm.cap B C).ax kk) ((Gm.cap B C).ay kk) ((Gm.cap B C).az kk),Gm.get C m ((Gm.cap B C).ax kk) ((Gm.cap B C).ay kk) ((Gm.cap B C).az kk)⟩])),blk g56 74 [((Gm.cap B C).ax kk:Int), ((Gm.cap B C).ay kk:Int), ((Gm.cap B C).az kk:Int), (Gm.get B l ((Gm.cap B C).ax kk) ((Gm.cap B C).ay kk) ((Gm.cap B C).az kk)), (Gm.get C m ((Gm.cap B C).ax kk) ((Gm.cap B C).ay kk) ((Gm.cap B C).az kk))],blk u6 23 [((Gm.cap B C).ax kk:Int), ((Gm.cap B C).ay kk:Int), ((Gm.cap B C).az kk:Int)],blk bb23 25 [((Gm.cap B C).a:Int), ((Gm.cap B C).b:Int), ((Gm.cap B C).c:Int), ((Gm.cap B C).d:Int), ((Gm.cap B C).e:Int), ((Gm.cap B C).f:Int)],blk g17 46 [.slice A62 (nd + 1) k63],blk g9 28 [C.a, C.b, C.c, C.d, C.e, C.f, .slice E ne ce],blk g4 28 [B.a, B.b, B.c, B.d, B.e, B.f, .slice A n c]] V69):=Lib.hid (S68.out.gr hv70)
      clear S68
      clear hv70
      refine ⟨rfl,hK _ _ ?_⟩
      clear hK
      (try simp only [Exit.then,Exit.inBlock])
      refine ⟨keep_st S71.out hsts_ (cels_cons (cel_blk _ _ _) (cels_cons (cel_own _ _ _ _ _) (cels_cons (cel_blk _ _ _) (cels_cons (cel_blk _ _ _) (cels_cons (cel_blk _ _ _) (cels_cons (cel_blk _ _ _) cels_nil)))))) hR_ HBB.out 3 rfl, ?_⟩
      show ∃ (Dd : Option Addr) (nd cd : Nat),nd ≤ (kk + 1) ∧ St w noB [own (.slice Dd nd cd) 74 5 nd (ccs (Gm.dfc B l C m (kk + 1))),blk bb23 25 [((Gm.cap B C).a:Int), ((Gm.cap B C).b:Int), ((Gm.cap B C).c:Int), ((Gm.cap B C).d:Int), ((Gm.cap B C).e:Int), ((Gm.cap B C).f:Int)],blk g17 46 [.slice Dd nd cd],blk g9 28 [C.a, C.b, C.c, C.d, C.e, C.f, .slice E ne ce],blk g4 28 [B.a, B.b, B.c, B.d, B.e, B.f, .slice A n c]] _
      exact ⟨A62,nd + 1,k63,(by omega),(by rw [Gm.dfc_ne f53];exact hback_ ((((((S71.out.front 6 rfl).front 6 rfl).front 6 rfl).front 6 rfl).front 4 rfl).sub (.cons_cons _ (.cons_cons _ (.cons_cons _ (.cons_cons _ (.cons_cons _ (.cons _ (.cons _ .slnil)))))))))⟩
    | false =>
      have f72:=Lib.hid (Decidable.not_not.1 (of_decide_eq_false Hc52.out.symm))
      have f72a:=Int.le_of_eq f72.out
      have f72b:=Int.le_of_eq f72.out.symm
      refine wpIn_cond_false rfl ?_
      refine wpIn_skip ?_
      (try simp only [Exit.then,Exit.inBlock])
      refine ⟨keep_st S51.out hsts_ (cels_cons (cel_blk _ _ _) (cels_cons (cel_own _ _ _ _ _) (cels_cons (cel_blk _ _ _) (cels_cons (cel_blk _ _ _) (cels_cons (cel_blk _ _ _) (cels_cons (cel_blk _ _ _) cels_nil)))))) hR_ HBB.out 2 rfl, ?_⟩
      show ∃ (Dd : Option Addr) (nd cd : Nat),nd ≤ (kk + 1) ∧ St w noB [own (.slice Dd nd cd) 74 5 nd (ccs (Gm.dfc B l C m (kk + 1))),blk bb23 25 [((Gm.cap B C).a:Int), ((Gm.cap B C).b:Int), ((Gm.cap B C).c:Int), ((Gm.cap B C).d:Int), ((Gm.cap B C).e:Int), ((Gm.cap B C).f:Int)],blk g17 46 [.slice Dd nd cd],blk g9 28 [C.a, C.b, C.c, C.d, C.e, C.f, .slice E ne ce],blk g4 28 [B.a, B.b, B.c, B.d, B.e, B.f, .slice A n c]] _
      exact ⟨Dd,nd,cd,(by omega),(by have e_f72:=f72.out;rw [Gm.dfc_eq (by first | exact e_f72 | exact Decidable.not_not.1 e_f72)];exact hback_ ((((((S51.out.front 5 rfl).front 5 rfl).front 5 rfl).front 5 rfl).front 5 rfl).sub (.cons_cons _ (.cons_cons _ (.cons_cons _ (.cons_cons _ (.cons_cons _ (.cons _ .slnil))))))))⟩
  · intro D_ W_ hD_ hi_ hdd_
    obtain ⟨Dd,nd,cd,hnd_,hS_⟩:=hi_
    have hDw_ : w.heap.size ≤ D_:=Nat.le_trans hB_ hD_
    have hS2_:=hS_.defer (cels_cons (cel_own _ _ _ _ _) (cels_cons (cel_blk _ _ _) (cels_cons (cel_blk _ _ _) (cels_cons (cel_blk _ _ _) (cels_cons (cel_blk _ _ _) cels_nil))))) hDw_ hdd_
    clear hS_ hdd_ hD_ hB_ hbb_
    have S73 : Hid (St w noB [dfr D_,own (.slice Dd nd cd) 74 5 nd (ccs (Gm.dfc B l C m ((Gm.cap B C).vol.toNat))),blk bb23 25 [((Gm.cap B C).a:Int), ((Gm.cap B C).b:Int), ((Gm.cap B C).c:Int), ((Gm.cap B C).d:Int), ((Gm.cap B C).e:Int), ((Gm.cap B C).f:Int)],blk g17 46 [.slice Dd nd cd],blk g9 28 [C.a, C.b, C.c, C.d, C.e, C.f, .slice E ne ce],blk g4 28 [B.a, B.b, B.c, B.d, B.e, B.f, .slice A n c]] W_):=Lib.hid hS2_
    clear S31
    clear hS2_
    go_upto_region 7 with fail
    refine wpG_region_k (fun K hK=>?_)
    refine @wpG_r _ _ _ _ _ (some 32) (.slice Dd nd cd) _ _ rfl (by rfl) (fun W hg=>by have c:=(S73.out.gr hg).cell 3 rfl 0 rfl;go_simp) ?_
    simp only [n1,n3,n4]
    refine @wpG_p _ _ _ _ _ (some 4) (.slice Dd nd cd) _ _ rfl (by rfl) (fun _=>rfl) ?_
    simp only [n1,n3,n4]
    refine wpG_done (fun V74 hv75=>?_)
    have S76 : Hid (St w noB [dfr D_,own (.slice Dd nd cd) 74 5 nd (ccs (Gm.dfc B l C m ((Gm.cap B C).vol.toNat))),blk bb23 25 [((Gm.cap B C).a:Int), ((Gm.cap B C).b:Int), ((Gm.cap B C).c:Int), ((Gm.cap B C).d:Int), ((Gm.cap B C).e:Int), ((Gm.cap B C).f:Int)],blk g17 46 [.slice Dd nd cd],blk g9 28 [C.a, C.b, C.c, C.d, C.e, C.f, .slice E ne ce],blk g4 28 [B.a, B.b, B.c, B.d, B.e, B.f, .slice A n c]] V74):=Lib.hid (S73.out.gr hv75)
    clear S73
    clear hv75
    refine ⟨rfl,hK _ _ ?_⟩
    clear hK
    go_wp2_with fail
    obtain ⟨hD2_,hS3_⟩:=S76.out.dfrs (cels_cons (cel_own _ _ _ _ _) (cels_cons (cel_blk _ _ _) (cels_cons (cel_blk _ _ _) (cels_cons (cel_blk _ _ _) (cels_cons (cel_blk _ _ _) cels_nil))))) hDw_
    obtain ⟨WZ,hWZ_⟩ : ∃ WZ,WZ = V74.putObj D_ (.deferred none):=⟨_,rfl⟩
    rw [← hWZ_] at hS3_
    refine postM_one (.inr rfl) hD2_ hWZ_ (results_tmp rfl _ _ _) ?_
    clear hD2_ hWZ_
    have S77 : Hid (St w noB [own (.slice Dd nd cd) 74 5 nd (ccs (Gm.dfc B l C m ((Gm.cap B C).vol.toNat))),blk bb23 25 [((Gm.cap B C).a:Int), ((Gm.cap B C).b:Int), ((Gm.cap B C).c:Int), ((Gm.cap B C).d:Int), ((Gm.cap B C).e:Int), ((Gm.cap B C).f:Int)],blk g17 46 [.slice Dd nd cd],blk g9 28 [C.a, C.b, C.c, C.d, C.e, C.f, .slice E ne ce],blk g4 28 [B.a, B.b, B.c, B.d, B.e, B.f, .slice A n c]] WZ):=Lib.hid hS3_
    clear S76
    clear hS3_
    exact ⟨Dd,nd,cd,rfl,by rw [← Gm.dfc_all HOK.out];exact (S77.out.sub (.cons_cons _ (.cons _ (.cons _ (.cons _ (.cons _ .slnil))))))⟩
  · intro D_ c_ kk W_ hD_ hk_ hx_ hdd_
    exact hx_.elim

end Go.Proofs.YtpapbbolefnkmaaDoor
