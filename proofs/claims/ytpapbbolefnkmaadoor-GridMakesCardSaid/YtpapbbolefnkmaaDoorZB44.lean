/-
  The cells of a grid, one after another.
-/
import Derived.Test.YtpapbbolefnkmaaDoorZB00
import Derived.Test.YtpapbbolefnkmaaDoorZB42
import Derived.Test.YtpapbbolefnkmaaDoorZB43
import Derived.Handy
namespace Go.Proofs.YtpapbbolefnkmaaDoor
open Go Go.RowKit
set_option linter.unusedVariables false
set_option linter.unusedSimpArgs false
set_option maxRecDepth 1000000 in
set_option maxHeartbeats 4000000 in
theorem visit1_zero (gb n c : Nat) (A : Option Addr) (B : Gm.Bx) (l : List Int) (w : World) (hrow0 : Row gb [B.a, B.b, B.c, B.d, B.e, B.f, .slice A n c] w) (hG : SL w 1 A n c (ic l)) (hok : Gm.ok B l) (hn : n = 0) : Seq2 Tryd.prog 92 #[.pointer (some ⟨gb,0,none⟩)] (fun k=>#[.agg #[(B.ax k:Int), (B.ay k:Int), (B.az k:Int)], (l.getD k 0:Int)]) B.vol.toNat (fun W q=>W.heap.size ≤ q ∨ q = gb ∨ (0 < n ∧ sblk A q)) w:=by
  intro lr J Jx W0 hg0 hJ hJx hY h0
  have HLEN : Hid (l.length = n):=Lib.hid (by have h_:=hG.len;rw [ic_len] at h_;omega)
  have hnb_ : n ≤ 9223372036854775807:=Nat.le_trans hG.cap hG.bnd
  have HOK:=Lib.hid hok
  have HFIT : Hid (Gm.fits B):=Lib.hid ⟨hok.rg,hok.max⟩
  have HR0:=Lib.hid (hrow0.below hg0)
  have HG0:=Lib.hid (hG.gr hg0)
  have HJ0:=Lib.hid h0
  have HOJ:=Lib.hid hJ
  have HOJX:=Lib.hid hJx
  have HGB : Hid (gb < W0.heap.size):=Lib.hid (hrow0.below hg0).lt
  have HN0 : Hid (B.vol = 0):=Lib.hid (by have a1:=hok.vol;have a2:=HLEN.out;omega)
  clear hrow0 hG hok h0 hJ hJx
  have S1 : Hid (St W0 noB [] W0):=Lib.hid (St.start W0)
  refine calls_marks Tryd.func92 rfl ?_
  simp only [Tryd.ntmps92,List.size_toArray,List.length_cons,List.length_nil,Nat.reduceAdd,Nat.reduceSub,Array.replicate_succ,Array.replicate_zero,List.push_toArray,List.append_toArray,List.nil_append,List.cons_append]
  go_upto_region 0 with fail
  refine wpG_region_k (fun K hK=>?_)
  refine wpG_val (some 2) rfl (by rfl) (fun W2 hg3=>⟨.pointer (some ⟨W2.heap.size,0,none⟩),W2.alloc (.cells #[.func (.yield lr) #[] #[]] 104),by (first | (go_simp;done) | (go_simp <;> rfl)), ?_⟩)
  simp only [n1,n3,n4]
  obtain ⟨g4,U5,hg_,hu_,hS_⟩:=(S1.out.gr hg3).made [.func (.yield lr) #[] #[]] 104
  rw [← hu_,← hg_]
  have S6 : Hid (St W0 noB [blk g4 104 [.func (.yield lr) #[] #[]]] U5):=Lib.hid hS_
  clear S1
  clear hg_ hu_ hS_ hg3
  refine wpG_done (fun V7 hv8=>?_)
  have S9 : Hid (St W0 noB [blk g4 104 [.func (.yield lr) #[] #[]]] V7):=Lib.hid (S6.out.gr hv8)
  clear S6
  clear hv8
  refine ⟨rfl,hK _ _ ?_⟩
  clear hK
  go_upto_region 1 with fail
  refine wpG_region_k (fun K hK=>?_)
  refine wpG_val (some 3) rfl (by rfl) (fun W10 hg11=>⟨.pointer (some ⟨W10.heap.size,0,none⟩),W10.alloc (.cells #[()] 3),by (first | (go_simp;done) | (go_simp <;> rfl)), ?_⟩)
  simp only [n1,n3,n4]
  obtain ⟨g12,U13,hg_,hu_,hS_⟩:=(S9.out.gr hg11).made [()] 3
  rw [← hu_,← hg_]
  have S14 : Hid (St W0 noB [blk g12 3 [()],blk g4 104 [.func (.yield lr) #[] #[]]] U13):=Lib.hid hS_
  clear S9
  clear hg_ hu_ hS_ hg11
  refine wpG_store (none) rfl (by rfl) (fun W15 hg16=>⟨W15.setCell ⟨g12,0,none⟩ (),by have c:=(S14.out.gr hg16).cell 0 rfl 0 rfl;have c2:=(S14.out.gr hg16).soft 0 rfl 0 rfl;go_simp, ?_⟩)
  simp only [n2]
  obtain ⟨U17,hu_,hS_⟩:=((S14.out.gr hg16).put1 0 rfl 0 ()).named
  rw [← hu_]
  have S18 : Hid (St W0 noB [blk g12 3 [()],blk g4 104 [.func (.yield lr) #[] #[]]] U17):=Lib.hid hS_
  clear S14
  clear hu_ hS_ hg16
  refine wpG_done (fun V19 hv20=>?_)
  have S21 : Hid (St W0 noB [blk g12 3 [()],blk g4 104 [.func (.yield lr) #[] #[]]] V19):=Lib.hid (S18.out.gr hv20)
  clear S18
  clear hv20
  refine ⟨rfl,hK _ _ ?_⟩
  clear hK
  go_upto_region 2 with fail
  refine wpG_region_k (fun K hK=>?_)
  refine @wpG_p _ _ _ _ _ (some 5) (.pointer (some ⟨gb,0,none⟩)) _ _ rfl (by rfl) (fun W=>by go_simp) ?_
  simp only [n1,n3,n4]
  refine @wpG_tk _ _ _ _ _ (some 6) (.agg #[B.a, B.b, B.c, B.d, B.e, B.f]) _ _ rfl (.load_mid (by rfl) 25 (.tmp 5) rfl gb 0 rfl [B.a, B.b, B.c, B.d, B.e, B.f] _ (fun W hg=>(rangeAt_part ((HR0.out.below (S21.out.gr hg).bel).range) 0 6 rfl)) Tryd.underlying25 rfl (by kernel_rfl)) ?_
  simp only [n1,n3,n4]
  refine wpG_call (some 7) 60 #[.agg #[B.a, B.b, B.c, B.d, B.e, B.f]] rfl (by rfl) (fun W=>by go_simp) (fun W23 hg24=>?_)
  refine (places_any B W23).mono ?_
  rintro e w25 ⟨bb22,rfl,hS_⟩
  refine ⟨_,rfl, ?_⟩
  have hT_:=(S21.out.gr hg24).got hS_
  simp only [n1,n3,n4]
  have S26 : Hid (St W0 noB [blk bb22 25 [B.a, B.b, B.c, B.d, B.e, B.f],blk g12 3 [()],blk g4 104 [.func (.yield lr) #[] #[]]] w25):=Lib.hid hT_
  clear S21
  clear hT_ hS_ hg24
  refine wpG_done (fun V27 hv28=>?_)
  have S29 : Hid (St W0 noB [blk bb22 25 [B.a, B.b, B.c, B.d, B.e, B.f],blk g12 3 [()],blk g4 104 [.func (.yield lr) #[] #[]]] V27):=Lib.hid (S26.out.gr hv28)
  clear S26
  clear hv28
  refine ⟨rfl,hK _ _ ?_⟩
  clear hK
  go_wp2_with fail
  have hB_ : W0.heap.size ≤ V27.heap.size:=S29.out.size
  have hbb_ : bb22 < V27.heap.size:=blk_lt S29.out 0 rfl
  have hv0_ : VI J gb B.a [B.b, B.c, B.d, B.e, B.f, .slice A n c] A n c (ic l) W0.heap.size [blk bb22 25 [B.a, B.b, B.c, B.d, B.e, B.f],blk g12 3 [(0 : Int)],blk g4 104 [.func (.yield lr) #[] #[]]] 0 V27:=by
    obtain ⟨f_,q1_,q2_⟩:=S29.out.sts
    exact ⟨HOJ.out 0 _ _ HJ0.out S29.out.bel,HR0.out.below S29.out.bel,HG0.out.gr S29.out.bel,hB_,f_,q1_,fun q hq=>(q2_ q hq).resolve_left (fun h=>h)⟩
  have hbw_ : W0.heap.size ≤ bb22:=by
    obtain ⟨f_,q1_,q2_⟩:=S29.out.sts
    refine (q2_ bb22 ?_).resolve_left (fun h=>h)
    obtain ⟨fa0,fb0,ha0,r_,_,hf0_⟩:=q1_
    exact (hf0_ _).2 (.inl ((ha0.2 _).2 rfl))
  refine range_law (gf:=87) (lb:=#[.pointer (some ⟨bb22,0,none⟩)]) (T':=(fun k=>k = V27.heap.size ∨ k = V27.heap.size + 1 ∨ k = bb22)) rfl (enters_of Tryd.func87 (by kernel_rfl) rfl) (places1_seq bb22 B V27 (S29.out.row 0 rfl) HFIT.out) (fun W1_ hs_ k_ hk_=>⟨.inr (.inr hk_),by (have e_ : k_ = bb22:=hk_);omega,by (have e_ : k_ = bb22:=hk_);omega⟩) (.inl rfl) (.inr (.inl rfl)) (fun _=>rfl) (fun kk wr=>VI J gb B.a [B.b, B.c, B.d, B.e, B.f, .slice A n c] A n c (ic l) W0.heap.size [blk bb22 25 [B.a, B.b, B.c, B.d, B.e, B.f],blk g12 3 [(kk : Int)],blk g4 104 [.func (.yield lr) #[] #[]]] kk wr) (fun c k wr=>c = .ret ∧ Jx k wr ∧ W0.heap.size ≤ wr.heap.size) (fun kk a_ wr=>∃ u4 : Nat,a_ = ⟨#[.func (.yield lr) #[] #[], .pointer (some ⟨gb,0,none⟩), .pointer (some ⟨g4,0,none⟩), .pointer (some ⟨g12,0,none⟩), .pointer (some ⟨u4,0,none⟩), .pointer (some ⟨gb,0,none⟩), .agg #[B.a, B.b, B.c, B.d, B.e, B.f], .func (.func 87) #[] #[.pointer (some ⟨bb22,0,none⟩)], .agg #[(B.ax kk:Int), (B.ay kk:Int), (B.az kk:Int)],undef,undef,undef,undef,undef,undef,undef,undef,undef,undef,undef,undef,undef,undef,undef,undef,undef,undef],[]⟩ ∧ VI J gb B.a [B.b, B.c, B.d, B.e, B.f, .slice A n c] A n c (ic l) W0.heap.size [blk u4 23 [(B.ax kk:Int), (B.ay kk:Int), (B.az kk:Int)],blk bb22 25 [B.a, B.b, B.c, B.d, B.e, B.f],blk g12 3 [(kk : Int)],blk g4 104 [.func (.yield lr) #[] #[]]] kk wr) (fun s_ X_ Y_ row_ h_ hg_ hr_=>h_.turned HOJ.out (cels_cons (cel_blk _ _ _) (cels_cons (cel_blk _ _ _) (cels_cons (cel_blk _ _ _) cels_nil))) hg_ (fun r e=>⟨Nat.le_trans hB_ (hr_ r e).1,(hr_ r e).2⟩)) (fun c s_ X_ Y_ row_ h_ hg_ hr_=>⟨h_.1,HOJX.out _ _ _ h_.2.1 ⟨hg_.os,hg_.tape,hg_.output,hg_.size,fun q hq=>hg_.block q (Nat.lt_of_lt_of_le hq h_.2.2) (fun e=>by have:=(hr_ q e.symm).1;omega)⟩,Nat.le_trans h_.2.2 hg_.size⟩) (fun kk a_ s_ X_ Y_ row_ hx_ hg_ hr_=>(match hx_ with | ⟨u_,p_,h_⟩=>⟨u_,p_,h_.turned HOJ.out (cels_cons (cel_blk _ _ _) (cels_cons (cel_blk _ _ _) (cels_cons (cel_blk _ _ _) (cels_cons (cel_blk _ _ _) cels_nil)))) hg_ (fun r e=>⟨Nat.le_trans hB_ (hr_ r e).1,(hr_ r e).2⟩)⟩)) hv0_ ?_ ?_ ?_ ?_
  · intro l_ kk W_ hk_ hi_ hR_
    exact absurd hk_ (by have:=HN0.out;omega)
  · intro l_ kk a_ W_ hk_ hax_ hR_
    exact absurd hk_ (by have:=HN0.out;omega)
  · intro D_ W_ hD_ hi_ hdd_
    have hj_:=LowFrom.putObj HOJ.out (l:=D_) (.deferred none) hi_.j (Nat.le_trans hB_ hD_)
    clear hi_
    go_wp2_with fail
    refine postM_one (.inl rfl) hdd_ rfl (results_none rfl _ _ _) ?_
    exact ⟨⟨_,rfl⟩, .inl hj_⟩
  · intro D_ c_ kk W_ hD_ hk_ hx_ hdd_
    obtain ⟨rfl,hj_,_⟩:=hx_
    have hj2_:=LowFrom.putObj HOJX.out (l:=D_) (.deferred none) hj_ (Nat.le_trans hB_ hD_)
    refine wp_ret ?_
    go_wp2_with fail
    refine postM_one (.inr rfl) hdd_ rfl (results_none rfl _ _ _) ?_
    exact ⟨⟨_,rfl⟩, .inr ⟨kk,hk_,hj2_⟩⟩
set_option maxRecDepth 1000000 in
set_option maxHeartbeats 4000000 in
theorem visit1_some (gb ab ao n c : Nat) (B : Gm.Bx) (l : List Int) (w : World) (hrow0 : Row gb [B.a, B.b, B.c, B.d, B.e, B.f, .slice (some ⟨ab,ao,none⟩) n c] w) (hG : SL w 1 (some ⟨ab,ao,none⟩) n c (ic l)) (hok : Gm.ok B l) (hn : 0 < n) : Seq2 Tryd.prog 92 #[.pointer (some ⟨gb,0,none⟩)] (fun k=>#[.agg #[(B.ax k:Int), (B.ay k:Int), (B.az k:Int)], (l.getD k 0:Int)]) B.vol.toNat (fun W q=>W.heap.size ≤ q ∨ q = gb ∨ sblk (some ⟨ab,ao,none⟩) q) w:=by
  intro lr J Jx W0 hg0 hJ hJx hY h0
  have HLEN : Hid (l.length = n):=Lib.hid (by have h_:=hG.len;rw [ic_len] at h_;omega)
  have hnb_ : n ≤ 9223372036854775807:=Nat.le_trans hG.cap hG.bnd
  have HOK:=Lib.hid hok
  have HFIT : Hid (Gm.fits B):=Lib.hid ⟨hok.rg,hok.max⟩
  have HR0:=Lib.hid (hrow0.below hg0)
  have HG0:=Lib.hid (hG.gr hg0)
  have HJ0:=Lib.hid h0
  have HOJ:=Lib.hid hJ
  have HOJX:=Lib.hid hJx
  have HGB : Hid (gb < W0.heap.size):=Lib.hid (hrow0.below hg0).lt
  have HAB : Hid (∀ q,sblk (some ⟨ab,ao,none⟩) q → q < W0.heap.size):=Lib.hid (fun q h=>by
    obtain ⟨b,o,h1,rfl⟩:=h
    injection h1 with h1;injection h1 with h1 h2;subst h1
    have hc:=HG0.out.int (l:=l) 0 (by have:=HLEN.out;omega) 0 _ rfl
    exact World.block_lt_of_cell? W0 _ hc)
  clear hrow0 hG hok h0 hJ hJx
  have S1 : Hid (St W0 noB [] W0):=Lib.hid (St.start W0)
  refine calls_marks Tryd.func92 rfl ?_
  simp only [Tryd.ntmps92,List.size_toArray,List.length_cons,List.length_nil,Nat.reduceAdd,Nat.reduceSub,Array.replicate_succ,Array.replicate_zero,List.push_toArray,List.append_toArray,List.nil_append,List.cons_append]
  go_upto_region 0 with fail
  refine wpG_region_k (fun K hK=>?_)
  refine wpG_val (some 2) rfl (by rfl) (fun W2 hg3=>⟨.pointer (some ⟨W2.heap.size,0,none⟩),W2.alloc (.cells #[.func (.yield lr) #[] #[]] 104),by (first | (go_simp;done) | (go_simp <;> rfl)), ?_⟩)
  simp only [n1,n3,n4]
  obtain ⟨g4,U5,hg_,hu_,hS_⟩:=(S1.out.gr hg3).made [.func (.yield lr) #[] #[]] 104
  rw [← hu_,← hg_]
  have S6 : Hid (St W0 noB [blk g4 104 [.func (.yield lr) #[] #[]]] U5):=Lib.hid hS_
  clear S1
  clear hg_ hu_ hS_ hg3
  refine wpG_done (fun V7 hv8=>?_)
  have S9 : Hid (St W0 noB [blk g4 104 [.func (.yield lr) #[] #[]]] V7):=Lib.hid (S6.out.gr hv8)
  clear S6
  clear hv8
  refine ⟨rfl,hK _ _ ?_⟩
  clear hK
  go_upto_region 1 with fail
  refine wpG_region_k (fun K hK=>?_)
  refine wpG_val (some 3) rfl (by rfl) (fun W10 hg11=>⟨.pointer (some ⟨W10.heap.size,0,none⟩),W10.alloc (.cells #[()] 3),by (first | (go_simp;done) | (go_simp <;> rfl)), ?_⟩)
  simp only [n1,n3,n4]
  obtain ⟨g12,U13,hg_,hu_,hS_⟩:=(S9.out.gr hg11).made [()] 3
  rw [← hu_,← hg_]
  have S14 : Hid (St W0 noB [blk g12 3 [()],blk g4 104 [.func (.yield lr) #[] #[]]] U13):=Lib.hid hS_
  clear S9
  clear hg_ hu_ hS_ hg11
  refine wpG_store (none) rfl (by rfl) (fun W15 hg16=>⟨W15.setCell ⟨g12,0,none⟩ (),by have c:=(S14.out.gr hg16).cell 0 rfl 0 rfl;have c2:=(S14.out.gr hg16).soft 0 rfl 0 rfl;go_simp, ?_⟩)
  simp only [n2]
  obtain ⟨U17,hu_,hS_⟩:=((S14.out.gr hg16).put1 0 rfl 0 ()).named
  rw [← hu_]
  have S18 : Hid (St W0 noB [blk g12 3 [()],blk g4 104 [.func (.yield lr) #[] #[]]] U17):=Lib.hid hS_
  clear S14
  clear hu_ hS_ hg16
  refine wpG_done (fun V19 hv20=>?_)
  have S21 : Hid (St W0 noB [blk g12 3 [()],blk g4 104 [.func (.yield lr) #[] #[]]] V19):=Lib.hid (S18.out.gr hv20)
  clear S18
  clear hv20
  refine ⟨rfl,hK _ _ ?_⟩
  clear hK
  go_upto_region 2 with fail
  refine wpG_region_k (fun K hK=>?_)
  refine @wpG_p _ _ _ _ _ (some 5) (.pointer (some ⟨gb,0,none⟩)) _ _ rfl (by rfl) (fun W=>by go_simp) ?_
  simp only [n1,n3,n4]
  refine @wpG_tk _ _ _ _ _ (some 6) (.agg #[B.a, B.b, B.c, B.d, B.e, B.f]) _ _ rfl (.load_mid (by rfl) 25 (.tmp 5) rfl gb 0 rfl [B.a, B.b, B.c, B.d, B.e, B.f] _ (fun W hg=>(rangeAt_part ((HR0.out.below (S21.out.gr hg).bel).range) 0 6 rfl)) Tryd.underlying25 rfl (by kernel_rfl)) ?_
  simp only [n1,n3,n4]
  refine wpG_call (some 7) 60 #[.agg #[B.a, B.b, B.c, B.d, B.e, B.f]] rfl (by rfl) (fun W=>by go_simp) (fun W23 hg24=>?_)
  refine (places_any B W23).mono ?_
  rintro e w25 ⟨bb22,rfl,hS_⟩
  refine ⟨_,rfl, ?_⟩
  have hT_:=(S21.out.gr hg24).got hS_
  simp only [n1,n3,n4]
  have S26 : Hid (St W0 noB [blk bb22 25 [B.a, B.b, B.c, B.d, B.e, B.f],blk g12 3 [()],blk g4 104 [.func (.yield lr) #[] #[]]] w25):=Lib.hid hT_
  clear S21
  clear hT_ hS_ hg24
  refine wpG_done (fun V27 hv28=>?_)
  have S29 : Hid (St W0 noB [blk bb22 25 [B.a, B.b, B.c, B.d, B.e, B.f],blk g12 3 [()],blk g4 104 [.func (.yield lr) #[] #[]]] V27):=Lib.hid (S26.out.gr hv28)
  clear S26
  clear hv28
  refine ⟨rfl,hK _ _ ?_⟩
  clear hK
  go_wp2_with fail
  have hB_ : W0.heap.size ≤ V27.heap.size:=S29.out.size
  have hbb_ : bb22 < V27.heap.size:=blk_lt S29.out 0 rfl
  have hv0_ : VI J gb B.a [B.b, B.c, B.d, B.e, B.f, .slice (some ⟨ab,ao,none⟩) n c] (some ⟨ab,ao,none⟩) n c (ic l) W0.heap.size [blk bb22 25 [B.a, B.b, B.c, B.d, B.e, B.f],blk g12 3 [(0 : Int)],blk g4 104 [.func (.yield lr) #[] #[]]] 0 V27:=by
    obtain ⟨f_,q1_,q2_⟩:=S29.out.sts
    exact ⟨HOJ.out 0 _ _ HJ0.out S29.out.bel,HR0.out.below S29.out.bel,HG0.out.gr S29.out.bel,hB_,f_,q1_,fun q hq=>(q2_ q hq).resolve_left (fun h=>h)⟩
  have hbw_ : W0.heap.size ≤ bb22:=by
    obtain ⟨f_,q1_,q2_⟩:=S29.out.sts
    refine (q2_ bb22 ?_).resolve_left (fun h=>h)
    obtain ⟨fa0,fb0,ha0,r_,_,hf0_⟩:=q1_
    exact (hf0_ _).2 (.inl ((ha0.2 _).2 rfl))
  refine range_law (gf:=87) (lb:=#[.pointer (some ⟨bb22,0,none⟩)]) (T':=(fun k=>k = V27.heap.size ∨ k = V27.heap.size + 1 ∨ k = bb22)) rfl (enters_of Tryd.func87 (by kernel_rfl) rfl) (places1_seq bb22 B V27 (S29.out.row 0 rfl) HFIT.out) (fun W1_ hs_ k_ hk_=>⟨.inr (.inr hk_),by (have e_ : k_ = bb22:=hk_);omega,by (have e_ : k_ = bb22:=hk_);omega⟩) (.inl rfl) (.inr (.inl rfl)) (fun _=>rfl) (fun kk wr=>VI J gb B.a [B.b, B.c, B.d, B.e, B.f, .slice (some ⟨ab,ao,none⟩) n c] (some ⟨ab,ao,none⟩) n c (ic l) W0.heap.size [blk bb22 25 [B.a, B.b, B.c, B.d, B.e, B.f],blk g12 3 [(kk : Int)],blk g4 104 [.func (.yield lr) #[] #[]]] kk wr) (fun c k wr=>c = .ret ∧ Jx k wr ∧ W0.heap.size ≤ wr.heap.size) (fun kk a_ wr=>∃ u4 : Nat,a_ = ⟨#[.func (.yield lr) #[] #[], .pointer (some ⟨gb,0,none⟩), .pointer (some ⟨g4,0,none⟩), .pointer (some ⟨g12,0,none⟩), .pointer (some ⟨u4,0,none⟩), .pointer (some ⟨gb,0,none⟩), .agg #[B.a, B.b, B.c, B.d, B.e, B.f], .func (.func 87) #[] #[.pointer (some ⟨bb22,0,none⟩)], .agg #[(B.ax kk:Int), (B.ay kk:Int), (B.az kk:Int)],undef,undef,undef,undef,undef,undef,undef,undef,undef,undef,undef,undef,undef,undef,undef,undef,undef,undef],[]⟩ ∧ VI J gb B.a [B.b, B.c, B.d, B.e, B.f, .slice (some ⟨ab,ao,none⟩) n c] (some ⟨ab,ao,none⟩) n c (ic l) W0.heap.size [blk u4 23 [(B.ax kk:Int), (B.ay kk:Int), (B.az kk:Int)],blk bb22 25 [B.a, B.b, B.c, B.d, B.e, B.f],blk g12 3 [(kk : Int)],blk g4 104 [.func (.yield lr) #[] #[]]] kk wr) (fun s_ X_ Y_ row_ h_ hg_ hr_=>h_.turned HOJ.out (cels_cons (cel_blk _ _ _) (cels_cons (cel_blk _ _ _) (cels_cons (cel_blk _ _ _) cels_nil))) hg_ (fun r e=>⟨Nat.le_trans hB_ (hr_ r e).1,(hr_ r e).2⟩)) (fun c s_ X_ Y_ row_ h_ hg_ hr_=>⟨h_.1,HOJX.out _ _ _ h_.2.1 ⟨hg_.os,hg_.tape,hg_.output,hg_.size,fun q hq=>hg_.block q (Nat.lt_of_lt_of_le hq h_.2.2) (fun e=>by have:=(hr_ q e.symm).1;omega)⟩,Nat.le_trans h_.2.2 hg_.size⟩) (fun kk a_ s_ X_ Y_ row_ hx_ hg_ hr_=>(match hx_ with | ⟨u_,p_,h_⟩=>⟨u_,p_,h_.turned HOJ.out (cels_cons (cel_blk _ _ _) (cels_cons (cel_blk _ _ _) (cels_cons (cel_blk _ _ _) (cels_cons (cel_blk _ _ _) cels_nil)))) hg_ (fun r e=>⟨Nat.le_trans hB_ (hr_ r e).1,(hr_ r e).2⟩)⟩)) hv0_ ?_ ?_ ?_ ?_
  · intro l_ kk W_ hk_ hi_ hR_
    obtain ⟨f_,hA_,hsts_,hfp_,hback_⟩:=VI.step HOJ.out hi_ HGB.out HAB.out
    have HBB : Hid (W_.heap[bb22]? = some (.cells (List.toArray [B.a, B.b, B.c, B.d, B.e, B.f]) 25 (0,0))):=Lib.hid (hA_.heap 0 rfl)
    have SR:=Lib.hid hA_
    clear hA_
    have S30:=SR
    clear SR
    rw [zip1];simp only [n3,n4]
    refine wpGI_region_k rfl (fun K hK=>?_)
    refine wpG_val (some 4) rfl (by rfl) (fun W31 hg32=>⟨.pointer (some ⟨W31.heap.size,0,none⟩),W31.alloc (.cells #[(), (), ()] 23),by (first | (go_simp;done) | (go_simp <;> rfl)), ?_⟩)
    simp only [n1,n3,n4]
    obtain ⟨g33,U34,hg_,hu_,hS_⟩:=(S30.out.gr hg32).made [(), (), ()] 23
    rw [← hu_,← hg_]
    have S35 : Hid (St W_ f_ [blk g33 23 [(), (), ()],blk bb22 25 [B.a, B.b, B.c, B.d, B.e, B.f],blk g12 3 [(kk : Int)],blk g4 104 [.func (.yield lr) #[] #[]]] U34):=Lib.hid hS_
    clear S30
    clear hg_ hu_ hS_ hg32
    refine wpG_store (none) rfl (by rfl) (fun W36 hg37=>⟨_,run_store_mid 23 (.tmp 4) (.tmp 8) rfl g33 0 #[(B.ax kk:Int), (B.ay kk:Int), (B.az kk:Int)] rfl rfl ((S35.out.gr hg37).room 0 rfl 0 3 (by simp)) (by kernel_rfl) (by kernel_rfl), ?_⟩)
    simp only [n2]
    obtain ⟨U38,hu_,hS_⟩:=((S35.out.gr hg37).put 0 rfl 0 (#[(B.ax kk:Int), (B.ay kk:Int), (B.az kk:Int)] : Array Value).toList (ds:=[(B.ax kk:Int), (B.ay kk:Int), (B.az kk:Int)]) rfl).named
    rw [← hu_]
    have S39 : Hid (St W_ f_ [blk g33 23 [(B.ax kk:Int), (B.ay kk:Int), (B.az kk:Int)],blk bb22 25 [B.a, B.b, B.c, B.d, B.e, B.f],blk g12 3 [(kk : Int)],blk g4 104 [.func (.yield lr) #[] #[]]] U38):=Lib.hid hS_
    clear S35
    clear hu_ hS_ hg37
    refine wpG_done (fun V40 hv41=>?_)
    have S42 : Hid (St W_ f_ [blk g33 23 [(B.ax kk:Int), (B.ay kk:Int), (B.az kk:Int)],blk bb22 25 [B.a, B.b, B.c, B.d, B.e, B.f],blk g12 3 [(kk : Int)],blk g4 104 [.func (.yield lr) #[] #[]]] V40):=Lib.hid (S39.out.gr hv41)
    clear S39
    clear hv41
    refine ⟨rfl,hK _ _ ?_⟩
    clear hK
    (try simp only [Exit.then,Exit.inBlock])
    exact ⟨keep_st S42.out hsts_ (cels_cons (cel_blk _ _ _) (cels_cons (cel_blk _ _ _) (cels_cons (cel_blk _ _ _) cels_nil))) hR_ HBB.out 1 rfl,g33,rfl,hback_ ((((S42.out.front 3 rfl).front 3 rfl).front 3 rfl).front 3 rfl)⟩
  · intro l_ kk a_ W_ hk_ hax_ hR_
    obtain ⟨u4,rfl,hi_⟩:=hax_
    have HVI:=Lib.hid hi_
    obtain ⟨f_,hA_,hsts_,hfp_,hback_⟩:=VI.step HOJ.out hi_ HGB.out HAB.out
    have HBB : Hid (W_.heap[bb22]? = some (.cells (List.toArray [B.a, B.b, B.c, B.d, B.e, B.f]) 25 (0,0))):=Lib.hid (hA_.heap 1 rfl)
    have SR:=Lib.hid hA_
    clear hA_
    have S43:=SR
    clear SR
    clear hi_
    have hkn_ : kk < n ∧ kk < l.length:=by have a1:=HOK.out.vol;have a2:=HLEN.out;omega
    refine wpIn_block ?_
    refine wpIn_seq ?_
    refine wpIn_seq ?_
    refine wpYK_region_k (fun i=>i == 13) rfl (by kernel_rfl) (fun K hK=>?_)
    refine Y.wpK_tk (i:=1) (some 10) (v:=.pointer (some ⟨gb,6,none⟩)) rfl rfl (by kernel_rfl) (fun _ _ _ h=>onN_panic h) (.val (by rfl) (fun W hg=>by go_simp)) ?_
    simp only [n1,n3,n4]
    refine Y.wpK_tk (i:=0) (some 9) (v:=(kk : Int)) rfl rfl (by kernel_rfl) (fun _ _ _ h=>onN_panic h) (.val (by rfl) (fun W hg=>by have c:=(S43.out.gr (Gr.un hg)).cell 2 rfl 0 rfl;go_simp)) ?_
    simp only [n1,n3,n4]
    refine Y.wpK_tk (i:=2) (some 11) (v:=.slice (some ⟨ab,ao,none⟩) n c) rfl rfl (by kernel_rfl) (fun _ _ _ h=>onN_panic h) (.val (by rfl) (fun W hg=>by have c:=((HVI.out.row.below (Gr.un hg)).range) 6 _ rfl;(try simp only [Nat.add_zero,Nat.zero_add] at c);go_simp)) ?_
    simp only [n1,n3,n4]
    refine Y.wpK_tk (i:=3) (some 12) (v:=(n : Int)) rfl rfl (by kernel_rfl) (fun _ _ _ h=>onN_panic h) (.val (by rfl) (fun W hg=>by go_simp)) ?_
    simp only [n1,n3,n4]
    refine Y.wpK_tk (i:=4) (some 13) (v:=.bool false) rfl rfl (by kernel_rfl) (fun _ _ _ h=>onN_panic h) (.val (by rfl) (fun W hg=>by have hq : ¬ ((kk : Int) = (n : Int)):=(by omega);first | (go_simp;done) | (go_simp <;> omega))) ?_
    simp only [n1,n3,n4]
    refine Y.wpK_tk (i:=5) (some 14) (v:=.bool false) rfl rfl (by kernel_rfl) (fun _ _ _ h=>onN_panic h) (.val (by rfl) (fun _ _=>rfl)) ?_
    simp only [n1,n3,n4]
    refine Y.wpK_tk (i:=8) (some 17) (v:=.pointer (some ⟨gb,6,none⟩)) rfl rfl (by kernel_rfl) (fun _ _ _ h=>onN_panic h) (.val (by rfl) (fun W hg=>by go_simp)) ?_
    simp only [n1,n3,n4]
    refine Y.wpK_tk (i:=6) (some 15) (v:=.func (.yield lr) #[] #[]) rfl rfl (by kernel_rfl) (fun _ _ _ h=>onN_panic h) (.val (by rfl) (fun W hg=>by have c:=(S43.out.gr (Gr.un hg)).cell 3 rfl 0 rfl;go_simp)) ?_
    simp only [n1,n3,n4]
    refine Y.wpK_tk (i:=7) (some 16) (v:=.agg #[(B.ax kk:Int), (B.ay kk:Int), (B.az kk:Int)]) rfl rfl (by kernel_rfl) (fun _ _ _ h=>onN_panic h) (.load_mid (by rfl) 23 (.tmp 4) rfl u4 0 rfl [(B.ax kk:Int), (B.ay kk:Int), (B.az kk:Int)] _ (fun W hg=>(S43.out.gr (Gr.un hg)).range 0 rfl 0 3 rfl) Tryd.underlying23 rfl (by kernel_rfl)) ?_
    simp only [n1,n3,n4]
    refine Y.wpK_tk (i:=9) (some 18) (v:=.slice (some ⟨ab,ao,none⟩) n c) rfl rfl (by kernel_rfl) (fun _ _ _ h=>onN_panic h) (.val (by rfl) (fun W hg=>by have c:=((HVI.out.row.below (Gr.un hg)).range) 6 _ rfl;(try simp only [Nat.add_zero,Nat.zero_add] at c);go_simp)) ?_
    simp only [n1,n3,n4]
    refine Y.wpK_tk (i:=10) (some 19) (v:=(kk : Int)) rfl rfl (by kernel_rfl) (fun _ _ _ h=>onN_panic h) (.val (by rfl) (fun W hg=>by have c:=(S43.out.gr (Gr.un hg)).cell 2 rfl 0 rfl;go_simp)) ?_
    simp only [n1,n3,n4]
    refine Y.wpK_tk (i:=11) (some 20) (v:=.pointer (some ⟨ab,ao + kk,none⟩)) rfl rfl (by kernel_rfl) (fun _ _ _ h=>onN_panic h) (.val (by rfl) (fun W hg=>by (go_simp <;> first | rfl | omega | (simp;omega)))) ?_
    simp only [n1,n3,n4]
    refine Y.wpK_tk (i:=12) (some 21) (v:=(l.getD kk 0:Int)) rfl rfl (by kernel_rfl) (fun _ _ _ h=>onN_panic h) (.val (by rfl) (fun W hg=>by have c:=(((HVI.out.sl.gr (Gr.un hg)).int (l:=l) kk (by omega))) 0 _ rfl;(try simp only [Nat.add_zero,Nat.zero_add] at c);go_simp)) ?_
    simp only [n1,n3,n4]
    refine wpYK_yield (i:=13) (some 22) (l:=lr) (args:=#[.agg #[(B.ax kk:Int), (B.ay kk:Int), (B.az kk:Int)], (l.getD kk 0:Int)]) (R:=(fun e W'=>(e = .returned (.bool true) ∧ J (kk + 1) W' ∧ Keep (fun q=>W0.heap.size ≤ q ∨ q = gb ∨ sblk (some ⟨ab,ao,none⟩) q) W_ W') ∨ (e = .returned (.bool false) ∧ Jx (kk + 1) W' ∧ Keep (fun q=>W0.heap.size ≤ q ∨ q = gb ∨ sblk (some ⟨ab,ao,none⟩) q) W_ W'))) rfl rfl (by kernel_rfl) (by rfl) rfl rfl (fun W hg=>YieldAt.monoR (hY kk W hk_ (HOJ.out _ _ _ HVI.out.j (Below.mono (Gr.un hg) HVI.out.size))) (fun e W' h=>by
        rcases h with ⟨h1,h2,h3⟩ | ⟨h1,h2,h3⟩
        · exact .inl ⟨h1,h2,(Keep.of_gr (Gr.un hg)).trans h3⟩
        · exact .inr ⟨h1,h2,(Keep.of_gr (Gr.un hg)).trans h3⟩)) (fun W_3 fn_ tmps_ asg_ body_ h1_=>by (revert h1_;generalize l.getD kk 0 = cv_;intro h1_;go_simp;first | done | exact h1_ | simpa using h1_)) (fun e W_2 hR2_=>?_)
    rcases hR2_ with ⟨rfl,hj_,hkp_⟩ | ⟨rfl,hj_,hkp_⟩
    · skip
      refine ⟨_,rfl, ?_⟩
      simp only [n1,n3,n4]
      have hi2_:=HVI.out.round hj_ hkp_ (fun q h=>h)
      obtain ⟨f2_,hA2_,hsts2_,hfp2_,hback2_⟩:=VI.step HOJ.out hi2_ HGB.out HAB.out
      have HBB2 : Hid (W_2.heap[bb22]? = some (.cells (List.toArray [B.a, B.b, B.c, B.d, B.e, B.f]) 25 (0,0))):=Lib.hid (hA2_.heap 1 rfl)
      have SR:=Lib.hid hA2_
      clear hA2_
      have S44:=SR
      clear SR
      clear hi2_
      have hR2_ : ∀ j,j = V27.heap.size ∨ j = V27.heap.size + 1 → ∃ o : Obj,W_2.heap[j]? = some o ∧ o.isCells = false:=fun j hj=>nocell_keep (hR_ j hj) hkp_ (.inl (by rcases hj with rfl | rfl <;> omega))
      refine Y.wpK_tk (i:=14) (some 23) (v:=.bool false) rfl rfl (by kernel_rfl) (fun _ _ _ h=>onN_panic h) (.val (by rfl) (fun W hg=>by first | (go_simp;done) | (cases true <;> rfl))) ?_
      simp only [n1,n3,n4]
      refine Y.wpK_tk (i:=15) (some 24) (v:=.bool false) rfl rfl (by kernel_rfl) (fun _ _ _ h=>onN_panic h) (.val (by rfl) (fun W hg=>by go_simp)) ?_
      simp only [n1,n3,n4]
      refine Y.wpK_done (by kernel_rfl) (fun V45 hv46=>?_) _
      have S47 : Hid (St W_2 f2_ [blk u4 23 [(B.ax kk:Int), (B.ay kk:Int), (B.az kk:Int)],blk bb22 25 [B.a, B.b, B.c, B.d, B.e, B.f],blk g12 3 [(kk : Int)],blk g4 104 [.func (.yield lr) #[] #[]]] V45):=Lib.hid (S44.out.gr hv46)
      clear S44
      clear hv46
      refine ⟨rfl,hK _ _ ?_⟩
      clear hK
      (try simp only [Exit.then,Exit.inBlock])
      refine wpIn_cond_false rfl ?_
      refine wpIn_skip ?_
      (try simp only [Exit.then,Exit.inBlock])
      refine wpGI_region_k rfl (fun K hK=>?_)
      refine @wpG_r _ _ _ _ _ (some 25) (kk : Int) _ _ rfl (by rfl) (fun W hg=>by have c:=(S47.out.gr hg).cell 2 rfl 0 rfl;go_simp) ?_
      simp only [n1,n3,n4]
      refine @wpG_p _ _ _ _ _ (some 26) ((kk : Int) + 1:Int) _ _ rfl (by rfl) (fun W=>op_i_add W (kk : Int) 1 (by omega) rfl rfl rfl Tryd.underlying3) ?_
      simp only [n1,n3,n4]
      refine wpG_store (none) rfl (by rfl) (fun W48 hg49=>⟨W48.setCell ⟨g12,0,none⟩ ((kk : Int) + 1:Int),by have c:=(S47.out.gr hg49).cell 2 rfl 0 rfl;have c2:=(S47.out.gr hg49).soft 2 rfl 0 rfl;go_simp, ?_⟩)
      simp only [n2]
      obtain ⟨U50,hu_,hS_⟩:=((S47.out.gr hg49).put1 2 rfl 0 ((kk : Int) + 1:Int)).named
      rw [← hu_]
      have S51 : Hid (St W_2 f2_ [blk u4 23 [(B.ax kk:Int), (B.ay kk:Int), (B.az kk:Int)],blk bb22 25 [B.a, B.b, B.c, B.d, B.e, B.f],blk g12 3 [((kk : Int) + 1:Int)],blk g4 104 [.func (.yield lr) #[] #[]]] U50):=Lib.hid hS_
      clear S47
      clear hu_ hS_ hg49
      refine wpG_done (fun V52 hv53=>?_)
      have S54 : Hid (St W_2 f2_ [blk u4 23 [(B.ax kk:Int), (B.ay kk:Int), (B.az kk:Int)],blk bb22 25 [B.a, B.b, B.c, B.d, B.e, B.f],blk g12 3 [((kk : Int) + 1:Int)],blk g4 104 [.func (.yield lr) #[] #[]]] V52):=Lib.hid (S51.out.gr hv53)
      clear S51
      clear hv53
      refine ⟨rfl,hK _ _ ?_⟩
      clear hK
      (try simp only [Exit.then,Exit.inBlock])
      have kk1_ : Keep (fun k=>k = V27.heap.size ∨ k = V27.heap.size + 1 ∨ k = bb22) W_ W_2:=hkp_.mono (fun k h=>.inl (by rcases h with rfl | rfl | rfl <;> omega))
      exact ⟨kk1_.trans (keep_st S54.out hsts2_ (cels_cons (cel_blk _ _ _) (cels_cons (cel_blk _ _ _) (cels_cons (cel_blk _ _ _) (cels_cons (cel_blk _ _ _) cels_nil)))) hR2_ HBB2.out 1 rfl),hback2_ ((((S54.out.front 3 rfl).front 3 rfl).front 3 rfl).sub (.cons_cons _ (.cons_cons _ (.cons_cons _ (.cons _ .slnil)))))⟩
    · skip
      refine ⟨_,rfl, ?_⟩
      simp only [n1,n3,n4]
      have S55 : Hid (St W_2 noB [] W_2):=Lib.hid (St.start W_2)
      refine Y.wpK_tk (i:=14) (some 23) (v:=.bool true) rfl rfl (by kernel_rfl) (fun _ _ _ h=>onN_panic h) (.val (by rfl) (fun W hg=>by first | (go_simp;done) | (cases false <;> rfl))) ?_
      simp only [n1,n3,n4]
      refine Y.wpK_tk (i:=15) (some 24) (v:=.bool true) rfl rfl (by kernel_rfl) (fun _ _ _ h=>onN_panic h) (.val (by rfl) (fun W hg=>by go_simp)) ?_
      simp only [n1,n3,n4]
      refine Y.wpK_done (by kernel_rfl) (fun V56 hv57=>?_) _
      have S58 : Hid (St W_2 noB [] V56):=Lib.hid (S55.out.gr hv57)
      clear S55
      clear hv57
      refine ⟨rfl,hK _ _ ?_⟩
      clear hK
      (try simp only [Exit.then,Exit.inBlock])
      refine wpIn_cond_true rfl ?_
      refine wpIn_ret ?_
      (try simp only [Exit.then,Exit.inBlock])
      have kk1_ : Keep (fun k=>k = V27.heap.size ∨ k = V27.heap.size + 1 ∨ k = bb22) W_ W_2:=hkp_.mono (fun k h=>.inl (by rcases h with rfl | rfl | rfl <;> omega))
      exact ⟨kk1_.trans (Keep.of_gr S58.out.bel),rfl,HOJX.out _ _ _ hj_ (Below.mono S58.out.bel (Nat.le_trans HVI.out.size hkp_.size)),Nat.le_trans HVI.out.size (Nat.le_trans hkp_.size S58.out.size)⟩
  · intro D_ W_ hD_ hi_ hdd_
    have hj_:=LowFrom.putObj HOJ.out (l:=D_) (.deferred none) hi_.j (Nat.le_trans hB_ hD_)
    clear hi_
    go_wp2_with fail
    refine postM_one (.inl rfl) hdd_ rfl (results_none rfl _ _ _) ?_
    exact ⟨⟨_,rfl⟩, .inl hj_⟩
  · intro D_ c_ kk W_ hD_ hk_ hx_ hdd_
    obtain ⟨rfl,hj_,_⟩:=hx_
    have hj2_:=LowFrom.putObj HOJX.out (l:=D_) (.deferred none) hj_ (Nat.le_trans hB_ hD_)
    refine wp_ret ?_
    go_wp2_with fail
    refine postM_one (.inr rfl) hdd_ rfl (results_none rfl _ _ _) ?_
    exact ⟨⟨_,rfl⟩, .inr ⟨kk,hk_,hj2_⟩⟩
theorem visit1_seq (gb : Nat) (A : Option Addr) (n c : Nat) (B : Gm.Bx) (l : List Int) (w : World) (hrow0 : Row gb [B.a, B.b, B.c, B.d, B.e, B.f, .slice A n c] w) (hG : SL w 1 A n c (ic l)) (hok : Gm.ok B l) : Seq2 Tryd.prog 92 #[.pointer (some ⟨gb,0,none⟩)] (fun k=>#[.agg #[(B.ax k:Int), (B.ay k:Int), (B.az k:Int)], (l.getD k 0:Int)]) B.vol.toNat (fun W q=>W.heap.size ≤ q ∨ q = gb ∨ (0 < n ∧ sblk A q)) w:=by
  rcases Nat.eq_zero_or_pos n with hn | hn
  · exact visit1_zero gb n c A B l w hrow0 hG hok hn
  · obtain ⟨ab,ao,rfl⟩:=hG.addr (by decide) hn
    have e : (fun (W : World) (q : Nat)=>W.heap.size ≤ q ∨ q = gb ∨ (0 < n ∧ sblk (some ⟨ab,ao,none⟩) q)) = (fun (W : World) (q : Nat)=>W.heap.size ≤ q ∨ q = gb ∨ sblk (some ⟨ab,ao,none⟩) q):=by
      funext W q
      simp only [hn,true_and]
    rw [e]
    exact visit1_some gb ab ao n c B l w hrow0 hG hok hn
theorem SL.blk_lt {W : World} {A : Option Addr} {n c : Nat} {l : List Int} (h : SL W 1 A n c (ic l)) : ∀ q,(0 < n ∧ sblk A q) → q < W.heap.size:=fun q hq=>by
  obtain ⟨hn,b,o,rfl,rfl⟩:=hq
  have hl : l.length = n:=by have h_:=h.len;rw [ic_len] at h_;omega
  have hc:=h.int (l:=l) 0 (by omega) 0 _ rfl
  exact World.block_lt_of_cell? W _ hc

end Go.Proofs.YtpapbbolefnkmaaDoor
