/-
  Package grid: boxes filled, grids pasted.
-/
import Derived.Test.YtpapbbolefnkmaaDoorZB00
import Derived.Test.YtpapbbolefnkmaaDoorZB45
import Derived.Handy
namespace Go.Proofs.YtpapbbolefnkmaaDoor
open Go Go.RowKit
set_option linter.unusedVariables false
set_option linter.unusedSimpArgs false
theorem Gm.upd2_ok {B D : Gm.Bx} {V : Int → Int → Int → Int} {l : List Int} {k : Nat} (h : Gm.ok B l) : Gm.ok B (Gm.upd2 B D V l k):=⟨h.rg,by rw [Gm.upd2_len];exact h.len,h.max⟩
theorem Gm.upd2_wr {B D : Gm.Bx} {V : Int → Int → Int → Int} {l : List Int} {k : Nat} {v : Int} (h : Gm.ok B l) (hD : ∀ x y z,D.inb x y z = true → B.inb x y z = true) (hk : k < D.vol.toNat) (hv : V (D.ax k) (D.ay k) (D.az k) = v) :
    Gm.wr1 B (Gm.upd2 B D V l k) ⟨D.ax k,D.ay k,D.az k,0,v⟩ = Gm.upd2 B D V l (k + 1):=by
  have h1:=hD _ _ _ (Gm.at_in (B:=D) (k:=k) (by omega) (by omega))
  rw [Gm.upd2_set h.len hD (by omega),hv]
  show (if B.inb (D.ax k) (D.ay k) (D.az k) then _ else _) = _
  rw [h1,if_pos rfl]
theorem Gm.cap_fits {B C : Gm.Bx} {l : List Int} (h : Gm.ok B l) (hC : C.rg) : Gm.fits (Gm.cap B C):=⟨Gm.cap_rg h.rg hC,Int.le_trans (Gm.cap_vol B C) h.max⟩
set_option maxRecDepth 1000000 in
set_option maxHeartbeats 4000000 in
theorem fill1_any (B : Gm.Bx) (A : Option Addr) (n c hb gb xb cb : Nat) (l : List Int) (A0 : Option Addr) (n0 c0 : Nat) (C : Gm.Bx) (m : Int) (F : Nat → Prop) (w00 : World) (w : World) (hW0 : Gr w00 w) (hF : ∀ k,F k → w00.heap.size ≤ k) (r1 : Row gb [B.a, B.b, B.c, B.d, B.e, B.f, .slice A0 n0 c0] w00) (r2 : Row xb [C.a, C.b, C.c, C.d, C.e, C.f] w00) (r3 : Row cb [m] w00) (hS : Sts [blk hb 28 [B.a, B.b, B.c, B.d, B.e, B.f, .slice A n c],own (.slice A n c) 3 1 n (ic l)] w F) (hok : Gm.ok B l) (hc : C.rg) :
    Calls Tryd.prog 77 #[.func (.func 86) #[] #[.pointer (some ⟨hb,0,none⟩)], .pointer (some ⟨gb,0,none⟩), .pointer (some ⟨xb,0,none⟩), .pointer (some ⟨cb,0,none⟩)] w fun e w'=>(∃ v,e = .returned v ∧ St w F [blk hb 28 [B.a, B.b, B.c, B.d, B.e, B.f, .slice A n c],own (.slice A n c) 3 1 n (ic (Gm.fill B l C m))] w'):=by
  have HOK:=Lib.hid hok
  clear hok
  have HLEN : Hid (l.length = n):=Lib.hid (by have h_:=own_icl ((St.borrow hS).ownr 1 rfl);omega)
  have HW00:=Lib.hid hW0
  have HF00:=Lib.hid hF
  clear hW0 hF
  have HP1:=Lib.hid r1
  have HP2:=Lib.hid r2
  have HP3:=Lib.hid r3
  have HCR:=Lib.hid hc
  clear r1 r2 r3 hc
  have S1 : Hid (St w F [blk hb 28 [B.a, B.b, B.c, B.d, B.e, B.f, .slice A n c],own (.slice A n c) 3 1 n (ic l)] w):=Lib.hid (St.borrow hS)
  refine calls_marks Tryd.func77 rfl ?_
  simp only [Tryd.ntmps77,List.size_toArray,List.length_cons,List.length_nil,Nat.reduceAdd,Nat.reduceSub,Array.replicate_succ,Array.replicate_zero,List.push_toArray,List.append_toArray,List.nil_append,List.cons_append]
  go_upto_region 0 with fail
  refine wpG_region_k (fun K hK=>?_)
  refine wpG_val (some 4) rfl (by rfl) (fun W2 hg3=>⟨.pointer (some ⟨W2.heap.size,0,none⟩),W2.alloc (.cells #[.func (.func 86) #[] #[.pointer (some ⟨hb,0,none⟩)]] 85),by (first | (go_simp;done) | (go_simp <;> rfl)), ?_⟩)
  simp only [n1,n3,n4]
  obtain ⟨g4,U5,hg_,hu_,hS_⟩:=(S1.out.gr hg3).made [.func (.func 86) #[] #[.pointer (some ⟨hb,0,none⟩)]] 85
  rw [← hu_,← hg_]
  have S6 : Hid (St w F [blk g4 85 [.func (.func 86) #[] #[.pointer (some ⟨hb,0,none⟩)]],blk hb 28 [B.a, B.b, B.c, B.d, B.e, B.f, .slice A n c],own (.slice A n c) 3 1 n (ic l)] U5):=Lib.hid hS_
  clear S1
  clear hg_ hu_ hS_ hg3
  refine wpG_done (fun V7 hv8=>?_)
  have S9 : Hid (St w F [blk g4 85 [.func (.func 86) #[] #[.pointer (some ⟨hb,0,none⟩)]],blk hb 28 [B.a, B.b, B.c, B.d, B.e, B.f, .slice A n c],own (.slice A n c) 3 1 n (ic l)] V7):=Lib.hid (S6.out.gr hv8)
  clear S6
  clear hv8
  refine ⟨rfl,hK _ _ ?_⟩
  clear hK
  go_upto_region 1 with fail
  refine wpG_region_k (fun K hK=>?_)
  refine @wpG_p _ _ _ _ _ (some 6) (.pointer (some ⟨gb,0,none⟩)) _ _ rfl (by rfl) (fun W=>by go_simp) ?_
  simp only [n1,n3,n4]
  refine @wpG_tk _ _ _ _ _ (some 7) (.agg #[B.a, B.b, B.c, B.d, B.e, B.f]) _ _ rfl (.load_mid (by rfl) 25 (.tmp 6) rfl gb 0 rfl [B.a, B.b, B.c, B.d, B.e, B.f] _ (fun W hg=>(rangeAt_part ((HP1.out.below ((S9.out.gr hg).belo HW00.out HF00.out)).range) 0 6 rfl)) Tryd.underlying25 rfl (by kernel_rfl)) ?_
  simp only [n1,n3,n4]
  refine @wpG_tk _ _ _ _ _ (some 8) (.agg #[C.a, C.b, C.c, C.d, C.e, C.f]) _ _ rfl (.load_mid (by rfl) 25 (.tmp 2) rfl xb 0 rfl [C.a, C.b, C.c, C.d, C.e, C.f] _ (fun W hg=>(HP2.out.below ((S9.out.gr hg).belo HW00.out HF00.out)).range) Tryd.underlying25 rfl (by kernel_rfl)) ?_
  simp only [n1,n3,n4]
  refine @wpG_tk _ _ _ _ _ (some 9) (.agg #[((Gm.cap B C).a:Int), ((Gm.cap B C).b:Int), ((Gm.cap B C).c:Int), ((Gm.cap B C).d:Int), ((Gm.cap B C).e:Int), ((Gm.cap B C).f:Int)]) _ _ rfl (.call (f:=61) (args:=#[.agg #[B.a, B.b, B.c, B.d, B.e, B.f], .agg #[C.a, C.b, C.c, C.d, C.e, C.f]]) (by rfl) (fun W=>by go_simp) (fun W hg=>pinter_b W B C HOK.out.rg HCR.out)) ?_
  simp only [n1,n3,n4]
  refine wpG_call (some 10) 60 #[.agg #[((Gm.cap B C).a:Int), ((Gm.cap B C).b:Int), ((Gm.cap B C).c:Int), ((Gm.cap B C).d:Int), ((Gm.cap B C).e:Int), ((Gm.cap B C).f:Int)]] rfl (by rfl) (fun W=>by go_simp) (fun W11 hg12=>?_)
  refine (places_any (Gm.cap B C) W11).mono ?_
  rintro e w13 ⟨bb10,rfl,hS_⟩
  refine ⟨_,rfl, ?_⟩
  have hT_:=(S9.out.gr hg12).got hS_
  simp only [n1,n3,n4]
  have S14 : Hid (St w F [blk bb10 25 [((Gm.cap B C).a:Int), ((Gm.cap B C).b:Int), ((Gm.cap B C).c:Int), ((Gm.cap B C).d:Int), ((Gm.cap B C).e:Int), ((Gm.cap B C).f:Int)],blk g4 85 [.func (.func 86) #[] #[.pointer (some ⟨hb,0,none⟩)]],blk hb 28 [B.a, B.b, B.c, B.d, B.e, B.f, .slice A n c],own (.slice A n c) 3 1 n (ic l)] w13):=Lib.hid hT_
  clear S9
  clear hT_ hS_ hg12
  refine wpG_done (fun V15 hv16=>?_)
  have S17 : Hid (St w F [blk bb10 25 [((Gm.cap B C).a:Int), ((Gm.cap B C).b:Int), ((Gm.cap B C).c:Int), ((Gm.cap B C).d:Int), ((Gm.cap B C).e:Int), ((Gm.cap B C).f:Int)],blk g4 85 [.func (.func 86) #[] #[.pointer (some ⟨hb,0,none⟩)]],blk hb 28 [B.a, B.b, B.c, B.d, B.e, B.f, .slice A n c],own (.slice A n c) 3 1 n (ic l)] V15):=Lib.hid (S14.out.gr hv16)
  clear S14
  clear hv16
  refine ⟨rfl,hK _ _ ?_⟩
  clear hK
  have S18 : Hid (St w F [blk bb10 25 [((Gm.cap B C).a:Int), ((Gm.cap B C).b:Int), ((Gm.cap B C).c:Int), ((Gm.cap B C).d:Int), ((Gm.cap B C).e:Int), ((Gm.cap B C).f:Int)],blk g4 85 [.func (.func 86) #[] #[.pointer (some ⟨hb,0,none⟩)]],blk hb 28 [B.a, B.b, B.c, B.d, B.e, B.f, .slice A n c],own (.slice A n c) 3 1 n (ic (Gm.upd2 B (Gm.cap B C) (fun _ _ _=>m) l 0))] V15):=Lib.hid (by rw [Gm.upd2_zero];exact S17.out)
  clear S17
  go_wp2_with fail
  have hB_ : w.heap.size ≤ V15.heap.size:=S18.out.size
  have hbb_ : bb10 < V15.heap.size:=blk_lt S18.out 0 rfl
  refine range_law (gf:=87) (lb:=#[.pointer (some ⟨bb10,0,none⟩)]) (T':=(fun k=>k = V15.heap.size ∨ k = V15.heap.size + 1 ∨ k = bb10)) rfl (enters_of Tryd.func87 (by kernel_rfl) rfl) (places1_seq bb10 (Gm.cap B C) V15 (S18.out.row 0 rfl) (Gm.cap_fits HOK.out HCR.out)) (fun W1_ hs_ k_ hk_=>⟨.inr (.inr hk_),by (have e_ : k_ = bb10:=hk_);omega,by (have e_ : k_ = bb10:=hk_);omega⟩) (.inl rfl) (.inr (.inl rfl)) (fun _=>rfl) (fun kk wr=>St w F [blk bb10 25 [((Gm.cap B C).a:Int), ((Gm.cap B C).b:Int), ((Gm.cap B C).c:Int), ((Gm.cap B C).d:Int), ((Gm.cap B C).e:Int), ((Gm.cap B C).f:Int)],blk g4 85 [.func (.func 86) #[] #[.pointer (some ⟨hb,0,none⟩)]],blk hb 28 [B.a, B.b, B.c, B.d, B.e, B.f, .slice A n c],own (.slice A n c) 3 1 n (ic (Gm.upd2 B (Gm.cap B C) (fun _ _ _=>m) l kk))] wr) (fun _ _ _=>False) (fun kk a_ wr=>∃ (u5 : Nat),a_ = ⟨#[.func (.func 86) #[] #[.pointer (some ⟨hb,0,none⟩)], .pointer (some ⟨gb,0,none⟩), .pointer (some ⟨xb,0,none⟩), .pointer (some ⟨cb,0,none⟩), .pointer (some ⟨g4,0,none⟩), .pointer (some ⟨u5,0,none⟩), .pointer (some ⟨gb,0,none⟩), .agg #[B.a, B.b, B.c, B.d, B.e, B.f], .agg #[C.a, C.b, C.c, C.d, C.e, C.f], .agg #[((Gm.cap B C).a:Int), ((Gm.cap B C).b:Int), ((Gm.cap B C).c:Int), ((Gm.cap B C).d:Int), ((Gm.cap B C).e:Int), ((Gm.cap B C).f:Int)], .func (.func 87) #[] #[.pointer (some ⟨bb10,0,none⟩)], .agg #[((Gm.cap B C).ax kk:Int), ((Gm.cap B C).ay kk:Int), ((Gm.cap B C).az kk:Int)],undef,undef,undef,undef],[]⟩ ∧ St w F [blk u5 23 [((Gm.cap B C).ax kk:Int), ((Gm.cap B C).ay kk:Int), ((Gm.cap B C).az kk:Int)],blk bb10 25 [((Gm.cap B C).a:Int), ((Gm.cap B C).b:Int), ((Gm.cap B C).c:Int), ((Gm.cap B C).d:Int), ((Gm.cap B C).e:Int), ((Gm.cap B C).f:Int)],blk g4 85 [.func (.func 86) #[] #[.pointer (some ⟨hb,0,none⟩)]],blk hb 28 [B.a, B.b, B.c, B.d, B.e, B.f, .slice A n c],own (.slice A n c) 3 1 n (ic (Gm.upd2 B (Gm.cap B C) (fun _ _ _=>m) l kk))] wr) (fun s_ X_ Y_ row_ h_ hg_ hr_=>(match h_ with | hs_=>hs_.turned (cels_cons (cel_blk _ _ _) (cels_cons (cel_blk _ _ _) (cels_cons (cel_blk _ _ _) (cels_cons (cel_own _ _ _ _ _) cels_nil)))) hB_ hg_ hr_)) (fun _ _ _ _ _ h_ _ _=>h_) (fun kk a_=>fun s_ X_ Y_ row_ h_ hg_ hr_=>(match h_ with | ⟨x0_,p0_,hs_⟩=>⟨x0_,p0_,hs_.turned (cels_cons (cel_blk _ _ _) (cels_cons (cel_blk _ _ _) (cels_cons (cel_blk _ _ _) (cels_cons (cel_blk _ _ _) (cels_cons (cel_own _ _ _ _ _) cels_nil))))) hB_ hg_ hr_⟩)) S18.out ?_ ?_ ?_ ?_
  · intro l_ kk W_ hk_ hi_ hR_
    have hS_:=hi_
    have hS0_:=hS_
    obtain ⟨f_,hA_,hsts_,hfp_,hback_⟩:=hS_.anew
    clear hS_
    have HW_ : Hid (Gr w00 W_):=Lib.hid (hS0_.belo HW00.out HF00.out)
    have HF_ : Hid (∀ k,f_ k → w00.heap.size ≤ k):=Lib.hid (fun k hk=>by rcases hfp_ k hk with h_ | h_;exact HF00.out k h_;exact Nat.le_trans (Gr.size HW00.out) h_)
    have hsz_ : w.heap.size ≤ W_.heap.size:=hS0_.size
    clear hS0_
    have HBB : Hid (W_.heap[bb10]? = some (.cells (List.toArray [((Gm.cap B C).a:Int), ((Gm.cap B C).b:Int), ((Gm.cap B C).c:Int), ((Gm.cap B C).d:Int), ((Gm.cap B C).e:Int), ((Gm.cap B C).f:Int)]) 25 (0,0))):=Lib.hid (hA_.heap 0 rfl)
    have SR:=Lib.hid hA_
    clear hA_
    have S19:=SR
    clear SR
    rw [zip1];simp only [n3,n4]
    refine wpGI_region_k rfl (fun K hK=>?_)
    refine wpG_val (some 5) rfl (by rfl) (fun W20 hg21=>⟨.pointer (some ⟨W20.heap.size,0,none⟩),W20.alloc (.cells #[(), (), ()] 23),by (first | (go_simp;done) | (go_simp <;> rfl)), ?_⟩)
    simp only [n1,n3,n4]
    obtain ⟨g22,U23,hg_,hu_,hS_⟩:=(S19.out.gr hg21).made [(), (), ()] 23
    rw [← hu_,← hg_]
    have S24 : Hid (St W_ f_ [blk g22 23 [(), (), ()],blk bb10 25 [((Gm.cap B C).a:Int), ((Gm.cap B C).b:Int), ((Gm.cap B C).c:Int), ((Gm.cap B C).d:Int), ((Gm.cap B C).e:Int), ((Gm.cap B C).f:Int)],blk g4 85 [.func (.func 86) #[] #[.pointer (some ⟨hb,0,none⟩)]],blk hb 28 [B.a, B.b, B.c, B.d, B.e, B.f, .slice A n c],own (.slice A n c) 3 1 n (ic (Gm.upd2 B (Gm.cap B C) (fun _ _ _=>m) l kk))] U23):=Lib.hid hS_
    clear S19
    clear hg_ hu_ hS_ hg21
    refine wpG_store (none) rfl (by rfl) (fun W25 hg26=>⟨_,run_store_mid 23 (.tmp 5) (.tmp 11) rfl g22 0 #[((Gm.cap B C).ax kk:Int), ((Gm.cap B C).ay kk:Int), ((Gm.cap B C).az kk:Int)] rfl rfl ((S24.out.gr hg26).room 0 rfl 0 3 (by simp)) (by kernel_rfl) (by kernel_rfl), ?_⟩)
    simp only [n2]
    obtain ⟨U27,hu_,hS_⟩:=((S24.out.gr hg26).put 0 rfl 0 (#[((Gm.cap B C).ax kk:Int), ((Gm.cap B C).ay kk:Int), ((Gm.cap B C).az kk:Int)] : Array Value).toList (ds:=[((Gm.cap B C).ax kk:Int), ((Gm.cap B C).ay kk:Int), ((Gm.cap B C).az kk:Int)]) rfl).named
    rw [← hu_]
    have S28 : Hid (St W_ f_ [blk g22 23 [((Gm.cap B C).ax kk:Int), ((Gm.cap B C).ay kk:Int), ((Gm.cap B C).az kk:Int)],blk bb10 25 [((Gm.cap B C).a:Int), ((Gm.cap B C).b:Int), ((Gm.cap B C).c:Int), ((Gm.cap B C).d:Int), ((Gm.cap B C).e:Int), ((Gm.cap B C).f:Int)],blk g4 85 [.func (.func 86) #[] #[.pointer (some ⟨hb,0,none⟩)]],blk hb 28 [B.a, B.b, B.c, B.d, B.e, B.f, .slice A n c],own (.slice A n c) 3 1 n (ic (Gm.upd2 B (Gm.cap B C) (fun _ _ _=>m) l kk))] U27):=Lib.hid hS_
    clear S24
    clear hu_ hS_ hg26
    refine wpG_done (fun V29 hv30=>?_)
    have S31 : Hid (St W_ f_ [blk g22 23 [((Gm.cap B C).ax kk:Int), ((Gm.cap B C).ay kk:Int), ((Gm.cap B C).az kk:Int)],blk bb10 25 [((Gm.cap B C).a:Int), ((Gm.cap B C).b:Int), ((Gm.cap B C).c:Int), ((Gm.cap B C).d:Int), ((Gm.cap B C).e:Int), ((Gm.cap B C).f:Int)],blk g4 85 [.func (.func 86) #[] #[.pointer (some ⟨hb,0,none⟩)]],blk hb 28 [B.a, B.b, B.c, B.d, B.e, B.f, .slice A n c],own (.slice A n c) 3 1 n (ic (Gm.upd2 B (Gm.cap B C) (fun _ _ _=>m) l kk))] V29):=Lib.hid (S28.out.gr hv30)
    clear S28
    clear hv30
    refine ⟨rfl,hK _ _ ?_⟩
    clear hK
    (try simp only [Exit.then,Exit.inBlock])
    exact ⟨keep_st S31.out hsts_ (cels_cons (cel_blk _ _ _) (cels_cons (cel_blk _ _ _) (cels_cons (cel_blk _ _ _) (cels_cons (cel_own _ _ _ _ _) cels_nil)))) hR_ HBB.out 1 rfl,⟨g22,rfl,hback_ (((((S31.out.front 4 rfl).front 4 rfl).front 4 rfl).front 4 rfl).front 4 rfl)⟩⟩
  · intro l_ kk a_ W_ hk_ hax_ hR_
    obtain ⟨u5,rfl,hS_⟩:=hax_
    have hS0_:=hS_
    obtain ⟨f_,hA_,hsts_,hfp_,hback_⟩:=hS_.anew
    clear hS_
    have HW_ : Hid (Gr w00 W_):=Lib.hid (hS0_.belo HW00.out HF00.out)
    have HF_ : Hid (∀ k,f_ k → w00.heap.size ≤ k):=Lib.hid (fun k hk=>by rcases hfp_ k hk with h_ | h_;exact HF00.out k h_;exact Nat.le_trans (Gr.size HW00.out) h_)
    have hsz_ : w.heap.size ≤ W_.heap.size:=hS0_.size
    clear hS0_
    have HBB : Hid (W_.heap[bb10]? = some (.cells (List.toArray [((Gm.cap B C).a:Int), ((Gm.cap B C).b:Int), ((Gm.cap B C).c:Int), ((Gm.cap B C).d:Int), ((Gm.cap B C).e:Int), ((Gm.cap B C).f:Int)]) 25 (0,0))):=Lib.hid (hA_.heap 1 rfl)
    have SR:=Lib.hid hA_
    clear hA_
    have S32:=SR
    clear SR
    refine wpIn_block ?_
    refine wpGI_region_k rfl (fun K hK=>?_)
    refine @wpG_r _ _ _ _ _ (some 12) (.func (.func 86) #[] #[.pointer (some ⟨hb,0,none⟩)]) _ _ rfl (by rfl) (fun W hg=>by have c:=(S32.out.gr hg).cell 2 rfl 0 rfl;go_simp) ?_
    simp only [n1,n3,n4]
    refine @wpG_tk _ _ _ _ _ (some 13) (.agg #[((Gm.cap B C).ax kk:Int), ((Gm.cap B C).ay kk:Int), ((Gm.cap B C).az kk:Int)]) _ _ rfl (.load_mid (by rfl) 23 (.tmp 5) rfl u5 0 rfl [((Gm.cap B C).ax kk:Int), ((Gm.cap B C).ay kk:Int), ((Gm.cap B C).az kk:Int)] _ (fun W hg=>(S32.out.gr hg).range 0 rfl 0 3 rfl) Tryd.underlying23 rfl (by kernel_rfl)) ?_
    simp only [n1,n3,n4]
    refine @wpG_r _ _ _ _ _ (some 14) m _ _ rfl (by rfl) (fun W hg=>by have c:=((HP3.out.below ((S32.out.gr hg).belo HW_.out HF_.out)).range) 0 _ rfl;(try simp only [Nat.add_zero,Nat.zero_add] at c);go_simp) ?_
    simp only [n1,n3,n4]
    refine wpG_call (some 15) 86 #[.agg #[((Gm.cap B C).ax kk:Int), ((Gm.cap B C).ay kk:Int), ((Gm.cap B C).az kk:Int)], m, .pointer (some ⟨hb,0,none⟩)] rfl (by rfl) (fun W=>by go_simp) (fun W34 hg35=>?_)
    obtain ⟨fp_,hA_,hfp_,back_⟩:=St.lend (L:=[blk hb 28 [B.a, B.b, B.c, B.d, B.e, B.f, .slice A n c],own (.slice A n c) 3 1 n (ic (Gm.upd2 B (Gm.cap B C) (fun _ _ _=>m) l kk))]) (M:=[blk u5 23 [((Gm.cap B C).ax kk:Int), ((Gm.cap B C).ay kk:Int), ((Gm.cap B C).az kk:Int)],blk bb10 25 [((Gm.cap B C).a:Int), ((Gm.cap B C).b:Int), ((Gm.cap B C).c:Int), ((Gm.cap B C).d:Int), ((Gm.cap B C).e:Int), ((Gm.cap B C).f:Int)],blk g4 85 [.func (.func 86) #[] #[.pointer (some ⟨hb,0,none⟩)]]]) (((S32.out.gr hg35).front 4 rfl).front 4 rfl)
    refine (changed1_any B _ _ _ hb (Gm.upd2 B (Gm.cap B C) (fun _ _ _=>m) l kk) ((Gm.cap B C).ax kk) ((Gm.cap B C).ay kk) ((Gm.cap B C).az kk) m _ W34 hA_ (Gm.upd2_ok HOK.out) (Gm.at_rp (Gm.cap_rg HOK.out.rg HCR.out) (Int.natCast_nonneg _) (by omega))).mono ?_
    rintro e w36 ⟨v33,rfl,hS_⟩
    refine ⟨_,rfl, ?_⟩
    have hT_:=back_ hS_
    simp only [n1,n3,n4]
    have S37 : Hid (St W_ f_ [blk hb 28 [B.a, B.b, B.c, B.d, B.e, B.f, .slice A n c],own (.slice A n c) 3 1 n (ic (Gm.wr1 B (Gm.upd2 B (Gm.cap B C) (fun _ _ _=>m) l kk) ⟨((Gm.cap B C).ax kk),((Gm.cap B C).ay kk),((Gm.cap B C).az kk),0,m⟩)),blk u5 23 [((Gm.cap B C).ax kk:Int), ((Gm.cap B C).ay kk:Int), ((Gm.cap B C).az kk:Int)],blk bb10 25 [((Gm.cap B C).a:Int), ((Gm.cap B C).b:Int), ((Gm.cap B C).c:Int), ((Gm.cap B C).d:Int), ((Gm.cap B C).e:Int), ((Gm.cap B C).f:Int)],blk g4 85 [.func (.func 86) #[] #[.pointer (some ⟨hb,0,none⟩)]]] w36):=Lib.hid hT_
    clear S32
    clear hT_ hS_ hg35 hA_ hfp_ back_
    refine wpG_done (fun V38 hv39=>?_)
    have S40 : Hid (St W_ f_ [blk hb 28 [B.a, B.b, B.c, B.d, B.e, B.f, .slice A n c],own (.slice A n c) 3 1 n (ic (Gm.wr1 B (Gm.upd2 B (Gm.cap B C) (fun _ _ _=>m) l kk) ⟨((Gm.cap B C).ax kk),((Gm.cap B C).ay kk),((Gm.cap B C).az kk),0,m⟩)),blk u5 23 [((Gm.cap B C).ax kk:Int), ((Gm.cap B C).ay kk:Int), ((Gm.cap B C).az kk:Int)],blk bb10 25 [((Gm.cap B C).a:Int), ((Gm.cap B C).b:Int), ((Gm.cap B C).c:Int), ((Gm.cap B C).d:Int), ((Gm.cap B C).e:Int), ((Gm.cap B C).f:Int)],blk g4 85 [.func (.func 86) #[] #[.pointer (some ⟨hb,0,none⟩)]]] V38):=Lib.hid (S37.out.gr hv39)
    clear S37
    clear hv39
    refine ⟨rfl,hK _ _ ?_⟩
    clear hK
    (try simp only [Exit.then,Exit.inBlock])
    refine ⟨keep_st S40.out hsts_ (cels_cons (cel_blk _ _ _) (cels_cons (cel_blk _ _ _) (cels_cons (cel_blk _ _ _) (cels_cons (cel_blk _ _ _) (cels_cons (cel_own _ _ _ _ _) cels_nil))))) hR_ HBB.out 3 rfl, ?_⟩
    show St w F [blk bb10 25 [((Gm.cap B C).a:Int), ((Gm.cap B C).b:Int), ((Gm.cap B C).c:Int), ((Gm.cap B C).d:Int), ((Gm.cap B C).e:Int), ((Gm.cap B C).f:Int)],blk g4 85 [.func (.func 86) #[] #[.pointer (some ⟨hb,0,none⟩)]],blk hb 28 [B.a, B.b, B.c, B.d, B.e, B.f, .slice A n c],own (.slice A n c) 3 1 n (ic (Gm.upd2 B (Gm.cap B C) (fun _ _ _=>m) l (kk + 1)))] _
    exact (by rw [← Gm.upd2_wr (V:=(fun _ _ _=>m)) HOK.out Gm.cap_sub hk_ rfl];exact hback_ (((((S40.out.front 1 rfl).front 1 rfl).front 4 rfl).front 4 rfl).sub (.cons_cons _ (.cons_cons _ (.cons_cons _ (.cons_cons _ (.cons _ .slnil)))))))
  · intro D_ W_ hD_ hi_ hdd_
    have hS_:=hi_
    have hDw_ : w.heap.size ≤ D_:=Nat.le_trans hB_ hD_
    have hS2_:=hS_.defer (cels_cons (cel_blk _ _ _) (cels_cons (cel_blk _ _ _) (cels_cons (cel_blk _ _ _) (cels_cons (cel_own _ _ _ _ _) cels_nil)))) hDw_ hdd_
    clear hS_ hdd_ hD_ hB_ hbb_
    have S41 : Hid (St w F [dfr D_,blk bb10 25 [((Gm.cap B C).a:Int), ((Gm.cap B C).b:Int), ((Gm.cap B C).c:Int), ((Gm.cap B C).d:Int), ((Gm.cap B C).e:Int), ((Gm.cap B C).f:Int)],blk g4 85 [.func (.func 86) #[] #[.pointer (some ⟨hb,0,none⟩)]],blk hb 28 [B.a, B.b, B.c, B.d, B.e, B.f, .slice A n c],own (.slice A n c) 3 1 n (ic (Gm.upd2 B (Gm.cap B C) (fun _ _ _=>m) l ((Gm.cap B C).vol.toNat)))] W_):=Lib.hid hS2_
    clear S18
    clear hS2_
    go_wp2_with fail
    obtain ⟨hD2_,hS3_⟩:=S41.out.dfrs (cels_cons (cel_blk _ _ _) (cels_cons (cel_blk _ _ _) (cels_cons (cel_blk _ _ _) (cels_cons (cel_own _ _ _ _ _) cels_nil)))) hDw_
    obtain ⟨WZ,hWZ_⟩ : ∃ WZ,WZ = W_.putObj D_ (.deferred none):=⟨_,rfl⟩
    rw [← hWZ_] at hS3_
    refine postM_one (.inl rfl) hD2_ hWZ_ (results_none rfl _ _ _) ?_
    clear hD2_ hWZ_
    have S42 : Hid (St w F [blk bb10 25 [((Gm.cap B C).a:Int), ((Gm.cap B C).b:Int), ((Gm.cap B C).c:Int), ((Gm.cap B C).d:Int), ((Gm.cap B C).e:Int), ((Gm.cap B C).f:Int)],blk g4 85 [.func (.func 86) #[] #[.pointer (some ⟨hb,0,none⟩)]],blk hb 28 [B.a, B.b, B.c, B.d, B.e, B.f, .slice A n c],own (.slice A n c) 3 1 n (ic (Gm.upd2 B (Gm.cap B C) (fun _ _ _=>m) l ((Gm.cap B C).vol.toNat)))] WZ):=Lib.hid hS3_
    clear S41
    clear hS3_
    (first | refine ⟨_,rfl, ?_⟩ | refine ⟨⟨_,rfl⟩, ?_⟩ | skip)
    rw [← Gm.fill_upd2 (C:=C) (v:=m) HOK.out];exact (((S42.out.front 3 rfl).front 3 rfl).sub (.cons_cons _ (.cons_cons _ (.cons _ (.cons _ .slnil)))))
  · intro D_ c_ kk W_ hD_ hk_ hx_ hdd_
    exact hx_.elim
set_option maxRecDepth 1000000 in
set_option maxHeartbeats 4000000 in
theorem changed_fill (B : Gm.Bx) (A : Option Addr) (n c : Nat) (l : List Int) (gb xb cb : Nat) (A0 : Option Addr) (n0 c0 : Nat) (C : Gm.Bx) (m : Int) (w : World) (hG : SL w 1 A n c (ic l)) (hok : Gm.ok B l) (r1 : Row gb [B.a, B.b, B.c, B.d, B.e, B.f, .slice A0 n0 c0] w) (r2 : Row xb [C.a, C.b, C.c, C.d, C.e, C.f] w) (r3 : Row cb [m] w) (hc : C.rg) :
    Calls Tryd.prog 57 #[.agg #[B.a, B.b, B.c, B.d, B.e, B.f, .slice A n c], .func (.func 77) #[] #[.pointer (some ⟨gb,0,none⟩), .pointer (some ⟨xb,0,none⟩), .pointer (some ⟨cb,0,none⟩)]] w fun e w'=>∃ A n c,e = .returned (.agg #[B.a, B.b, B.c, B.d, B.e, B.f, .slice A n c]) ∧ St w noB [own (.slice A n c) 3 1 n (ic (Gm.fill B l C m))] w':=by
  have HGA:=Lib.hid hG
  have HLEN : Hid (l.length = n):=Lib.hid (by have h_:=hG.len;rw [ic_len] at h_;omega)
  have hnbHGA : n ≤ 9223372036854775807:=Nat.le_trans hG.cap hG.bnd
  clear hG
  have HOK:=Lib.hid hok
  clear hok
  have S1 : Hid (St w noB [] w):=Lib.hid (St.start w)
  go_enter Tryd.func57,Tryd.ntmps57
  go_upto_region 0 with fail
  refine wpG_region_k (fun K hK=>?_)
  refine wpG_val (some 2) rfl (by rfl) (fun W2 hg3=>⟨.pointer (some ⟨W2.heap.size,0,none⟩),W2.alloc (.cells #[B.a, B.b, B.c, B.d, B.e, B.f, .slice A n c] 28),by (first | (go_simp;done) | (go_simp <;> rfl)), ?_⟩)
  simp only [n1,n3,n4]
  obtain ⟨g4,U5,hg_,hu_,hS_⟩:=(S1.out.gr hg3).made [B.a, B.b, B.c, B.d, B.e, B.f, .slice A n c] 28
  rw [← hu_,← hg_]
  have S6 : Hid (St w noB [blk g4 28 [B.a, B.b, B.c, B.d, B.e, B.f, .slice A n c]] U5):=Lib.hid hS_
  clear S1
  clear hg_ hu_ hS_ hg3
  refine wpG_val (some 4) rfl (by rfl) (fun W7 hg8=>⟨.pointer (some ⟨W7.heap.size,0,none⟩),W7.alloc (.cells #[(), (), (), (), (), (), .slice none 0 0] 28),by (first | (go_simp;done) | (go_simp <;> rfl)), ?_⟩)
  simp only [n1,n3,n4]
  obtain ⟨g9,U10,hg_,hu_,hS_⟩:=(S6.out.gr hg8).made [(), (), (), (), (), (), .slice none 0 0] 28
  rw [← hu_,← hg_]
  have S11 : Hid (St w noB [blk g9 28 [(), (), (), (), (), (), .slice none 0 0],blk g4 28 [B.a, B.b, B.c, B.d, B.e, B.f, .slice A n c]] U10):=Lib.hid hS_
  clear S6
  clear hg_ hu_ hS_ hg8
  refine wpG_done (fun V12 hv13=>?_)
  have S14 : Hid (St w noB [blk g9 28 [(), (), (), (), (), (), .slice none 0 0],blk g4 28 [B.a, B.b, B.c, B.d, B.e, B.f, .slice A n c]] V12):=Lib.hid (S11.out.gr hv13)
  clear S11
  clear hv13
  refine ⟨rfl,hK _ _ ?_⟩
  clear hK
  go_upto_region 1 with fail
  refine wpG_region_k (fun K hK=>?_)
  refine @wpG_tk _ _ _ _ _ (some 6) (.agg #[B.a, B.b, B.c, B.d, B.e, B.f, .slice A n c]) _ _ rfl (.load_mid (by rfl) 28 (.tmp 2) rfl g4 0 rfl [B.a, B.b, B.c, B.d, B.e, B.f, .slice A n c] _ (fun W hg=>(S14.out.gr hg).range 1 rfl 0 7 rfl) Tryd.underlying28 rfl (by kernel_rfl)) ?_
  simp only [n1,n3,n4]
  refine wpG_call (some 7) 72 #[.agg #[B.a, B.b, B.c, B.d, B.e, B.f, .slice A n c]] rfl (by rfl) (fun W=>by go_simp) (fun W18 hg19=>?_)
  refine (gclone_any B _ _ _ l W18 (HGA.out.gr (S14.out.gr hg19).bel) (by (have a1:=HOK.out.vol;have a2:=HOK.out.max;have a3:=HLEN.out;omega))).mono ?_
  rintro e w20 ⟨A15,n16,c17,rfl,hS_⟩
  refine ⟨_,rfl, ?_⟩
  have hT_:=(S14.out.gr hg19).got hS_
  simp only [n1,n3,n4]
  have S21 : Hid (St w noB [own (.slice A15 n16 c17) 3 1 n16 (ic l),blk g9 28 [(), (), (), (), (), (), .slice none 0 0],blk g4 28 [B.a, B.b, B.c, B.d, B.e, B.f, .slice A n c]] w20):=Lib.hid hT_
  clear S14
  clear hT_ hS_ hg19
  have hnn16 : n16 ≤ l.length ∧ l.length ≤ n16:=by have h_:=own_icl (S21.out.ownr 0 rfl);omega
  refine wpG_val (some 5) rfl (by rfl) (fun W22 hg23=>⟨.pointer (some ⟨W22.heap.size,0,none⟩),W22.alloc (.cells #[(), (), (), (), (), (), .slice none 0 0] 28),by (first | (go_simp;done) | (go_simp <;> rfl)), ?_⟩)
  simp only [n1,n3,n4]
  obtain ⟨g24,U25,hg_,hu_,hS_⟩:=(S21.out.gr hg23).made [(), (), (), (), (), (), .slice none 0 0] 28
  rw [← hu_,← hg_]
  have S26 : Hid (St w noB [blk g24 28 [(), (), (), (), (), (), .slice none 0 0],own (.slice A15 n16 c17) 3 1 n16 (ic l),blk g9 28 [(), (), (), (), (), (), .slice none 0 0],blk g4 28 [B.a, B.b, B.c, B.d, B.e, B.f, .slice A n c]] U25):=Lib.hid hS_
  clear S21
  clear hg_ hu_ hS_ hg23
  refine wpG_store (none) rfl (by rfl) (fun W27 hg28=>⟨_,run_store_mid 28 (.tmp 5) (.tmp 7) rfl g24 0 #[B.a, B.b, B.c, B.d, B.e, B.f, .slice A15 n16 c17] rfl rfl ((S26.out.gr hg28).room 0 rfl 0 7 (by simp)) (by kernel_rfl) (by kernel_rfl), ?_⟩)
  simp only [n2]
  obtain ⟨U29,hu_,hS_⟩:=((S26.out.gr hg28).put 0 rfl 0 (#[B.a, B.b, B.c, B.d, B.e, B.f, .slice A15 n16 c17] : Array Value).toList (ds:=[B.a, B.b, B.c, B.d, B.e, B.f, .slice A15 n16 c17]) rfl).named
  rw [← hu_]
  have S30 : Hid (St w noB [blk g24 28 [B.a, B.b, B.c, B.d, B.e, B.f, .slice A15 n16 c17],own (.slice A15 n16 c17) 3 1 n16 (ic l),blk g9 28 [(), (), (), (), (), (), .slice none 0 0],blk g4 28 [B.a, B.b, B.c, B.d, B.e, B.f, .slice A n c]] U29):=Lib.hid hS_
  clear S26
  clear hu_ hS_ hg28
  refine wpG_done (fun V31 hv32=>?_)
  have S33 : Hid (St w noB [blk g24 28 [B.a, B.b, B.c, B.d, B.e, B.f, .slice A15 n16 c17],own (.slice A15 n16 c17) 3 1 n16 (ic l),blk g9 28 [(), (), (), (), (), (), .slice none 0 0],blk g4 28 [B.a, B.b, B.c, B.d, B.e, B.f, .slice A n c]] V31):=Lib.hid (S30.out.gr hv32)
  clear S30
  clear hv32
  refine ⟨rfl,hK _ _ ?_⟩
  clear hK
  go_upto_region 2 with fail
  refine wpG_region_k (fun K hK=>?_)
  refine @wpG_p _ _ _ _ _ (some 8) (.func (.func 77) #[] #[.pointer (some ⟨gb,0,none⟩), .pointer (some ⟨xb,0,none⟩), .pointer (some ⟨cb,0,none⟩)]) _ _ rfl (by rfl) (fun _=>rfl) ?_
  simp only [n1,n3,n4]
  refine @wpG_p _ _ _ _ _ (some 9) (.func (.func 86) #[] #[.pointer (some ⟨g24,0,none⟩)]) _ _ rfl (by rfl) (fun W=>by go_simp) ?_
  simp only [n1,n3,n4]
  refine wpG_call (some 10) 77 #[.func (.func 86) #[] #[.pointer (some ⟨g24,0,none⟩)], .pointer (some ⟨gb,0,none⟩), .pointer (some ⟨xb,0,none⟩), .pointer (some ⟨cb,0,none⟩)] rfl (by rfl) (fun W=>by go_simp) (fun W35 hg36=>?_)
  obtain ⟨fp_,hA_,hfp_,back_⟩:=St.lend (L:=[blk g24 28 [B.a, B.b, B.c, B.d, B.e, B.f, .slice A15 n16 c17],own (.slice A15 n16 c17) 3 1 n16 (ic l)]) (M:=[blk g9 28 [(), (), (), (), (), (), .slice none 0 0],blk g4 28 [B.a, B.b, B.c, B.d, B.e, B.f, .slice A n c]]) (((S33.out.gr hg36).front 1 rfl).front 1 rfl)
  refine (fill1_any B _ _ _ g24 gb xb cb l A0 n0 c0 C m _ w W35 (S33.out.gr hg36).bel (fun k hk=>(hfp_ k hk).resolve_left (fun h=>h)) r1 r2 r3 hA_ HOK.out hc).mono ?_
  rintro e w37 ⟨v34,rfl,hS_⟩
  refine ⟨_,rfl, ?_⟩
  have hT_:=back_ hS_
  simp only [n1,n3,n4]
  have S38 : Hid (St w noB [blk g24 28 [B.a, B.b, B.c, B.d, B.e, B.f, .slice A15 n16 c17],own (.slice A15 n16 c17) 3 1 n16 (ic (Gm.fill B l C m)),blk g9 28 [(), (), (), (), (), (), .slice none 0 0],blk g4 28 [B.a, B.b, B.c, B.d, B.e, B.f, .slice A n c]] w37):=Lib.hid hT_
  clear S33
  clear hT_ hS_ hg36 hA_ hfp_ back_
  refine wpG_done (fun V39 hv40=>?_)
  have S41 : Hid (St w noB [blk g24 28 [B.a, B.b, B.c, B.d, B.e, B.f, .slice A15 n16 c17],own (.slice A15 n16 c17) 3 1 n16 (ic (Gm.fill B l C m)),blk g9 28 [(), (), (), (), (), (), .slice none 0 0],blk g4 28 [B.a, B.b, B.c, B.d, B.e, B.f, .slice A n c]] V39):=Lib.hid (S38.out.gr hv40)
  clear S38
  clear hv40
  refine ⟨rfl,hK _ _ ?_⟩
  clear hK
  go_upto_region 3 with fail
  refine wpG_region_k (fun K hK=>?_)
  refine @wpG_tk _ _ _ _ _ (some 11) (.agg #[B.a, B.b, B.c, B.d, B.e, B.f, .slice A15 n16 c17]) _ _ rfl (.load_mid (by rfl) 28 (.tmp 5) rfl g24 0 rfl [B.a, B.b, B.c, B.d, B.e, B.f, .slice A15 n16 c17] _ (fun W hg=>(S41.out.gr hg).range 0 rfl 0 7 rfl) Tryd.underlying28 rfl (by kernel_rfl)) ?_
  simp only [n1,n3,n4]
  refine wpG_store (none) rfl (by rfl) (fun W42 hg43=>⟨_,run_store_mid 28 (.tmp 4) (.tmp 11) rfl g9 0 #[B.a, B.b, B.c, B.d, B.e, B.f, .slice A15 n16 c17] rfl rfl ((S41.out.gr hg43).room 2 rfl 0 7 (by simp)) (by kernel_rfl) (by kernel_rfl), ?_⟩)
  simp only [n2]
  obtain ⟨U44,hu_,hS_⟩:=((S41.out.gr hg43).put 2 rfl 0 (#[B.a, B.b, B.c, B.d, B.e, B.f, .slice A15 n16 c17] : Array Value).toList (ds:=[B.a, B.b, B.c, B.d, B.e, B.f, .slice A15 n16 c17]) rfl).named
  rw [← hu_]
  have S45 : Hid (St w noB [blk g24 28 [B.a, B.b, B.c, B.d, B.e, B.f, .slice A15 n16 c17],own (.slice A15 n16 c17) 3 1 n16 (ic (Gm.fill B l C m)),blk g9 28 [B.a, B.b, B.c, B.d, B.e, B.f, .slice A15 n16 c17],blk g4 28 [B.a, B.b, B.c, B.d, B.e, B.f, .slice A n c]] U44):=Lib.hid hS_
  clear S41
  clear hu_ hS_ hg43
  refine wpG_done (fun V46 hv47=>?_)
  have S48 : Hid (St w noB [blk g24 28 [B.a, B.b, B.c, B.d, B.e, B.f, .slice A15 n16 c17],own (.slice A15 n16 c17) 3 1 n16 (ic (Gm.fill B l C m)),blk g9 28 [B.a, B.b, B.c, B.d, B.e, B.f, .slice A15 n16 c17],blk g4 28 [B.a, B.b, B.c, B.d, B.e, B.f, .slice A n c]] V46):=Lib.hid (S45.out.gr hv47)
  clear S45
  clear hv47
  refine ⟨rfl,hK _ _ ?_⟩
  clear hK
  go_wp2_with fail
  (try simp only [Exit.inBlock,Exit.then])
  refine bodyPost_ret (results_cell_mid rfl _ _ _ g9 0 [B.a, B.b, B.c, B.d, B.e, B.f, .slice A15 n16 c17] _ rfl (S48.out.range 2 rfl 0 7 rfl) Tryd.underlying28 rfl (by kernel_rfl)) rfl ?_
  exact ⟨A15,n16,c17,rfl,S48.out.sub (.cons _ (.cons_cons _ (.cons _ (.cons _ .slnil))))⟩
set_option maxRecDepth 1000000 in
set_option maxHeartbeats 4000000 in
theorem fill_any (B : Gm.Bx) (A : Option Addr) (n c : Nat) (l : List Int) (C : Gm.Bx) (m : Int) (w : World) (hG : SL w 1 A n c (ic l)) (hok : Gm.ok B l) (hc : C.rg) :
    Calls Tryd.prog 42 #[.agg #[B.a, B.b, B.c, B.d, B.e, B.f, .slice A n c], .agg #[C.a, C.b, C.c, C.d, C.e, C.f], m] w fun e w'=>∃ A n c,e = .returned (.agg #[B.a, B.b, B.c, B.d, B.e, B.f, .slice A n c]) ∧ St w noB [own (.slice A n c) 3 1 n (ic (Gm.fill B l C m))] w':=by
  have HGA:=Lib.hid hG
  have HLEN : Hid (l.length = n):=Lib.hid (by have h_:=hG.len;rw [ic_len] at h_;omega)
  have hnbHGA : n ≤ 9223372036854775807:=Nat.le_trans hG.cap hG.bnd
  clear hG
  have HOK:=Lib.hid hok
  clear hok
  have S1 : Hid (St w noB [] w):=Lib.hid (St.start w)
  go_enter Tryd.func42,Tryd.ntmps42
  go_upto_region 0 with fail
  refine wpG_region_k (fun K hK=>?_)
  refine wpG_val (some 3) rfl (by rfl) (fun W2 hg3=>⟨.pointer (some ⟨W2.heap.size,0,none⟩),W2.alloc (.cells #[B.a, B.b, B.c, B.d, B.e, B.f, .slice A n c] 28),by (first | (go_simp;done) | (go_simp <;> rfl)), ?_⟩)
  simp only [n1,n3,n4]
  obtain ⟨g4,U5,hg_,hu_,hS_⟩:=(S1.out.gr hg3).made [B.a, B.b, B.c, B.d, B.e, B.f, .slice A n c] 28
  rw [← hu_,← hg_]
  have S6 : Hid (St w noB [blk g4 28 [B.a, B.b, B.c, B.d, B.e, B.f, .slice A n c]] U5):=Lib.hid hS_
  clear S1
  clear hg_ hu_ hS_ hg3
  refine wpG_val (some 4) rfl (by rfl) (fun W7 hg8=>⟨.pointer (some ⟨W7.heap.size,0,none⟩),W7.alloc (.cells #[C.a, C.b, C.c, C.d, C.e, C.f] 25),by (first | (go_simp;done) | (go_simp <;> rfl)), ?_⟩)
  simp only [n1,n3,n4]
  obtain ⟨g9,U10,hg_,hu_,hS_⟩:=(S6.out.gr hg8).made [C.a, C.b, C.c, C.d, C.e, C.f] 25
  rw [← hu_,← hg_]
  have S11 : Hid (St w noB [blk g9 25 [C.a, C.b, C.c, C.d, C.e, C.f],blk g4 28 [B.a, B.b, B.c, B.d, B.e, B.f, .slice A n c]] U10):=Lib.hid hS_
  clear S6
  clear hg_ hu_ hS_ hg8
  refine wpG_val (some 5) rfl (by rfl) (fun W12 hg13=>⟨.pointer (some ⟨W12.heap.size,0,none⟩),W12.alloc (.cells #[m] 3),by (first | (go_simp;done) | (go_simp <;> rfl)), ?_⟩)
  simp only [n1,n3,n4]
  obtain ⟨g14,U15,hg_,hu_,hS_⟩:=(S11.out.gr hg13).made [m] 3
  rw [← hu_,← hg_]
  have S16 : Hid (St w noB [blk g14 3 [m],blk g9 25 [C.a, C.b, C.c, C.d, C.e, C.f],blk g4 28 [B.a, B.b, B.c, B.d, B.e, B.f, .slice A n c]] U15):=Lib.hid hS_
  clear S11
  clear hg_ hu_ hS_ hg13
  refine wpG_val (some 6) rfl (by rfl) (fun W17 hg18=>⟨.pointer (some ⟨W17.heap.size,0,none⟩),W17.alloc (.cells #[(), (), (), (), (), (), .slice none 0 0] 28),by (first | (go_simp;done) | (go_simp <;> rfl)), ?_⟩)
  simp only [n1,n3,n4]
  obtain ⟨g19,U20,hg_,hu_,hS_⟩:=(S16.out.gr hg18).made [(), (), (), (), (), (), .slice none 0 0] 28
  rw [← hu_,← hg_]
  have S21 : Hid (St w noB [blk g19 28 [(), (), (), (), (), (), .slice none 0 0],blk g14 3 [m],blk g9 25 [C.a, C.b, C.c, C.d, C.e, C.f],blk g4 28 [B.a, B.b, B.c, B.d, B.e, B.f, .slice A n c]] U20):=Lib.hid hS_
  clear S16
  clear hg_ hu_ hS_ hg18
  refine wpG_done (fun V22 hv23=>?_)
  have S24 : Hid (St w noB [blk g19 28 [(), (), (), (), (), (), .slice none 0 0],blk g14 3 [m],blk g9 25 [C.a, C.b, C.c, C.d, C.e, C.f],blk g4 28 [B.a, B.b, B.c, B.d, B.e, B.f, .slice A n c]] V22):=Lib.hid (S21.out.gr hv23)
  clear S21
  clear hv23
  refine ⟨rfl,hK _ _ ?_⟩
  clear hK
  go_upto_region 1 with fail
  refine wpG_region_k (fun K hK=>?_)
  refine @wpG_tk _ _ _ _ _ (some 7) (.agg #[B.a, B.b, B.c, B.d, B.e, B.f, .slice A n c]) _ _ rfl (.load_mid (by rfl) 28 (.tmp 3) rfl g4 0 rfl [B.a, B.b, B.c, B.d, B.e, B.f, .slice A n c] _ (fun W hg=>(S24.out.gr hg).range 3 rfl 0 7 rfl) Tryd.underlying28 rfl (by kernel_rfl)) ?_
  simp only [n1,n3,n4]
  refine @wpG_p _ _ _ _ _ (some 8) (.func (.func 77) #[] #[.pointer (some ⟨g4,0,none⟩), .pointer (some ⟨g9,0,none⟩), .pointer (some ⟨g14,0,none⟩)]) _ _ rfl (by rfl) (fun W=>by go_simp) ?_
  simp only [n1,n3,n4]
  refine wpG_call (some 9) 57 #[.agg #[B.a, B.b, B.c, B.d, B.e, B.f, .slice A n c], .func (.func 77) #[] #[.pointer (some ⟨g4,0,none⟩), .pointer (some ⟨g9,0,none⟩), .pointer (some ⟨g14,0,none⟩)]] rfl (by rfl) (fun W=>by go_simp) (fun W28 hg29=>?_)
  refine (changed_fill B _ _ _ l g4 g9 g14 _ _ _ C m W28 (HGA.out.gr (S24.out.gr hg29).bel) HOK.out ((S24.out.gr hg29).row 3 rfl) ((S24.out.gr hg29).row 2 rfl) ((S24.out.gr hg29).row 1 rfl) hc).mono ?_
  rintro e w30 ⟨A25,n26,c27,rfl,hS_⟩
  refine ⟨_,rfl, ?_⟩
  have hT_:=(S24.out.gr hg29).got hS_
  simp only [n1,n3,n4]
  have S31 : Hid (St w noB [own (.slice A25 n26 c27) 3 1 n26 (ic (Gm.fill B l C m)),blk g19 28 [(), (), (), (), (), (), .slice none 0 0],blk g14 3 [m],blk g9 25 [C.a, C.b, C.c, C.d, C.e, C.f],blk g4 28 [B.a, B.b, B.c, B.d, B.e, B.f, .slice A n c]] w30):=Lib.hid hT_
  clear S24
  clear hT_ hS_ hg29
  refine wpG_store (none) rfl (by rfl) (fun W32 hg33=>⟨_,run_store_mid 28 (.tmp 6) (.tmp 9) rfl g19 0 #[B.a, B.b, B.c, B.d, B.e, B.f, .slice A25 n26 c27] rfl rfl ((S31.out.gr hg33).room 1 rfl 0 7 (by simp)) (by kernel_rfl) (by kernel_rfl), ?_⟩)
  simp only [n2]
  obtain ⟨U34,hu_,hS_⟩:=((S31.out.gr hg33).put 1 rfl 0 (#[B.a, B.b, B.c, B.d, B.e, B.f, .slice A25 n26 c27] : Array Value).toList (ds:=[B.a, B.b, B.c, B.d, B.e, B.f, .slice A25 n26 c27]) rfl).named
  rw [← hu_]
  have S35 : Hid (St w noB [own (.slice A25 n26 c27) 3 1 n26 (ic (Gm.fill B l C m)),blk g19 28 [B.a, B.b, B.c, B.d, B.e, B.f, .slice A25 n26 c27],blk g14 3 [m],blk g9 25 [C.a, C.b, C.c, C.d, C.e, C.f],blk g4 28 [B.a, B.b, B.c, B.d, B.e, B.f, .slice A n c]] U34):=Lib.hid hS_
  clear S31
  clear hu_ hS_ hg33
  refine wpG_done (fun V36 hv37=>?_)
  have S38 : Hid (St w noB [own (.slice A25 n26 c27) 3 1 n26 (ic (Gm.fill B l C m)),blk g19 28 [B.a, B.b, B.c, B.d, B.e, B.f, .slice A25 n26 c27],blk g14 3 [m],blk g9 25 [C.a, C.b, C.c, C.d, C.e, C.f],blk g4 28 [B.a, B.b, B.c, B.d, B.e, B.f, .slice A n c]] V36):=Lib.hid (S35.out.gr hv37)
  clear S35
  clear hv37
  refine ⟨rfl,hK _ _ ?_⟩
  clear hK
  go_wp2_with fail
  (try simp only [Exit.inBlock,Exit.then])
  refine bodyPost_ret (results_cell_mid rfl _ _ _ g19 0 [B.a, B.b, B.c, B.d, B.e, B.f, .slice A25 n26 c27] _ rfl (S38.out.range 1 rfl 0 7 rfl) Tryd.underlying28 rfl (by kernel_rfl)) rfl ?_
  exact ⟨A25,n26,c27,rfl,S38.out.sub (.cons_cons _ (.cons _ (.cons _ (.cons _ (.cons _ .slnil)))))⟩
set_option maxRecDepth 1000000 in
set_option maxHeartbeats 4000000 in
theorem paste1_any (B : Gm.Bx) (A : Option Addr) (n c hb gb kb : Nat) (l : List Int) (A0 : Option Addr) (n0 c0 : Nat) (C : Gm.Bx) (E : Option Addr) (ne ce : Nat) (m : List Int) (F : Nat → Prop) (w00 : World) (w : World) (hW0 : Gr w00 w) (hF : ∀ k,F k → w00.heap.size ≤ k) (r1 : Row gb [B.a, B.b, B.c, B.d, B.e, B.f, .slice A0 n0 c0] w00) (r2 : Row kb [C.a, C.b, C.c, C.d, C.e, C.f, .slice E ne ce] w00) (hG2 : SL w00 1 E ne ce (ic m)) (hS : Sts [blk hb 28 [B.a, B.b, B.c, B.d, B.e, B.f, .slice A n c],own (.slice A n c) 3 1 n (ic l)] w F) (hok : Gm.ok B l) (hok2 : Gm.ok C m) :
    Calls Tryd.prog 59 #[.func (.func 86) #[] #[.pointer (some ⟨hb,0,none⟩)], .pointer (some ⟨gb,0,none⟩), .pointer (some ⟨kb,0,none⟩)] w fun e w'=>(∃ v,e = .returned v ∧ St w F [blk hb 28 [B.a, B.b, B.c, B.d, B.e, B.f, .slice A n c],own (.slice A n c) 3 1 n (ic (Gm.paste B l C m))] w'):=by
  have HOK:=Lib.hid hok
  clear hok
  have HLEN : Hid (l.length = n):=Lib.hid (by have h_:=own_icl ((St.borrow hS).ownr 1 rfl);omega)
  have HW00:=Lib.hid hW0
  have HF00:=Lib.hid hF
  clear hW0 hF
  have HGB:=Lib.hid hG2
  have HLEN2 : Hid (m.length = ne):=Lib.hid (by have h_:=hG2.len;rw [ic_len] at h_;omega)
  have hnbHGB : ne ≤ 9223372036854775807:=Nat.le_trans hG2.cap hG2.bnd
  clear hG2
  have HOK2:=Lib.hid hok2
  clear hok2
  have HP1:=Lib.hid r1
  have HP2:=Lib.hid r2
  clear r1 r2
  have HCR:=Lib.hid HOK2.out.rg
  have S1 : Hid (St w F [blk hb 28 [B.a, B.b, B.c, B.d, B.e, B.f, .slice A n c],own (.slice A n c) 3 1 n (ic l)] w):=Lib.hid (St.borrow hS)
  refine calls_marks Tryd.func59 rfl ?_
  simp only [Tryd.ntmps59,List.size_toArray,List.length_cons,List.length_nil,Nat.reduceAdd,Nat.reduceSub,Array.replicate_succ,Array.replicate_zero,List.push_toArray,List.append_toArray,List.nil_append,List.cons_append]
  go_upto_region 0 with fail
  refine wpG_region_k (fun K hK=>?_)
  refine wpG_val (some 3) rfl (by rfl) (fun W2 hg3=>⟨.pointer (some ⟨W2.heap.size,0,none⟩),W2.alloc (.cells #[.func (.func 86) #[] #[.pointer (some ⟨hb,0,none⟩)]] 85),by (first | (go_simp;done) | (go_simp <;> rfl)), ?_⟩)
  simp only [n1,n3,n4]
  obtain ⟨g4,U5,hg_,hu_,hS_⟩:=(S1.out.gr hg3).made [.func (.func 86) #[] #[.pointer (some ⟨hb,0,none⟩)]] 85
  rw [← hu_,← hg_]
  have S6 : Hid (St w F [blk g4 85 [.func (.func 86) #[] #[.pointer (some ⟨hb,0,none⟩)]],blk hb 28 [B.a, B.b, B.c, B.d, B.e, B.f, .slice A n c],own (.slice A n c) 3 1 n (ic l)] U5):=Lib.hid hS_
  clear S1
  clear hg_ hu_ hS_ hg3
  refine wpG_done (fun V7 hv8=>?_)
  have S9 : Hid (St w F [blk g4 85 [.func (.func 86) #[] #[.pointer (some ⟨hb,0,none⟩)]],blk hb 28 [B.a, B.b, B.c, B.d, B.e, B.f, .slice A n c],own (.slice A n c) 3 1 n (ic l)] V7):=Lib.hid (S6.out.gr hv8)
  clear S6
  clear hv8
  refine ⟨rfl,hK _ _ ?_⟩
  clear hK
  go_upto_region 1 with fail
  refine wpG_region_k (fun K hK=>?_)
  refine @wpG_p _ _ _ _ _ (some 5) (.pointer (some ⟨gb,0,none⟩)) _ _ rfl (by rfl) (fun W=>by go_simp) ?_
  simp only [n1,n3,n4]
  refine @wpG_tk _ _ _ _ _ (some 6) (.agg #[B.a, B.b, B.c, B.d, B.e, B.f]) _ _ rfl (.load_mid (by rfl) 25 (.tmp 5) rfl gb 0 rfl [B.a, B.b, B.c, B.d, B.e, B.f] _ (fun W hg=>(rangeAt_part ((HP1.out.below ((S9.out.gr hg).belo HW00.out HF00.out)).range) 0 6 rfl)) Tryd.underlying25 rfl (by kernel_rfl)) ?_
  simp only [n1,n3,n4]
  refine @wpG_p _ _ _ _ _ (some 7) (.pointer (some ⟨kb,0,none⟩)) _ _ rfl (by rfl) (fun W=>by go_simp) ?_
  simp only [n1,n3,n4]
  refine @wpG_tk _ _ _ _ _ (some 8) (.agg #[C.a, C.b, C.c, C.d, C.e, C.f]) _ _ rfl (.load_mid (by rfl) 25 (.tmp 7) rfl kb 0 rfl [C.a, C.b, C.c, C.d, C.e, C.f] _ (fun W hg=>(rangeAt_part ((HP2.out.below ((S9.out.gr hg).belo HW00.out HF00.out)).range) 0 6 rfl)) Tryd.underlying25 rfl (by kernel_rfl)) ?_
  simp only [n1,n3,n4]
  refine @wpG_tk _ _ _ _ _ (some 9) (.agg #[((Gm.cap B C).a:Int), ((Gm.cap B C).b:Int), ((Gm.cap B C).c:Int), ((Gm.cap B C).d:Int), ((Gm.cap B C).e:Int), ((Gm.cap B C).f:Int)]) _ _ rfl (.call (f:=61) (args:=#[.agg #[B.a, B.b, B.c, B.d, B.e, B.f], .agg #[C.a, C.b, C.c, C.d, C.e, C.f]]) (by rfl) (fun W=>by go_simp) (fun W hg=>pinter_b W B C HOK.out.rg HCR.out)) ?_
  simp only [n1,n3,n4]
  refine wpG_call (some 10) 60 #[.agg #[((Gm.cap B C).a:Int), ((Gm.cap B C).b:Int), ((Gm.cap B C).c:Int), ((Gm.cap B C).d:Int), ((Gm.cap B C).e:Int), ((Gm.cap B C).f:Int)]] rfl (by rfl) (fun W=>by go_simp) (fun W11 hg12=>?_)
  refine (places_any (Gm.cap B C) W11).mono ?_
  rintro e w13 ⟨bb10,rfl,hS_⟩
  refine ⟨_,rfl, ?_⟩
  have hT_:=(S9.out.gr hg12).got hS_
  simp only [n1,n3,n4]
  have S14 : Hid (St w F [blk bb10 25 [((Gm.cap B C).a:Int), ((Gm.cap B C).b:Int), ((Gm.cap B C).c:Int), ((Gm.cap B C).d:Int), ((Gm.cap B C).e:Int), ((Gm.cap B C).f:Int)],blk g4 85 [.func (.func 86) #[] #[.pointer (some ⟨hb,0,none⟩)]],blk hb 28 [B.a, B.b, B.c, B.d, B.e, B.f, .slice A n c],own (.slice A n c) 3 1 n (ic l)] w13):=Lib.hid hT_
  clear S9
  clear hT_ hS_ hg12
  refine wpG_done (fun V15 hv16=>?_)
  have S17 : Hid (St w F [blk bb10 25 [((Gm.cap B C).a:Int), ((Gm.cap B C).b:Int), ((Gm.cap B C).c:Int), ((Gm.cap B C).d:Int), ((Gm.cap B C).e:Int), ((Gm.cap B C).f:Int)],blk g4 85 [.func (.func 86) #[] #[.pointer (some ⟨hb,0,none⟩)]],blk hb 28 [B.a, B.b, B.c, B.d, B.e, B.f, .slice A n c],own (.slice A n c) 3 1 n (ic l)] V15):=Lib.hid (S14.out.gr hv16)
  clear S14
  clear hv16
  refine ⟨rfl,hK _ _ ?_⟩
  clear hK
  have S18 : Hid (St w F [blk bb10 25 [((Gm.cap B C).a:Int), ((Gm.cap B C).b:Int), ((Gm.cap B C).c:Int), ((Gm.cap B C).d:Int), ((Gm.cap B C).e:Int), ((Gm.cap B C).f:Int)],blk g4 85 [.func (.func 86) #[] #[.pointer (some ⟨hb,0,none⟩)]],blk hb 28 [B.a, B.b, B.c, B.d, B.e, B.f, .slice A n c],own (.slice A n c) 3 1 n (ic (Gm.upd2 B (Gm.cap B C) (fun x y z=>Gm.get C m x y z) l 0))] V15):=Lib.hid (by rw [Gm.upd2_zero];exact S17.out)
  clear S17
  go_wp2_with fail
  have hB_ : w.heap.size ≤ V15.heap.size:=S18.out.size
  have hbb_ : bb10 < V15.heap.size:=blk_lt S18.out 0 rfl
  refine range_law (gf:=87) (lb:=#[.pointer (some ⟨bb10,0,none⟩)]) (T':=(fun k=>k = V15.heap.size ∨ k = V15.heap.size + 1 ∨ k = bb10)) rfl (enters_of Tryd.func87 (by kernel_rfl) rfl) (places1_seq bb10 (Gm.cap B C) V15 (S18.out.row 0 rfl) (Gm.cap_fits HOK.out HCR.out)) (fun W1_ hs_ k_ hk_=>⟨.inr (.inr hk_),by (have e_ : k_ = bb10:=hk_);omega,by (have e_ : k_ = bb10:=hk_);omega⟩) (.inl rfl) (.inr (.inl rfl)) (fun _=>rfl) (fun kk wr=>St w F [blk bb10 25 [((Gm.cap B C).a:Int), ((Gm.cap B C).b:Int), ((Gm.cap B C).c:Int), ((Gm.cap B C).d:Int), ((Gm.cap B C).e:Int), ((Gm.cap B C).f:Int)],blk g4 85 [.func (.func 86) #[] #[.pointer (some ⟨hb,0,none⟩)]],blk hb 28 [B.a, B.b, B.c, B.d, B.e, B.f, .slice A n c],own (.slice A n c) 3 1 n (ic (Gm.upd2 B (Gm.cap B C) (fun x y z=>Gm.get C m x y z) l kk))] wr) (fun _ _ _=>False) (fun kk a_ wr=>∃ (u4 : Nat),a_ = ⟨#[.func (.func 86) #[] #[.pointer (some ⟨hb,0,none⟩)], .pointer (some ⟨gb,0,none⟩), .pointer (some ⟨kb,0,none⟩), .pointer (some ⟨g4,0,none⟩), .pointer (some ⟨u4,0,none⟩), .pointer (some ⟨gb,0,none⟩), .agg #[B.a, B.b, B.c, B.d, B.e, B.f], .pointer (some ⟨kb,0,none⟩), .agg #[C.a, C.b, C.c, C.d, C.e, C.f], .agg #[((Gm.cap B C).a:Int), ((Gm.cap B C).b:Int), ((Gm.cap B C).c:Int), ((Gm.cap B C).d:Int), ((Gm.cap B C).e:Int), ((Gm.cap B C).f:Int)], .func (.func 87) #[] #[.pointer (some ⟨bb10,0,none⟩)], .agg #[((Gm.cap B C).ax kk:Int), ((Gm.cap B C).ay kk:Int), ((Gm.cap B C).az kk:Int)],undef,undef,undef,undef,undef,undef],[]⟩ ∧ St w F [blk u4 23 [((Gm.cap B C).ax kk:Int), ((Gm.cap B C).ay kk:Int), ((Gm.cap B C).az kk:Int)],blk bb10 25 [((Gm.cap B C).a:Int), ((Gm.cap B C).b:Int), ((Gm.cap B C).c:Int), ((Gm.cap B C).d:Int), ((Gm.cap B C).e:Int), ((Gm.cap B C).f:Int)],blk g4 85 [.func (.func 86) #[] #[.pointer (some ⟨hb,0,none⟩)]],blk hb 28 [B.a, B.b, B.c, B.d, B.e, B.f, .slice A n c],own (.slice A n c) 3 1 n (ic (Gm.upd2 B (Gm.cap B C) (fun x y z=>Gm.get C m x y z) l kk))] wr) (fun s_ X_ Y_ row_ h_ hg_ hr_=>(match h_ with | hs_=>hs_.turned (cels_cons (cel_blk _ _ _) (cels_cons (cel_blk _ _ _) (cels_cons (cel_blk _ _ _) (cels_cons (cel_own _ _ _ _ _) cels_nil)))) hB_ hg_ hr_)) (fun _ _ _ _ _ h_ _ _=>h_) (fun kk a_=>fun s_ X_ Y_ row_ h_ hg_ hr_=>(match h_ with | ⟨x0_,p0_,hs_⟩=>⟨x0_,p0_,hs_.turned (cels_cons (cel_blk _ _ _) (cels_cons (cel_blk _ _ _) (cels_cons (cel_blk _ _ _) (cels_cons (cel_blk _ _ _) (cels_cons (cel_own _ _ _ _ _) cels_nil))))) hB_ hg_ hr_⟩)) S18.out ?_ ?_ ?_ ?_
  · intro l_ kk W_ hk_ hi_ hR_
    have hS_:=hi_
    have hS0_:=hS_
    obtain ⟨f_,hA_,hsts_,hfp_,hback_⟩:=hS_.anew
    clear hS_
    have HW_ : Hid (Gr w00 W_):=Lib.hid (hS0_.belo HW00.out HF00.out)
    have HF_ : Hid (∀ k,f_ k → w00.heap.size ≤ k):=Lib.hid (fun k hk=>by rcases hfp_ k hk with h_ | h_;exact HF00.out k h_;exact Nat.le_trans (Gr.size HW00.out) h_)
    have hsz_ : w.heap.size ≤ W_.heap.size:=hS0_.size
    clear hS0_
    have HBB : Hid (W_.heap[bb10]? = some (.cells (List.toArray [((Gm.cap B C).a:Int), ((Gm.cap B C).b:Int), ((Gm.cap B C).c:Int), ((Gm.cap B C).d:Int), ((Gm.cap B C).e:Int), ((Gm.cap B C).f:Int)]) 25 (0,0))):=Lib.hid (hA_.heap 0 rfl)
    have SR:=Lib.hid hA_
    clear hA_
    have S19:=SR
    clear SR
    rw [zip1];simp only [n3,n4]
    refine wpGI_region_k rfl (fun K hK=>?_)
    refine wpG_val (some 4) rfl (by rfl) (fun W20 hg21=>⟨.pointer (some ⟨W20.heap.size,0,none⟩),W20.alloc (.cells #[(), (), ()] 23),by (first | (go_simp;done) | (go_simp <;> rfl)), ?_⟩)
    simp only [n1,n3,n4]
    obtain ⟨g22,U23,hg_,hu_,hS_⟩:=(S19.out.gr hg21).made [(), (), ()] 23
    rw [← hu_,← hg_]
    have S24 : Hid (St W_ f_ [blk g22 23 [(), (), ()],blk bb10 25 [((Gm.cap B C).a:Int), ((Gm.cap B C).b:Int), ((Gm.cap B C).c:Int), ((Gm.cap B C).d:Int), ((Gm.cap B C).e:Int), ((Gm.cap B C).f:Int)],blk g4 85 [.func (.func 86) #[] #[.pointer (some ⟨hb,0,none⟩)]],blk hb 28 [B.a, B.b, B.c, B.d, B.e, B.f, .slice A n c],own (.slice A n c) 3 1 n (ic (Gm.upd2 B (Gm.cap B C) (fun x y z=>Gm.get C m x y z) l kk))] U23):=Lib.hid hS_
    clear S19
    clear hg_ hu_ hS_ hg21
    refine wpG_store (none) rfl (by rfl) (fun W25 hg26=>⟨_,run_store_mid 23 (.tmp 4) (.tmp 11) rfl g22 0 #[((Gm.cap B C).ax kk:Int), ((Gm.cap B C).ay kk:Int), ((Gm.cap B C).az kk:Int)] rfl rfl ((S24.out.gr hg26).room 0 rfl 0 3 (by simp)) (by kernel_rfl) (by kernel_rfl), ?_⟩)
    simp only [n2]
    obtain ⟨U27,hu_,hS_⟩:=((S24.out.gr hg26).put 0 rfl 0 (#[((Gm.cap B C).ax kk:Int), ((Gm.cap B C).ay kk:Int), ((Gm.cap B C).az kk:Int)] : Array Value).toList (ds:=[((Gm.cap B C).ax kk:Int), ((Gm.cap B C).ay kk:Int), ((Gm.cap B C).az kk:Int)]) rfl).named
    rw [← hu_]
    have S28 : Hid (St W_ f_ [blk g22 23 [((Gm.cap B C).ax kk:Int), ((Gm.cap B C).ay kk:Int), ((Gm.cap B C).az kk:Int)],blk bb10 25 [((Gm.cap B C).a:Int), ((Gm.cap B C).b:Int), ((Gm.cap B C).c:Int), ((Gm.cap B C).d:Int), ((Gm.cap B C).e:Int), ((Gm.cap B C).f:Int)],blk g4 85 [.func (.func 86) #[] #[.pointer (some ⟨hb,0,none⟩)]],blk hb 28 [B.a, B.b, B.c, B.d, B.e, B.f, .slice A n c],own (.slice A n c) 3 1 n (ic (Gm.upd2 B (Gm.cap B C) (fun x y z=>Gm.get C m x y z) l kk))] U27):=Lib.hid hS_
    clear S24
    clear hu_ hS_ hg26
    refine wpG_done (fun V29 hv30=>?_)
    have S31 : Hid (St W_ f_ [blk g22 23 [((Gm.cap B C).ax kk:Int), ((Gm.cap B C).ay kk:Int), ((Gm.cap B C).az kk:Int)],blk bb10 25 [((Gm.cap B C).a:Int), ((Gm.cap B C).b:Int), ((Gm.cap B C).c:Int), ((Gm.cap B C).d:Int), ((Gm.cap B C).e:Int), ((Gm.cap B C).f:Int)],blk g4 85 [.func (.func 86) #[] #[.pointer (some ⟨hb,0,none⟩)]],blk hb 28 [B.a, B.b, B.c, B.d, B.e, B.f, .slice A n c],own (.slice A n c) 3 1 n (ic (Gm.upd2 B (Gm.cap B C) (fun x y z=>Gm.get C m x y z) l kk))] V29):=Lib.hid (S28.out.gr hv30)
    clear S28
    clear hv30
    refine ⟨rfl,hK _ _ ?_⟩
    clear hK
    (try simp only [Exit.then,Exit.inBlock])
    exact ⟨keep_st S31.out hsts_ (cels_cons (cel_blk _ _ _) (cels_cons (cel_blk _ _ _) (cels_cons (cel_blk _ _ _) (cels_cons (cel_own _ _ _ _ _) cels_nil)))) hR_ HBB.out 1 rfl,⟨g22,rfl,hback_ (((((S31.out.front 4 rfl).front 4 rfl).front 4 rfl).front 4 rfl).front 4 rfl)⟩⟩
  · intro l_ kk a_ W_ hk_ hax_ hR_
    obtain ⟨u4,rfl,hS_⟩:=hax_
    have hS0_:=hS_
    obtain ⟨f_,hA_,hsts_,hfp_,hback_⟩:=hS_.anew
    clear hS_
    have HW_ : Hid (Gr w00 W_):=Lib.hid (hS0_.belo HW00.out HF00.out)
    have HF_ : Hid (∀ k,f_ k → w00.heap.size ≤ k):=Lib.hid (fun k hk=>by rcases hfp_ k hk with h_ | h_;exact HF00.out k h_;exact Nat.le_trans (Gr.size HW00.out) h_)
    have hsz_ : w.heap.size ≤ W_.heap.size:=hS0_.size
    clear hS0_
    have HBB : Hid (W_.heap[bb10]? = some (.cells (List.toArray [((Gm.cap B C).a:Int), ((Gm.cap B C).b:Int), ((Gm.cap B C).c:Int), ((Gm.cap B C).d:Int), ((Gm.cap B C).e:Int), ((Gm.cap B C).f:Int)]) 25 (0,0))):=Lib.hid (hA_.heap 1 rfl)
    have SR:=Lib.hid hA_
    clear hA_
    have S32:=SR
    clear SR
    refine wpIn_block ?_
    refine wpJI_region_k (fun i=>i == 5) rfl (by kernel_rfl) (fun K hK=>?_)
    refine J.wpK_tk (i:=0) (some 12) (v:=.func (.func 86) #[] #[.pointer (some ⟨hb,0,none⟩)]) rfl rfl (by kernel_rfl) (fun _ _ _ h=>onN_panic h) (.val (by rfl) (fun W hg=>by have c:=(S32.out.gr (Gr.un hg)).cell 2 rfl 0 rfl;go_simp)) ?_
    simp only [n1,n3,n4]
    refine J.wpK_tk (i:=1) (some 13) (v:=.agg #[((Gm.cap B C).ax kk:Int), ((Gm.cap B C).ay kk:Int), ((Gm.cap B C).az kk:Int)]) rfl rfl (by kernel_rfl) (fun _ _ _ h=>onN_panic h) (.load_mid (by rfl) 23 (.tmp 4) rfl u4 0 rfl [((Gm.cap B C).ax kk:Int), ((Gm.cap B C).ay kk:Int), ((Gm.cap B C).az kk:Int)] _ (fun W hg=>(S32.out.gr (Gr.un hg)).range 0 rfl 0 3 rfl) Tryd.underlying23 rfl (by kernel_rfl)) ?_
    simp only [n1,n3,n4]
    refine J.wpK_tk (i:=2) (some 14) (v:=.agg #[C.a, C.b, C.c, C.d, C.e, C.f, .slice E ne ce]) rfl rfl (by kernel_rfl) (fun _ _ _ h=>onN_panic h) (.load_mid (by rfl) 28 (.tmp 2) rfl kb 0 rfl [C.a, C.b, C.c, C.d, C.e, C.f, .slice E ne ce] _ (fun W hg=>(HP2.out.below ((S32.out.gr (Gr.un hg)).belo HW_.out HF_.out)).range) Tryd.underlying28 rfl (by kernel_rfl)) ?_
    simp only [n1,n3,n4]
    refine J.wpK_tk (i:=3) (some 15) (v:=.agg #[((Gm.cap B C).ax kk:Int), ((Gm.cap B C).ay kk:Int), ((Gm.cap B C).az kk:Int)]) rfl rfl (by kernel_rfl) (fun _ _ _ h=>onN_panic h) (.load_mid (by rfl) 23 (.tmp 4) rfl u4 0 rfl [((Gm.cap B C).ax kk:Int), ((Gm.cap B C).ay kk:Int), ((Gm.cap B C).az kk:Int)] _ (fun W hg=>(S32.out.gr (Gr.un hg)).range 0 rfl 0 3 rfl) Tryd.underlying23 rfl (by kernel_rfl)) ?_
    simp only [n1,n3,n4]
    refine J.wpK_tk (i:=4) (some 16) (v:=(Gm.get C m ((Gm.cap B C).ax kk) ((Gm.cap B C).ay kk) ((Gm.cap B C).az kk))) rfl rfl (by kernel_rfl) (fun _ _ _ h=>onN_panic h) (.call (f:=21) (args:=#[.agg #[C.a, C.b, C.c, C.d, C.e, C.f, .slice E ne ce], .agg #[((Gm.cap B C).ax kk:Int), ((Gm.cap B C).ay kk:Int), ((Gm.cap B C).az kk:Int)]]) (by rfl) (fun W=>by go_simp) (fun W hg=>get_any C _ _ _ m ((Gm.cap B C).ax kk) ((Gm.cap B C).ay kk) ((Gm.cap B C).az kk) W (HGB.out.gr ((S32.out.gr (Gr.un hg)).belo HW_.out HF_.out)) HOK2.out (Gm.at_rp (Gm.cap_rg HOK.out.rg HCR.out) (Int.natCast_nonneg _) (by omega)))) ?_
    simp only [n1,n3,n4]
    refine J.wpK_call (i:=5) (some 17) 86 #[.agg #[((Gm.cap B C).ax kk:Int), ((Gm.cap B C).ay kk:Int), ((Gm.cap B C).az kk:Int)], (Gm.get C m ((Gm.cap B C).ax kk) ((Gm.cap B C).ay kk) ((Gm.cap B C).az kk)), .pointer (some ⟨hb,0,none⟩)] rfl rfl (by kernel_rfl) (by rfl) rfl (fun W=>by go_simp) (fun W34 hg35=>?_)
    obtain ⟨fp_,hA_,hfp_,back_⟩:=St.lend (L:=[blk hb 28 [B.a, B.b, B.c, B.d, B.e, B.f, .slice A n c],own (.slice A n c) 3 1 n (ic (Gm.upd2 B (Gm.cap B C) (fun x y z=>Gm.get C m x y z) l kk))]) (M:=[blk u4 23 [((Gm.cap B C).ax kk:Int), ((Gm.cap B C).ay kk:Int), ((Gm.cap B C).az kk:Int)],blk bb10 25 [((Gm.cap B C).a:Int), ((Gm.cap B C).b:Int), ((Gm.cap B C).c:Int), ((Gm.cap B C).d:Int), ((Gm.cap B C).e:Int), ((Gm.cap B C).f:Int)],blk g4 85 [.func (.func 86) #[] #[.pointer (some ⟨hb,0,none⟩)]]]) (((S32.out.gr (Gr.un hg35)).front 4 rfl).front 4 rfl)
    refine (changed1_any B _ _ _ hb (Gm.upd2 B (Gm.cap B C) (fun x y z=>Gm.get C m x y z) l kk) ((Gm.cap B C).ax kk) ((Gm.cap B C).ay kk) ((Gm.cap B C).az kk) (Gm.get C m ((Gm.cap B C).ax kk) ((Gm.cap B C).ay kk) ((Gm.cap B C).az kk)) _ W34 hA_ (Gm.upd2_ok HOK.out) (Gm.at_rp (Gm.cap_rg HOK.out.rg HCR.out) (Int.natCast_nonneg _) (by omega))).mono ?_
    rintro e w36 ⟨v33,rfl,hS_⟩
    refine ⟨_,rfl, ?_⟩
    have hT_:=back_ hS_
    simp only [n1,n3,n4]
    have S37 : Hid (St W_ f_ [blk hb 28 [B.a, B.b, B.c, B.d, B.e, B.f, .slice A n c],own (.slice A n c) 3 1 n (ic (Gm.wr1 B (Gm.upd2 B (Gm.cap B C) (fun x y z=>Gm.get C m x y z) l kk) ⟨((Gm.cap B C).ax kk),((Gm.cap B C).ay kk),((Gm.cap B C).az kk),0,(Gm.get C m ((Gm.cap B C).ax kk) ((Gm.cap B C).ay kk) ((Gm.cap B C).az kk))⟩)),blk u4 23 [((Gm.cap B C).ax kk:Int), ((Gm.cap B C).ay kk:Int), ((Gm.cap B C).az kk:Int)],blk bb10 25 [((Gm.cap B C).a:Int), ((Gm.cap B C).b:Int), ((Gm.cap B C).c:Int), ((Gm.cap B C).d:Int), ((Gm.cap B C).e:Int), ((Gm.cap B C).f:Int)],blk g4 85 [.func (.func 86) #[] #[.pointer (some ⟨hb,0,none⟩)]]] w36):=Lib.hid hT_
    clear S32
    clear hT_ hS_ hg35 hA_ hfp_ back_
    refine J.wpK_done (by kernel_rfl) (fun V38 hv39=>?_) _
    have S40 : Hid (St W_ f_ [blk hb 28 [B.a, B.b, B.c, B.d, B.e, B.f, .slice A n c],own (.slice A n c) 3 1 n (ic (Gm.wr1 B (Gm.upd2 B (Gm.cap B C) (fun x y z=>Gm.get C m x y z) l kk) ⟨((Gm.cap B C).ax kk),((Gm.cap B C).ay kk),((Gm.cap B C).az kk),0,(Gm.get C m ((Gm.cap B C).ax kk) ((Gm.cap B C).ay kk) ((Gm.cap B C).az kk))⟩)),blk u4 23 [((Gm.cap B C).ax kk:Int), ((Gm.cap B C).ay kk:Int), ((Gm.cap B C).az kk:Int)],blk bb10 25 [((Gm.cap B C).a:Int), ((Gm.cap B C).b:Int), ((Gm.cap B C).c:Int), ((Gm.cap B C).d:Int), ((Gm.cap B C).e:Int), ((Gm.cap B C).f:Int)],blk g4 85 [.func (.func 86) #[] #[.pointer (some ⟨hb,0,none⟩)]]] V38):=Lib.hid (S37.out.gr hv39)
    clear S37
    clear hv39
    refine ⟨rfl,hK _ _ ?_⟩
    clear hK
    (try simp only [Exit.then,Exit.inBlock])
    refine ⟨keep_st S40.out hsts_ (cels_cons (cel_blk _ _ _) (cels_cons (cel_blk _ _ _) (cels_cons (cel_blk _ _ _) (cels_cons (cel_blk _ _ _) (cels_cons (cel_own _ _ _ _ _) cels_nil))))) hR_ HBB.out 3 rfl, ?_⟩
    show St w F [blk bb10 25 [((Gm.cap B C).a:Int), ((Gm.cap B C).b:Int), ((Gm.cap B C).c:Int), ((Gm.cap B C).d:Int), ((Gm.cap B C).e:Int), ((Gm.cap B C).f:Int)],blk g4 85 [.func (.func 86) #[] #[.pointer (some ⟨hb,0,none⟩)]],blk hb 28 [B.a, B.b, B.c, B.d, B.e, B.f, .slice A n c],own (.slice A n c) 3 1 n (ic (Gm.upd2 B (Gm.cap B C) (fun x y z=>Gm.get C m x y z) l (kk + 1)))] _
    exact (by rw [← Gm.upd2_wr (V:=(fun x y z=>Gm.get C m x y z)) HOK.out Gm.cap_sub hk_ rfl];exact hback_ (((((S40.out.front 1 rfl).front 1 rfl).front 4 rfl).front 4 rfl).sub (.cons_cons _ (.cons_cons _ (.cons_cons _ (.cons_cons _ (.cons _ .slnil)))))))
  · intro D_ W_ hD_ hi_ hdd_
    have hS_:=hi_
    have hDw_ : w.heap.size ≤ D_:=Nat.le_trans hB_ hD_
    have hS2_:=hS_.defer (cels_cons (cel_blk _ _ _) (cels_cons (cel_blk _ _ _) (cels_cons (cel_blk _ _ _) (cels_cons (cel_own _ _ _ _ _) cels_nil)))) hDw_ hdd_
    clear hS_ hdd_ hD_ hB_ hbb_
    have S41 : Hid (St w F [dfr D_,blk bb10 25 [((Gm.cap B C).a:Int), ((Gm.cap B C).b:Int), ((Gm.cap B C).c:Int), ((Gm.cap B C).d:Int), ((Gm.cap B C).e:Int), ((Gm.cap B C).f:Int)],blk g4 85 [.func (.func 86) #[] #[.pointer (some ⟨hb,0,none⟩)]],blk hb 28 [B.a, B.b, B.c, B.d, B.e, B.f, .slice A n c],own (.slice A n c) 3 1 n (ic (Gm.upd2 B (Gm.cap B C) (fun x y z=>Gm.get C m x y z) l ((Gm.cap B C).vol.toNat)))] W_):=Lib.hid hS2_
    clear S18
    clear hS2_
    go_wp2_with fail
    obtain ⟨hD2_,hS3_⟩:=S41.out.dfrs (cels_cons (cel_blk _ _ _) (cels_cons (cel_blk _ _ _) (cels_cons (cel_blk _ _ _) (cels_cons (cel_own _ _ _ _ _) cels_nil)))) hDw_
    obtain ⟨WZ,hWZ_⟩ : ∃ WZ,WZ = W_.putObj D_ (.deferred none):=⟨_,rfl⟩
    rw [← hWZ_] at hS3_
    refine postM_one (.inl rfl) hD2_ hWZ_ (results_none rfl _ _ _) ?_
    clear hD2_ hWZ_
    have S42 : Hid (St w F [blk bb10 25 [((Gm.cap B C).a:Int), ((Gm.cap B C).b:Int), ((Gm.cap B C).c:Int), ((Gm.cap B C).d:Int), ((Gm.cap B C).e:Int), ((Gm.cap B C).f:Int)],blk g4 85 [.func (.func 86) #[] #[.pointer (some ⟨hb,0,none⟩)]],blk hb 28 [B.a, B.b, B.c, B.d, B.e, B.f, .slice A n c],own (.slice A n c) 3 1 n (ic (Gm.upd2 B (Gm.cap B C) (fun x y z=>Gm.get C m x y z) l ((Gm.cap B C).vol.toNat)))] WZ):=Lib.hid hS3_
    clear S41
    clear hS3_
    (first | refine ⟨_,rfl, ?_⟩ | refine ⟨⟨_,rfl⟩, ?_⟩ | skip)
    rw [← Gm.paste_upd2 (C:=C) (m:=m) HOK.out];exact (((S42.out.front 3 rfl).front 3 rfl).sub (.cons_cons _ (.cons_cons _ (.cons _ (.cons _ .slnil)))))
  · intro D_ c_ kk W_ hD_ hk_ hx_ hdd_
    exact hx_.elim
set_option maxRecDepth 1000000 in
set_option maxHeartbeats 4000000 in
theorem changed_paste (B : Gm.Bx) (A : Option Addr) (n c : Nat) (l : List Int) (gb kb : Nat) (A0 : Option Addr) (n0 c0 : Nat) (C : Gm.Bx) (E : Option Addr) (ne ce : Nat) (m : List Int) (w : World) (hG : SL w 1 A n c (ic l)) (hok : Gm.ok B l) (r1 : Row gb [B.a, B.b, B.c, B.d, B.e, B.f, .slice A0 n0 c0] w) (r2 : Row kb [C.a, C.b, C.c, C.d, C.e, C.f, .slice E ne ce] w) (hG2 : SL w 1 E ne ce (ic m)) (hok2 : Gm.ok C m) :
    Calls Tryd.prog 57 #[.agg #[B.a, B.b, B.c, B.d, B.e, B.f, .slice A n c], .func (.func 59) #[] #[.pointer (some ⟨gb,0,none⟩), .pointer (some ⟨kb,0,none⟩)]] w fun e w'=>∃ A n c,e = .returned (.agg #[B.a, B.b, B.c, B.d, B.e, B.f, .slice A n c]) ∧ St w noB [own (.slice A n c) 3 1 n (ic (Gm.paste B l C m))] w':=by
  have HGA:=Lib.hid hG
  have HLEN : Hid (l.length = n):=Lib.hid (by have h_:=hG.len;rw [ic_len] at h_;omega)
  have hnbHGA : n ≤ 9223372036854775807:=Nat.le_trans hG.cap hG.bnd
  clear hG
  have HOK:=Lib.hid hok
  clear hok
  have S1 : Hid (St w noB [] w):=Lib.hid (St.start w)
  go_enter Tryd.func57,Tryd.ntmps57
  go_upto_region 0 with fail
  refine wpG_region_k (fun K hK=>?_)
  refine wpG_val (some 2) rfl (by rfl) (fun W2 hg3=>⟨.pointer (some ⟨W2.heap.size,0,none⟩),W2.alloc (.cells #[B.a, B.b, B.c, B.d, B.e, B.f, .slice A n c] 28),by (first | (go_simp;done) | (go_simp <;> rfl)), ?_⟩)
  simp only [n1,n3,n4]
  obtain ⟨g4,U5,hg_,hu_,hS_⟩:=(S1.out.gr hg3).made [B.a, B.b, B.c, B.d, B.e, B.f, .slice A n c] 28
  rw [← hu_,← hg_]
  have S6 : Hid (St w noB [blk g4 28 [B.a, B.b, B.c, B.d, B.e, B.f, .slice A n c]] U5):=Lib.hid hS_
  clear S1
  clear hg_ hu_ hS_ hg3
  refine wpG_val (some 4) rfl (by rfl) (fun W7 hg8=>⟨.pointer (some ⟨W7.heap.size,0,none⟩),W7.alloc (.cells #[(), (), (), (), (), (), .slice none 0 0] 28),by (first | (go_simp;done) | (go_simp <;> rfl)), ?_⟩)
  simp only [n1,n3,n4]
  obtain ⟨g9,U10,hg_,hu_,hS_⟩:=(S6.out.gr hg8).made [(), (), (), (), (), (), .slice none 0 0] 28
  rw [← hu_,← hg_]
  have S11 : Hid (St w noB [blk g9 28 [(), (), (), (), (), (), .slice none 0 0],blk g4 28 [B.a, B.b, B.c, B.d, B.e, B.f, .slice A n c]] U10):=Lib.hid hS_
  clear S6
  clear hg_ hu_ hS_ hg8
  refine wpG_done (fun V12 hv13=>?_)
  have S14 : Hid (St w noB [blk g9 28 [(), (), (), (), (), (), .slice none 0 0],blk g4 28 [B.a, B.b, B.c, B.d, B.e, B.f, .slice A n c]] V12):=Lib.hid (S11.out.gr hv13)
  clear S11
  clear hv13
  refine ⟨rfl,hK _ _ ?_⟩
  clear hK
  go_upto_region 1 with fail
  refine wpG_region_k (fun K hK=>?_)
  refine @wpG_tk _ _ _ _ _ (some 6) (.agg #[B.a, B.b, B.c, B.d, B.e, B.f, .slice A n c]) _ _ rfl (.load_mid (by rfl) 28 (.tmp 2) rfl g4 0 rfl [B.a, B.b, B.c, B.d, B.e, B.f, .slice A n c] _ (fun W hg=>(S14.out.gr hg).range 1 rfl 0 7 rfl) Tryd.underlying28 rfl (by kernel_rfl)) ?_
  simp only [n1,n3,n4]
  refine wpG_call (some 7) 72 #[.agg #[B.a, B.b, B.c, B.d, B.e, B.f, .slice A n c]] rfl (by rfl) (fun W=>by go_simp) (fun W18 hg19=>?_)
  refine (gclone_any B _ _ _ l W18 (HGA.out.gr (S14.out.gr hg19).bel) (by (have a1:=HOK.out.vol;have a2:=HOK.out.max;have a3:=HLEN.out;omega))).mono ?_
  rintro e w20 ⟨A15,n16,c17,rfl,hS_⟩
  refine ⟨_,rfl, ?_⟩
  have hT_:=(S14.out.gr hg19).got hS_
  simp only [n1,n3,n4]
  have S21 : Hid (St w noB [own (.slice A15 n16 c17) 3 1 n16 (ic l),blk g9 28 [(), (), (), (), (), (), .slice none 0 0],blk g4 28 [B.a, B.b, B.c, B.d, B.e, B.f, .slice A n c]] w20):=Lib.hid hT_
  clear S14
  clear hT_ hS_ hg19
  have hnn16 : n16 ≤ l.length ∧ l.length ≤ n16:=by have h_:=own_icl (S21.out.ownr 0 rfl);omega
  refine wpG_val (some 5) rfl (by rfl) (fun W22 hg23=>⟨.pointer (some ⟨W22.heap.size,0,none⟩),W22.alloc (.cells #[(), (), (), (), (), (), .slice none 0 0] 28),by (first | (go_simp;done) | (go_simp <;> rfl)), ?_⟩)
  simp only [n1,n3,n4]
  obtain ⟨g24,U25,hg_,hu_,hS_⟩:=(S21.out.gr hg23).made [(), (), (), (), (), (), .slice none 0 0] 28
  rw [← hu_,← hg_]
  have S26 : Hid (St w noB [blk g24 28 [(), (), (), (), (), (), .slice none 0 0],own (.slice A15 n16 c17) 3 1 n16 (ic l),blk g9 28 [(), (), (), (), (), (), .slice none 0 0],blk g4 28 [B.a, B.b, B.c, B.d, B.e, B.f, .slice A n c]] U25):=Lib.hid hS_
  clear S21
  clear hg_ hu_ hS_ hg23
  refine wpG_store (none) rfl (by rfl) (fun W27 hg28=>⟨_,run_store_mid 28 (.tmp 5) (.tmp 7) rfl g24 0 #[B.a, B.b, B.c, B.d, B.e, B.f, .slice A15 n16 c17] rfl rfl ((S26.out.gr hg28).room 0 rfl 0 7 (by simp)) (by kernel_rfl) (by kernel_rfl), ?_⟩)
  simp only [n2]
  obtain ⟨U29,hu_,hS_⟩:=((S26.out.gr hg28).put 0 rfl 0 (#[B.a, B.b, B.c, B.d, B.e, B.f, .slice A15 n16 c17] : Array Value).toList (ds:=[B.a, B.b, B.c, B.d, B.e, B.f, .slice A15 n16 c17]) rfl).named
  rw [← hu_]
  have S30 : Hid (St w noB [blk g24 28 [B.a, B.b, B.c, B.d, B.e, B.f, .slice A15 n16 c17],own (.slice A15 n16 c17) 3 1 n16 (ic l),blk g9 28 [(), (), (), (), (), (), .slice none 0 0],blk g4 28 [B.a, B.b, B.c, B.d, B.e, B.f, .slice A n c]] U29):=Lib.hid hS_
  clear S26
  clear hu_ hS_ hg28
  refine wpG_done (fun V31 hv32=>?_)
  have S33 : Hid (St w noB [blk g24 28 [B.a, B.b, B.c, B.d, B.e, B.f, .slice A15 n16 c17],own (.slice A15 n16 c17) 3 1 n16 (ic l),blk g9 28 [(), (), (), (), (), (), .slice none 0 0],blk g4 28 [B.a, B.b, B.c, B.d, B.e, B.f, .slice A n c]] V31):=Lib.hid (S30.out.gr hv32)
  clear S30
  clear hv32
  refine ⟨rfl,hK _ _ ?_⟩
  clear hK
  go_upto_region 2 with fail
  refine wpG_region_k (fun K hK=>?_)
  refine @wpG_p _ _ _ _ _ (some 8) (.func (.func 59) #[] #[.pointer (some ⟨gb,0,none⟩), .pointer (some ⟨kb,0,none⟩)]) _ _ rfl (by rfl) (fun _=>rfl) ?_
  simp only [n1,n3,n4]
  refine @wpG_p _ _ _ _ _ (some 9) (.func (.func 86) #[] #[.pointer (some ⟨g24,0,none⟩)]) _ _ rfl (by rfl) (fun W=>by go_simp) ?_
  simp only [n1,n3,n4]
  refine wpG_call (some 10) 59 #[.func (.func 86) #[] #[.pointer (some ⟨g24,0,none⟩)], .pointer (some ⟨gb,0,none⟩), .pointer (some ⟨kb,0,none⟩)] rfl (by rfl) (fun W=>by go_simp) (fun W35 hg36=>?_)
  obtain ⟨fp_,hA_,hfp_,back_⟩:=St.lend (L:=[blk g24 28 [B.a, B.b, B.c, B.d, B.e, B.f, .slice A15 n16 c17],own (.slice A15 n16 c17) 3 1 n16 (ic l)]) (M:=[blk g9 28 [(), (), (), (), (), (), .slice none 0 0],blk g4 28 [B.a, B.b, B.c, B.d, B.e, B.f, .slice A n c]]) (((S33.out.gr hg36).front 1 rfl).front 1 rfl)
  refine (paste1_any B _ _ _ g24 gb kb l A0 n0 c0 C E ne ce m _ w W35 (S33.out.gr hg36).bel (fun k hk=>(hfp_ k hk).resolve_left (fun h=>h)) r1 r2 hG2 hA_ HOK.out hok2).mono ?_
  rintro e w37 ⟨v34,rfl,hS_⟩
  refine ⟨_,rfl, ?_⟩
  have hT_:=back_ hS_
  simp only [n1,n3,n4]
  have S38 : Hid (St w noB [blk g24 28 [B.a, B.b, B.c, B.d, B.e, B.f, .slice A15 n16 c17],own (.slice A15 n16 c17) 3 1 n16 (ic (Gm.paste B l C m)),blk g9 28 [(), (), (), (), (), (), .slice none 0 0],blk g4 28 [B.a, B.b, B.c, B.d, B.e, B.f, .slice A n c]] w37):=Lib.hid hT_
  clear S33
  clear hT_ hS_ hg36 hA_ hfp_ back_
  refine wpG_done (fun V39 hv40=>?_)
  have S41 : Hid (St w noB [blk g24 28 [B.a, B.b, B.c, B.d, B.e, B.f, .slice A15 n16 c17],own (.slice A15 n16 c17) 3 1 n16 (ic (Gm.paste B l C m)),blk g9 28 [(), (), (), (), (), (), .slice none 0 0],blk g4 28 [B.a, B.b, B.c, B.d, B.e, B.f, .slice A n c]] V39):=Lib.hid (S38.out.gr hv40)
  clear S38
  clear hv40
  refine ⟨rfl,hK _ _ ?_⟩
  clear hK
  go_upto_region 3 with fail
  refine wpG_region_k (fun K hK=>?_)
  refine @wpG_tk _ _ _ _ _ (some 11) (.agg #[B.a, B.b, B.c, B.d, B.e, B.f, .slice A15 n16 c17]) _ _ rfl (.load_mid (by rfl) 28 (.tmp 5) rfl g24 0 rfl [B.a, B.b, B.c, B.d, B.e, B.f, .slice A15 n16 c17] _ (fun W hg=>(S41.out.gr hg).range 0 rfl 0 7 rfl) Tryd.underlying28 rfl (by kernel_rfl)) ?_
  simp only [n1,n3,n4]
  refine wpG_store (none) rfl (by rfl) (fun W42 hg43=>⟨_,run_store_mid 28 (.tmp 4) (.tmp 11) rfl g9 0 #[B.a, B.b, B.c, B.d, B.e, B.f, .slice A15 n16 c17] rfl rfl ((S41.out.gr hg43).room 2 rfl 0 7 (by simp)) (by kernel_rfl) (by kernel_rfl), ?_⟩)
  simp only [n2]
  obtain ⟨U44,hu_,hS_⟩:=((S41.out.gr hg43).put 2 rfl 0 (#[B.a, B.b, B.c, B.d, B.e, B.f, .slice A15 n16 c17] : Array Value).toList (ds:=[B.a, B.b, B.c, B.d, B.e, B.f, .slice A15 n16 c17]) rfl).named
  rw [← hu_]
  have S45 : Hid (St w noB [blk g24 28 [B.a, B.b, B.c, B.d, B.e, B.f, .slice A15 n16 c17],own (.slice A15 n16 c17) 3 1 n16 (ic (Gm.paste B l C m)),blk g9 28 [B.a, B.b, B.c, B.d, B.e, B.f, .slice A15 n16 c17],blk g4 28 [B.a, B.b, B.c, B.d, B.e, B.f, .slice A n c]] U44):=Lib.hid hS_
  clear S41
  clear hu_ hS_ hg43
  refine wpG_done (fun V46 hv47=>?_)
  have S48 : Hid (St w noB [blk g24 28 [B.a, B.b, B.c, B.d, B.e, B.f, .slice A15 n16 c17],own (.slice A15 n16 c17) 3 1 n16 (ic (Gm.paste B l C m)),blk g9 28 [B.a, B.b, B.c, B.d, B.e, B.f, .slice A15 n16 c17],blk g4 28 [B.a, B.b, B.c, B.d, B.e, B.f, .slice A n c]] V46):=Lib.hid (S45.out.gr hv47)
  clear S45
  clear hv47
  refine ⟨rfl,hK _ _ ?_⟩
  clear hK
  go_wp2_with fail
  (try simp only [Exit.inBlock,Exit.then])
  refine bodyPost_ret (results_cell_mid rfl _ _ _ g9 0 [B.a, B.b, B.c, B.d, B.e, B.f, .slice A15 n16 c17] _ rfl (S48.out.range 2 rfl 0 7 rfl) Tryd.underlying28 rfl (by kernel_rfl)) rfl ?_
  exact ⟨A15,n16,c17,rfl,S48.out.sub (.cons _ (.cons_cons _ (.cons _ (.cons _ .slnil))))⟩
set_option maxRecDepth 1000000 in
set_option maxHeartbeats 4000000 in
theorem paste_any (B : Gm.Bx) (A : Option Addr) (n c : Nat) (l : List Int) (C : Gm.Bx) (E : Option Addr) (ne ce : Nat) (m : List Int) (w : World) (hG : SL w 1 A n c (ic l)) (hG2 : SL w 1 E ne ce (ic m)) (hok : Gm.ok B l) (hok2 : Gm.ok C m) :
    Calls Tryd.prog 24 #[.agg #[B.a, B.b, B.c, B.d, B.e, B.f, .slice A n c], .agg #[C.a, C.b, C.c, C.d, C.e, C.f, .slice E ne ce]] w fun e w'=>∃ A n c,e = .returned (.agg #[B.a, B.b, B.c, B.d, B.e, B.f, .slice A n c]) ∧ St w noB [own (.slice A n c) 3 1 n (ic (Gm.paste B l C m))] w':=by
  have HGA:=Lib.hid hG
  have HLEN : Hid (l.length = n):=Lib.hid (by have h_:=hG.len;rw [ic_len] at h_;omega)
  have hnbHGA : n ≤ 9223372036854775807:=Nat.le_trans hG.cap hG.bnd
  clear hG
  have HOK:=Lib.hid hok
  clear hok
  have HGB:=Lib.hid hG2
  have HLEN2 : Hid (m.length = ne):=Lib.hid (by have h_:=hG2.len;rw [ic_len] at h_;omega)
  have hnbHGB : ne ≤ 9223372036854775807:=Nat.le_trans hG2.cap hG2.bnd
  clear hG2
  have HOK2:=Lib.hid hok2
  clear hok2
  have S1 : Hid (St w noB [] w):=Lib.hid (St.start w)
  go_enter Tryd.func24,Tryd.ntmps24
  go_upto_region 0 with fail
  refine wpG_region_k (fun K hK=>?_)
  refine wpG_val (some 2) rfl (by rfl) (fun W2 hg3=>⟨.pointer (some ⟨W2.heap.size,0,none⟩),W2.alloc (.cells #[B.a, B.b, B.c, B.d, B.e, B.f, .slice A n c] 28),by (first | (go_simp;done) | (go_simp <;> rfl)), ?_⟩)
  simp only [n1,n3,n4]
  obtain ⟨g4,U5,hg_,hu_,hS_⟩:=(S1.out.gr hg3).made [B.a, B.b, B.c, B.d, B.e, B.f, .slice A n c] 28
  rw [← hu_,← hg_]
  have S6 : Hid (St w noB [blk g4 28 [B.a, B.b, B.c, B.d, B.e, B.f, .slice A n c]] U5):=Lib.hid hS_
  clear S1
  clear hg_ hu_ hS_ hg3
  refine wpG_val (some 3) rfl (by rfl) (fun W7 hg8=>⟨.pointer (some ⟨W7.heap.size,0,none⟩),W7.alloc (.cells #[C.a, C.b, C.c, C.d, C.e, C.f, .slice E ne ce] 28),by (first | (go_simp;done) | (go_simp <;> rfl)), ?_⟩)
  simp only [n1,n3,n4]
  obtain ⟨g9,U10,hg_,hu_,hS_⟩:=(S6.out.gr hg8).made [C.a, C.b, C.c, C.d, C.e, C.f, .slice E ne ce] 28
  rw [← hu_,← hg_]
  have S11 : Hid (St w noB [blk g9 28 [C.a, C.b, C.c, C.d, C.e, C.f, .slice E ne ce],blk g4 28 [B.a, B.b, B.c, B.d, B.e, B.f, .slice A n c]] U10):=Lib.hid hS_
  clear S6
  clear hg_ hu_ hS_ hg8
  refine wpG_val (some 4) rfl (by rfl) (fun W12 hg13=>⟨.pointer (some ⟨W12.heap.size,0,none⟩),W12.alloc (.cells #[(), (), (), (), (), (), .slice none 0 0] 28),by (first | (go_simp;done) | (go_simp <;> rfl)), ?_⟩)
  simp only [n1,n3,n4]
  obtain ⟨g14,U15,hg_,hu_,hS_⟩:=(S11.out.gr hg13).made [(), (), (), (), (), (), .slice none 0 0] 28
  rw [← hu_,← hg_]
  have S16 : Hid (St w noB [blk g14 28 [(), (), (), (), (), (), .slice none 0 0],blk g9 28 [C.a, C.b, C.c, C.d, C.e, C.f, .slice E ne ce],blk g4 28 [B.a, B.b, B.c, B.d, B.e, B.f, .slice A n c]] U15):=Lib.hid hS_
  clear S11
  clear hg_ hu_ hS_ hg13
  refine wpG_done (fun V17 hv18=>?_)
  have S19 : Hid (St w noB [blk g14 28 [(), (), (), (), (), (), .slice none 0 0],blk g9 28 [C.a, C.b, C.c, C.d, C.e, C.f, .slice E ne ce],blk g4 28 [B.a, B.b, B.c, B.d, B.e, B.f, .slice A n c]] V17):=Lib.hid (S16.out.gr hv18)
  clear S16
  clear hv18
  refine ⟨rfl,hK _ _ ?_⟩
  clear hK
  go_upto_region 1 with fail
  refine wpG_region_k (fun K hK=>?_)
  refine @wpG_tk _ _ _ _ _ (some 5) (.agg #[B.a, B.b, B.c, B.d, B.e, B.f, .slice A n c]) _ _ rfl (.load_mid (by rfl) 28 (.tmp 2) rfl g4 0 rfl [B.a, B.b, B.c, B.d, B.e, B.f, .slice A n c] _ (fun W hg=>(S19.out.gr hg).range 2 rfl 0 7 rfl) Tryd.underlying28 rfl (by kernel_rfl)) ?_
  simp only [n1,n3,n4]
  refine @wpG_p _ _ _ _ _ (some 6) (.func (.func 59) #[] #[.pointer (some ⟨g4,0,none⟩), .pointer (some ⟨g9,0,none⟩)]) _ _ rfl (by rfl) (fun W=>by go_simp) ?_
  simp only [n1,n3,n4]
  refine wpG_call (some 7) 57 #[.agg #[B.a, B.b, B.c, B.d, B.e, B.f, .slice A n c], .func (.func 59) #[] #[.pointer (some ⟨g4,0,none⟩), .pointer (some ⟨g9,0,none⟩)]] rfl (by rfl) (fun W=>by go_simp) (fun W23 hg24=>?_)
  refine (changed_paste B _ _ _ l g4 g9 _ _ _ C _ _ _ m W23 (HGA.out.gr (S19.out.gr hg24).bel) HOK.out ((S19.out.gr hg24).row 2 rfl) ((S19.out.gr hg24).row 1 rfl) (HGB.out.gr (S19.out.gr hg24).bel) HOK2.out).mono ?_
  rintro e w25 ⟨A20,n21,c22,rfl,hS_⟩
  refine ⟨_,rfl, ?_⟩
  have hT_:=(S19.out.gr hg24).got hS_
  simp only [n1,n3,n4]
  have S26 : Hid (St w noB [own (.slice A20 n21 c22) 3 1 n21 (ic (Gm.paste B l C m)),blk g14 28 [(), (), (), (), (), (), .slice none 0 0],blk g9 28 [C.a, C.b, C.c, C.d, C.e, C.f, .slice E ne ce],blk g4 28 [B.a, B.b, B.c, B.d, B.e, B.f, .slice A n c]] w25):=Lib.hid hT_
  clear S19
  clear hT_ hS_ hg24
  refine wpG_store (none) rfl (by rfl) (fun W27 hg28=>⟨_,run_store_mid 28 (.tmp 4) (.tmp 7) rfl g14 0 #[B.a, B.b, B.c, B.d, B.e, B.f, .slice A20 n21 c22] rfl rfl ((S26.out.gr hg28).room 1 rfl 0 7 (by simp)) (by kernel_rfl) (by kernel_rfl), ?_⟩)
  simp only [n2]
  obtain ⟨U29,hu_,hS_⟩:=((S26.out.gr hg28).put 1 rfl 0 (#[B.a, B.b, B.c, B.d, B.e, B.f, .slice A20 n21 c22] : Array Value).toList (ds:=[B.a, B.b, B.c, B.d, B.e, B.f, .slice A20 n21 c22]) rfl).named
  rw [← hu_]
  have S30 : Hid (St w noB [own (.slice A20 n21 c22) 3 1 n21 (ic (Gm.paste B l C m)),blk g14 28 [B.a, B.b, B.c, B.d, B.e, B.f, .slice A20 n21 c22],blk g9 28 [C.a, C.b, C.c, C.d, C.e, C.f, .slice E ne ce],blk g4 28 [B.a, B.b, B.c, B.d, B.e, B.f, .slice A n c]] U29):=Lib.hid hS_
  clear S26
  clear hu_ hS_ hg28
  refine wpG_done (fun V31 hv32=>?_)
  have S33 : Hid (St w noB [own (.slice A20 n21 c22) 3 1 n21 (ic (Gm.paste B l C m)),blk g14 28 [B.a, B.b, B.c, B.d, B.e, B.f, .slice A20 n21 c22],blk g9 28 [C.a, C.b, C.c, C.d, C.e, C.f, .slice E ne ce],blk g4 28 [B.a, B.b, B.c, B.d, B.e, B.f, .slice A n c]] V31):=Lib.hid (S30.out.gr hv32)
  clear S30
  clear hv32
  refine ⟨rfl,hK _ _ ?_⟩
  clear hK
  go_wp2_with fail
  (try simp only [Exit.inBlock,Exit.then])
  refine bodyPost_ret (results_cell_mid rfl _ _ _ g14 0 [B.a, B.b, B.c, B.d, B.e, B.f, .slice A20 n21 c22] _ rfl (S33.out.range 1 rfl 0 7 rfl) Tryd.underlying28 rfl (by kernel_rfl)) rfl ?_
  exact ⟨A20,n21,c22,rfl,S33.out.sub (.cons_cons _ (.cons _ (.cons _ (.cons _ .slnil))))⟩

end Go.Proofs.YtpapbbolefnkmaaDoor
