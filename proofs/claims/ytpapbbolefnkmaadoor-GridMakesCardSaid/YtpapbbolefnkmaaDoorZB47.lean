/-
  Package grid: grids turned.
-/
import Derived.Test.YtpapbbolefnkmaaDoorZB00
import Derived.Test.YtpapbbolefnkmaaDoorZB44
import Derived.Test.YtpapbbolefnkmaaDoorZB32
import Derived.Test.YtpapbbolefnkmaaDoorZB41
import Derived.Test.YtpapbbolefnkmaaDoorZB46
import Derived.Handy
namespace Go.Proofs.YtpapbbolefnkmaaDoor
open Go Go.RowKit
set_option linter.unusedVariables false
set_option linter.unusedSimpArgs false
theorem Gm.trn_ok {s : Int} {B : Gm.Bx} {l : List Int} {k : Nat} (h : Gm.ok B l) : Gm.ok (Gm.tB s B) (Gm.trn s B l k):=⟨Gm.rg_tB s h.rg,by rw [Gm.trn_len,Gm.vol_tB];exact h.len,by rw [Gm.vol_tB];exact h.max⟩
theorem Gm.trn_wr {s : Int} {B : Gm.Bx} {l : List Int} {k : Nat} (h : Gm.ok B l) (hk : k < B.vol.toNat) :
    Gm.wr1 (Gm.tB s B) (Gm.trn s B l k) ⟨Gm.tx s (B.ax k) (B.ay k) (B.az k),Gm.ty s (B.ax k) (B.ay k) (B.az k),Gm.tz s (B.ax k) (B.ay k) (B.az k),0,l.getD k 0⟩ = Gm.trn s B l (k + 1):=by
  have hl : k < l.length:=by have:=h.vol;omega
  have hin:=Gm.turn_in (s:=s) h hl
  have hb:=Gm.ix_bd hin
  have hq : Gm.ixr (Gm.tB s B) (Gm.tx s (B.ax k) (B.ay k) (B.az k)) (Gm.ty s (B.ax k) (B.ay k) (B.az k)) (Gm.tz s (B.ax k) (B.ay k) (B.az k)) = (((Gm.tB s B).ix (Gm.tx s (B.ax k) (B.ay k) (B.az k)) (Gm.ty s (B.ax k) (B.ay k) (B.az k)) (Gm.tz s (B.ax k) (B.ay k) (B.az k))).toNat : Int):=by
    unfold Gm.ixr;rw [hin,if_pos rfl];omega
  rw [Gm.trn_step h hl hq,Gm.wr1_yes hq]
set_option maxRecDepth 1000000 in
set_option maxHeartbeats 4000000 in
theorem gturn1_any (s : Int) (B : Gm.Bx) (A : Option Addr) (n c hb gb sb : Nat) (l : List Int) (E : Option Addr) (ne ce : Nat) (F : Nat → Prop) (w00 : World) (w : World) (hW0 : Gr w00 w) (hF : ∀ k,F k → w00.heap.size ≤ k) (r1 : Row gb [B.a, B.b, B.c, B.d, B.e, B.f, .slice E ne ce] w00) (r2 : Row sb [s] w00) (hG : SL w00 1 E ne ce (ic l)) (hT : Tab w00) (hS : Sts [blk hb 28 [((Gm.tB s B).a:Int), ((Gm.tB s B).b:Int), ((Gm.tB s B).c:Int), ((Gm.tB s B).d:Int), ((Gm.tB s B).e:Int), ((Gm.tB s B).f:Int), .slice A n c],own (.slice A n c) 3 1 n (ic l)] w F) (hok : Gm.ok B l) :
    Calls Tryd.prog 65 #[.func (.func 86) #[] #[.pointer (some ⟨hb,0,none⟩)], .pointer (some ⟨gb,0,none⟩), .pointer (some ⟨sb,0,none⟩)] w fun e w'=>(∃ v,e = .returned v ∧ St w F [blk hb 28 [((Gm.tB s B).a:Int), ((Gm.tB s B).b:Int), ((Gm.tB s B).c:Int), ((Gm.tB s B).d:Int), ((Gm.tB s B).e:Int), ((Gm.tB s B).f:Int), .slice A n c],own (.slice A n c) 3 1 n (ic (Gm.turn s B l))] w'):=by
  have HOK:=Lib.hid hok
  clear hok
  have HLEN : Hid (l.length = n):=Lib.hid (by have h_:=own_icl ((St.borrow hS).ownr 1 rfl);omega)
  have HW00:=Lib.hid hW0
  have HF00:=Lib.hid hF
  clear hW0 hF
  have HP1:=Lib.hid r1
  have HP2:=Lib.hid r2
  have HGE:=Lib.hid hG
  have HTB:=Lib.hid hT
  clear r1 r2 hG hT
  have S1 : Hid (St w F [blk hb 28 [((Gm.tB s B).a:Int), ((Gm.tB s B).b:Int), ((Gm.tB s B).c:Int), ((Gm.tB s B).d:Int), ((Gm.tB s B).e:Int), ((Gm.tB s B).f:Int), .slice A n c],own (.slice A n c) 3 1 n (ic l)] w):=Lib.hid (St.borrow hS)
  refine calls_marks Tryd.func65 rfl ?_
  simp only [Tryd.ntmps65,List.size_toArray,List.length_cons,List.length_nil,Nat.reduceAdd,Nat.reduceSub,Array.replicate_succ,Array.replicate_zero,List.push_toArray,List.append_toArray,List.nil_append,List.cons_append]
  go_upto_region 0 with fail
  refine wpG_region_k (fun K hK=>?_)
  refine wpG_val (some 3) rfl (by rfl) (fun W2 hg3=>⟨.pointer (some ⟨W2.heap.size,0,none⟩),W2.alloc (.cells #[.func (.func 86) #[] #[.pointer (some ⟨hb,0,none⟩)]] 85),by (first | (go_simp;done) | (go_simp <;> rfl)), ?_⟩)
  simp only [n1,n3,n4]
  obtain ⟨g4,U5,hg_,hu_,hS_⟩:=(S1.out.gr hg3).made [.func (.func 86) #[] #[.pointer (some ⟨hb,0,none⟩)]] 85
  rw [← hu_,← hg_]
  have S6 : Hid (St w F [blk g4 85 [.func (.func 86) #[] #[.pointer (some ⟨hb,0,none⟩)]],blk hb 28 [((Gm.tB s B).a:Int), ((Gm.tB s B).b:Int), ((Gm.tB s B).c:Int), ((Gm.tB s B).d:Int), ((Gm.tB s B).e:Int), ((Gm.tB s B).f:Int), .slice A n c],own (.slice A n c) 3 1 n (ic l)] U5):=Lib.hid hS_
  clear S1
  clear hg_ hu_ hS_ hg3
  refine wpG_done (fun V7 hv8=>?_)
  have S9 : Hid (St w F [blk g4 85 [.func (.func 86) #[] #[.pointer (some ⟨hb,0,none⟩)]],blk hb 28 [((Gm.tB s B).a:Int), ((Gm.tB s B).b:Int), ((Gm.tB s B).c:Int), ((Gm.tB s B).d:Int), ((Gm.tB s B).e:Int), ((Gm.tB s B).f:Int), .slice A n c],own (.slice A n c) 3 1 n (ic l)] V7):=Lib.hid (S6.out.gr hv8)
  clear S6
  clear hv8
  refine ⟨rfl,hK _ _ ?_⟩
  clear hK
  go_upto_region 1 with fail
  refine wpG_region_k (fun K hK=>?_)
  refine @wpG_tk _ _ _ _ _ (some 6) (.agg #[B.a, B.b, B.c, B.d, B.e, B.f, .slice E ne ce]) _ _ rfl (.load_mid (by rfl) 28 (.tmp 1) rfl gb 0 rfl [B.a, B.b, B.c, B.d, B.e, B.f, .slice E ne ce] _ (fun W hg=>(HP1.out.below ((S9.out.gr hg).belo HW00.out HF00.out)).range) Tryd.underlying28 rfl (by kernel_rfl)) ?_
  simp only [n1,n3,n4]
  refine wpG_call (some 7) 66 #[.agg #[B.a, B.b, B.c, B.d, B.e, B.f, .slice E ne ce]] rfl (by rfl) (fun W=>by go_simp) (fun W11 hg12=>?_)
  refine (visit_any B E ne ce W11).mono ?_
  rintro e w13 ⟨gb10,rfl,hS_⟩
  refine ⟨_,rfl, ?_⟩
  have hT_:=(S9.out.gr hg12).got hS_
  simp only [n1,n3,n4]
  have S14 : Hid (St w F [blk gb10 28 [B.a, B.b, B.c, B.d, B.e, B.f, .slice E ne ce],blk g4 85 [.func (.func 86) #[] #[.pointer (some ⟨hb,0,none⟩)]],blk hb 28 [((Gm.tB s B).a:Int), ((Gm.tB s B).b:Int), ((Gm.tB s B).c:Int), ((Gm.tB s B).d:Int), ((Gm.tB s B).e:Int), ((Gm.tB s B).f:Int), .slice A n c],own (.slice A n c) 3 1 n (ic l)] w13):=Lib.hid hT_
  clear S9
  clear hT_ hS_ hg12
  refine wpG_done (fun V15 hv16=>?_)
  have S17 : Hid (St w F [blk gb10 28 [B.a, B.b, B.c, B.d, B.e, B.f, .slice E ne ce],blk g4 85 [.func (.func 86) #[] #[.pointer (some ⟨hb,0,none⟩)]],blk hb 28 [((Gm.tB s B).a:Int), ((Gm.tB s B).b:Int), ((Gm.tB s B).c:Int), ((Gm.tB s B).d:Int), ((Gm.tB s B).e:Int), ((Gm.tB s B).f:Int), .slice A n c],own (.slice A n c) 3 1 n (ic l)] V15):=Lib.hid (S14.out.gr hv16)
  clear S14
  clear hv16
  refine ⟨rfl,hK _ _ ?_⟩
  clear hK
  have S18 : Hid (St w F [blk gb10 28 [B.a, B.b, B.c, B.d, B.e, B.f, .slice E ne ce],blk g4 85 [.func (.func 86) #[] #[.pointer (some ⟨hb,0,none⟩)]],blk hb 28 [((Gm.tB s B).a:Int), ((Gm.tB s B).b:Int), ((Gm.tB s B).c:Int), ((Gm.tB s B).d:Int), ((Gm.tB s B).e:Int), ((Gm.tB s B).f:Int), .slice A n c],own (.slice A n c) 3 1 n (ic (Gm.trn s B l 0))] V15):=Lib.hid (by rw [Gm.trn_zero (s:=s) (B:=B) HOK.out];exact S17.out)
  clear S17
  go_wp2_with fail
  have hB_ : w.heap.size ≤ V15.heap.size:=S18.out.size
  have hgb_ : gb10 < V15.heap.size:=blk_lt S18.out 0 rfl
  have hlt0_ : gb10 < V15.heap.size:=blk_lt S18.out 0 rfl
  have hlt1_ : g4 < V15.heap.size:=blk_lt S18.out 1 rfl
  have hlt2_ : hb < V15.heap.size:=blk_lt S18.out 2 rfl
  have hlt3_:=own_lt S18.out 3 rfl
  have hka_ : ∀ q,(fun q=>0 < ne ∧ sblk E q) q → q < V15.heap.size:=fun q h=>Nat.lt_of_lt_of_le (HGE.out.blk_lt q h) (Nat.le_trans (Gr.size HW00.out) hB_)
  refine range_law2 (gf:=92) (lb:=#[.pointer (some ⟨gb10,0,none⟩)]) (T':=(fun q=>V15.heap.size ≤ q ∨ q = gb10 ∨ (fun q=>0 < ne ∧ sblk E q) q)) rfl (enters_of Tryd.func92 (by kernel_rfl) rfl) (visit1_seq gb10 E ne ce B l V15 (S18.out.row 0 rfl) (HGE.out.gr (S18.out.belo HW00.out HF00.out)) HOK.out) (fun W1_ hs_ k_ hk_=>by rcases hk_ with h_ | h_ | h_;exact ⟨.inl (by omega),by omega,by omega⟩;exact ⟨.inr (.inl h_),by omega,by omega⟩;exact ⟨.inr (.inr h_),by have:=hka_ _ h_;omega,by have:=hka_ _ h_;omega⟩) (.inl (Nat.le_refl _)) (.inl (Nat.le_succ _)) (fun _=>rfl) (fun kk wr=>StL V15.heap.size w F [blk gb10 28 [B.a, B.b, B.c, B.d, B.e, B.f, .slice E ne ce],blk g4 85 [.func (.func 86) #[] #[.pointer (some ⟨hb,0,none⟩)]],blk hb 28 [((Gm.tB s B).a:Int), ((Gm.tB s B).b:Int), ((Gm.tB s B).c:Int), ((Gm.tB s B).d:Int), ((Gm.tB s B).e:Int), ((Gm.tB s B).f:Int), .slice A n c],own (.slice A n c) 3 1 n (ic (Gm.trn s B l kk))] wr) (fun _ _ _=>False) (fun kk a_ wr=>∃ (u4 : Nat),a_ = ⟨#[.func (.func 86) #[] #[.pointer (some ⟨hb,0,none⟩)], .pointer (some ⟨gb,0,none⟩), .pointer (some ⟨sb,0,none⟩), .pointer (some ⟨g4,0,none⟩), .pointer (some ⟨u4,0,none⟩), (l.getD kk 0:Int), .agg #[B.a, B.b, B.c, B.d, B.e, B.f, .slice E ne ce], .func (.func 92) #[] #[.pointer (some ⟨gb10,0,none⟩)], .agg #[(B.ax kk:Int), (B.ay kk:Int), (B.az kk:Int)], (l.getD kk 0:Int),undef,undef,undef,undef,undef,undef],[]⟩ ∧ St w F [blk gb10 28 [B.a, B.b, B.c, B.d, B.e, B.f, .slice E ne ce],blk g4 85 [.func (.func 86) #[] #[.pointer (some ⟨hb,0,none⟩)]],blk hb 28 [((Gm.tB s B).a:Int), ((Gm.tB s B).b:Int), ((Gm.tB s B).c:Int), ((Gm.tB s B).d:Int), ((Gm.tB s B).e:Int), ((Gm.tB s B).f:Int), .slice A n c],own (.slice A n c) 3 1 n (ic (Gm.trn s B l kk)),blk u4 23 [(B.ax kk:Int), (B.ay kk:Int), (B.az kk:Int)]] wr) (StL.low hB_) (fun _ _ _ _ h_ _=>h_.elim) (fun kk a_ s_ X_ Y_ row_ h_ hg_ hr_=>(match h_ with | ⟨x0_,p_,hs_⟩=>⟨x0_,p_,hs_.turned (cels_cons (cel_blk _ _ _) (cels_cons (cel_blk _ _ _) (cels_cons (cel_blk _ _ _) (cels_cons (cel_own _ _ _ _ _) (cels_cons (cel_blk _ _ _) cels_nil))))) hB_ hg_ hr_⟩)) ⟨S18.out,(bl_blk hlt0_ (bl_blk hlt1_ (bl_blk hlt2_ (bl_own hlt3_ bl_nil))))⟩ ?_ ?_ ?_ ?_
  · intro l_ kk W_ hk_ hi_ hR_
    have hS_:=hi_.1
    have hS0_:=hS_
    obtain ⟨f_,hsts_,hfp_,hback_⟩:=St.lend (L:=[blk gb10 28 [B.a, B.b, B.c, B.d, B.e, B.f, .slice E ne ce],blk g4 85 [.func (.func 86) #[] #[.pointer (some ⟨hb,0,none⟩)]],blk hb 28 [((Gm.tB s B).a:Int), ((Gm.tB s B).b:Int), ((Gm.tB s B).c:Int), ((Gm.tB s B).d:Int), ((Gm.tB s B).e:Int), ((Gm.tB s B).f:Int), .slice A n c],own (.slice A n c) 3 1 n (ic (Gm.trn s B l kk))]) (M:=[]) hS_
    clear hS_
    have HW_ : Hid (Gr w00 W_):=Lib.hid (hS0_.belo HW00.out HF00.out)
    have HF_ : Hid (∀ k,f_ k → w00.heap.size ≤ k):=Lib.hid (fun k hk=>by rcases hfp_ k hk with h_ | h_;exact HF00.out k h_;exact Nat.le_trans (Gr.size HW00.out) h_)
    have hfb_ : ∀ k,f_ k → k = gb10 ∨ k < V15.heap.size ∧ ¬ (fun q=>0 < ne ∧ sblk E q) k:=fun k hk=>by
      have hx_ : ¬ (fun q=>0 < ne ∧ sblk E q) k:=fun h=>absurd (HGE.out.blk_lt k h) (Nat.not_lt.2 (HF_.out k hk))
      rcases sts_blocks hsts_ k hk with h_ | h_ | h_ | h_ | h_
      · exact .inl (blocks_blk h_)
      · exact .inr ⟨by have:=blocks_blk h_;omega,hx_⟩
      · exact .inr ⟨by have:=blocks_blk h_;omega,hx_⟩
      · exact .inr ⟨hlt3_ k (blocks_own h_),hx_⟩
      · exact h_.elim
    have hA_:=St.borrow hsts_
    have HGBK : Hid (W_.heap[gb10]? = some (.cells (List.toArray [B.a, B.b, B.c, B.d, B.e, B.f, .slice E ne ce]) 28 (0,0))):=Lib.hid (hA_.heap 0 rfl)
    have SR:=Lib.hid hA_
    clear hA_
    have S19:=SR
    clear SR
    rw [zip2];simp only [n3,n4]
    refine wpIn_seq ?_
    refine wpGI_region_k rfl (fun K hK=>?_)
    refine wpG_val (some 4) rfl (by rfl) (fun W20 hg21=>⟨.pointer (some ⟨W20.heap.size,0,none⟩),W20.alloc (.cells #[(), (), ()] 23),by (first | (go_simp;done) | (go_simp <;> rfl)), ?_⟩)
    simp only [n1,n3,n4]
    obtain ⟨g22,U23,hg_,hu_,hS_⟩:=(S19.out.gr hg21).made [(), (), ()] 23
    rw [← hu_,← hg_]
    have S24 : Hid (St W_ f_ [blk g22 23 [(), (), ()],blk gb10 28 [B.a, B.b, B.c, B.d, B.e, B.f, .slice E ne ce],blk g4 85 [.func (.func 86) #[] #[.pointer (some ⟨hb,0,none⟩)]],blk hb 28 [((Gm.tB s B).a:Int), ((Gm.tB s B).b:Int), ((Gm.tB s B).c:Int), ((Gm.tB s B).d:Int), ((Gm.tB s B).e:Int), ((Gm.tB s B).f:Int), .slice A n c],own (.slice A n c) 3 1 n (ic (Gm.trn s B l kk))] U23):=Lib.hid hS_
    clear S19
    clear hg_ hu_ hS_ hg21
    refine wpG_store (none) rfl (by rfl) (fun W25 hg26=>⟨_,run_store_mid 23 (.tmp 4) (.tmp 8) rfl g22 0 #[(B.ax kk:Int), (B.ay kk:Int), (B.az kk:Int)] rfl rfl ((S24.out.gr hg26).room 0 rfl 0 3 (by simp)) (by kernel_rfl) (by kernel_rfl), ?_⟩)
    simp only [n2]
    obtain ⟨U27,hu_,hS_⟩:=((S24.out.gr hg26).put 0 rfl 0 (#[(B.ax kk:Int), (B.ay kk:Int), (B.az kk:Int)] : Array Value).toList (ds:=[(B.ax kk:Int), (B.ay kk:Int), (B.az kk:Int)]) rfl).named
    rw [← hu_]
    have S28 : Hid (St W_ f_ [blk g22 23 [(B.ax kk:Int), (B.ay kk:Int), (B.az kk:Int)],blk gb10 28 [B.a, B.b, B.c, B.d, B.e, B.f, .slice E ne ce],blk g4 85 [.func (.func 86) #[] #[.pointer (some ⟨hb,0,none⟩)]],blk hb 28 [((Gm.tB s B).a:Int), ((Gm.tB s B).b:Int), ((Gm.tB s B).c:Int), ((Gm.tB s B).d:Int), ((Gm.tB s B).e:Int), ((Gm.tB s B).f:Int), .slice A n c],own (.slice A n c) 3 1 n (ic (Gm.trn s B l kk))] U27):=Lib.hid hS_
    clear S24
    clear hu_ hS_ hg26
    refine wpG_done (fun V29 hv30=>?_)
    have S31 : Hid (St W_ f_ [blk g22 23 [(B.ax kk:Int), (B.ay kk:Int), (B.az kk:Int)],blk gb10 28 [B.a, B.b, B.c, B.d, B.e, B.f, .slice E ne ce],blk g4 85 [.func (.func 86) #[] #[.pointer (some ⟨hb,0,none⟩)]],blk hb 28 [((Gm.tB s B).a:Int), ((Gm.tB s B).b:Int), ((Gm.tB s B).c:Int), ((Gm.tB s B).d:Int), ((Gm.tB s B).e:Int), ((Gm.tB s B).f:Int), .slice A n c],own (.slice A n c) 3 1 n (ic (Gm.trn s B l kk))] V29):=Lib.hid (S28.out.gr hv30)
    clear S28
    clear hv30
    refine ⟨rfl,hK _ _ ?_⟩
    clear hK
    (try simp only [Exit.then,Exit.inBlock])
    refine wpGI_region_k rfl (fun K hK=>?_)
    refine @wpG_p _ _ _ _ _ (some 5) (l.getD kk 0:Int) _ _ rfl (by rfl) (fun _=>rfl) ?_
    simp only [n1,n3,n4]
    refine wpG_done (fun V32 hv33=>?_)
    have S34 : Hid (St W_ f_ [blk g22 23 [(B.ax kk:Int), (B.ay kk:Int), (B.az kk:Int)],blk gb10 28 [B.a, B.b, B.c, B.d, B.e, B.f, .slice E ne ce],blk g4 85 [.func (.func 86) #[] #[.pointer (some ⟨hb,0,none⟩)]],blk hb 28 [((Gm.tB s B).a:Int), ((Gm.tB s B).b:Int), ((Gm.tB s B).c:Int), ((Gm.tB s B).d:Int), ((Gm.tB s B).e:Int), ((Gm.tB s B).f:Int), .slice A n c],own (.slice A n c) 3 1 n (ic (Gm.trn s B l kk))] V32):=Lib.hid (S31.out.gr hv33)
    clear S31
    clear hv33
    refine ⟨rfl,hK _ _ ?_⟩
    clear hK
    (try simp only [Exit.then,Exit.inBlock])
    have hN_:=hback_ ((((S34.out.front 4 rfl).front 4 rfl).front 4 rfl).front 4 rfl)
    simp only [List.cons_append,List.nil_append] at hN_
    exact ⟨keep_sl S34.out hsts_ hfb_ HGBK.out 1 rfl hgb_,g22,rfl,hN_⟩
  · intro l_ kk a_ W_ hk_ hax_ hR_
    obtain ⟨u4,rfl,hS_⟩:=hax_
    have HU0:=Lib.hid (hS_.row 4 rfl)
    have hS0_:=hS_
    obtain ⟨f_,hsts_,hfp_,hback_⟩:=St.lend (L:=[blk gb10 28 [B.a, B.b, B.c, B.d, B.e, B.f, .slice E ne ce],blk g4 85 [.func (.func 86) #[] #[.pointer (some ⟨hb,0,none⟩)]],blk hb 28 [((Gm.tB s B).a:Int), ((Gm.tB s B).b:Int), ((Gm.tB s B).c:Int), ((Gm.tB s B).d:Int), ((Gm.tB s B).e:Int), ((Gm.tB s B).f:Int), .slice A n c],own (.slice A n c) 3 1 n (ic (Gm.trn s B l kk))]) (M:=[blk u4 23 [(B.ax kk:Int), (B.ay kk:Int), (B.az kk:Int)]]) hS_
    clear hS_
    have HW_ : Hid (Gr w00 W_):=Lib.hid (hS0_.belo HW00.out HF00.out)
    have HF_ : Hid (∀ k,f_ k → w00.heap.size ≤ k):=Lib.hid (fun k hk=>by rcases hfp_ k hk with h_ | h_;exact HF00.out k h_;exact Nat.le_trans (Gr.size HW00.out) h_)
    have hfb_ : ∀ k,f_ k → k = gb10 ∨ k < V15.heap.size ∧ ¬ (fun q=>0 < ne ∧ sblk E q) k:=fun k hk=>by
      have hx_ : ¬ (fun q=>0 < ne ∧ sblk E q) k:=fun h=>absurd (HGE.out.blk_lt k h) (Nat.not_lt.2 (HF_.out k hk))
      rcases sts_blocks hsts_ k hk with h_ | h_ | h_ | h_ | h_
      · exact .inl (blocks_blk h_)
      · exact .inr ⟨by have:=blocks_blk h_;omega,hx_⟩
      · exact .inr ⟨by have:=blocks_blk h_;omega,hx_⟩
      · exact .inr ⟨hlt3_ k (blocks_own h_),hx_⟩
      · exact h_.elim
    have hA_:=St.borrow hsts_
    have HGBK : Hid (W_.heap[gb10]? = some (.cells (List.toArray [B.a, B.b, B.c, B.d, B.e, B.f, .slice E ne ce]) 28 (0,0))):=Lib.hid (hA_.heap 0 rfl)
    have SR:=Lib.hid hA_
    clear hA_
    have S35:=SR
    clear SR
    refine wpIn_block ?_
    refine wpJI_region_k (fun i=>i == 5) rfl (by kernel_rfl) (fun K hK=>?_)
    refine J.wpK_ta (i:=4) (some 14) (v:=(l.getD kk 0:Int)) rfl rfl (by kernel_rfl) (fun _ _ _ h=>onN_panic h) (Or.inl ⟨rfl,fun _=>rfl⟩) ?_
    simp only [n1,n3,n4]
    refine J.wpK_tk (i:=0) (some 10) (v:=.func (.func 86) #[] #[.pointer (some ⟨hb,0,none⟩)]) rfl rfl (by kernel_rfl) (fun _ _ _ h=>onN_panic h) (.val (by rfl) (fun W hg=>by have c:=(S35.out.gr (Gr.un hg)).cell 1 rfl 0 rfl;go_simp)) ?_
    simp only [n1,n3,n4]
    refine J.wpK_tk (i:=1) (some 11) (v:=s) rfl rfl (by kernel_rfl) (fun _ _ _ h=>onN_panic h) (.val (by rfl) (fun W hg=>by have c:=((HP2.out.below ((S35.out.gr (Gr.un hg)).belo HW_.out HF_.out)).range) 0 _ rfl;(try simp only [Nat.add_zero,Nat.zero_add] at c);go_simp)) ?_
    simp only [n1,n3,n4]
    refine J.wpK_tk (i:=2) (some 12) (v:=.agg #[(B.ax kk:Int), (B.ay kk:Int), (B.az kk:Int)]) rfl rfl (by kernel_rfl) (fun _ _ _ h=>onN_panic h) (.load_mid (by rfl) 23 (.tmp 4) rfl u4 0 rfl [(B.ax kk:Int), (B.ay kk:Int), (B.az kk:Int)] _ (fun W hg=>(HU0.out.below (Gr.un hg)).range) Tryd.underlying23 rfl (by kernel_rfl)) ?_
    simp only [n1,n3,n4]
    refine J.wpK_tk (i:=3) (some 13) (v:=.agg #[(Gm.tx s (B.ax kk) (B.ay kk) (B.az kk)), (Gm.ty s (B.ax kk) (B.ay kk) (B.az kk)), (Gm.tz s (B.ax kk) (B.ay kk) (B.az kk))]) rfl rfl (by kernel_rfl) (fun _ _ _ h=>onN_panic h) (.call (f:=67) (args:=#[s, .agg #[(B.ax kk:Int), (B.ay kk:Int), (B.az kk:Int)]]) (by rfl) (fun W=>by go_simp) (fun W hg=>pturncell_b W s (B.ax kk) (B.ay kk) (B.az kk) (HTB.out.below ((S35.out.gr (Gr.un hg)).belo HW_.out HF_.out)) (Gm.at_rp HOK.out.rg (Int.natCast_nonneg _) (by omega)))) ?_
    simp only [n1,n3,n4]
    refine J.wpK_call (i:=5) (some 15) 86 #[.agg #[(Gm.tx s (B.ax kk) (B.ay kk) (B.az kk)), (Gm.ty s (B.ax kk) (B.ay kk) (B.az kk)), (Gm.tz s (B.ax kk) (B.ay kk) (B.az kk))], (l.getD kk 0:Int), .pointer (some ⟨hb,0,none⟩)] rfl rfl (by kernel_rfl) (by rfl) rfl (fun W=>by go_simp) (fun W37 hg38=>?_)
    obtain ⟨fp_,hA_,hfp_,back_⟩:=St.lend (L:=[blk hb 28 [((Gm.tB s B).a:Int), ((Gm.tB s B).b:Int), ((Gm.tB s B).c:Int), ((Gm.tB s B).d:Int), ((Gm.tB s B).e:Int), ((Gm.tB s B).f:Int), .slice A n c],own (.slice A n c) 3 1 n (ic (Gm.trn s B l kk))]) (M:=[blk gb10 28 [B.a, B.b, B.c, B.d, B.e, B.f, .slice E ne ce],blk g4 85 [.func (.func 86) #[] #[.pointer (some ⟨hb,0,none⟩)]]]) (((S35.out.gr (Gr.un hg38)).front 3 rfl).front 3 rfl)
    refine (changed1_any (Gm.tB s B) _ _ _ hb (Gm.trn s B l kk) (Gm.tx s (B.ax kk) (B.ay kk) (B.az kk)) (Gm.ty s (B.ax kk) (B.ay kk) (B.az kk)) (Gm.tz s (B.ax kk) (B.ay kk) (B.az kk)) (l.getD kk 0) _ W37 hA_ (Gm.trn_ok HOK.out) (Gm.turn_rp HOK.out (by have:=HOK.out.vol;omega))).mono ?_
    rintro e w39 ⟨v36,rfl,hS_⟩
    refine ⟨_,rfl, ?_⟩
    have hT_:=back_ hS_
    simp only [n1,n3,n4]
    have S40 : Hid (St W_ f_ [blk hb 28 [((Gm.tB s B).a:Int), ((Gm.tB s B).b:Int), ((Gm.tB s B).c:Int), ((Gm.tB s B).d:Int), ((Gm.tB s B).e:Int), ((Gm.tB s B).f:Int), .slice A n c],own (.slice A n c) 3 1 n (ic (Gm.wr1 (Gm.tB s B) (Gm.trn s B l kk) ⟨(Gm.tx s (B.ax kk) (B.ay kk) (B.az kk)),(Gm.ty s (B.ax kk) (B.ay kk) (B.az kk)),(Gm.tz s (B.ax kk) (B.ay kk) (B.az kk)),0,(l.getD kk 0)⟩)),blk gb10 28 [B.a, B.b, B.c, B.d, B.e, B.f, .slice E ne ce],blk g4 85 [.func (.func 86) #[] #[.pointer (some ⟨hb,0,none⟩)]]] w39):=Lib.hid hT_
    clear S35
    clear hT_ hS_ hg38 hA_ hfp_ back_
    refine J.wpK_done (by kernel_rfl) (fun V41 hv42=>?_) _
    have S43 : Hid (St W_ f_ [blk hb 28 [((Gm.tB s B).a:Int), ((Gm.tB s B).b:Int), ((Gm.tB s B).c:Int), ((Gm.tB s B).d:Int), ((Gm.tB s B).e:Int), ((Gm.tB s B).f:Int), .slice A n c],own (.slice A n c) 3 1 n (ic (Gm.wr1 (Gm.tB s B) (Gm.trn s B l kk) ⟨(Gm.tx s (B.ax kk) (B.ay kk) (B.az kk)),(Gm.ty s (B.ax kk) (B.ay kk) (B.az kk)),(Gm.tz s (B.ax kk) (B.ay kk) (B.az kk)),0,(l.getD kk 0)⟩)),blk gb10 28 [B.a, B.b, B.c, B.d, B.e, B.f, .slice E ne ce],blk g4 85 [.func (.func 86) #[] #[.pointer (some ⟨hb,0,none⟩)]]] V41):=Lib.hid (S40.out.gr hv42)
    clear S40
    clear hv42
    refine ⟨rfl,hK _ _ ?_⟩
    clear hK
    (try simp only [Exit.then,Exit.inBlock])
    refine ⟨keep_sl S43.out hsts_ hfb_ HGBK.out 2 rfl hgb_, ?_⟩
    have hN_:=hback_ ((((S43.out.front 1 rfl).front 1 rfl).front 3 rfl).front 3 rfl)
    simp only [List.cons_append,List.nil_append] at hN_
    show StL V15.heap.size w F [blk gb10 28 [B.a, B.b, B.c, B.d, B.e, B.f, .slice E ne ce],blk g4 85 [.func (.func 86) #[] #[.pointer (some ⟨hb,0,none⟩)]],blk hb 28 [((Gm.tB s B).a:Int), ((Gm.tB s B).b:Int), ((Gm.tB s B).c:Int), ((Gm.tB s B).d:Int), ((Gm.tB s B).e:Int), ((Gm.tB s B).f:Int), .slice A n c],own (.slice A n c) 3 1 n (ic (Gm.trn s B l (kk + 1)))] _
    exact ⟨(by rw [← Gm.trn_wr HOK.out hk_];exact hN_.sub (.cons_cons _ (.cons_cons _ (.cons_cons _ (.cons_cons _ (.cons _ .slnil)))))),(bl_blk hlt0_ (bl_blk hlt1_ (bl_blk hlt2_ (bl_own hlt3_ bl_nil))))⟩
  · intro D_ W_ hD_ hi_ hdd_
    have hS_:=hi_.1
    clear hi_
    have hDw_ : w.heap.size ≤ D_:=Nat.le_trans hB_ hD_
    have hS2_:=hS_.defer (cels_cons (cel_blk _ _ _) (cels_cons (cel_blk _ _ _) (cels_cons (cel_blk _ _ _) (cels_cons (cel_own _ _ _ _ _) cels_nil)))) hDw_ hdd_
    clear hS_ hdd_ hD_
    have S44 : Hid (St w F [dfr D_,blk gb10 28 [B.a, B.b, B.c, B.d, B.e, B.f, .slice E ne ce],blk g4 85 [.func (.func 86) #[] #[.pointer (some ⟨hb,0,none⟩)]],blk hb 28 [((Gm.tB s B).a:Int), ((Gm.tB s B).b:Int), ((Gm.tB s B).c:Int), ((Gm.tB s B).d:Int), ((Gm.tB s B).e:Int), ((Gm.tB s B).f:Int), .slice A n c],own (.slice A n c) 3 1 n (ic (Gm.trn s B l (B.vol.toNat)))] W_):=Lib.hid hS2_
    clear S18
    clear hS2_
    go_wp2_with fail
    obtain ⟨hD2_,hS3_⟩:=S44.out.dfrs (cels_cons (cel_blk _ _ _) (cels_cons (cel_blk _ _ _) (cels_cons (cel_blk _ _ _) (cels_cons (cel_own _ _ _ _ _) cels_nil)))) hDw_
    obtain ⟨WZ,hWZ_⟩ : ∃ WZ,WZ = W_.putObj D_ (.deferred none):=⟨_,rfl⟩
    rw [← hWZ_] at hS3_
    refine postM_one (.inl rfl) hD2_ hWZ_ (results_none rfl _ _ _) ?_
    clear hD2_ hWZ_
    have S45 : Hid (St w F [blk gb10 28 [B.a, B.b, B.c, B.d, B.e, B.f, .slice E ne ce],blk g4 85 [.func (.func 86) #[] #[.pointer (some ⟨hb,0,none⟩)]],blk hb 28 [((Gm.tB s B).a:Int), ((Gm.tB s B).b:Int), ((Gm.tB s B).c:Int), ((Gm.tB s B).d:Int), ((Gm.tB s B).e:Int), ((Gm.tB s B).f:Int), .slice A n c],own (.slice A n c) 3 1 n (ic (Gm.trn s B l (B.vol.toNat)))] WZ):=Lib.hid hS3_
    clear S44
    clear hS3_
    (first | refine ⟨_,rfl, ?_⟩ | refine ⟨⟨_,rfl⟩, ?_⟩ | skip)
    rw [← Gm.trn_all HOK.out,show l.length = B.vol.toNat from HOK.out.len];exact (((S45.out.front 3 rfl).front 3 rfl).sub (.cons_cons _ (.cons_cons _ (.cons _ (.cons _ .slnil)))))
  · intro D_ c_ kk W_ hD_ hk_ hx_ hdd_
    exact hx_.elim
set_option maxRecDepth 1000000 in
set_option maxHeartbeats 4000000 in
theorem changed_turn (B : Gm.Bx) (A : Option Addr) (n c : Nat) (l : List Int) (s : Int) (gb sb : Nat) (w : World) (hG : SL w 1 A n c (ic l)) (hok : Gm.ok B l) (r1 : Row gb [B.a, B.b, B.c, B.d, B.e, B.f, .slice A n c] w) (r2 : Row sb [s] w) (hT : Tab w) :
    Calls Tryd.prog 57 #[.agg #[((Gm.tB s B).a:Int), ((Gm.tB s B).b:Int), ((Gm.tB s B).c:Int), ((Gm.tB s B).d:Int), ((Gm.tB s B).e:Int), ((Gm.tB s B).f:Int), .slice A n c], .func (.func 65) #[] #[.pointer (some ⟨gb,0,none⟩), .pointer (some ⟨sb,0,none⟩)]] w fun e w'=>∃ A n c,e = .returned (.agg #[((Gm.tB s B).a:Int), ((Gm.tB s B).b:Int), ((Gm.tB s B).c:Int), ((Gm.tB s B).d:Int), ((Gm.tB s B).e:Int), ((Gm.tB s B).f:Int), .slice A n c]) ∧ St w noB [own (.slice A n c) 3 1 n (ic (Gm.turn s B l))] w':=by
  have HGA:=Lib.hid hG
  have HLEN : Hid (l.length = n):=Lib.hid (by have h_:=hG.len;rw [ic_len] at h_;omega)
  have hnbHGA : n ≤ 9223372036854775807:=Nat.le_trans hG.cap hG.bnd
  clear hG
  have HOK:=Lib.hid hok
  clear hok
  have S1 : Hid (St w noB [] w):=Lib.hid (St.start w)
  go_enter Tryd.func57,Tryd.ntmps57
  go_upto_region 0 with fail
  refine wpG_region_k (fun K hK=>?_)
  refine wpG_val (some 2) rfl (by rfl) (fun W2 hg3=>⟨.pointer (some ⟨W2.heap.size,0,none⟩),W2.alloc (.cells #[((Gm.tB s B).a:Int), ((Gm.tB s B).b:Int), ((Gm.tB s B).c:Int), ((Gm.tB s B).d:Int), ((Gm.tB s B).e:Int), ((Gm.tB s B).f:Int), .slice A n c] 28),by (first | (go_simp;done) | (go_simp <;> rfl)), ?_⟩)
  simp only [n1,n3,n4]
  obtain ⟨g4,U5,hg_,hu_,hS_⟩:=(S1.out.gr hg3).made [((Gm.tB s B).a:Int), ((Gm.tB s B).b:Int), ((Gm.tB s B).c:Int), ((Gm.tB s B).d:Int), ((Gm.tB s B).e:Int), ((Gm.tB s B).f:Int), .slice A n c] 28
  rw [← hu_,← hg_]
  have S6 : Hid (St w noB [blk g4 28 [((Gm.tB s B).a:Int), ((Gm.tB s B).b:Int), ((Gm.tB s B).c:Int), ((Gm.tB s B).d:Int), ((Gm.tB s B).e:Int), ((Gm.tB s B).f:Int), .slice A n c]] U5):=Lib.hid hS_
  clear S1
  clear hg_ hu_ hS_ hg3
  refine wpG_val (some 4) rfl (by rfl) (fun W7 hg8=>⟨.pointer (some ⟨W7.heap.size,0,none⟩),W7.alloc (.cells #[(), (), (), (), (), (), .slice none 0 0] 28),by (first | (go_simp;done) | (go_simp <;> rfl)), ?_⟩)
  simp only [n1,n3,n4]
  obtain ⟨g9,U10,hg_,hu_,hS_⟩:=(S6.out.gr hg8).made [(), (), (), (), (), (), .slice none 0 0] 28
  rw [← hu_,← hg_]
  have S11 : Hid (St w noB [blk g9 28 [(), (), (), (), (), (), .slice none 0 0],blk g4 28 [((Gm.tB s B).a:Int), ((Gm.tB s B).b:Int), ((Gm.tB s B).c:Int), ((Gm.tB s B).d:Int), ((Gm.tB s B).e:Int), ((Gm.tB s B).f:Int), .slice A n c]] U10):=Lib.hid hS_
  clear S6
  clear hg_ hu_ hS_ hg8
  refine wpG_done (fun V12 hv13=>?_)
  have S14 : Hid (St w noB [blk g9 28 [(), (), (), (), (), (), .slice none 0 0],blk g4 28 [((Gm.tB s B).a:Int), ((Gm.tB s B).b:Int), ((Gm.tB s B).c:Int), ((Gm.tB s B).d:Int), ((Gm.tB s B).e:Int), ((Gm.tB s B).f:Int), .slice A n c]] V12):=Lib.hid (S11.out.gr hv13)
  clear S11
  clear hv13
  refine ⟨rfl,hK _ _ ?_⟩
  clear hK
  go_upto_region 1 with fail
  refine wpG_region_k (fun K hK=>?_)
  refine @wpG_tk _ _ _ _ _ (some 6) (.agg #[((Gm.tB s B).a:Int), ((Gm.tB s B).b:Int), ((Gm.tB s B).c:Int), ((Gm.tB s B).d:Int), ((Gm.tB s B).e:Int), ((Gm.tB s B).f:Int), .slice A n c]) _ _ rfl (.load_mid (by rfl) 28 (.tmp 2) rfl g4 0 rfl [((Gm.tB s B).a:Int), ((Gm.tB s B).b:Int), ((Gm.tB s B).c:Int), ((Gm.tB s B).d:Int), ((Gm.tB s B).e:Int), ((Gm.tB s B).f:Int), .slice A n c] _ (fun W hg=>(S14.out.gr hg).range 1 rfl 0 7 rfl) Tryd.underlying28 rfl (by kernel_rfl)) ?_
  simp only [n1,n3,n4]
  refine wpG_call (some 7) 72 #[.agg #[((Gm.tB s B).a:Int), ((Gm.tB s B).b:Int), ((Gm.tB s B).c:Int), ((Gm.tB s B).d:Int), ((Gm.tB s B).e:Int), ((Gm.tB s B).f:Int), .slice A n c]] rfl (by rfl) (fun W=>by go_simp) (fun W18 hg19=>?_)
  refine (gclone_any (Gm.tB s B) _ _ _ l W18 (HGA.out.gr (S14.out.gr hg19).bel) (by (have a1:=HOK.out.vol;have a2:=HOK.out.max;have a3:=HLEN.out;omega))).mono ?_
  rintro e w20 ⟨A15,n16,c17,rfl,hS_⟩
  refine ⟨_,rfl, ?_⟩
  have hT_:=(S14.out.gr hg19).got hS_
  simp only [n1,n3,n4]
  have S21 : Hid (St w noB [own (.slice A15 n16 c17) 3 1 n16 (ic l),blk g9 28 [(), (), (), (), (), (), .slice none 0 0],blk g4 28 [((Gm.tB s B).a:Int), ((Gm.tB s B).b:Int), ((Gm.tB s B).c:Int), ((Gm.tB s B).d:Int), ((Gm.tB s B).e:Int), ((Gm.tB s B).f:Int), .slice A n c]] w20):=Lib.hid hT_
  clear S14
  clear hT_ hS_ hg19
  have hnn16 : n16 ≤ l.length ∧ l.length ≤ n16:=by have h_:=own_icl (S21.out.ownr 0 rfl);omega
  refine wpG_val (some 5) rfl (by rfl) (fun W22 hg23=>⟨.pointer (some ⟨W22.heap.size,0,none⟩),W22.alloc (.cells #[(), (), (), (), (), (), .slice none 0 0] 28),by (first | (go_simp;done) | (go_simp <;> rfl)), ?_⟩)
  simp only [n1,n3,n4]
  obtain ⟨g24,U25,hg_,hu_,hS_⟩:=(S21.out.gr hg23).made [(), (), (), (), (), (), .slice none 0 0] 28
  rw [← hu_,← hg_]
  have S26 : Hid (St w noB [blk g24 28 [(), (), (), (), (), (), .slice none 0 0],own (.slice A15 n16 c17) 3 1 n16 (ic l),blk g9 28 [(), (), (), (), (), (), .slice none 0 0],blk g4 28 [((Gm.tB s B).a:Int), ((Gm.tB s B).b:Int), ((Gm.tB s B).c:Int), ((Gm.tB s B).d:Int), ((Gm.tB s B).e:Int), ((Gm.tB s B).f:Int), .slice A n c]] U25):=Lib.hid hS_
  clear S21
  clear hg_ hu_ hS_ hg23
  refine wpG_store (none) rfl (by rfl) (fun W27 hg28=>⟨_,run_store_mid 28 (.tmp 5) (.tmp 7) rfl g24 0 #[((Gm.tB s B).a:Int), ((Gm.tB s B).b:Int), ((Gm.tB s B).c:Int), ((Gm.tB s B).d:Int), ((Gm.tB s B).e:Int), ((Gm.tB s B).f:Int), .slice A15 n16 c17] rfl rfl ((S26.out.gr hg28).room 0 rfl 0 7 (by simp)) (by kernel_rfl) (by kernel_rfl), ?_⟩)
  simp only [n2]
  obtain ⟨U29,hu_,hS_⟩:=((S26.out.gr hg28).put 0 rfl 0 (#[((Gm.tB s B).a:Int), ((Gm.tB s B).b:Int), ((Gm.tB s B).c:Int), ((Gm.tB s B).d:Int), ((Gm.tB s B).e:Int), ((Gm.tB s B).f:Int), .slice A15 n16 c17] : Array Value).toList (ds:=[((Gm.tB s B).a:Int), ((Gm.tB s B).b:Int), ((Gm.tB s B).c:Int), ((Gm.tB s B).d:Int), ((Gm.tB s B).e:Int), ((Gm.tB s B).f:Int), .slice A15 n16 c17]) rfl).named
  rw [← hu_]
  have S30 : Hid (St w noB [blk g24 28 [((Gm.tB s B).a:Int), ((Gm.tB s B).b:Int), ((Gm.tB s B).c:Int), ((Gm.tB s B).d:Int), ((Gm.tB s B).e:Int), ((Gm.tB s B).f:Int), .slice A15 n16 c17],own (.slice A15 n16 c17) 3 1 n16 (ic l),blk g9 28 [(), (), (), (), (), (), .slice none 0 0],blk g4 28 [((Gm.tB s B).a:Int), ((Gm.tB s B).b:Int), ((Gm.tB s B).c:Int), ((Gm.tB s B).d:Int), ((Gm.tB s B).e:Int), ((Gm.tB s B).f:Int), .slice A n c]] U29):=Lib.hid hS_
  clear S26
  clear hu_ hS_ hg28
  refine wpG_done (fun V31 hv32=>?_)
  have S33 : Hid (St w noB [blk g24 28 [((Gm.tB s B).a:Int), ((Gm.tB s B).b:Int), ((Gm.tB s B).c:Int), ((Gm.tB s B).d:Int), ((Gm.tB s B).e:Int), ((Gm.tB s B).f:Int), .slice A15 n16 c17],own (.slice A15 n16 c17) 3 1 n16 (ic l),blk g9 28 [(), (), (), (), (), (), .slice none 0 0],blk g4 28 [((Gm.tB s B).a:Int), ((Gm.tB s B).b:Int), ((Gm.tB s B).c:Int), ((Gm.tB s B).d:Int), ((Gm.tB s B).e:Int), ((Gm.tB s B).f:Int), .slice A n c]] V31):=Lib.hid (S30.out.gr hv32)
  clear S30
  clear hv32
  refine ⟨rfl,hK _ _ ?_⟩
  clear hK
  go_upto_region 2 with fail
  refine wpG_region_k (fun K hK=>?_)
  refine @wpG_p _ _ _ _ _ (some 8) (.func (.func 65) #[] #[.pointer (some ⟨gb,0,none⟩), .pointer (some ⟨sb,0,none⟩)]) _ _ rfl (by rfl) (fun _=>rfl) ?_
  simp only [n1,n3,n4]
  refine @wpG_p _ _ _ _ _ (some 9) (.func (.func 86) #[] #[.pointer (some ⟨g24,0,none⟩)]) _ _ rfl (by rfl) (fun W=>by go_simp) ?_
  simp only [n1,n3,n4]
  refine wpG_call (some 10) 65 #[.func (.func 86) #[] #[.pointer (some ⟨g24,0,none⟩)], .pointer (some ⟨gb,0,none⟩), .pointer (some ⟨sb,0,none⟩)] rfl (by rfl) (fun W=>by go_simp) (fun W35 hg36=>?_)
  obtain ⟨fp_,hA_,hfp_,back_⟩:=St.lend (L:=[blk g24 28 [((Gm.tB s B).a:Int), ((Gm.tB s B).b:Int), ((Gm.tB s B).c:Int), ((Gm.tB s B).d:Int), ((Gm.tB s B).e:Int), ((Gm.tB s B).f:Int), .slice A15 n16 c17],own (.slice A15 n16 c17) 3 1 n16 (ic l)]) (M:=[blk g9 28 [(), (), (), (), (), (), .slice none 0 0],blk g4 28 [((Gm.tB s B).a:Int), ((Gm.tB s B).b:Int), ((Gm.tB s B).c:Int), ((Gm.tB s B).d:Int), ((Gm.tB s B).e:Int), ((Gm.tB s B).f:Int), .slice A n c]]) (((S33.out.gr hg36).front 1 rfl).front 1 rfl)
  refine (gturn1_any s B _ _ _ g24 gb sb l A n c _ w W35 (S33.out.gr hg36).bel (fun k hk=>(hfp_ k hk).resolve_left (fun h=>h)) r1 r2 HGA.out hT hA_ HOK.out).mono ?_
  rintro e w37 ⟨v34,rfl,hS_⟩
  refine ⟨_,rfl, ?_⟩
  have hT_:=back_ hS_
  simp only [n1,n3,n4]
  have S38 : Hid (St w noB [blk g24 28 [((Gm.tB s B).a:Int), ((Gm.tB s B).b:Int), ((Gm.tB s B).c:Int), ((Gm.tB s B).d:Int), ((Gm.tB s B).e:Int), ((Gm.tB s B).f:Int), .slice A15 n16 c17],own (.slice A15 n16 c17) 3 1 n16 (ic (Gm.turn s B l)),blk g9 28 [(), (), (), (), (), (), .slice none 0 0],blk g4 28 [((Gm.tB s B).a:Int), ((Gm.tB s B).b:Int), ((Gm.tB s B).c:Int), ((Gm.tB s B).d:Int), ((Gm.tB s B).e:Int), ((Gm.tB s B).f:Int), .slice A n c]] w37):=Lib.hid hT_
  clear S33
  clear hT_ hS_ hg36 hA_ hfp_ back_
  refine wpG_done (fun V39 hv40=>?_)
  have S41 : Hid (St w noB [blk g24 28 [((Gm.tB s B).a:Int), ((Gm.tB s B).b:Int), ((Gm.tB s B).c:Int), ((Gm.tB s B).d:Int), ((Gm.tB s B).e:Int), ((Gm.tB s B).f:Int), .slice A15 n16 c17],own (.slice A15 n16 c17) 3 1 n16 (ic (Gm.turn s B l)),blk g9 28 [(), (), (), (), (), (), .slice none 0 0],blk g4 28 [((Gm.tB s B).a:Int), ((Gm.tB s B).b:Int), ((Gm.tB s B).c:Int), ((Gm.tB s B).d:Int), ((Gm.tB s B).e:Int), ((Gm.tB s B).f:Int), .slice A n c]] V39):=Lib.hid (S38.out.gr hv40)
  clear S38
  clear hv40
  refine ⟨rfl,hK _ _ ?_⟩
  clear hK
  go_upto_region 3 with fail
  refine wpG_region_k (fun K hK=>?_)
  refine @wpG_tk _ _ _ _ _ (some 11) (.agg #[((Gm.tB s B).a:Int), ((Gm.tB s B).b:Int), ((Gm.tB s B).c:Int), ((Gm.tB s B).d:Int), ((Gm.tB s B).e:Int), ((Gm.tB s B).f:Int), .slice A15 n16 c17]) _ _ rfl (.load_mid (by rfl) 28 (.tmp 5) rfl g24 0 rfl [((Gm.tB s B).a:Int), ((Gm.tB s B).b:Int), ((Gm.tB s B).c:Int), ((Gm.tB s B).d:Int), ((Gm.tB s B).e:Int), ((Gm.tB s B).f:Int), .slice A15 n16 c17] _ (fun W hg=>(S41.out.gr hg).range 0 rfl 0 7 rfl) Tryd.underlying28 rfl (by kernel_rfl)) ?_
  simp only [n1,n3,n4]
  refine wpG_store (none) rfl (by rfl) (fun W42 hg43=>⟨_,run_store_mid 28 (.tmp 4) (.tmp 11) rfl g9 0 #[((Gm.tB s B).a:Int), ((Gm.tB s B).b:Int), ((Gm.tB s B).c:Int), ((Gm.tB s B).d:Int), ((Gm.tB s B).e:Int), ((Gm.tB s B).f:Int), .slice A15 n16 c17] rfl rfl ((S41.out.gr hg43).room 2 rfl 0 7 (by simp)) (by kernel_rfl) (by kernel_rfl), ?_⟩)
  simp only [n2]
  obtain ⟨U44,hu_,hS_⟩:=((S41.out.gr hg43).put 2 rfl 0 (#[((Gm.tB s B).a:Int), ((Gm.tB s B).b:Int), ((Gm.tB s B).c:Int), ((Gm.tB s B).d:Int), ((Gm.tB s B).e:Int), ((Gm.tB s B).f:Int), .slice A15 n16 c17] : Array Value).toList (ds:=[((Gm.tB s B).a:Int), ((Gm.tB s B).b:Int), ((Gm.tB s B).c:Int), ((Gm.tB s B).d:Int), ((Gm.tB s B).e:Int), ((Gm.tB s B).f:Int), .slice A15 n16 c17]) rfl).named
  rw [← hu_]
  have S45 : Hid (St w noB [blk g24 28 [((Gm.tB s B).a:Int), ((Gm.tB s B).b:Int), ((Gm.tB s B).c:Int), ((Gm.tB s B).d:Int), ((Gm.tB s B).e:Int), ((Gm.tB s B).f:Int), .slice A15 n16 c17],own (.slice A15 n16 c17) 3 1 n16 (ic (Gm.turn s B l)),blk g9 28 [((Gm.tB s B).a:Int), ((Gm.tB s B).b:Int), ((Gm.tB s B).c:Int), ((Gm.tB s B).d:Int), ((Gm.tB s B).e:Int), ((Gm.tB s B).f:Int), .slice A15 n16 c17],blk g4 28 [((Gm.tB s B).a:Int), ((Gm.tB s B).b:Int), ((Gm.tB s B).c:Int), ((Gm.tB s B).d:Int), ((Gm.tB s B).e:Int), ((Gm.tB s B).f:Int), .slice A n c]] U44):=Lib.hid hS_
  clear S41
  clear hu_ hS_ hg43
  refine wpG_done (fun V46 hv47=>?_)
  have S48 : Hid (St w noB [blk g24 28 [((Gm.tB s B).a:Int), ((Gm.tB s B).b:Int), ((Gm.tB s B).c:Int), ((Gm.tB s B).d:Int), ((Gm.tB s B).e:Int), ((Gm.tB s B).f:Int), .slice A15 n16 c17],own (.slice A15 n16 c17) 3 1 n16 (ic (Gm.turn s B l)),blk g9 28 [((Gm.tB s B).a:Int), ((Gm.tB s B).b:Int), ((Gm.tB s B).c:Int), ((Gm.tB s B).d:Int), ((Gm.tB s B).e:Int), ((Gm.tB s B).f:Int), .slice A15 n16 c17],blk g4 28 [((Gm.tB s B).a:Int), ((Gm.tB s B).b:Int), ((Gm.tB s B).c:Int), ((Gm.tB s B).d:Int), ((Gm.tB s B).e:Int), ((Gm.tB s B).f:Int), .slice A n c]] V46):=Lib.hid (S45.out.gr hv47)
  clear S45
  clear hv47
  refine ⟨rfl,hK _ _ ?_⟩
  clear hK
  go_wp2_with fail
  (try simp only [Exit.inBlock,Exit.then])
  refine bodyPost_ret (results_cell_mid rfl _ _ _ g9 0 [((Gm.tB s B).a:Int), ((Gm.tB s B).b:Int), ((Gm.tB s B).c:Int), ((Gm.tB s B).d:Int), ((Gm.tB s B).e:Int), ((Gm.tB s B).f:Int), .slice A15 n16 c17] _ rfl (S48.out.range 2 rfl 0 7 rfl) Tryd.underlying28 rfl (by kernel_rfl)) rfl ?_
  exact ⟨A15,n16,c17,rfl,S48.out.sub (.cons _ (.cons_cons _ (.cons _ (.cons _ .slnil))))⟩
set_option maxRecDepth 1000000 in
set_option maxHeartbeats 4000000 in
theorem turng_any (s : Int) (B : Gm.Bx) (A : Option Addr) (n c : Nat) (l : List Int) (w : World) (hG : SL w 1 A n c (ic l)) (hok : Gm.ok B l) (hT : Tab w) :
    Calls Tryd.prog 28 #[s, .agg #[B.a, B.b, B.c, B.d, B.e, B.f, .slice A n c]] w fun e w'=>∃ A n c,e = .returned (.agg #[((Gm.tB s B).a:Int), ((Gm.tB s B).b:Int), ((Gm.tB s B).c:Int), ((Gm.tB s B).d:Int), ((Gm.tB s B).e:Int), ((Gm.tB s B).f:Int), .slice A n c]) ∧ St w noB [own (.slice A n c) 3 1 n (ic (Gm.turn s B l))] w':=by
  have HGA:=Lib.hid hG
  have HLEN : Hid (l.length = n):=Lib.hid (by have h_:=hG.len;rw [ic_len] at h_;omega)
  have hnbHGA : n ≤ 9223372036854775807:=Nat.le_trans hG.cap hG.bnd
  clear hG
  have HOK:=Lib.hid hok
  clear hok
  have HTB:=Lib.hid hT
  clear hT
  have S1 : Hid (St w noB [] w):=Lib.hid (St.start w)
  go_enter Tryd.func28,Tryd.ntmps28
  go_upto_region 0 with fail
  refine wpG_region_k (fun K hK=>?_)
  refine wpG_val (some 2) rfl (by rfl) (fun W2 hg3=>⟨.pointer (some ⟨W2.heap.size,0,none⟩),W2.alloc (.cells #[s] 3),by (first | (go_simp;done) | (go_simp <;> rfl)), ?_⟩)
  simp only [n1,n3,n4]
  obtain ⟨g4,U5,hg_,hu_,hS_⟩:=(S1.out.gr hg3).made [s] 3
  rw [← hu_,← hg_]
  have S6 : Hid (St w noB [blk g4 3 [s]] U5):=Lib.hid hS_
  clear S1
  clear hg_ hu_ hS_ hg3
  refine wpG_val (some 3) rfl (by rfl) (fun W7 hg8=>⟨.pointer (some ⟨W7.heap.size,0,none⟩),W7.alloc (.cells #[B.a, B.b, B.c, B.d, B.e, B.f, .slice A n c] 28),by (first | (go_simp;done) | (go_simp <;> rfl)), ?_⟩)
  simp only [n1,n3,n4]
  obtain ⟨g9,U10,hg_,hu_,hS_⟩:=(S6.out.gr hg8).made [B.a, B.b, B.c, B.d, B.e, B.f, .slice A n c] 28
  rw [← hu_,← hg_]
  have S11 : Hid (St w noB [blk g9 28 [B.a, B.b, B.c, B.d, B.e, B.f, .slice A n c],blk g4 3 [s]] U10):=Lib.hid hS_
  clear S6
  clear hg_ hu_ hS_ hg8
  refine wpG_val (some 4) rfl (by rfl) (fun W12 hg13=>⟨.pointer (some ⟨W12.heap.size,0,none⟩),W12.alloc (.cells #[(), (), (), (), (), (), .slice none 0 0] 28),by (first | (go_simp;done) | (go_simp <;> rfl)), ?_⟩)
  simp only [n1,n3,n4]
  obtain ⟨g14,U15,hg_,hu_,hS_⟩:=(S11.out.gr hg13).made [(), (), (), (), (), (), .slice none 0 0] 28
  rw [← hu_,← hg_]
  have S16 : Hid (St w noB [blk g14 28 [(), (), (), (), (), (), .slice none 0 0],blk g9 28 [B.a, B.b, B.c, B.d, B.e, B.f, .slice A n c],blk g4 3 [s]] U15):=Lib.hid hS_
  clear S11
  clear hg_ hu_ hS_ hg13
  refine wpG_done (fun V17 hv18=>?_)
  have S19 : Hid (St w noB [blk g14 28 [(), (), (), (), (), (), .slice none 0 0],blk g9 28 [B.a, B.b, B.c, B.d, B.e, B.f, .slice A n c],blk g4 3 [s]] V17):=Lib.hid (S16.out.gr hv18)
  clear S16
  clear hv18
  refine ⟨rfl,hK _ _ ?_⟩
  clear hK
  go_upto_region 1 with fail
  refine wpK_region_k (by kernel_rfl) (fun K hK=>?_)
  refine wpK_ta (i:=1) (some 7) (v:=.pointer (some ⟨g9,0,none⟩)) rfl rfl (by kernel_rfl) (fun _ _ _ h=>onN_panic h) (Or.inl ⟨by rfl,fun W=>by go_simp⟩) ?_
  simp only [n1,n3,n4]
  refine wpK_ta (i:=4) (some 10) (v:=.pointer (some ⟨g9,6,none⟩)) rfl rfl (by kernel_rfl) (fun _ _ _ h=>onN_panic h) (Or.inl ⟨by rfl,fun W=>by go_simp⟩) ?_
  simp only [n1,n3,n4]
  refine wpK_tk (i:=0) (some 6) (v:=s) rfl rfl (by kernel_rfl) (fun _ _ _ h=>onN_panic h) (.val (by rfl) (fun W hg=>by have c:=(S19.out.gr (Gr.un hg)).cell 2 rfl 0 rfl;go_simp)) ?_
  simp only [n1,n3,n4]
  refine wpK_tk (i:=2) (some 8) (v:=.agg #[B.a, B.b, B.c, B.d, B.e, B.f]) rfl rfl (by kernel_rfl) (fun _ _ _ h=>onN_panic h) (.load_mid (by rfl) 25 (.tmp 7) rfl g9 0 rfl [B.a, B.b, B.c, B.d, B.e, B.f] _ (fun W hg=>(S19.out.gr (Gr.un hg)).range 1 rfl 0 6 rfl) Tryd.underlying25 rfl (by kernel_rfl)) ?_
  simp only [n1,n3,n4]
  refine wpK_tk (i:=3) (some 9) (v:=.agg #[((Gm.tB s B).a:Int), ((Gm.tB s B).b:Int), ((Gm.tB s B).c:Int), ((Gm.tB s B).d:Int), ((Gm.tB s B).e:Int), ((Gm.tB s B).f:Int)]) rfl rfl (by kernel_rfl) (fun _ _ _ h=>onN_panic h) (.call (f:=64) (args:=#[s, .agg #[B.a, B.b, B.c, B.d, B.e, B.f]]) (by rfl) (fun W=>by go_simp) (fun W hg=>pturnbox_b W s B (HTB.out.below (S19.out.gr (Gr.un hg)).bel) HOK.out.rg)) ?_
  simp only [n1,n3,n4]
  refine wpK_tk (i:=5) (some 11) (v:=.slice A n c) rfl rfl (by kernel_rfl) (fun _ _ _ h=>onN_panic h) (.val (by rfl) (fun W hg=>by have c:=(S19.out.gr (Gr.un hg)).cell 1 rfl 6 rfl;go_simp)) ?_
  simp only [n1,n3,n4]
  refine wpK_ta (i:=6) (some 12) (v:=.agg #[((Gm.tB s B).a:Int), ((Gm.tB s B).b:Int), ((Gm.tB s B).c:Int), ((Gm.tB s B).d:Int), ((Gm.tB s B).e:Int), ((Gm.tB s B).f:Int), .slice A n c]) rfl rfl (by kernel_rfl) (fun _ _ _ h=>onN_panic h) (Or.inl ⟨by rfl,fun W=>by go_simp⟩) ?_
  simp only [n1,n3,n4]
  refine wpK_val (i:=7) (some 5) rfl rfl (by kernel_rfl) (by rfl) (fun W20 hg21=>⟨.pointer (some ⟨W20.heap.size,0,none⟩),W20.alloc (.cells #[(), (), (), (), (), (), .slice none 0 0] 28),by (first | (go_simp;done) | (go_simp <;> rfl)),Gr.al _ _, ?_⟩)
  simp only [n1,n3,n4]
  obtain ⟨g22,U23,hg_,hu_,hS_⟩:=(S19.out.gr (Gr.un hg21)).made [(), (), (), (), (), (), .slice none 0 0] 28
  rw [← hu_,← hg_]
  have S24 : Hid (St w noB [blk g22 28 [(), (), (), (), (), (), .slice none 0 0],blk g14 28 [(), (), (), (), (), (), .slice none 0 0],blk g9 28 [B.a, B.b, B.c, B.d, B.e, B.f, .slice A n c],blk g4 3 [s]] U23):=Lib.hid hS_
  clear S19
  clear hg_ hu_ hS_ hg21
  refine wpK_store (i:=8) (none) rfl rfl (by kernel_rfl) (by rfl) (by rfl) (fun W25 hg26=>⟨_,run_store_mid 28 (.tmp 5) (.tmp 12) rfl g22 0 #[((Gm.tB s B).a:Int), ((Gm.tB s B).b:Int), ((Gm.tB s B).c:Int), ((Gm.tB s B).d:Int), ((Gm.tB s B).e:Int), ((Gm.tB s B).f:Int), .slice A n c] rfl rfl ((S24.out.gr hg26).room 0 rfl 0 7 (by simp)) (by kernel_rfl) (by kernel_rfl), ?_⟩)
  simp only [n2]
  obtain ⟨U27,hu_,hS_⟩:=((S24.out.gr hg26).put 0 rfl 0 (#[((Gm.tB s B).a:Int), ((Gm.tB s B).b:Int), ((Gm.tB s B).c:Int), ((Gm.tB s B).d:Int), ((Gm.tB s B).e:Int), ((Gm.tB s B).f:Int), .slice A n c] : Array Value).toList (ds:=[((Gm.tB s B).a:Int), ((Gm.tB s B).b:Int), ((Gm.tB s B).c:Int), ((Gm.tB s B).d:Int), ((Gm.tB s B).e:Int), ((Gm.tB s B).f:Int), .slice A n c]) rfl).named
  rw [← hu_]
  have S28 : Hid (St w noB [blk g22 28 [((Gm.tB s B).a:Int), ((Gm.tB s B).b:Int), ((Gm.tB s B).c:Int), ((Gm.tB s B).d:Int), ((Gm.tB s B).e:Int), ((Gm.tB s B).f:Int), .slice A n c],blk g14 28 [(), (), (), (), (), (), .slice none 0 0],blk g9 28 [B.a, B.b, B.c, B.d, B.e, B.f, .slice A n c],blk g4 3 [s]] U27):=Lib.hid hS_
  clear S24
  clear hu_ hS_ hg26
  refine wpK_done (by kernel_rfl) (fun V29 hv30=>?_) _
  have S31 : Hid (St w noB [blk g22 28 [((Gm.tB s B).a:Int), ((Gm.tB s B).b:Int), ((Gm.tB s B).c:Int), ((Gm.tB s B).d:Int), ((Gm.tB s B).e:Int), ((Gm.tB s B).f:Int), .slice A n c],blk g14 28 [(), (), (), (), (), (), .slice none 0 0],blk g9 28 [B.a, B.b, B.c, B.d, B.e, B.f, .slice A n c],blk g4 3 [s]] V29):=Lib.hid (S28.out.gr hv30)
  clear S28
  clear hv30
  refine ⟨rfl,hK _ _ ?_⟩
  clear hK
  go_upto_region 2 with fail
  refine wpG_region_k (fun K hK=>?_)
  refine @wpG_tk _ _ _ _ _ (some 13) (.agg #[((Gm.tB s B).a:Int), ((Gm.tB s B).b:Int), ((Gm.tB s B).c:Int), ((Gm.tB s B).d:Int), ((Gm.tB s B).e:Int), ((Gm.tB s B).f:Int), .slice A n c]) _ _ rfl (.load_mid (by rfl) 28 (.tmp 5) rfl g22 0 rfl [((Gm.tB s B).a:Int), ((Gm.tB s B).b:Int), ((Gm.tB s B).c:Int), ((Gm.tB s B).d:Int), ((Gm.tB s B).e:Int), ((Gm.tB s B).f:Int), .slice A n c] _ (fun W hg=>(S31.out.gr hg).range 0 rfl 0 7 rfl) Tryd.underlying28 rfl (by kernel_rfl)) ?_
  simp only [n1,n3,n4]
  refine @wpG_p _ _ _ _ _ (some 14) (.func (.func 65) #[] #[.pointer (some ⟨g9,0,none⟩), .pointer (some ⟨g4,0,none⟩)]) _ _ rfl (by rfl) (fun W=>by go_simp) ?_
  simp only [n1,n3,n4]
  refine wpG_call (some 15) 57 #[.agg #[((Gm.tB s B).a:Int), ((Gm.tB s B).b:Int), ((Gm.tB s B).c:Int), ((Gm.tB s B).d:Int), ((Gm.tB s B).e:Int), ((Gm.tB s B).f:Int), .slice A n c], .func (.func 65) #[] #[.pointer (some ⟨g9,0,none⟩), .pointer (some ⟨g4,0,none⟩)]] rfl (by rfl) (fun W=>by go_simp) (fun W35 hg36=>?_)
  refine (changed_turn B _ _ _ l s g9 g4 W35 (HGA.out.gr (S31.out.gr hg36).bel) HOK.out ((S31.out.gr hg36).row 2 rfl) ((S31.out.gr hg36).row 3 rfl) (HTB.out.below (S31.out.gr hg36).bel)).mono ?_
  rintro e w37 ⟨A32,n33,c34,rfl,hS_⟩
  refine ⟨_,rfl, ?_⟩
  have hT_:=(S31.out.gr hg36).got hS_
  simp only [n1,n3,n4]
  have S38 : Hid (St w noB [own (.slice A32 n33 c34) 3 1 n33 (ic (Gm.turn s B l)),blk g22 28 [((Gm.tB s B).a:Int), ((Gm.tB s B).b:Int), ((Gm.tB s B).c:Int), ((Gm.tB s B).d:Int), ((Gm.tB s B).e:Int), ((Gm.tB s B).f:Int), .slice A n c],blk g14 28 [(), (), (), (), (), (), .slice none 0 0],blk g9 28 [B.a, B.b, B.c, B.d, B.e, B.f, .slice A n c],blk g4 3 [s]] w37):=Lib.hid hT_
  clear S31
  clear hT_ hS_ hg36
  refine wpG_store (none) rfl (by rfl) (fun W39 hg40=>⟨_,run_store_mid 28 (.tmp 4) (.tmp 15) rfl g14 0 #[((Gm.tB s B).a:Int), ((Gm.tB s B).b:Int), ((Gm.tB s B).c:Int), ((Gm.tB s B).d:Int), ((Gm.tB s B).e:Int), ((Gm.tB s B).f:Int), .slice A32 n33 c34] rfl rfl ((S38.out.gr hg40).room 2 rfl 0 7 (by simp)) (by kernel_rfl) (by kernel_rfl), ?_⟩)
  simp only [n2]
  obtain ⟨U41,hu_,hS_⟩:=((S38.out.gr hg40).put 2 rfl 0 (#[((Gm.tB s B).a:Int), ((Gm.tB s B).b:Int), ((Gm.tB s B).c:Int), ((Gm.tB s B).d:Int), ((Gm.tB s B).e:Int), ((Gm.tB s B).f:Int), .slice A32 n33 c34] : Array Value).toList (ds:=[((Gm.tB s B).a:Int), ((Gm.tB s B).b:Int), ((Gm.tB s B).c:Int), ((Gm.tB s B).d:Int), ((Gm.tB s B).e:Int), ((Gm.tB s B).f:Int), .slice A32 n33 c34]) rfl).named
  rw [← hu_]
  have S42 : Hid (St w noB [own (.slice A32 n33 c34) 3 1 n33 (ic (Gm.turn s B l)),blk g22 28 [((Gm.tB s B).a:Int), ((Gm.tB s B).b:Int), ((Gm.tB s B).c:Int), ((Gm.tB s B).d:Int), ((Gm.tB s B).e:Int), ((Gm.tB s B).f:Int), .slice A n c],blk g14 28 [((Gm.tB s B).a:Int), ((Gm.tB s B).b:Int), ((Gm.tB s B).c:Int), ((Gm.tB s B).d:Int), ((Gm.tB s B).e:Int), ((Gm.tB s B).f:Int), .slice A32 n33 c34],blk g9 28 [B.a, B.b, B.c, B.d, B.e, B.f, .slice A n c],blk g4 3 [s]] U41):=Lib.hid hS_
  clear S38
  clear hu_ hS_ hg40
  refine wpG_done (fun V43 hv44=>?_)
  have S45 : Hid (St w noB [own (.slice A32 n33 c34) 3 1 n33 (ic (Gm.turn s B l)),blk g22 28 [((Gm.tB s B).a:Int), ((Gm.tB s B).b:Int), ((Gm.tB s B).c:Int), ((Gm.tB s B).d:Int), ((Gm.tB s B).e:Int), ((Gm.tB s B).f:Int), .slice A n c],blk g14 28 [((Gm.tB s B).a:Int), ((Gm.tB s B).b:Int), ((Gm.tB s B).c:Int), ((Gm.tB s B).d:Int), ((Gm.tB s B).e:Int), ((Gm.tB s B).f:Int), .slice A32 n33 c34],blk g9 28 [B.a, B.b, B.c, B.d, B.e, B.f, .slice A n c],blk g4 3 [s]] V43):=Lib.hid (S42.out.gr hv44)
  clear S42
  clear hv44
  refine ⟨rfl,hK _ _ ?_⟩
  clear hK
  go_wp2_with fail
  (try simp only [Exit.inBlock,Exit.then])
  refine bodyPost_ret (results_cell_mid rfl _ _ _ g14 0 [((Gm.tB s B).a:Int), ((Gm.tB s B).b:Int), ((Gm.tB s B).c:Int), ((Gm.tB s B).d:Int), ((Gm.tB s B).e:Int), ((Gm.tB s B).f:Int), .slice A32 n33 c34] _ rfl (S45.out.range 2 rfl 0 7 rfl) Tryd.underlying28 rfl (by kernel_rfl)) rfl ?_
  exact ⟨A32,n33,c34,rfl,S45.out.sub (.cons_cons _ (.cons _ (.cons _ (.cons _ (.cons _ .slnil)))))⟩
end Go.Proofs.YtpapbbolefnkmaaDoor
