/-
  Package grid: a cell set, a list of changes written.
-/
import Derived.Test.YtjdeaopdbenamaaDoorZD42
import Derived.Handy
namespace Go.Proofs.YtjdeaopdbenamaaDoor
open Go Go.RowKit
set_option linter.unusedVariables false
set_option linter.unusedSimpArgs false
set_option maxRecDepth 1000000 in
set_option maxHeartbeats 4000000 in
theorem set_any (B : Gm.Bx) (A : Option Addr) (n c : Nat) (l : List Int) (x y z m : Int) (w : World) (hG : SL w 1 A n c (ic l)) (hok : Gm.ok B l) (hp : Gm.rp3 x y z) :
    Calls Tryd.prog 22 #[.agg #[.int .i64 B.a, .int .i64 B.b, .int .i64 B.c, .int .i64 B.d, .int .i64 B.e, .int .i64 B.f, .slice A n c], .agg #[.int .i64 x, .int .i64 y, .int .i64 z], .int .i64 m] w fun e w' => ∃ A n c,e = .returned (.agg #[.int .i64 B.a, .int .i64 B.b, .int .i64 B.c, .int .i64 B.d, .int .i64 B.e, .int .i64 B.f, .slice A n c]) ∧ St w noB [own (.slice A n c) 3 1 n (ic (Gm.wr1 B l ⟨x,y,z,0,m⟩))] w':=by
  have HGA:=Lib.hid hG
  have HLEN : Hid (l.length = n):=Lib.hid (by have h_:=hG.len;rw [ic_len] at h_;omega)
  have hnbHGA : n ≤ 9223372036854775807:=Nat.le_trans hG.cap hG.bnd
  clear hG
  have HOK:=Lib.hid hok
  clear hok
  have S1 : Hid (St w noB [] w):=Lib.hid (St.start w)
  go_enter Tryd.func22,Tryd.ntmps22
  go_upto_region 0 with fail
  refine wpG_region_k (fun K hK => ?_)
  refine wpG_val (some 3) rfl (by rfl) (fun W2 hg3 => ⟨.pointer (some ⟨W2.heap.size,0,none⟩),W2.alloc (.cells #[.int .i64 B.a, .int .i64 B.b, .int .i64 B.c, .int .i64 B.d, .int .i64 B.e, .int .i64 B.f, .slice A n c] 28),by (first | (go_simp;done) | (go_simp <;> rfl)), ?_⟩)
  simp only [n1,n3,n4]
  obtain ⟨g4,U5,hg_,hu_,hS_⟩:=(S1.out.gr hg3).made [.int .i64 B.a, .int .i64 B.b, .int .i64 B.c, .int .i64 B.d, .int .i64 B.e, .int .i64 B.f, .slice A n c] 28
  rw [← hu_,← hg_]
  have S6 : Hid (St w noB [blk g4 28 [.int .i64 B.a, .int .i64 B.b, .int .i64 B.c, .int .i64 B.d, .int .i64 B.e, .int .i64 B.f, .slice A n c]] U5):=Lib.hid hS_
  clear S1
  clear hg_ hu_ hS_ hg3
  refine wpG_val (some 4) rfl (by rfl) (fun W7 hg8 => ⟨.pointer (some ⟨W7.heap.size,0,none⟩),W7.alloc (.cells #[.int .i64 x, .int .i64 y, .int .i64 z] 23),by (first | (go_simp;done) | (go_simp <;> rfl)), ?_⟩)
  simp only [n1,n3,n4]
  obtain ⟨g9,U10,hg_,hu_,hS_⟩:=(S6.out.gr hg8).made [.int .i64 x, .int .i64 y, .int .i64 z] 23
  rw [← hu_,← hg_]
  have S11 : Hid (St w noB [blk g9 23 [.int .i64 x, .int .i64 y, .int .i64 z],blk g4 28 [.int .i64 B.a, .int .i64 B.b, .int .i64 B.c, .int .i64 B.d, .int .i64 B.e, .int .i64 B.f, .slice A n c]] U10):=Lib.hid hS_
  clear S6
  clear hg_ hu_ hS_ hg8
  refine wpG_val (some 5) rfl (by rfl) (fun W12 hg13 => ⟨.pointer (some ⟨W12.heap.size,0,none⟩),W12.alloc (.cells #[.int .i64 m] 3),by (first | (go_simp;done) | (go_simp <;> rfl)), ?_⟩)
  simp only [n1,n3,n4]
  obtain ⟨g14,U15,hg_,hu_,hS_⟩:=(S11.out.gr hg13).made [.int .i64 m] 3
  rw [← hu_,← hg_]
  have S16 : Hid (St w noB [blk g14 3 [.int .i64 m],blk g9 23 [.int .i64 x, .int .i64 y, .int .i64 z],blk g4 28 [.int .i64 B.a, .int .i64 B.b, .int .i64 B.c, .int .i64 B.d, .int .i64 B.e, .int .i64 B.f, .slice A n c]] U15):=Lib.hid hS_
  clear S11
  clear hg_ hu_ hS_ hg13
  refine wpG_val (some 6) rfl (by rfl) (fun W17 hg18 => ⟨.pointer (some ⟨W17.heap.size,0,none⟩),W17.alloc (.cells #[.int .i64 0, .int .i64 0, .int .i64 0, .int .i64 0, .int .i64 0, .int .i64 0, .slice none 0 0] 28),by (first | (go_simp;done) | (go_simp <;> rfl)), ?_⟩)
  simp only [n1,n3,n4]
  obtain ⟨g19,U20,hg_,hu_,hS_⟩:=(S16.out.gr hg18).made [.int .i64 0, .int .i64 0, .int .i64 0, .int .i64 0, .int .i64 0, .int .i64 0, .slice none 0 0] 28
  rw [← hu_,← hg_]
  have S21 : Hid (St w noB [blk g19 28 [.int .i64 0, .int .i64 0, .int .i64 0, .int .i64 0, .int .i64 0, .int .i64 0, .slice none 0 0],blk g14 3 [.int .i64 m],blk g9 23 [.int .i64 x, .int .i64 y, .int .i64 z],blk g4 28 [.int .i64 B.a, .int .i64 B.b, .int .i64 B.c, .int .i64 B.d, .int .i64 B.e, .int .i64 B.f, .slice A n c]] U20):=Lib.hid hS_
  clear S16
  clear hg_ hu_ hS_ hg18
  refine wpG_done (fun V22 hv23 => ?_)
  have S24 : Hid (St w noB [blk g19 28 [.int .i64 0, .int .i64 0, .int .i64 0, .int .i64 0, .int .i64 0, .int .i64 0, .slice none 0 0],blk g14 3 [.int .i64 m],blk g9 23 [.int .i64 x, .int .i64 y, .int .i64 z],blk g4 28 [.int .i64 B.a, .int .i64 B.b, .int .i64 B.c, .int .i64 B.d, .int .i64 B.e, .int .i64 B.f, .slice A n c]] V22):=Lib.hid (S21.out.gr hv23)
  clear S21
  clear hv23
  refine ⟨rfl,hK _ _ ?_⟩
  clear hK
  go_upto_region 1 with fail
  refine wpG_region_k (fun K hK => ?_)
  refine @wpG_tk _ _ _ _ _ (some 7) (.agg #[.int .i64 B.a, .int .i64 B.b, .int .i64 B.c, .int .i64 B.d, .int .i64 B.e, .int .i64 B.f, .slice A n c]) _ _ rfl (.load_mid (by rfl) 28 (.tmp 3) rfl g4 0 rfl [.int .i64 B.a, .int .i64 B.b, .int .i64 B.c, .int .i64 B.d, .int .i64 B.e, .int .i64 B.f, .slice A n c] _ (fun W hg => (S24.out.gr hg).range 3 rfl 0 7 rfl) Tryd.underlying28 rfl (by kernel_rfl)) ?_
  simp only [n1,n3,n4]
  refine @wpG_p _ _ _ _ _ (some 8) (.func (.func 58) #[] #[.pointer (some ⟨g9,0,none⟩), .pointer (some ⟨g14,0,none⟩)]) _ _ rfl (by rfl) (fun W => by go_simp) ?_
  simp only [n1,n3,n4]
  refine wpG_call (some 9) 57 #[.agg #[.int .i64 B.a, .int .i64 B.b, .int .i64 B.c, .int .i64 B.d, .int .i64 B.e, .int .i64 B.f, .slice A n c], .func (.func 58) #[] #[.pointer (some ⟨g9,0,none⟩), .pointer (some ⟨g14,0,none⟩)]] rfl (by rfl) (fun W => by go_simp) (fun W28 hg29 => ?_)
  refine (changed_set B _ _ _ l x y z m g9 g14 W28 (HGA.out.gr (S24.out.gr hg29).bel) HOK.out ((S24.out.gr hg29).row 2 rfl) ((S24.out.gr hg29).row 1 rfl) hp).mono ?_
  rintro e w30 ⟨A25,n26,c27,rfl,hS_⟩
  refine ⟨_,rfl, ?_⟩
  have hT_:=(S24.out.gr hg29).got hS_
  simp only [n1,n3,n4]
  have S31 : Hid (St w noB [own (.slice A25 n26 c27) 3 1 n26 (ic (Gm.wr1 B l ⟨x,y,z,0,m⟩)),blk g19 28 [.int .i64 0, .int .i64 0, .int .i64 0, .int .i64 0, .int .i64 0, .int .i64 0, .slice none 0 0],blk g14 3 [.int .i64 m],blk g9 23 [.int .i64 x, .int .i64 y, .int .i64 z],blk g4 28 [.int .i64 B.a, .int .i64 B.b, .int .i64 B.c, .int .i64 B.d, .int .i64 B.e, .int .i64 B.f, .slice A n c]] w30):=Lib.hid hT_
  clear S24
  clear hT_ hS_ hg29
  refine wpG_store (none) rfl (by rfl) (fun W32 hg33 => ⟨_,run_store_mid 28 (.tmp 6) (.tmp 9) rfl g19 0 #[.int .i64 B.a, .int .i64 B.b, .int .i64 B.c, .int .i64 B.d, .int .i64 B.e, .int .i64 B.f, .slice A25 n26 c27] rfl rfl ((S31.out.gr hg33).room 1 rfl 0 7 (by simp)) (by kernel_rfl) (by kernel_rfl), ?_⟩)
  simp only [n2]
  obtain ⟨U34,hu_,hS_⟩:=((S31.out.gr hg33).put 1 rfl 0 (#[.int .i64 B.a, .int .i64 B.b, .int .i64 B.c, .int .i64 B.d, .int .i64 B.e, .int .i64 B.f, .slice A25 n26 c27] : Array Value).toList (ds:=[.int .i64 B.a, .int .i64 B.b, .int .i64 B.c, .int .i64 B.d, .int .i64 B.e, .int .i64 B.f, .slice A25 n26 c27]) rfl).named
  rw [← hu_]
  have S35 : Hid (St w noB [own (.slice A25 n26 c27) 3 1 n26 (ic (Gm.wr1 B l ⟨x,y,z,0,m⟩)),blk g19 28 [.int .i64 B.a, .int .i64 B.b, .int .i64 B.c, .int .i64 B.d, .int .i64 B.e, .int .i64 B.f, .slice A25 n26 c27],blk g14 3 [.int .i64 m],blk g9 23 [.int .i64 x, .int .i64 y, .int .i64 z],blk g4 28 [.int .i64 B.a, .int .i64 B.b, .int .i64 B.c, .int .i64 B.d, .int .i64 B.e, .int .i64 B.f, .slice A n c]] U34):=Lib.hid hS_
  clear S31
  clear hu_ hS_ hg33
  refine wpG_done (fun V36 hv37 => ?_)
  have S38 : Hid (St w noB [own (.slice A25 n26 c27) 3 1 n26 (ic (Gm.wr1 B l ⟨x,y,z,0,m⟩)),blk g19 28 [.int .i64 B.a, .int .i64 B.b, .int .i64 B.c, .int .i64 B.d, .int .i64 B.e, .int .i64 B.f, .slice A25 n26 c27],blk g14 3 [.int .i64 m],blk g9 23 [.int .i64 x, .int .i64 y, .int .i64 z],blk g4 28 [.int .i64 B.a, .int .i64 B.b, .int .i64 B.c, .int .i64 B.d, .int .i64 B.e, .int .i64 B.f, .slice A n c]] V36):=Lib.hid (S35.out.gr hv37)
  clear S35
  clear hv37
  refine ⟨rfl,hK _ _ ?_⟩
  clear hK
  go_wp2_with fail
  (try simp only [Exit.inBlock,Exit.then])
  refine bodyPost_ret (results_cell_mid rfl _ _ _ g19 0 [.int .i64 B.a, .int .i64 B.b, .int .i64 B.c, .int .i64 B.d, .int .i64 B.e, .int .i64 B.f, .slice A25 n26 c27] _ rfl (S38.out.range 1 rfl 0 7 rfl) Tryd.underlying28 rfl (by kernel_rfl)) rfl ?_
  exact ⟨A25,n26,c27,rfl,S38.out.sub (.cons_cons _ (.cons _ (.cons _ (.cons _ (.cons _ .slnil)))))⟩
theorem Gm.wr_snoc1 {B : Gm.Bx} {l : List Int} {cs : List Gm.Ch} {k : Nat} (h : k < cs.length) : Gm.wr B l (cs.take (k + 1)) = Gm.wr1 B (Gm.wr B l (cs.take k)) ⟨(Gm.cat cs k).x,(Gm.cat cs k).y,(Gm.cat cs k).z,0,(Gm.cat cs k).n⟩:=by
  rw [Gm.take_cat h,Gm.wr_snoc];rfl
set_option maxRecDepth 1000000 in
set_option maxHeartbeats 4000000 in
theorem write1_any (B : Gm.Bx) (A : Option Addr) (n c hb db : Nat) (l : List Int) (D : Option Addr) (nd cd : Nat) (cs : List Gm.Ch) (F : Nat → Prop) (w00 : World) (w : World) (hW0 : Gr w00 w) (hF : ∀ k,F k → w00.heap.size ≤ k) (r1 : Row db [.slice D nd cd] w00) (hC : SL w00 5 D nd cd (ccs cs)) (hcs : ∀ c ∈ cs,Gm.rp3 c.x c.y c.z) (hS : Sts [blk hb 28 [.int .i64 B.a, .int .i64 B.b, .int .i64 B.c, .int .i64 B.d, .int .i64 B.e, .int .i64 B.f, .slice A n c],own (.slice A n c) 3 1 n (ic l)] w F) (hok : Gm.ok B l) :
    Calls Tryd.prog 63 #[.func (.func 86) #[] #[.pointer (some ⟨hb,0,none⟩)], .pointer (some ⟨db,0,none⟩)] w fun e w' => (∃ v,e = .returned v ∧ St w F [blk hb 28 [.int .i64 B.a, .int .i64 B.b, .int .i64 B.c, .int .i64 B.d, .int .i64 B.e, .int .i64 B.f, .slice A n c],own (.slice A n c) 3 1 n (ic (Gm.wr B l cs))] w'):=by
  have HOK:=Lib.hid hok
  clear hok
  have HLEN : Hid (l.length = n):=Lib.hid (by have h_:=own_icl ((St.borrow hS).ownr 1 rfl);omega)
  have HW00:=Lib.hid hW0
  have HF00:=Lib.hid hF
  clear hW0 hF
  have HCT:=Lib.hid hC
  have HCL : Hid (cs.length = nd):=Lib.hid (by have h_:=hC.len;rw [ccs_len] at h_;omega)
  have hnbc : nd ≤ 9223372036854775807:=Nat.le_trans hC.cap hC.bnd
  clear hC
  have HCS:=Lib.hid hcs
  clear hcs
  have HP1:=Lib.hid r1
  clear r1
  have S1 : Hid (St w F [blk hb 28 [.int .i64 B.a, .int .i64 B.b, .int .i64 B.c, .int .i64 B.d, .int .i64 B.e, .int .i64 B.f, .slice A n c],own (.slice A n c) 3 1 n (ic l)] w):=Lib.hid (St.borrow hS)
  go_enter Tryd.func63,Tryd.ntmps63
  go_upto_region 0 with fail
  refine wpG_region_k (fun K hK => ?_)
  refine @wpG_r _ _ _ _ _ (some 5) (.slice D nd cd) _ _ rfl (by rfl) (fun W hg => by have c:=((HP1.out.below ((S1.out.gr hg).belo HW00.out HF00.out)).range) 0 _ rfl;(try simp only [Nat.add_zero,Nat.zero_add] at c);go_simp) ?_
  simp only [n1,n3,n4]
  refine @wpG_p _ _ _ _ _ (some 6) (.int .i64 (nd : Int)) _ _ rfl (by rfl) (fun W => by go_simp) ?_
  simp only [n1,n3,n4]
  refine @wpG_p _ _ _ _ _ (some 7) (.int .i64 0) _ _ rfl (by rfl) (fun _ => rfl) ?_
  simp only [n1,n3,n4]
  refine wpG_done (fun V2 hv3 => ?_)
  have S4 : Hid (St w F [blk hb 28 [.int .i64 B.a, .int .i64 B.b, .int .i64 B.c, .int .i64 B.d, .int .i64 B.e, .int .i64 B.f, .slice A n c],own (.slice A n c) 3 1 n (ic l)] V2):=Lib.hid (S1.out.gr hv3)
  clear S1
  clear hv3
  refine ⟨rfl,hK _ _ ?_⟩
  clear hK
  go_wp2_with fail
  go_loopw [7] (fun v7 wr => ∃ (k : Nat),v7 = .int .i64 (k : Int) ∧ k ≤ nd ∧ St w F [blk hb 28 [.int .i64 B.a, .int .i64 B.b, .int .i64 B.c, .int .i64 B.d, .int .i64 B.e, .int .i64 B.f, .slice A n c],own (.slice A n c) 3 1 n (ic (Gm.wr B l (cs.take k)))] wr) (fun i _ => nd - (intOf i).toNat)
  case atStart => exact ⟨0,rfl,Nat.zero_le _,S4.out⟩
  case round =>
    obtain ⟨k,rfl,hkn,hS⟩:=hrel
    have SL:=Lib.hid hS
    clear S4 hS
    have S5:=SL
    clear SL
    go_upto_region 1 with fail
    refine wpG_region_k (fun K hK => ?_)
    refine @wpG_p _ _ _ _ _ (some 8) (.bool (decide ((k : Int) < (nd : Int)))) _ _ rfl (by rfl) (fun W => op_int_lss W (k : Int) (nd : Int) rfl rfl rfl Tryd.underlying3) ?_
    simp only [n1,n3,n4]
    refine wpG_done (fun V6 hv7 => ?_)
    have S8 : Hid (St w F [blk hb 28 [.int .i64 B.a, .int .i64 B.b, .int .i64 B.c, .int .i64 B.d, .int .i64 B.e, .int .i64 B.f, .slice A n c],own (.slice A n c) 3 1 n (ic (Gm.wr B l (cs.take k)))] V6):=Lib.hid (S5.out.gr hv7)
    clear S5
    clear hv7
    refine ⟨rfl,hK _ _ ?_⟩
    clear hK
    obtain ⟨c9,hc9⟩ : ∃ q_,q_ = (decide ((k : Int) < (nd : Int))):=⟨_,rfl⟩
    rw [← hc9]
    have Hc9:=Lib.hid hc9
    clear hc9
    cases c9 with
    | true =>
      have f10:=of_decide_eq_true Hc9.out.symm
      go_upto_region 2 with fail
      refine wpG_region_k (fun K hK => ?_)
      obtain ⟨b11,o11,rfl⟩:=HCT.out.addr (by decide) (by omega)
      refine @wpG_p _ _ _ _ _ (some 9) (.pointer (some ⟨b11,o11 + k * 5,none⟩)) _ _ rfl (by rfl) (fun W => by (go_simp <;> first | rfl | omega | (simp;omega))) ?_
      simp only [n1,n3,n4]
      refine @wpG_tk _ _ _ _ _ (some 10) (.agg #[.int .i64 ((Gm.cat cs k).x), .int .i64 ((Gm.cat cs k).y), .int .i64 ((Gm.cat cs k).z), .int .i64 ((Gm.cat cs k).o), .int .i64 ((Gm.cat cs k).n)]) _ _ rfl (.load_mid (by rfl) 74 (.tmp 9) rfl b11 (o11 + k * 5) rfl [.int .i64 ((Gm.cat cs k).x), .int .i64 ((Gm.cat cs k).y), .int .i64 ((Gm.cat cs k).z), .int .i64 ((Gm.cat cs k).o), .int .i64 ((Gm.cat cs k).n)] _ (fun W hg => ((HCT.out.gr (((S8.out.gr hg)).belo HW00.out HF00.out)).chg (l:=cs) k (by (have:=HCL.out;omega)))) Tryd.underlying74 rfl (by kernel_rfl)) ?_
      simp only [n1,n3,n4]
      refine wpG_val (some 4) rfl (by rfl) (fun W12 hg13 => ⟨.pointer (some ⟨W12.heap.size,0,none⟩),W12.alloc (.cells #[.int .i64 0, .int .i64 0, .int .i64 0, .int .i64 0, .int .i64 0] 74),by (first | (go_simp;done) | (go_simp <;> rfl)), ?_⟩)
      simp only [n1,n3,n4]
      obtain ⟨g14,U15,hg_,hu_,hS_⟩:=(S8.out.gr hg13).made [.int .i64 0, .int .i64 0, .int .i64 0, .int .i64 0, .int .i64 0] 74
      rw [← hu_,← hg_]
      have S16 : Hid (St w F [blk g14 74 [.int .i64 0, .int .i64 0, .int .i64 0, .int .i64 0, .int .i64 0],blk hb 28 [.int .i64 B.a, .int .i64 B.b, .int .i64 B.c, .int .i64 B.d, .int .i64 B.e, .int .i64 B.f, .slice A n c],own (.slice A n c) 3 1 n (ic (Gm.wr B l (cs.take k)))] U15):=Lib.hid hS_
      clear S8
      clear hg_ hu_ hS_ hg13
      refine wpG_store (none) rfl (by rfl) (fun W17 hg18 => ⟨_,run_store_mid 74 (.tmp 4) (.tmp 10) rfl g14 0 #[.int .i64 ((Gm.cat cs k).x), .int .i64 ((Gm.cat cs k).y), .int .i64 ((Gm.cat cs k).z), .int .i64 ((Gm.cat cs k).o), .int .i64 ((Gm.cat cs k).n)] rfl rfl ((S16.out.gr hg18).room 0 rfl 0 5 (by simp)) (by kernel_rfl) (by kernel_rfl), ?_⟩)
      simp only [n2]
      obtain ⟨U19,hu_,hS_⟩:=((S16.out.gr hg18).put 0 rfl 0 (#[.int .i64 ((Gm.cat cs k).x), .int .i64 ((Gm.cat cs k).y), .int .i64 ((Gm.cat cs k).z), .int .i64 ((Gm.cat cs k).o), .int .i64 ((Gm.cat cs k).n)] : Array Value).toList (ds:=[.int .i64 ((Gm.cat cs k).x), .int .i64 ((Gm.cat cs k).y), .int .i64 ((Gm.cat cs k).z), .int .i64 ((Gm.cat cs k).o), .int .i64 ((Gm.cat cs k).n)]) rfl).named
      rw [← hu_]
      have S20 : Hid (St w F [blk g14 74 [.int .i64 ((Gm.cat cs k).x), .int .i64 ((Gm.cat cs k).y), .int .i64 ((Gm.cat cs k).z), .int .i64 ((Gm.cat cs k).o), .int .i64 ((Gm.cat cs k).n)],blk hb 28 [.int .i64 B.a, .int .i64 B.b, .int .i64 B.c, .int .i64 B.d, .int .i64 B.e, .int .i64 B.f, .slice A n c],own (.slice A n c) 3 1 n (ic (Gm.wr B l (cs.take k)))] U19):=Lib.hid hS_
      clear S16
      clear hu_ hS_ hg18
      refine wpG_done (fun V21 hv22 => ?_)
      have S23 : Hid (St w F [blk g14 74 [.int .i64 ((Gm.cat cs k).x), .int .i64 ((Gm.cat cs k).y), .int .i64 ((Gm.cat cs k).z), .int .i64 ((Gm.cat cs k).o), .int .i64 ((Gm.cat cs k).n)],blk hb 28 [.int .i64 B.a, .int .i64 B.b, .int .i64 B.c, .int .i64 B.d, .int .i64 B.e, .int .i64 B.f, .slice A n c],own (.slice A n c) 3 1 n (ic (Gm.wr B l (cs.take k)))] V21):=Lib.hid (S20.out.gr hv22)
      clear S20
      clear hv22
      refine ⟨rfl,hK _ _ ?_⟩
      clear hK
      go_upto_region 3 with fail
      refine wpG_region_k (fun K hK => ?_)
      refine @wpG_p _ _ _ _ _ (some 11) (.func (.func 86) #[] #[.pointer (some ⟨hb,0,none⟩)]) _ _ rfl (by rfl) (fun _ => rfl) ?_
      simp only [n1,n3,n4]
      refine @wpG_p _ _ _ _ _ (some 12) (.pointer (some ⟨g14,0,none⟩)) _ _ rfl (by rfl) (fun W => by go_simp) ?_
      simp only [n1,n3,n4]
      refine @wpG_tk _ _ _ _ _ (some 13) (.agg #[.int .i64 ((Gm.cat cs k).x), .int .i64 ((Gm.cat cs k).y), .int .i64 ((Gm.cat cs k).z)]) _ _ rfl (.load_mid (by rfl) 23 (.tmp 12) rfl g14 0 rfl [.int .i64 ((Gm.cat cs k).x), .int .i64 ((Gm.cat cs k).y), .int .i64 ((Gm.cat cs k).z)] _ (fun W hg => (S23.out.gr hg).range 0 rfl 0 3 rfl) Tryd.underlying23 rfl (by kernel_rfl)) ?_
      simp only [n1,n3,n4]
      refine @wpG_p _ _ _ _ _ (some 14) (.pointer (some ⟨g14,4,none⟩)) _ _ rfl (by rfl) (fun W => by go_simp) ?_
      simp only [n1,n3,n4]
      refine @wpG_r _ _ _ _ _ (some 15) (.int .i64 ((Gm.cat cs k).n)) _ _ rfl (by rfl) (fun W hg => by have c:=(S23.out.gr hg).cell 0 rfl 4 rfl;go_simp) ?_
      simp only [n1,n3,n4]
      refine wpG_call (some 16) 86 #[.agg #[.int .i64 ((Gm.cat cs k).x), .int .i64 ((Gm.cat cs k).y), .int .i64 ((Gm.cat cs k).z)], .int .i64 ((Gm.cat cs k).n), .pointer (some ⟨hb,0,none⟩)] rfl (by rfl) (fun W => by go_simp) (fun W25 hg26 => ?_)
      obtain ⟨fp_,hA_,hfp_,back_⟩:=St.lend (L:=[blk hb 28 [.int .i64 B.a, .int .i64 B.b, .int .i64 B.c, .int .i64 B.d, .int .i64 B.e, .int .i64 B.f, .slice A n c],own (.slice A n c) 3 1 n (ic (Gm.wr B l (cs.take k)))]) (M:=[blk g14 74 [.int .i64 ((Gm.cat cs k).x), .int .i64 ((Gm.cat cs k).y), .int .i64 ((Gm.cat cs k).z), .int .i64 ((Gm.cat cs k).o), .int .i64 ((Gm.cat cs k).n)]]) (((S23.out.gr hg26).front 2 rfl).front 2 rfl)
      refine (changed1_any B _ _ _ hb (Gm.wr B l (cs.take k)) ((Gm.cat cs k).x) ((Gm.cat cs k).y) ((Gm.cat cs k).z) ((Gm.cat cs k).n) _ W25 hA_ (Gm.wr_ok HOK.out) (HCS.out _ (Gm.cat_mem (by have:=HCL.out;omega)))).mono ?_
      rintro e w27 ⟨v24,rfl,hS_⟩
      refine ⟨_,rfl, ?_⟩
      have hT_:=back_ hS_
      simp only [n1,n3,n4]
      have S28 : Hid (St w F [blk hb 28 [.int .i64 B.a, .int .i64 B.b, .int .i64 B.c, .int .i64 B.d, .int .i64 B.e, .int .i64 B.f, .slice A n c],own (.slice A n c) 3 1 n (ic (Gm.wr1 B (Gm.wr B l (cs.take k)) ⟨((Gm.cat cs k).x),((Gm.cat cs k).y),((Gm.cat cs k).z),0,((Gm.cat cs k).n)⟩)),blk g14 74 [.int .i64 ((Gm.cat cs k).x), .int .i64 ((Gm.cat cs k).y), .int .i64 ((Gm.cat cs k).z), .int .i64 ((Gm.cat cs k).o), .int .i64 ((Gm.cat cs k).n)]] w27):=Lib.hid hT_
      clear S23
      clear hT_ hS_ hg26 hA_ hfp_ back_
      refine wpG_done (fun V29 hv30 => ?_)
      have S31 : Hid (St w F [blk hb 28 [.int .i64 B.a, .int .i64 B.b, .int .i64 B.c, .int .i64 B.d, .int .i64 B.e, .int .i64 B.f, .slice A n c],own (.slice A n c) 3 1 n (ic (Gm.wr1 B (Gm.wr B l (cs.take k)) ⟨((Gm.cat cs k).x),((Gm.cat cs k).y),((Gm.cat cs k).z),0,((Gm.cat cs k).n)⟩)),blk g14 74 [.int .i64 ((Gm.cat cs k).x), .int .i64 ((Gm.cat cs k).y), .int .i64 ((Gm.cat cs k).z), .int .i64 ((Gm.cat cs k).o), .int .i64 ((Gm.cat cs k).n)]] V29):=Lib.hid (S28.out.gr hv30)
      clear S28
      clear hv30
      refine ⟨rfl,hK _ _ ?_⟩
      clear hK
      go_upto_region 4 with fail
      refine wpG_region_k (fun K hK => ?_)
      refine @wpG_p _ _ _ _ _ (some 17) (.int .i64 ((k : Int) + 1)) _ _ rfl (by rfl) (fun W => op_i_add W (k : Int) 1 (by omega) rfl rfl rfl Tryd.underlying3) ?_
      simp only [n1,n3,n4]
      refine @wpG_p _ _ _ _ _ (some 7) (.int .i64 ((k : Int) + 1)) _ _ rfl (by rfl) (fun _ => rfl) ?_
      simp only [n1,n3,n4]
      refine wpG_done (fun V32 hv33 => ?_)
      have S34 : Hid (St w F [blk hb 28 [.int .i64 B.a, .int .i64 B.b, .int .i64 B.c, .int .i64 B.d, .int .i64 B.e, .int .i64 B.f, .slice A n c],own (.slice A n c) 3 1 n (ic (Gm.wr1 B (Gm.wr B l (cs.take k)) ⟨((Gm.cat cs k).x),((Gm.cat cs k).y),((Gm.cat cs k).z),0,((Gm.cat cs k).n)⟩)),blk g14 74 [.int .i64 ((Gm.cat cs k).x), .int .i64 ((Gm.cat cs k).y), .int .i64 ((Gm.cat cs k).z), .int .i64 ((Gm.cat cs k).o), .int .i64 ((Gm.cat cs k).n)]] V32):=Lib.hid (S31.out.gr hv33)
      clear S31
      clear hv33
      refine ⟨rfl,hK _ _ ?_⟩
      clear hK
      go_wp2_with fail
      go_roundw
      have S35 : Hid (St w F [blk hb 28 [.int .i64 B.a, .int .i64 B.b, .int .i64 B.c, .int .i64 B.d, .int .i64 B.e, .int .i64 B.f, .slice A n c],own (.slice A n c) 3 1 n (ic (Gm.wr1 B (Gm.wr B l (cs.take k)) ⟨((Gm.cat cs k).x),((Gm.cat cs k).y),((Gm.cat cs k).z),0,((Gm.cat cs k).n)⟩))] V32):=Lib.hid (S34.out.sub (.cons_cons _ (.cons_cons _ (.cons _ .slnil))))
      clear S34
      case rel => exact ⟨k + 1,(by first | rfl | go_num),(by omega),(by rw [Gm.wr_snoc1 (by have:=HCL.out;omega)];exact S35.out)⟩
      case measure => first | (simp only [intOf];omega) | (simp [intOf];done) | (simp [intOf];omega) | omega
    | false =>
      have f36:=of_decide_eq_false Hc9.out.symm
      go_wp2_with fail
      go_end0
      (first | refine ⟨_,rfl, ?_⟩ | refine ⟨⟨_,rfl⟩, ?_⟩ | skip)
      rw [show Gm.wr B l cs = Gm.wr B l (cs.take k) by rw [List.take_of_length_le (by have:=HCL.out;omega)]];exact S8.out.sub (.cons_cons _ (.cons_cons _ .slnil))
set_option maxRecDepth 1000000 in
set_option maxHeartbeats 4000000 in
theorem changed_write (B : Gm.Bx) (A : Option Addr) (n c : Nat) (l : List Int) (D : Option Addr) (nd cd : Nat) (cs : List Gm.Ch) (db : Nat) (w : World) (hG : SL w 1 A n c (ic l)) (hok : Gm.ok B l) (r1 : Row db [.slice D nd cd] w) (hC : SL w 5 D nd cd (ccs cs)) (hcs : ∀ c ∈ cs,Gm.rp3 c.x c.y c.z) :
    Calls Tryd.prog 57 #[.agg #[.int .i64 B.a, .int .i64 B.b, .int .i64 B.c, .int .i64 B.d, .int .i64 B.e, .int .i64 B.f, .slice A n c], .func (.func 63) #[] #[.pointer (some ⟨db,0,none⟩)]] w fun e w' => ∃ A n c,e = .returned (.agg #[.int .i64 B.a, .int .i64 B.b, .int .i64 B.c, .int .i64 B.d, .int .i64 B.e, .int .i64 B.f, .slice A n c]) ∧ St w noB [own (.slice A n c) 3 1 n (ic (Gm.wr B l cs))] w':=by
  have HGA:=Lib.hid hG
  have HLEN : Hid (l.length = n):=Lib.hid (by have h_:=hG.len;rw [ic_len] at h_;omega)
  have hnbHGA : n ≤ 9223372036854775807:=Nat.le_trans hG.cap hG.bnd
  clear hG
  have HOK:=Lib.hid hok
  clear hok
  have S1 : Hid (St w noB [] w):=Lib.hid (St.start w)
  go_enter Tryd.func57,Tryd.ntmps57
  go_upto_region 0 with fail
  refine wpG_region_k (fun K hK => ?_)
  refine wpG_val (some 2) rfl (by rfl) (fun W2 hg3 => ⟨.pointer (some ⟨W2.heap.size,0,none⟩),W2.alloc (.cells #[.int .i64 B.a, .int .i64 B.b, .int .i64 B.c, .int .i64 B.d, .int .i64 B.e, .int .i64 B.f, .slice A n c] 28),by (first | (go_simp;done) | (go_simp <;> rfl)), ?_⟩)
  simp only [n1,n3,n4]
  obtain ⟨g4,U5,hg_,hu_,hS_⟩:=(S1.out.gr hg3).made [.int .i64 B.a, .int .i64 B.b, .int .i64 B.c, .int .i64 B.d, .int .i64 B.e, .int .i64 B.f, .slice A n c] 28
  rw [← hu_,← hg_]
  have S6 : Hid (St w noB [blk g4 28 [.int .i64 B.a, .int .i64 B.b, .int .i64 B.c, .int .i64 B.d, .int .i64 B.e, .int .i64 B.f, .slice A n c]] U5):=Lib.hid hS_
  clear S1
  clear hg_ hu_ hS_ hg3
  refine wpG_val (some 4) rfl (by rfl) (fun W7 hg8 => ⟨.pointer (some ⟨W7.heap.size,0,none⟩),W7.alloc (.cells #[.int .i64 0, .int .i64 0, .int .i64 0, .int .i64 0, .int .i64 0, .int .i64 0, .slice none 0 0] 28),by (first | (go_simp;done) | (go_simp <;> rfl)), ?_⟩)
  simp only [n1,n3,n4]
  obtain ⟨g9,U10,hg_,hu_,hS_⟩:=(S6.out.gr hg8).made [.int .i64 0, .int .i64 0, .int .i64 0, .int .i64 0, .int .i64 0, .int .i64 0, .slice none 0 0] 28
  rw [← hu_,← hg_]
  have S11 : Hid (St w noB [blk g9 28 [.int .i64 0, .int .i64 0, .int .i64 0, .int .i64 0, .int .i64 0, .int .i64 0, .slice none 0 0],blk g4 28 [.int .i64 B.a, .int .i64 B.b, .int .i64 B.c, .int .i64 B.d, .int .i64 B.e, .int .i64 B.f, .slice A n c]] U10):=Lib.hid hS_
  clear S6
  clear hg_ hu_ hS_ hg8
  refine wpG_done (fun V12 hv13 => ?_)
  have S14 : Hid (St w noB [blk g9 28 [.int .i64 0, .int .i64 0, .int .i64 0, .int .i64 0, .int .i64 0, .int .i64 0, .slice none 0 0],blk g4 28 [.int .i64 B.a, .int .i64 B.b, .int .i64 B.c, .int .i64 B.d, .int .i64 B.e, .int .i64 B.f, .slice A n c]] V12):=Lib.hid (S11.out.gr hv13)
  clear S11
  clear hv13
  refine ⟨rfl,hK _ _ ?_⟩
  clear hK
  go_upto_region 1 with fail
  refine wpG_region_k (fun K hK => ?_)
  refine @wpG_tk _ _ _ _ _ (some 6) (.agg #[.int .i64 B.a, .int .i64 B.b, .int .i64 B.c, .int .i64 B.d, .int .i64 B.e, .int .i64 B.f, .slice A n c]) _ _ rfl (.load_mid (by rfl) 28 (.tmp 2) rfl g4 0 rfl [.int .i64 B.a, .int .i64 B.b, .int .i64 B.c, .int .i64 B.d, .int .i64 B.e, .int .i64 B.f, .slice A n c] _ (fun W hg => (S14.out.gr hg).range 1 rfl 0 7 rfl) Tryd.underlying28 rfl (by kernel_rfl)) ?_
  simp only [n1,n3,n4]
  refine wpG_call (some 7) 72 #[.agg #[.int .i64 B.a, .int .i64 B.b, .int .i64 B.c, .int .i64 B.d, .int .i64 B.e, .int .i64 B.f, .slice A n c]] rfl (by rfl) (fun W => by go_simp) (fun W18 hg19 => ?_)
  refine (gclone_any B _ _ _ l W18 (HGA.out.gr (S14.out.gr hg19).bel) (by (have a1:=HOK.out.vol;have a2:=HOK.out.max;have a3:=HLEN.out;omega))).mono ?_
  rintro e w20 ⟨A15,n16,c17,rfl,hS_⟩
  refine ⟨_,rfl, ?_⟩
  have hT_:=(S14.out.gr hg19).got hS_
  simp only [n1,n3,n4]
  have S21 : Hid (St w noB [own (.slice A15 n16 c17) 3 1 n16 (ic l),blk g9 28 [.int .i64 0, .int .i64 0, .int .i64 0, .int .i64 0, .int .i64 0, .int .i64 0, .slice none 0 0],blk g4 28 [.int .i64 B.a, .int .i64 B.b, .int .i64 B.c, .int .i64 B.d, .int .i64 B.e, .int .i64 B.f, .slice A n c]] w20):=Lib.hid hT_
  clear S14
  clear hT_ hS_ hg19
  have hnn16 : n16 ≤ l.length ∧ l.length ≤ n16:=by have h_:=own_icl (S21.out.ownr 0 rfl);omega
  refine wpG_val (some 5) rfl (by rfl) (fun W22 hg23 => ⟨.pointer (some ⟨W22.heap.size,0,none⟩),W22.alloc (.cells #[.int .i64 0, .int .i64 0, .int .i64 0, .int .i64 0, .int .i64 0, .int .i64 0, .slice none 0 0] 28),by (first | (go_simp;done) | (go_simp <;> rfl)), ?_⟩)
  simp only [n1,n3,n4]
  obtain ⟨g24,U25,hg_,hu_,hS_⟩:=(S21.out.gr hg23).made [.int .i64 0, .int .i64 0, .int .i64 0, .int .i64 0, .int .i64 0, .int .i64 0, .slice none 0 0] 28
  rw [← hu_,← hg_]
  have S26 : Hid (St w noB [blk g24 28 [.int .i64 0, .int .i64 0, .int .i64 0, .int .i64 0, .int .i64 0, .int .i64 0, .slice none 0 0],own (.slice A15 n16 c17) 3 1 n16 (ic l),blk g9 28 [.int .i64 0, .int .i64 0, .int .i64 0, .int .i64 0, .int .i64 0, .int .i64 0, .slice none 0 0],blk g4 28 [.int .i64 B.a, .int .i64 B.b, .int .i64 B.c, .int .i64 B.d, .int .i64 B.e, .int .i64 B.f, .slice A n c]] U25):=Lib.hid hS_
  clear S21
  clear hg_ hu_ hS_ hg23
  refine wpG_store (none) rfl (by rfl) (fun W27 hg28 => ⟨_,run_store_mid 28 (.tmp 5) (.tmp 7) rfl g24 0 #[.int .i64 B.a, .int .i64 B.b, .int .i64 B.c, .int .i64 B.d, .int .i64 B.e, .int .i64 B.f, .slice A15 n16 c17] rfl rfl ((S26.out.gr hg28).room 0 rfl 0 7 (by simp)) (by kernel_rfl) (by kernel_rfl), ?_⟩)
  simp only [n2]
  obtain ⟨U29,hu_,hS_⟩:=((S26.out.gr hg28).put 0 rfl 0 (#[.int .i64 B.a, .int .i64 B.b, .int .i64 B.c, .int .i64 B.d, .int .i64 B.e, .int .i64 B.f, .slice A15 n16 c17] : Array Value).toList (ds:=[.int .i64 B.a, .int .i64 B.b, .int .i64 B.c, .int .i64 B.d, .int .i64 B.e, .int .i64 B.f, .slice A15 n16 c17]) rfl).named
  rw [← hu_]
  have S30 : Hid (St w noB [blk g24 28 [.int .i64 B.a, .int .i64 B.b, .int .i64 B.c, .int .i64 B.d, .int .i64 B.e, .int .i64 B.f, .slice A15 n16 c17],own (.slice A15 n16 c17) 3 1 n16 (ic l),blk g9 28 [.int .i64 0, .int .i64 0, .int .i64 0, .int .i64 0, .int .i64 0, .int .i64 0, .slice none 0 0],blk g4 28 [.int .i64 B.a, .int .i64 B.b, .int .i64 B.c, .int .i64 B.d, .int .i64 B.e, .int .i64 B.f, .slice A n c]] U29):=Lib.hid hS_
  clear S26
  clear hu_ hS_ hg28
  refine wpG_done (fun V31 hv32 => ?_)
  have S33 : Hid (St w noB [blk g24 28 [.int .i64 B.a, .int .i64 B.b, .int .i64 B.c, .int .i64 B.d, .int .i64 B.e, .int .i64 B.f, .slice A15 n16 c17],own (.slice A15 n16 c17) 3 1 n16 (ic l),blk g9 28 [.int .i64 0, .int .i64 0, .int .i64 0, .int .i64 0, .int .i64 0, .int .i64 0, .slice none 0 0],blk g4 28 [.int .i64 B.a, .int .i64 B.b, .int .i64 B.c, .int .i64 B.d, .int .i64 B.e, .int .i64 B.f, .slice A n c]] V31):=Lib.hid (S30.out.gr hv32)
  clear S30
  clear hv32
  refine ⟨rfl,hK _ _ ?_⟩
  clear hK
  go_upto_region 2 with fail
  refine wpG_region_k (fun K hK => ?_)
  refine @wpG_p _ _ _ _ _ (some 8) (.func (.func 63) #[] #[.pointer (some ⟨db,0,none⟩)]) _ _ rfl (by rfl) (fun _ => rfl) ?_
  simp only [n1,n3,n4]
  refine @wpG_p _ _ _ _ _ (some 9) (.func (.func 86) #[] #[.pointer (some ⟨g24,0,none⟩)]) _ _ rfl (by rfl) (fun W => by go_simp) ?_
  simp only [n1,n3,n4]
  refine wpG_call (some 10) 63 #[.func (.func 86) #[] #[.pointer (some ⟨g24,0,none⟩)], .pointer (some ⟨db,0,none⟩)] rfl (by rfl) (fun W => by go_simp) (fun W35 hg36 => ?_)
  obtain ⟨fp_,hA_,hfp_,back_⟩:=St.lend (L:=[blk g24 28 [.int .i64 B.a, .int .i64 B.b, .int .i64 B.c, .int .i64 B.d, .int .i64 B.e, .int .i64 B.f, .slice A15 n16 c17],own (.slice A15 n16 c17) 3 1 n16 (ic l)]) (M:=[blk g9 28 [.int .i64 0, .int .i64 0, .int .i64 0, .int .i64 0, .int .i64 0, .int .i64 0, .slice none 0 0],blk g4 28 [.int .i64 B.a, .int .i64 B.b, .int .i64 B.c, .int .i64 B.d, .int .i64 B.e, .int .i64 B.f, .slice A n c]]) (((S33.out.gr hg36).front 1 rfl).front 1 rfl)
  refine (write1_any B _ _ _ g24 db l D nd cd cs _ w W35 (S33.out.gr hg36).bel (fun k hk => (hfp_ k hk).resolve_left (fun h => h)) r1 hC hcs hA_ HOK.out).mono ?_
  rintro e w37 ⟨v34,rfl,hS_⟩
  refine ⟨_,rfl, ?_⟩
  have hT_:=back_ hS_
  simp only [n1,n3,n4]
  have S38 : Hid (St w noB [blk g24 28 [.int .i64 B.a, .int .i64 B.b, .int .i64 B.c, .int .i64 B.d, .int .i64 B.e, .int .i64 B.f, .slice A15 n16 c17],own (.slice A15 n16 c17) 3 1 n16 (ic (Gm.wr B l cs)),blk g9 28 [.int .i64 0, .int .i64 0, .int .i64 0, .int .i64 0, .int .i64 0, .int .i64 0, .slice none 0 0],blk g4 28 [.int .i64 B.a, .int .i64 B.b, .int .i64 B.c, .int .i64 B.d, .int .i64 B.e, .int .i64 B.f, .slice A n c]] w37):=Lib.hid hT_
  clear S33
  clear hT_ hS_ hg36 hA_ hfp_ back_
  refine wpG_done (fun V39 hv40 => ?_)
  have S41 : Hid (St w noB [blk g24 28 [.int .i64 B.a, .int .i64 B.b, .int .i64 B.c, .int .i64 B.d, .int .i64 B.e, .int .i64 B.f, .slice A15 n16 c17],own (.slice A15 n16 c17) 3 1 n16 (ic (Gm.wr B l cs)),blk g9 28 [.int .i64 0, .int .i64 0, .int .i64 0, .int .i64 0, .int .i64 0, .int .i64 0, .slice none 0 0],blk g4 28 [.int .i64 B.a, .int .i64 B.b, .int .i64 B.c, .int .i64 B.d, .int .i64 B.e, .int .i64 B.f, .slice A n c]] V39):=Lib.hid (S38.out.gr hv40)
  clear S38
  clear hv40
  refine ⟨rfl,hK _ _ ?_⟩
  clear hK
  go_upto_region 3 with fail
  refine wpG_region_k (fun K hK => ?_)
  refine @wpG_tk _ _ _ _ _ (some 11) (.agg #[.int .i64 B.a, .int .i64 B.b, .int .i64 B.c, .int .i64 B.d, .int .i64 B.e, .int .i64 B.f, .slice A15 n16 c17]) _ _ rfl (.load_mid (by rfl) 28 (.tmp 5) rfl g24 0 rfl [.int .i64 B.a, .int .i64 B.b, .int .i64 B.c, .int .i64 B.d, .int .i64 B.e, .int .i64 B.f, .slice A15 n16 c17] _ (fun W hg => (S41.out.gr hg).range 0 rfl 0 7 rfl) Tryd.underlying28 rfl (by kernel_rfl)) ?_
  simp only [n1,n3,n4]
  refine wpG_store (none) rfl (by rfl) (fun W42 hg43 => ⟨_,run_store_mid 28 (.tmp 4) (.tmp 11) rfl g9 0 #[.int .i64 B.a, .int .i64 B.b, .int .i64 B.c, .int .i64 B.d, .int .i64 B.e, .int .i64 B.f, .slice A15 n16 c17] rfl rfl ((S41.out.gr hg43).room 2 rfl 0 7 (by simp)) (by kernel_rfl) (by kernel_rfl), ?_⟩)
  simp only [n2]
  obtain ⟨U44,hu_,hS_⟩:=((S41.out.gr hg43).put 2 rfl 0 (#[.int .i64 B.a, .int .i64 B.b, .int .i64 B.c, .int .i64 B.d, .int .i64 B.e, .int .i64 B.f, .slice A15 n16 c17] : Array Value).toList (ds:=[.int .i64 B.a, .int .i64 B.b, .int .i64 B.c, .int .i64 B.d, .int .i64 B.e, .int .i64 B.f, .slice A15 n16 c17]) rfl).named
  rw [← hu_]
  have S45 : Hid (St w noB [blk g24 28 [.int .i64 B.a, .int .i64 B.b, .int .i64 B.c, .int .i64 B.d, .int .i64 B.e, .int .i64 B.f, .slice A15 n16 c17],own (.slice A15 n16 c17) 3 1 n16 (ic (Gm.wr B l cs)),blk g9 28 [.int .i64 B.a, .int .i64 B.b, .int .i64 B.c, .int .i64 B.d, .int .i64 B.e, .int .i64 B.f, .slice A15 n16 c17],blk g4 28 [.int .i64 B.a, .int .i64 B.b, .int .i64 B.c, .int .i64 B.d, .int .i64 B.e, .int .i64 B.f, .slice A n c]] U44):=Lib.hid hS_
  clear S41
  clear hu_ hS_ hg43
  refine wpG_done (fun V46 hv47 => ?_)
  have S48 : Hid (St w noB [blk g24 28 [.int .i64 B.a, .int .i64 B.b, .int .i64 B.c, .int .i64 B.d, .int .i64 B.e, .int .i64 B.f, .slice A15 n16 c17],own (.slice A15 n16 c17) 3 1 n16 (ic (Gm.wr B l cs)),blk g9 28 [.int .i64 B.a, .int .i64 B.b, .int .i64 B.c, .int .i64 B.d, .int .i64 B.e, .int .i64 B.f, .slice A15 n16 c17],blk g4 28 [.int .i64 B.a, .int .i64 B.b, .int .i64 B.c, .int .i64 B.d, .int .i64 B.e, .int .i64 B.f, .slice A n c]] V46):=Lib.hid (S45.out.gr hv47)
  clear S45
  clear hv47
  refine ⟨rfl,hK _ _ ?_⟩
  clear hK
  go_wp2_with fail
  (try simp only [Exit.inBlock,Exit.then])
  refine bodyPost_ret (results_cell_mid rfl _ _ _ g9 0 [.int .i64 B.a, .int .i64 B.b, .int .i64 B.c, .int .i64 B.d, .int .i64 B.e, .int .i64 B.f, .slice A15 n16 c17] _ rfl (S48.out.range 2 rfl 0 7 rfl) Tryd.underlying28 rfl (by kernel_rfl)) rfl ?_
  exact ⟨A15,n16,c17,rfl,S48.out.sub (.cons _ (.cons_cons _ (.cons _ (.cons _ .slnil))))⟩
set_option maxRecDepth 1000000 in
set_option maxHeartbeats 4000000 in
theorem write_any (B : Gm.Bx) (A : Option Addr) (n c : Nat) (l : List Int) (D : Option Addr) (nd cd : Nat) (cs : List Gm.Ch) (w : World) (hG : SL w 1 A n c (ic l)) (hok : Gm.ok B l) (hC : SL w 5 D nd cd (ccs cs)) (hcs : ∀ c ∈ cs,Gm.rp3 c.x c.y c.z) :
    Calls Tryd.prog 27 #[.agg #[.int .i64 B.a, .int .i64 B.b, .int .i64 B.c, .int .i64 B.d, .int .i64 B.e, .int .i64 B.f, .slice A n c], .slice D nd cd] w fun e w' => ∃ A n c,e = .returned (.agg #[.int .i64 B.a, .int .i64 B.b, .int .i64 B.c, .int .i64 B.d, .int .i64 B.e, .int .i64 B.f, .slice A n c]) ∧ St w noB [own (.slice A n c) 3 1 n (ic (Gm.wr B l cs))] w':=by
  have HGA:=Lib.hid hG
  have HLEN : Hid (l.length = n):=Lib.hid (by have h_:=hG.len;rw [ic_len] at h_;omega)
  have hnbHGA : n ≤ 9223372036854775807:=Nat.le_trans hG.cap hG.bnd
  clear hG
  have HOK:=Lib.hid hok
  clear hok
  have HCT:=Lib.hid hC
  have HCL : Hid (cs.length = nd):=Lib.hid (by have h_:=hC.len;rw [ccs_len] at h_;omega)
  have hnbc : nd ≤ 9223372036854775807:=Nat.le_trans hC.cap hC.bnd
  clear hC
  have HCS:=Lib.hid hcs
  clear hcs
  have S1 : Hid (St w noB [] w):=Lib.hid (St.start w)
  go_enter Tryd.func27,Tryd.ntmps27
  go_upto_region 0 with fail
  refine wpG_region_k (fun K hK => ?_)
  refine wpG_val (some 2) rfl (by rfl) (fun W2 hg3 => ⟨.pointer (some ⟨W2.heap.size,0,none⟩),W2.alloc (.cells #[.int .i64 B.a, .int .i64 B.b, .int .i64 B.c, .int .i64 B.d, .int .i64 B.e, .int .i64 B.f, .slice A n c] 28),by (first | (go_simp;done) | (go_simp <;> rfl)), ?_⟩)
  simp only [n1,n3,n4]
  obtain ⟨g4,U5,hg_,hu_,hS_⟩:=(S1.out.gr hg3).made [.int .i64 B.a, .int .i64 B.b, .int .i64 B.c, .int .i64 B.d, .int .i64 B.e, .int .i64 B.f, .slice A n c] 28
  rw [← hu_,← hg_]
  have S6 : Hid (St w noB [blk g4 28 [.int .i64 B.a, .int .i64 B.b, .int .i64 B.c, .int .i64 B.d, .int .i64 B.e, .int .i64 B.f, .slice A n c]] U5):=Lib.hid hS_
  clear S1
  clear hg_ hu_ hS_ hg3
  refine wpG_val (some 3) rfl (by rfl) (fun W7 hg8 => ⟨.pointer (some ⟨W7.heap.size,0,none⟩),W7.alloc (.cells #[.slice D nd cd] 46),by (first | (go_simp;done) | (go_simp <;> rfl)), ?_⟩)
  simp only [n1,n3,n4]
  obtain ⟨g9,U10,hg_,hu_,hS_⟩:=(S6.out.gr hg8).made [.slice D nd cd] 46
  rw [← hu_,← hg_]
  have S11 : Hid (St w noB [blk g9 46 [.slice D nd cd],blk g4 28 [.int .i64 B.a, .int .i64 B.b, .int .i64 B.c, .int .i64 B.d, .int .i64 B.e, .int .i64 B.f, .slice A n c]] U10):=Lib.hid hS_
  clear S6
  clear hg_ hu_ hS_ hg8
  refine wpG_val (some 4) rfl (by rfl) (fun W12 hg13 => ⟨.pointer (some ⟨W12.heap.size,0,none⟩),W12.alloc (.cells #[.int .i64 0, .int .i64 0, .int .i64 0, .int .i64 0, .int .i64 0, .int .i64 0, .slice none 0 0] 28),by (first | (go_simp;done) | (go_simp <;> rfl)), ?_⟩)
  simp only [n1,n3,n4]
  obtain ⟨g14,U15,hg_,hu_,hS_⟩:=(S11.out.gr hg13).made [.int .i64 0, .int .i64 0, .int .i64 0, .int .i64 0, .int .i64 0, .int .i64 0, .slice none 0 0] 28
  rw [← hu_,← hg_]
  have S16 : Hid (St w noB [blk g14 28 [.int .i64 0, .int .i64 0, .int .i64 0, .int .i64 0, .int .i64 0, .int .i64 0, .slice none 0 0],blk g9 46 [.slice D nd cd],blk g4 28 [.int .i64 B.a, .int .i64 B.b, .int .i64 B.c, .int .i64 B.d, .int .i64 B.e, .int .i64 B.f, .slice A n c]] U15):=Lib.hid hS_
  clear S11
  clear hg_ hu_ hS_ hg13
  refine wpG_done (fun V17 hv18 => ?_)
  have S19 : Hid (St w noB [blk g14 28 [.int .i64 0, .int .i64 0, .int .i64 0, .int .i64 0, .int .i64 0, .int .i64 0, .slice none 0 0],blk g9 46 [.slice D nd cd],blk g4 28 [.int .i64 B.a, .int .i64 B.b, .int .i64 B.c, .int .i64 B.d, .int .i64 B.e, .int .i64 B.f, .slice A n c]] V17):=Lib.hid (S16.out.gr hv18)
  clear S16
  clear hv18
  refine ⟨rfl,hK _ _ ?_⟩
  clear hK
  go_upto_region 1 with fail
  refine wpG_region_k (fun K hK => ?_)
  refine @wpG_tk _ _ _ _ _ (some 5) (.agg #[.int .i64 B.a, .int .i64 B.b, .int .i64 B.c, .int .i64 B.d, .int .i64 B.e, .int .i64 B.f, .slice A n c]) _ _ rfl (.load_mid (by rfl) 28 (.tmp 2) rfl g4 0 rfl [.int .i64 B.a, .int .i64 B.b, .int .i64 B.c, .int .i64 B.d, .int .i64 B.e, .int .i64 B.f, .slice A n c] _ (fun W hg => (S19.out.gr hg).range 2 rfl 0 7 rfl) Tryd.underlying28 rfl (by kernel_rfl)) ?_
  simp only [n1,n3,n4]
  refine @wpG_p _ _ _ _ _ (some 6) (.func (.func 63) #[] #[.pointer (some ⟨g9,0,none⟩)]) _ _ rfl (by rfl) (fun W => by go_simp) ?_
  simp only [n1,n3,n4]
  refine wpG_call (some 7) 57 #[.agg #[.int .i64 B.a, .int .i64 B.b, .int .i64 B.c, .int .i64 B.d, .int .i64 B.e, .int .i64 B.f, .slice A n c], .func (.func 63) #[] #[.pointer (some ⟨g9,0,none⟩)]] rfl (by rfl) (fun W => by go_simp) (fun W23 hg24 => ?_)
  refine (changed_write B _ _ _ l _ _ _ cs g9 W23 (HGA.out.gr (S19.out.gr hg24).bel) HOK.out ((S19.out.gr hg24).row 1 rfl) (HCT.out.gr (S19.out.gr hg24).bel) HCS.out).mono ?_
  rintro e w25 ⟨A20,n21,c22,rfl,hS_⟩
  refine ⟨_,rfl, ?_⟩
  have hT_:=(S19.out.gr hg24).got hS_
  simp only [n1,n3,n4]
  have S26 : Hid (St w noB [own (.slice A20 n21 c22) 3 1 n21 (ic (Gm.wr B l cs)),blk g14 28 [.int .i64 0, .int .i64 0, .int .i64 0, .int .i64 0, .int .i64 0, .int .i64 0, .slice none 0 0],blk g9 46 [.slice D nd cd],blk g4 28 [.int .i64 B.a, .int .i64 B.b, .int .i64 B.c, .int .i64 B.d, .int .i64 B.e, .int .i64 B.f, .slice A n c]] w25):=Lib.hid hT_
  clear S19
  clear hT_ hS_ hg24
  refine wpG_store (none) rfl (by rfl) (fun W27 hg28 => ⟨_,run_store_mid 28 (.tmp 4) (.tmp 7) rfl g14 0 #[.int .i64 B.a, .int .i64 B.b, .int .i64 B.c, .int .i64 B.d, .int .i64 B.e, .int .i64 B.f, .slice A20 n21 c22] rfl rfl ((S26.out.gr hg28).room 1 rfl 0 7 (by simp)) (by kernel_rfl) (by kernel_rfl), ?_⟩)
  simp only [n2]
  obtain ⟨U29,hu_,hS_⟩:=((S26.out.gr hg28).put 1 rfl 0 (#[.int .i64 B.a, .int .i64 B.b, .int .i64 B.c, .int .i64 B.d, .int .i64 B.e, .int .i64 B.f, .slice A20 n21 c22] : Array Value).toList (ds:=[.int .i64 B.a, .int .i64 B.b, .int .i64 B.c, .int .i64 B.d, .int .i64 B.e, .int .i64 B.f, .slice A20 n21 c22]) rfl).named
  rw [← hu_]
  have S30 : Hid (St w noB [own (.slice A20 n21 c22) 3 1 n21 (ic (Gm.wr B l cs)),blk g14 28 [.int .i64 B.a, .int .i64 B.b, .int .i64 B.c, .int .i64 B.d, .int .i64 B.e, .int .i64 B.f, .slice A20 n21 c22],blk g9 46 [.slice D nd cd],blk g4 28 [.int .i64 B.a, .int .i64 B.b, .int .i64 B.c, .int .i64 B.d, .int .i64 B.e, .int .i64 B.f, .slice A n c]] U29):=Lib.hid hS_
  clear S26
  clear hu_ hS_ hg28
  refine wpG_done (fun V31 hv32 => ?_)
  have S33 : Hid (St w noB [own (.slice A20 n21 c22) 3 1 n21 (ic (Gm.wr B l cs)),blk g14 28 [.int .i64 B.a, .int .i64 B.b, .int .i64 B.c, .int .i64 B.d, .int .i64 B.e, .int .i64 B.f, .slice A20 n21 c22],blk g9 46 [.slice D nd cd],blk g4 28 [.int .i64 B.a, .int .i64 B.b, .int .i64 B.c, .int .i64 B.d, .int .i64 B.e, .int .i64 B.f, .slice A n c]] V31):=Lib.hid (S30.out.gr hv32)
  clear S30
  clear hv32
  refine ⟨rfl,hK _ _ ?_⟩
  clear hK
  go_wp2_with fail
  (try simp only [Exit.inBlock,Exit.then])
  refine bodyPost_ret (results_cell_mid rfl _ _ _ g14 0 [.int .i64 B.a, .int .i64 B.b, .int .i64 B.c, .int .i64 B.d, .int .i64 B.e, .int .i64 B.f, .slice A20 n21 c22] _ rfl (S33.out.range 1 rfl 0 7 rfl) Tryd.underlying28 rfl (by kernel_rfl)) rfl ?_
  exact ⟨A20,n21,c22,rfl,S33.out.sub (.cons_cons _ (.cons _ (.cons _ (.cons _ .slnil))))⟩

end Go.Proofs.YtjdeaopdbenamaaDoor
