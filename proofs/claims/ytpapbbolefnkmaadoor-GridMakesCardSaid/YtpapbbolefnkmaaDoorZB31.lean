/-
  Contracts of the specification: grids cropped and shifted; differences.
-/
import Derived.Test.YtpapbbolefnkmaaDoorZB00
import Derived.Test.YtpapbbolefnkmaaDoorZB30
import Derived.Test.YtpapbbolefnkmaaDoorZB21
import Derived.Handy
namespace Go.Proofs.YtpapbbolefnkmaaDoor
open Go Go.RowKit
set_option linter.unusedVariables false
set_option linter.unusedSimpArgs false
set_option maxRecDepth 1000000 in
set_option maxHeartbeats 4000000 in
theorem rcrop_any (B : Gm.Bx) (A : Option Addr) (n c : Nat) (l : List Int) (C : Gm.Bx) (w : World) (hG : SL w 1 A n c (ic l)) (hok : Gm.ok B l) :
    Calls Tryd.prog 18 #[.agg #[B.a, B.b, B.c, B.d, B.e, B.f, .slice A n c], .agg #[C.a, C.b, C.c, C.d, C.e, C.f]] w fun e w'=>∃ A n c,e = .returned (.tuple #[.agg #[((Gm.nB C 0).a:Int), ((Gm.nB C 0).b:Int), ((Gm.nB C 0).c:Int), ((Gm.nB C 0).d:Int), ((Gm.nB C 0).e:Int), ((Gm.nB C 0).f:Int), .slice A n c], (Gm.nE C 0)]) ∧ St w noB [own (.slice A n c) 3 1 n (ic (Gm.paste (Gm.nB C 0) (Gm.nL C 0) B l))] w':=by
  have HGA:=Lib.hid hG
  have HLEN : Hid (l.length = n):=Lib.hid (by have h_:=hG.len;rw [ic_len] at h_;omega)
  have hnbHGA : n ≤ 9223372036854775807:=Nat.le_trans hG.cap hG.bnd
  clear hG
  have HOK:=Lib.hid hok
  clear hok
  have S1 : Hid (St w noB [] w):=Lib.hid (St.start w)
  go_enter Tryd.func18,Tryd.ntmps18
  go_upto_region 0 with fail
  refine wpG_region_k (fun K hK=>?_)
  refine wpG_val (some 2) rfl (by rfl) (fun W2 hg3=>⟨.pointer (some ⟨W2.heap.size,0,none⟩),W2.alloc (.cells #[B.a, B.b, B.c, B.d, B.e, B.f, .slice A n c] 28),by (first | (go_simp;done) | (go_simp <;> rfl)), ?_⟩)
  simp only [n1,n3,n4]
  obtain ⟨g4,U5,hg_,hu_,hS_⟩:=(S1.out.gr hg3).made [B.a, B.b, B.c, B.d, B.e, B.f, .slice A n c] 28
  rw [← hu_,← hg_]
  have S6 : Hid (St w noB [blk g4 28 [B.a, B.b, B.c, B.d, B.e, B.f, .slice A n c]] U5):=Lib.hid hS_
  clear S1
  clear hg_ hu_ hS_ hg3
  refine wpG_val (some 3) rfl (by rfl) (fun W7 hg8=>⟨.pointer (some ⟨W7.heap.size,0,none⟩),W7.alloc (.cells #[C.a, C.b, C.c, C.d, C.e, C.f] 25),by (first | (go_simp;done) | (go_simp <;> rfl)), ?_⟩)
  simp only [n1,n3,n4]
  obtain ⟨g9,U10,hg_,hu_,hS_⟩:=(S6.out.gr hg8).made [C.a, C.b, C.c, C.d, C.e, C.f] 25
  rw [← hu_,← hg_]
  have S11 : Hid (St w noB [blk g9 25 [C.a, C.b, C.c, C.d, C.e, C.f],blk g4 28 [B.a, B.b, B.c, B.d, B.e, B.f, .slice A n c]] U10):=Lib.hid hS_
  clear S6
  clear hg_ hu_ hS_ hg8
  refine wpG_val (some 4) rfl (by rfl) (fun W12 hg13=>⟨.pointer (some ⟨W12.heap.size,0,none⟩),W12.alloc (.cells #[(), (), (), (), (), (), .slice none 0 0] 28),by (first | (go_simp;done) | (go_simp <;> rfl)), ?_⟩)
  simp only [n1,n3,n4]
  obtain ⟨g14,U15,hg_,hu_,hS_⟩:=(S11.out.gr hg13).made [(), (), (), (), (), (), .slice none 0 0] 28
  rw [← hu_,← hg_]
  have S16 : Hid (St w noB [blk g14 28 [(), (), (), (), (), (), .slice none 0 0],blk g9 25 [C.a, C.b, C.c, C.d, C.e, C.f],blk g4 28 [B.a, B.b, B.c, B.d, B.e, B.f, .slice A n c]] U15):=Lib.hid hS_
  clear S11
  clear hg_ hu_ hS_ hg13
  refine @wpG_p _ _ _ _ _ (some 5) () _ _ rfl (by rfl) (fun _=>rfl) ?_
  simp only [n1,n3,n4]
  refine wpG_done (fun V17 hv18=>?_)
  have S19 : Hid (St w noB [blk g14 28 [(), (), (), (), (), (), .slice none 0 0],blk g9 25 [C.a, C.b, C.c, C.d, C.e, C.f],blk g4 28 [B.a, B.b, B.c, B.d, B.e, B.f, .slice A n c]] V17):=Lib.hid (S16.out.gr hv18)
  clear S16
  clear hv18
  refine ⟨rfl,hK _ _ ?_⟩
  clear hK
  go_upto_region 1 with fail
  refine wpG_region_k (fun K hK=>?_)
  refine @wpG_tk _ _ _ _ _ (some 9) (.agg #[C.a, C.b, C.c, C.d, C.e, C.f]) _ _ rfl (.load_mid (by rfl) 25 (.tmp 3) rfl g9 0 rfl [C.a, C.b, C.c, C.d, C.e, C.f] _ (fun W hg=>(S19.out.gr hg).range 1 rfl 0 6 rfl) Tryd.underlying25 rfl (by kernel_rfl)) ?_
  simp only [n1,n3,n4]
  refine wpG_call (some 10) 15 #[.agg #[C.a, C.b, C.c, C.d, C.e, C.f], ()] rfl (by rfl) (fun W=>by go_simp) (fun W23 hg24=>?_)
  refine (rnew_any C 0 W23).mono ?_
  rintro e w25 ⟨A20,n21,c22,rfl,hS_⟩
  refine ⟨_,rfl, ?_⟩
  have hT_:=(S19.out.gr hg24).got hS_
  simp only [n1,n3,n4]
  have S26 : Hid (St w noB [own (.slice A20 n21 c22) 3 1 n21 (ic (Gm.nL C 0)),blk g14 28 [(), (), (), (), (), (), .slice none 0 0],blk g9 25 [C.a, C.b, C.c, C.d, C.e, C.f],blk g4 28 [B.a, B.b, B.c, B.d, B.e, B.f, .slice A n c]] w25):=Lib.hid hT_
  clear S19
  clear hT_ hS_ hg24
  refine @wpG_p _ _ _ _ _ (some 8) (.tuple #[.agg #[((Gm.nB C 0).a:Int), ((Gm.nB C 0).b:Int), ((Gm.nB C 0).c:Int), ((Gm.nB C 0).d:Int), ((Gm.nB C 0).e:Int), ((Gm.nB C 0).f:Int), .slice A20 n21 c22], (Gm.nE C 0)]) _ _ rfl (by rfl) (fun _=>rfl) ?_
  simp only [n1,n3,n4]
  refine @wpG_p _ _ _ _ _ (some 11) (.agg #[((Gm.nB C 0).a:Int), ((Gm.nB C 0).b:Int), ((Gm.nB C 0).c:Int), ((Gm.nB C 0).d:Int), ((Gm.nB C 0).e:Int), ((Gm.nB C 0).f:Int), .slice A20 n21 c22]) _ _ rfl (by rfl) (fun W=>by go_simp) ?_
  simp only [n1,n3,n4]
  refine @wpG_p _ _ _ _ _ (some 12) (Gm.nE C 0) _ _ rfl (by rfl) (fun W=>by go_simp) ?_
  simp only [n1,n3,n4]
  refine wpG_val (some 6) rfl (by rfl) (fun W27 hg28=>⟨.pointer (some ⟨W27.heap.size,0,none⟩),W27.alloc (.cells #[(), (), (), (), (), (), .slice none 0 0] 28),by (first | (go_simp;done) | (go_simp <;> rfl)), ?_⟩)
  simp only [n1,n3,n4]
  obtain ⟨g29,U30,hg_,hu_,hS_⟩:=(S26.out.gr hg28).made [(), (), (), (), (), (), .slice none 0 0] 28
  rw [← hu_,← hg_]
  have S31 : Hid (St w noB [blk g29 28 [(), (), (), (), (), (), .slice none 0 0],own (.slice A20 n21 c22) 3 1 n21 (ic (Gm.nL C 0)),blk g14 28 [(), (), (), (), (), (), .slice none 0 0],blk g9 25 [C.a, C.b, C.c, C.d, C.e, C.f],blk g4 28 [B.a, B.b, B.c, B.d, B.e, B.f, .slice A n c]] U30):=Lib.hid hS_
  clear S26
  clear hg_ hu_ hS_ hg28
  refine wpG_store (none) rfl (by rfl) (fun W32 hg33=>⟨_,run_store_mid 28 (.tmp 6) (.tmp 11) rfl g29 0 #[((Gm.nB C 0).a:Int), ((Gm.nB C 0).b:Int), ((Gm.nB C 0).c:Int), ((Gm.nB C 0).d:Int), ((Gm.nB C 0).e:Int), ((Gm.nB C 0).f:Int), .slice A20 n21 c22] rfl rfl ((S31.out.gr hg33).room 0 rfl 0 7 (by simp)) (by kernel_rfl) (by kernel_rfl), ?_⟩)
  simp only [n2]
  obtain ⟨U34,hu_,hS_⟩:=((S31.out.gr hg33).put 0 rfl 0 (#[((Gm.nB C 0).a:Int), ((Gm.nB C 0).b:Int), ((Gm.nB C 0).c:Int), ((Gm.nB C 0).d:Int), ((Gm.nB C 0).e:Int), ((Gm.nB C 0).f:Int), .slice A20 n21 c22] : Array Value).toList (ds:=[((Gm.nB C 0).a:Int), ((Gm.nB C 0).b:Int), ((Gm.nB C 0).c:Int), ((Gm.nB C 0).d:Int), ((Gm.nB C 0).e:Int), ((Gm.nB C 0).f:Int), .slice A20 n21 c22]) rfl).named
  rw [← hu_]
  have S35 : Hid (St w noB [blk g29 28 [((Gm.nB C 0).a:Int), ((Gm.nB C 0).b:Int), ((Gm.nB C 0).c:Int), ((Gm.nB C 0).d:Int), ((Gm.nB C 0).e:Int), ((Gm.nB C 0).f:Int), .slice A20 n21 c22],own (.slice A20 n21 c22) 3 1 n21 (ic (Gm.nL C 0)),blk g14 28 [(), (), (), (), (), (), .slice none 0 0],blk g9 25 [C.a, C.b, C.c, C.d, C.e, C.f],blk g4 28 [B.a, B.b, B.c, B.d, B.e, B.f, .slice A n c]] U34):=Lib.hid hS_
  clear S31
  clear hu_ hS_ hg33
  refine @wpG_p _ _ _ _ _ (some 7) (Gm.nE C 0) _ _ rfl (by rfl) (fun _=>rfl) ?_
  simp only [n1,n3,n4]
  refine wpG_done (fun V36 hv37=>?_)
  have S38 : Hid (St w noB [blk g29 28 [((Gm.nB C 0).a:Int), ((Gm.nB C 0).b:Int), ((Gm.nB C 0).c:Int), ((Gm.nB C 0).d:Int), ((Gm.nB C 0).e:Int), ((Gm.nB C 0).f:Int), .slice A20 n21 c22],own (.slice A20 n21 c22) 3 1 n21 (ic (Gm.nL C 0)),blk g14 28 [(), (), (), (), (), (), .slice none 0 0],blk g9 25 [C.a, C.b, C.c, C.d, C.e, C.f],blk g4 28 [B.a, B.b, B.c, B.d, B.e, B.f, .slice A n c]] V36):=Lib.hid (S35.out.gr hv37)
  clear S35
  clear hv37
  refine ⟨rfl,hK _ _ ?_⟩
  clear hK
  go_upto_region 2 with fail
  refine wpG_region_k (fun K hK=>?_)
  refine @wpG_p _ _ _ _ _ (some 13) (Gm.nE C 0) _ _ rfl (by rfl) (fun _=>rfl) ?_
  simp only [n1,n3,n4]
  refine @wpG_p _ _ _ _ _ (some 14) (.bool (decide (Gm.nE C 0 ≠ 0))) _ _ rfl (by rfl) (fun W=>op_int_neq W (Gm.nE C 0) 0 rfl rfl rfl Tryd.underlying33) ?_
  simp only [n1,n3,n4]
  refine wpG_done (fun V39 hv40=>?_)
  have S41 : Hid (St w noB [blk g29 28 [((Gm.nB C 0).a:Int), ((Gm.nB C 0).b:Int), ((Gm.nB C 0).c:Int), ((Gm.nB C 0).d:Int), ((Gm.nB C 0).e:Int), ((Gm.nB C 0).f:Int), .slice A20 n21 c22],own (.slice A20 n21 c22) 3 1 n21 (ic (Gm.nL C 0)),blk g14 28 [(), (), (), (), (), (), .slice none 0 0],blk g9 25 [C.a, C.b, C.c, C.d, C.e, C.f],blk g4 28 [B.a, B.b, B.c, B.d, B.e, B.f, .slice A n c]] V39):=Lib.hid (S38.out.gr hv40)
  clear S38
  clear hv40
  refine ⟨rfl,hK _ _ ?_⟩
  clear hK
  obtain ⟨c42,hc42⟩ : ∃ q_,q_ = (decide (Gm.nE C 0 ≠ 0)):=⟨_,rfl⟩
  rw [← hc42]
  have Hc42:=Lib.hid hc42
  clear hc42
  cases c42 with
  | true =>
    have f43:=of_decide_eq_true Hc42.out.symm
    go_upto_region 3 with fail
    refine wpG_region_k (fun K hK=>?_)
    refine @wpG_p _ _ _ _ _ (some 15) (.agg #[(), (), (), (), (), (), .slice none 0 0]) _ _ rfl (by rfl) (fun W=>by go_simp) ?_
    simp only [n1,n3,n4]
    refine @wpG_p _ _ _ _ _ (some 16) (Gm.nE C 0) _ _ rfl (by rfl) (fun _=>rfl) ?_
    simp only [n1,n3,n4]
    refine wpG_store (none) rfl (by rfl) (fun W44 hg45=>⟨_,run_store_mid 28 (.tmp 4) (.tmp 15) rfl g14 0 #[(), (), (), (), (), (), .slice none 0 0] rfl rfl ((S41.out.gr hg45).room 2 rfl 0 7 (by simp)) (by kernel_rfl) (by kernel_rfl), ?_⟩)
    simp only [n2]
    obtain ⟨U46,hu_,hS_⟩:=((S41.out.gr hg45).put 2 rfl 0 (#[(), (), (), (), (), (), .slice none 0 0] : Array Value).toList (ds:=[(), (), (), (), (), (), .slice none 0 0]) rfl).named
    rw [← hu_]
    have S47 : Hid (St w noB [blk g29 28 [((Gm.nB C 0).a:Int), ((Gm.nB C 0).b:Int), ((Gm.nB C 0).c:Int), ((Gm.nB C 0).d:Int), ((Gm.nB C 0).e:Int), ((Gm.nB C 0).f:Int), .slice A20 n21 c22],own (.slice A20 n21 c22) 3 1 n21 (ic (Gm.nL C 0)),blk g14 28 [(), (), (), (), (), (), .slice none 0 0],blk g9 25 [C.a, C.b, C.c, C.d, C.e, C.f],blk g4 28 [B.a, B.b, B.c, B.d, B.e, B.f, .slice A n c]] U46):=Lib.hid hS_
    clear S41
    clear hu_ hS_ hg45
    refine @wpG_p _ _ _ _ _ (some 5) (Gm.nE C 0) _ _ rfl (by rfl) (fun _=>rfl) ?_
    simp only [n1,n3,n4]
    refine wpG_done (fun V48 hv49=>?_)
    have S50 : Hid (St w noB [blk g29 28 [((Gm.nB C 0).a:Int), ((Gm.nB C 0).b:Int), ((Gm.nB C 0).c:Int), ((Gm.nB C 0).d:Int), ((Gm.nB C 0).e:Int), ((Gm.nB C 0).f:Int), .slice A20 n21 c22],own (.slice A20 n21 c22) 3 1 n21 (ic (Gm.nL C 0)),blk g14 28 [(), (), (), (), (), (), .slice none 0 0],blk g9 25 [C.a, C.b, C.c, C.d, C.e, C.f],blk g4 28 [B.a, B.b, B.c, B.d, B.e, B.f, .slice A n c]] V48):=Lib.hid (S47.out.gr hv49)
    clear S47
    clear hv49
    refine ⟨rfl,hK _ _ ?_⟩
    clear hK
    go_wp2_with fail
    (try simp only [Exit.inBlock,Exit.then])
    refine bodyPost_ret (results_cell_tmp rfl _ _ _ g14 0 [(), (), (), (), (), (), .slice none 0 0] _ rfl (S50.out.range 2 rfl 0 7 rfl) Tryd.underlying28 rfl (by kernel_rfl)) rfl ?_
    (obtain ⟨h1_,h2_⟩:=Gm.crop_err (B:=B) (l:=l) f43;exact ⟨none,0,0,by rw [h1_];try rfl,by rw [h2_];exact S50.out.dropAll.nilOwn _ _⟩)
  | false =>
    have f51:=Lib.hid (Decidable.not_not.1 (of_decide_eq_false Hc42.out.symm))
    have f51a:=Int.le_of_eq f51.out
    have f51b:=Int.le_of_eq f51.out.symm
    go_upto_region 4 with fail
    refine wpG_region_k (fun K hK=>?_)
    refine @wpG_tk _ _ _ _ _ (some 17) (.agg #[((Gm.nB C 0).a:Int), ((Gm.nB C 0).b:Int), ((Gm.nB C 0).c:Int), ((Gm.nB C 0).d:Int), ((Gm.nB C 0).e:Int), ((Gm.nB C 0).f:Int), .slice A20 n21 c22]) _ _ rfl (.load_mid (by rfl) 28 (.tmp 6) rfl g29 0 rfl [((Gm.nB C 0).a:Int), ((Gm.nB C 0).b:Int), ((Gm.nB C 0).c:Int), ((Gm.nB C 0).d:Int), ((Gm.nB C 0).e:Int), ((Gm.nB C 0).f:Int), .slice A20 n21 c22] _ (fun W hg=>(S41.out.gr hg).range 0 rfl 0 7 rfl) Tryd.underlying28 rfl (by kernel_rfl)) ?_
    simp only [n1,n3,n4]
    refine @wpG_tk _ _ _ _ _ (some 18) (.agg #[B.a, B.b, B.c, B.d, B.e, B.f, .slice A n c]) _ _ rfl (.load_mid (by rfl) 28 (.tmp 2) rfl g4 0 rfl [B.a, B.b, B.c, B.d, B.e, B.f, .slice A n c] _ (fun W hg=>(S41.out.gr hg).range 4 rfl 0 7 rfl) Tryd.underlying28 rfl (by kernel_rfl)) ?_
    simp only [n1,n3,n4]
    refine wpG_call (some 19) 55 #[.agg #[((Gm.nB C 0).a:Int), ((Gm.nB C 0).b:Int), ((Gm.nB C 0).c:Int), ((Gm.nB C 0).d:Int), ((Gm.nB C 0).e:Int), ((Gm.nB C 0).f:Int), .slice A20 n21 c22], .agg #[B.a, B.b, B.c, B.d, B.e, B.f, .slice A n c]] rfl (by rfl) (fun W=>by go_simp) (fun W55 hg56=>?_)
    refine (rpaste_any (Gm.nB C 0) _ _ _ (Gm.nL C 0) B _ _ _ l W55 (SL.ofOwn ((S41.out.gr hg56).ownr 1 rfl)) (HGA.out.gr (S41.out.gr hg56).bel) (by have e_f51:=f51.out;exact Gm.ok_new e_f51) HOK.out).mono ?_
    rintro e w57 ⟨A52,n53,c54,rfl,hS_⟩
    refine ⟨_,rfl, ?_⟩
    have hT_:=(S41.out.gr hg56).got hS_
    simp only [n1,n3,n4]
    have S58 : Hid (St w noB [own (.slice A52 n53 c54) 3 1 n53 (ic (Gm.paste (Gm.nB C 0) (Gm.nL C 0) B l)),blk g29 28 [((Gm.nB C 0).a:Int), ((Gm.nB C 0).b:Int), ((Gm.nB C 0).c:Int), ((Gm.nB C 0).d:Int), ((Gm.nB C 0).e:Int), ((Gm.nB C 0).f:Int), .slice A20 n21 c22],own (.slice A20 n21 c22) 3 1 n21 (ic (Gm.nL C 0)),blk g14 28 [(), (), (), (), (), (), .slice none 0 0],blk g9 25 [C.a, C.b, C.c, C.d, C.e, C.f],blk g4 28 [B.a, B.b, B.c, B.d, B.e, B.f, .slice A n c]] w57):=Lib.hid hT_
    clear S41
    clear hT_ hS_ hg56
    have hnn53 : n53 ≤ (Gm.paste (Gm.nB C 0) (Gm.nL C 0) B l).length ∧ (Gm.paste (Gm.nB C 0) (Gm.nL C 0) B l).length ≤ n53:=by have h_:=own_icl (S58.out.ownr 0 rfl);omega
    refine wpG_store (none) rfl (by rfl) (fun W59 hg60=>⟨_,run_store_mid 28 (.tmp 4) (.tmp 19) rfl g14 0 #[((Gm.nB C 0).a:Int), ((Gm.nB C 0).b:Int), ((Gm.nB C 0).c:Int), ((Gm.nB C 0).d:Int), ((Gm.nB C 0).e:Int), ((Gm.nB C 0).f:Int), .slice A52 n53 c54] rfl rfl ((S58.out.gr hg60).room 3 rfl 0 7 (by simp)) (by kernel_rfl) (by kernel_rfl), ?_⟩)
    simp only [n2]
    obtain ⟨U61,hu_,hS_⟩:=((S58.out.gr hg60).put 3 rfl 0 (#[((Gm.nB C 0).a:Int), ((Gm.nB C 0).b:Int), ((Gm.nB C 0).c:Int), ((Gm.nB C 0).d:Int), ((Gm.nB C 0).e:Int), ((Gm.nB C 0).f:Int), .slice A52 n53 c54] : Array Value).toList (ds:=[((Gm.nB C 0).a:Int), ((Gm.nB C 0).b:Int), ((Gm.nB C 0).c:Int), ((Gm.nB C 0).d:Int), ((Gm.nB C 0).e:Int), ((Gm.nB C 0).f:Int), .slice A52 n53 c54]) rfl).named
    rw [← hu_]
    have S62 : Hid (St w noB [own (.slice A52 n53 c54) 3 1 n53 (ic (Gm.paste (Gm.nB C 0) (Gm.nL C 0) B l)),blk g29 28 [((Gm.nB C 0).a:Int), ((Gm.nB C 0).b:Int), ((Gm.nB C 0).c:Int), ((Gm.nB C 0).d:Int), ((Gm.nB C 0).e:Int), ((Gm.nB C 0).f:Int), .slice A20 n21 c22],own (.slice A20 n21 c22) 3 1 n21 (ic (Gm.nL C 0)),blk g14 28 [((Gm.nB C 0).a:Int), ((Gm.nB C 0).b:Int), ((Gm.nB C 0).c:Int), ((Gm.nB C 0).d:Int), ((Gm.nB C 0).e:Int), ((Gm.nB C 0).f:Int), .slice A52 n53 c54],blk g9 25 [C.a, C.b, C.c, C.d, C.e, C.f],blk g4 28 [B.a, B.b, B.c, B.d, B.e, B.f, .slice A n c]] U61):=Lib.hid hS_
    clear S58
    clear hu_ hS_ hg60
    refine @wpG_p _ _ _ _ _ (some 5) () _ _ rfl (by rfl) (fun _=>rfl) ?_
    simp only [n1,n3,n4]
    refine wpG_done (fun V63 hv64=>?_)
    have S65 : Hid (St w noB [own (.slice A52 n53 c54) 3 1 n53 (ic (Gm.paste (Gm.nB C 0) (Gm.nL C 0) B l)),blk g29 28 [((Gm.nB C 0).a:Int), ((Gm.nB C 0).b:Int), ((Gm.nB C 0).c:Int), ((Gm.nB C 0).d:Int), ((Gm.nB C 0).e:Int), ((Gm.nB C 0).f:Int), .slice A20 n21 c22],own (.slice A20 n21 c22) 3 1 n21 (ic (Gm.nL C 0)),blk g14 28 [((Gm.nB C 0).a:Int), ((Gm.nB C 0).b:Int), ((Gm.nB C 0).c:Int), ((Gm.nB C 0).d:Int), ((Gm.nB C 0).e:Int), ((Gm.nB C 0).f:Int), .slice A52 n53 c54],blk g9 25 [C.a, C.b, C.c, C.d, C.e, C.f],blk g4 28 [B.a, B.b, B.c, B.d, B.e, B.f, .slice A n c]] V63):=Lib.hid (S62.out.gr hv64)
    clear S62
    clear hv64
    refine ⟨rfl,hK _ _ ?_⟩
    clear hK
    go_wp2_with fail
    (try simp only [Exit.inBlock,Exit.then])
    refine bodyPost_ret (results_cell_tmp rfl _ _ _ g14 0 [((Gm.nB C 0).a:Int), ((Gm.nB C 0).b:Int), ((Gm.nB C 0).c:Int), ((Gm.nB C 0).d:Int), ((Gm.nB C 0).e:Int), ((Gm.nB C 0).f:Int), .slice A52 n53 c54] _ rfl (S65.out.range 3 rfl 0 7 rfl) Tryd.underlying28 rfl (by kernel_rfl)) rfl ?_
    (have e_f51:=f51.out;exact ⟨A52,n53,c54,by rw [e_f51];try rfl,S65.out.sub (.cons_cons _ (.cons _ (.cons _ (.cons _ (.cons _ (.cons _ .slnil))))))⟩)
set_option maxRecDepth 1000000 in
set_option maxHeartbeats 4000000 in
theorem rsamech_any (D : Option Addr) (nd cd : Nat) (cs : List Gm.Ch) (E : Option Addr) (ne ce : Nat) (ds : List Gm.Ch) (w : World) (hC : SL w 5 D nd cd (ccs cs)) (hD : SL w 5 E ne ce (ccs ds)) :
    Calls Tryd.prog 45 #[.slice D nd cd, .slice E ne ce] w fun e w'=>e = .returned (.bool (decide (cs = ds))) ∧ Below w.heap.size w w':=by
  have HCT:=Lib.hid hC
  have HCL : Hid (cs.length = nd):=Lib.hid (by have h_:=hC.len;rw [ccs_len] at h_;omega)
  have hnbHCT : nd ≤ 9223372036854775807:=Nat.le_trans hC.cap hC.bnd
  clear hC
  have HDT:=Lib.hid hD
  have HDL : Hid (ds.length = ne):=Lib.hid (by have h_:=hD.len;rw [ccs_len] at h_;omega)
  have hnbHDT : ne ≤ 9223372036854775807:=Nat.le_trans hD.cap hD.bnd
  clear hD
  have S1 : Hid (St w noB [] w):=Lib.hid (St.start w)
  go_enter Tryd.func45,Tryd.ntmps45
  go_upto_region 0 with fail
  refine wpG_region_k (fun K hK=>?_)
  refine @wpG_p _ _ _ _ _ (some 4) (.bool false) _ _ rfl (by rfl) (fun _=>rfl) ?_
  simp only [n1,n3,n4]
  refine wpG_done (fun V2 hv3=>?_)
  have S4 : Hid (St w noB [] V2):=Lib.hid (S1.out.gr hv3)
  clear S1
  clear hv3
  refine ⟨rfl,hK _ _ ?_⟩
  clear hK
  go_upto_region 1 with fail
  refine wpG_region_k (fun K hK=>?_)
  refine @wpG_p _ _ _ _ _ (some 6) (.slice D nd cd) _ _ rfl (by rfl) (fun _=>rfl) ?_
  simp only [n1,n3,n4]
  refine @wpG_p _ _ _ _ _ (some 7) (nd : Int) _ _ rfl (by rfl) (fun W=>by go_simp) ?_
  simp only [n1,n3,n4]
  refine @wpG_p _ _ _ _ _ (some 8) (.slice E ne ce) _ _ rfl (by rfl) (fun _=>rfl) ?_
  simp only [n1,n3,n4]
  refine @wpG_p _ _ _ _ _ (some 9) (ne : Int) _ _ rfl (by rfl) (fun W=>by go_simp) ?_
  simp only [n1,n3,n4]
  refine @wpG_p _ _ _ _ _ (some 10) (.bool (decide ((nd : Int) ≠ (ne : Int)))) _ _ rfl (by rfl) (fun W=>op_int_neq W (nd : Int) (ne : Int) rfl rfl rfl Tryd.underlying3) ?_
  simp only [n1,n3,n4]
  refine wpG_done (fun V5 hv6=>?_)
  have S7 : Hid (St w noB [] V5):=Lib.hid (S4.out.gr hv6)
  clear S4
  clear hv6
  refine ⟨rfl,hK _ _ ?_⟩
  clear hK
  obtain ⟨c8,hc8⟩ : ∃ q_,q_ = (decide ((nd : Int) ≠ (ne : Int))):=⟨_,rfl⟩
  rw [← hc8]
  have Hc8:=Lib.hid hc8
  clear hc8
  cases c8 with
  | true =>
    have f9:=of_decide_eq_true Hc8.out.symm
    go_upto_region 2 with fail
    refine wpG_region_k (fun K hK=>?_)
    refine @wpG_p _ _ _ _ _ (some 4) (.bool false) _ _ rfl (by rfl) (fun _=>rfl) ?_
    simp only [n1,n3,n4]
    refine wpG_done (fun V10 hv11=>?_)
    have S12 : Hid (St w noB [] V10):=Lib.hid (S7.out.gr hv11)
    clear S7
    clear hv11
    refine ⟨rfl,hK _ _ ?_⟩
    clear hK
    go_wp2_with fail
    go_ret
    refine ⟨?_,S12.out.bel⟩
    show Ending.returned (.bool false) = _
    (first | rfl | (have hl1_:=HCL.out;have hl2_:=HDL.out;exact rb_f (decide_eq_false (fun he=>by rw [he] at hl1_;omega))))
  | false =>
    have f13:=Lib.hid (Decidable.not_not.1 (of_decide_eq_false Hc8.out.symm))
    have f13a:=Int.le_of_eq f13.out
    have f13b:=Int.le_of_eq f13.out.symm
    go_upto_region 3 with fail
    refine wpG_region_k (fun K hK=>?_)
    refine @wpG_p _ _ _ _ _ (some 5) () _ _ rfl (by rfl) (fun _=>rfl) ?_
    simp only [n1,n3,n4]
    refine wpG_done (fun V14 hv15=>?_)
    have S16 : Hid (St w noB [] V14):=Lib.hid (S7.out.gr hv15)
    clear S7
    clear hv15
    refine ⟨rfl,hK _ _ ?_⟩
    clear hK
    go_wp2_with fail
    go_loopw [5] (fun v5 wr=>∃ (k : Nat),v5 = .int .i64 (k : Int) ∧ k ≤ Ff.ff (Gm.eqc cs ds) cs.length ∧ k ≤ nd ∧ St w noB [] wr) (fun i _=>nd - (intOf i).toNat)
    case atStart=>exact ⟨0,rfl,Nat.zero_le _,Nat.zero_le _,S16.out⟩
    case round =>
      obtain ⟨k,rfl,hk_,hkn,hS⟩:=hrel
      have HK_:=Lib.hid hk_
      clear hk_
      have SL:=Lib.hid hS
      clear S16 hS
      have S17:=SL
      clear SL
      go_upto_region 4 with fail
      refine wpG_region_k (fun K hK=>?_)
      refine @wpG_p _ _ _ _ _ (some 11) (k : Int) _ _ rfl (by rfl) (fun _=>rfl) ?_
      simp only [n1,n3,n4]
      refine @wpG_p _ _ _ _ _ (some 12) (.slice D nd cd) _ _ rfl (by rfl) (fun _=>rfl) ?_
      simp only [n1,n3,n4]
      refine @wpG_p _ _ _ _ _ (some 13) (nd : Int) _ _ rfl (by rfl) (fun W=>by go_simp) ?_
      simp only [n1,n3,n4]
      refine @wpG_p _ _ _ _ _ (some 14) (.bool (decide ((k : Int) < (nd : Int)))) _ _ rfl (by rfl) (fun W=>op_int_lss W (k : Int) (nd : Int) rfl rfl rfl Tryd.underlying3) ?_
      simp only [n1,n3,n4]
      refine wpG_done (fun V18 hv19=>?_)
      have S20 : Hid (St w noB [] V18):=Lib.hid (S17.out.gr hv19)
      clear S17
      clear hv19
      refine ⟨rfl,hK _ _ ?_⟩
      clear hK
      obtain ⟨c21,hc21⟩ : ∃ q_,q_ = (decide ((k : Int) < (nd : Int))):=⟨_,rfl⟩
      rw [← hc21]
      have Hc21:=Lib.hid hc21
      clear hc21
      cases c21 with
      | true =>
        have f22:=of_decide_eq_true Hc21.out.symm
        go_upto_region 6 with fail
        refine wpK_region_k (by kernel_rfl) (fun K hK=>?_)
        refine wpK_ta (i:=0) (some 17) (v:=.slice D nd cd) rfl rfl (by kernel_rfl) (fun _ _ _ h=>onN_panic h) (Or.inl ⟨rfl,fun _=>rfl⟩) ?_
        simp only [n1,n3,n4]
        refine wpK_ta (i:=1) (some 18) (v:=(k : Int)) rfl rfl (by kernel_rfl) (fun _ _ _ h=>onN_panic h) (Or.inl ⟨rfl,fun _=>rfl⟩) ?_
        simp only [n1,n3,n4]
        obtain ⟨b23,o23,rfl⟩:=HCT.out.addr (by decide) (by omega)
        refine wpK_ta (i:=2) (some 19) (v:=.pointer (some ⟨b23,o23 + k * 5,none⟩)) rfl rfl (by kernel_rfl) (fun _ _ _ h=>onN_panic h) (Or.inl ⟨by rfl,fun W=>by (go_simp <;> first | rfl | omega | (simp;omega))⟩) ?_
        simp only [n1,n3,n4]
        refine wpK_ta (i:=4) (some 21) (v:=.slice E ne ce) rfl rfl (by kernel_rfl) (fun _ _ _ h=>onN_panic h) (Or.inl ⟨rfl,fun _=>rfl⟩) ?_
        simp only [n1,n3,n4]
        refine wpK_ta (i:=5) (some 22) (v:=(k : Int)) rfl rfl (by kernel_rfl) (fun _ _ _ h=>onN_panic h) (Or.inl ⟨rfl,fun _=>rfl⟩) ?_
        simp only [n1,n3,n4]
        obtain ⟨b24,o24,rfl⟩:=HDT.out.addr (by decide) (by omega)
        refine wpK_ta (i:=6) (some 23) (v:=.pointer (some ⟨b24,o24 + k * 5,none⟩)) rfl rfl (by kernel_rfl) (fun _ _ _ h=>onN_panic h) (Or.inl ⟨by rfl,fun W=>by (go_simp <;> first | rfl | omega | (simp;omega))⟩) ?_
        simp only [n1,n3,n4]
        refine wpK_tk (i:=3) (some 20) (v:=.agg #[((Gm.cat cs k).x:Int), ((Gm.cat cs k).y:Int), ((Gm.cat cs k).z:Int), ((Gm.cat cs k).o:Int), ((Gm.cat cs k).n:Int)]) rfl rfl (by kernel_rfl) (fun _ _ _ h=>onN_panic h) (.load_mid (by rfl) 74 (.tmp 19) rfl b23 (o23 + k * 5) rfl [((Gm.cat cs k).x:Int), ((Gm.cat cs k).y:Int), ((Gm.cat cs k).z:Int), ((Gm.cat cs k).o:Int), ((Gm.cat cs k).n:Int)] _ (fun W hg=>((HCT.out.gr ((S20.out.gr (Gr.un hg))).bel).chg (l:=cs) k (by (have:=HCL.out;have:=HDL.out;omega)))) Tryd.underlying74 rfl (by kernel_rfl)) ?_
        simp only [n1,n3,n4]
        refine wpK_tk (i:=7) (some 24) (v:=.agg #[((Gm.cat ds k).x:Int), ((Gm.cat ds k).y:Int), ((Gm.cat ds k).z:Int), ((Gm.cat ds k).o:Int), ((Gm.cat ds k).n:Int)]) rfl rfl (by kernel_rfl) (fun _ _ _ h=>onN_panic h) (.load_mid (by rfl) 74 (.tmp 23) rfl b24 (o24 + k * 5) rfl [((Gm.cat ds k).x:Int), ((Gm.cat ds k).y:Int), ((Gm.cat ds k).z:Int), ((Gm.cat ds k).o:Int), ((Gm.cat ds k).n:Int)] _ (fun W hg=>((HDT.out.gr ((S20.out.gr (Gr.un hg))).bel).chg (l:=ds) k (by (have:=HCL.out;have:=HDL.out;omega)))) Tryd.underlying74 rfl (by kernel_rfl)) ?_
        simp only [n1,n3,n4]
        refine wpK_ta (i:=8) (some 25) (v:=.bool (decide (¬ (((Gm.cat cs k).x) = ((Gm.cat ds k).x) ∧ ((Gm.cat cs k).y) = ((Gm.cat ds k).y) ∧ ((Gm.cat cs k).z) = ((Gm.cat ds k).z) ∧ ((Gm.cat cs k).o) = ((Gm.cat ds k).o) ∧ ((Gm.cat cs k).n) = ((Gm.cat ds k).n))))) rfl rfl (by kernel_rfl) (fun _ _ _ h=>onN_panic h) (Or.inl ⟨by rfl,fun W=>by exact op_ch_neq W ((Gm.cat cs k).x) ((Gm.cat cs k).y) ((Gm.cat cs k).z) ((Gm.cat cs k).o) ((Gm.cat cs k).n) ((Gm.cat ds k).x) ((Gm.cat ds k).y) ((Gm.cat ds k).z) ((Gm.cat ds k).o) ((Gm.cat ds k).n) rfl rfl rfl⟩) ?_
        simp only [n1,n3,n4]
        refine wpK_done (by kernel_rfl) (fun V25 hv26=>?_) _
        have S27 : Hid (St w noB [] V25):=Lib.hid (S20.out.gr (Gr.un hv26))
        clear S20
        clear hv26
        refine ⟨rfl,hK _ _ ?_⟩
        clear hK
        obtain ⟨c28,hc28⟩ : ∃ q_,q_ = (decide (¬ (((Gm.cat cs k).x) = ((Gm.cat ds k).x) ∧ ((Gm.cat cs k).y) = ((Gm.cat ds k).y) ∧ ((Gm.cat cs k).z) = ((Gm.cat ds k).z) ∧ ((Gm.cat cs k).o) = ((Gm.cat ds k).o) ∧ ((Gm.cat cs k).n) = ((Gm.cat ds k).n)))):=⟨_,rfl⟩
        rw [← hc28]
        have Hc28:=Lib.hid hc28
        clear hc28
        cases c28 with
        | true =>
          have f29:=Lib.hid (of_decide_eq_true Hc28.out.symm)
          go_upto_region 7 with fail
          refine wpG_region_k (fun K hK=>?_)
          refine @wpG_p _ _ _ _ _ (some 4) (.bool false) _ _ rfl (by rfl) (fun _=>rfl) ?_
          simp only [n1,n3,n4]
          refine wpG_done (fun V30 hv31=>?_)
          have S32 : Hid (St w noB [] V30):=Lib.hid (S27.out.gr hv31)
          clear S27
          clear hv31
          refine ⟨rfl,hK _ _ ?_⟩
          clear hK
          go_wp2_with fail
          go_ret
          refine ⟨?_,S32.out.bel⟩
          show Ending.returned (.bool false) = _
          (first | rfl | (have e_f13:=f13.out;have e_f29:=f29.out;exact rb_f (decide_eq_false (fun he=>e_f29 (Gm.ch_eq.1 (by rw [he]))))))
        | false =>
          have f33:=of_decide_eq_false Hc28.out.symm
          go_upto_region 5 with fail
          refine wpG_region_k (fun K hK=>?_)
          refine @wpG_p _ _ _ _ _ (some 15) (k : Int) _ _ rfl (by rfl) (fun _=>rfl) ?_
          simp only [n1,n3,n4]
          refine @wpG_p _ _ _ _ _ (some 16) ((k : Int) + 1:Int) _ _ rfl (by rfl) (fun W=>op_i_add W (k : Int) 1 (by omega) rfl rfl rfl Tryd.underlying3) ?_
          simp only [n1,n3,n4]
          refine @wpG_p _ _ _ _ _ (some 5) ((k : Int) + 1:Int) _ _ rfl (by rfl) (fun _=>rfl) ?_
          simp only [n1,n3,n4]
          refine wpG_done (fun V34 hv35=>?_)
          have S36 : Hid (St w noB [] V34):=Lib.hid (S27.out.gr hv35)
          clear S27
          clear hv35
          refine ⟨rfl,hK _ _ ?_⟩
          clear hK
          go_wp2_with fail
          go_roundw
          case rel=>exact ⟨k + 1,(by first | rfl | go_num),(by have e_f13:=f13.out;exact Ff.ff_step HK_.out (by have:=HCL.out;omega) (decide_eq_true (Gm.ch_eq.2 (by first | exact f33 | exact Decidable.not_not.1 f33)))),(by omega),S36.out⟩
          case measure=>first | (simp only [intOf];omega) | (simp [intOf];done) | (simp [intOf];omega) | omega
      | false =>
        have f37:=of_decide_eq_false Hc21.out.symm
        go_upto_region 8 with fail
        refine wpG_region_k (fun K hK=>?_)
        refine @wpG_p _ _ _ _ _ (some 4) (.bool true) _ _ rfl (by rfl) (fun _=>rfl) ?_
        simp only [n1,n3,n4]
        refine wpG_done (fun V38 hv39=>?_)
        have S40 : Hid (St w noB [] V38):=Lib.hid (S20.out.gr hv39)
        clear S20
        clear hv39
        refine ⟨rfl,hK _ _ ?_⟩
        clear hK
        go_wp2_with fail
        go_ret
        refine ⟨?_,S40.out.bel⟩
        show Ending.returned (.bool true) = _
        (first | rfl | (have e_f13:=f13.out;have hl1_:=HCL.out;have hl2_:=HDL.out;exact rb_t (decide_eq_true (Gm.samech_yes (by omega) (by have h_:=HK_.out;have e_ : k = cs.length:=(by omega);rw [e_] at h_;exact h_)))))

end Go.Proofs.YtpapbbolefnkmaaDoor
