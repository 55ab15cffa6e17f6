/-
  Package grid: grids cropped and shifted.
-/
import Derived.Test.YtpapbbolefnkmaaDoorZB00
import Derived.Test.YtpapbbolefnkmaaDoorZB46
import Derived.Test.YtpapbbolefnkmaaDoorZB30
import Derived.Handy
namespace Go.Proofs.YtpapbbolefnkmaaDoor
open Go Go.RowKit
set_option linter.unusedVariables false
set_option linter.unusedSimpArgs false
set_option maxRecDepth 1000000 in
set_option maxHeartbeats 4000000 in
theorem crop_any (B : Gm.Bx) (A : Option Addr) (n c : Nat) (l : List Int) (C : Gm.Bx) (w : World) (hG : SL w 1 A n c (ic l)) (hok : Gm.ok B l) :
    Calls Tryd.prog 17 #[.agg #[B.a, B.b, B.c, B.d, B.e, B.f, .slice A n c], .agg #[C.a, C.b, C.c, C.d, C.e, C.f]] w fun e w'=>∃ A n c,e = .returned (.tuple #[.agg #[((Gm.nB C 0).a:Int), ((Gm.nB C 0).b:Int), ((Gm.nB C 0).c:Int), ((Gm.nB C 0).d:Int), ((Gm.nB C 0).e:Int), ((Gm.nB C 0).f:Int), .slice A n c], (Gm.nE C 0)]) ∧ St w noB [own (.slice A n c) 3 1 n (ic (Gm.paste (Gm.nB C 0) (Gm.nL C 0) B l))] w':=by
  have HGA:=Lib.hid hG
  have HLEN : Hid (l.length = n):=Lib.hid (by have h_:=hG.len;rw [ic_len] at h_;omega)
  have hnbHGA : n ≤ 9223372036854775807:=Nat.le_trans hG.cap hG.bnd
  clear hG
  have HOK:=Lib.hid hok
  clear hok
  have S1 : Hid (St w noB [] w):=Lib.hid (St.start w)
  go_enter Tryd.func17,Tryd.ntmps17
  go_upto_region 0 with fail
  refine wpG_region_k (fun K hK=>?_)
  refine wpG_val (some 2) rfl (by rfl) (fun W2 hg3=>⟨.pointer (some ⟨W2.heap.size,0,none⟩),W2.alloc (.cells #[B.a, B.b, B.c, B.d, B.e, B.f, .slice A n c] 28),by (first | (go_simp;done) | (go_simp <;> rfl)), ?_⟩)
  simp only [n1,n3,n4]
  obtain ⟨g4,U5,hg_,hu_,hS_⟩:=(S1.out.gr hg3).made [B.a, B.b, B.c, B.d, B.e, B.f, .slice A n c] 28
  rw [← hu_,← hg_]
  have S6 : Hid (St w noB [blk g4 28 [B.a, B.b, B.c, B.d, B.e, B.f, .slice A n c]] U5):=Lib.hid hS_
  clear S1
  clear hg_ hu_ hS_ hg3
  refine wpG_val (some 3) rfl (by rfl) (fun W7 hg8=>⟨.pointer (some ⟨W7.heap.size,0,none⟩),W7.alloc (.cells #[C.a, C.b, C.c, C.d, C.e, C.f] 25),by (first | (go_simp;done) | (go_simp <;> rfl)), ?_⟩)
  simp only [n1,n3,n4]
  obtain ⟨g9,U10,hg_,hu_,hS_⟩:=(S6.out.gr hg8).made [C.a, C.b, C.c, C.d, C.e, C.f] 25
  rw [← hu_,← hg_]
  have S11 : Hid (St w noB [blk g9 25 [C.a, C.b, C.c, C.d, C.e, C.f],blk g4 28 [B.a, B.b, B.c, B.d, B.e, B.f, .slice A n c]] U10):=Lib.hid hS_
  clear S6
  clear hg_ hu_ hS_ hg8
  refine wpG_val (some 4) rfl (by rfl) (fun W12 hg13=>⟨.pointer (some ⟨W12.heap.size,0,none⟩),W12.alloc (.cells #[(), (), (), (), (), (), .slice none 0 0] 28),by (first | (go_simp;done) | (go_simp <;> rfl)), ?_⟩)
  simp only [n1,n3,n4]
  obtain ⟨g14,U15,hg_,hu_,hS_⟩:=(S11.out.gr hg13).made [(), (), (), (), (), (), .slice none 0 0] 28
  rw [← hu_,← hg_]
  have S16 : Hid (St w noB [blk g14 28 [(), (), (), (), (), (), .slice none 0 0],blk g9 25 [C.a, C.b, C.c, C.d, C.e, C.f],blk g4 28 [B.a, B.b, B.c, B.d, B.e, B.f, .slice A n c]] U15):=Lib.hid hS_
  clear S11
  clear hg_ hu_ hS_ hg13
  refine @wpG_p _ _ _ _ _ (some 5) () _ _ rfl (by rfl) (fun _=>rfl) ?_
  simp only [n1,n3,n4]
  refine wpG_done (fun V17 hv18=>?_)
  have S19 : Hid (St w noB [blk g14 28 [(), (), (), (), (), (), .slice none 0 0],blk g9 25 [C.a, C.b, C.c, C.d, C.e, C.f],blk g4 28 [B.a, B.b, B.c, B.d, B.e, B.f, .slice A n c]] V17):=Lib.hid (S16.out.gr hv18)
  clear S16
  clear hv18
  refine ⟨rfl,hK _ _ ?_⟩
  clear hK
  go_upto_region 1 with fail
  refine wpG_region_k (fun K hK=>?_)
  refine @wpG_tk _ _ _ _ _ (some 9) (.agg #[C.a, C.b, C.c, C.d, C.e, C.f]) _ _ rfl (.load_mid (by rfl) 25 (.tmp 3) rfl g9 0 rfl [C.a, C.b, C.c, C.d, C.e, C.f] _ (fun W hg=>(S19.out.gr hg).range 1 rfl 0 6 rfl) Tryd.underlying25 rfl (by kernel_rfl)) ?_
  simp only [n1,n3,n4]
  refine wpG_call (some 10) 14 #[.agg #[C.a, C.b, C.c, C.d, C.e, C.f], ()] rfl (by rfl) (fun W=>by go_simp) (fun W23 hg24=>?_)
  refine (new_any C 0 W23).mono ?_
  rintro e w25 ⟨A20,n21,c22,rfl,hS_⟩
  refine ⟨_,rfl, ?_⟩
  have hT_:=(S19.out.gr hg24).got hS_
  simp only [n1,n3,n4]
  have S26 : Hid (St w noB [own (.slice A20 n21 c22) 3 1 n21 (ic (Gm.nL C 0)),blk g14 28 [(), (), (), (), (), (), .slice none 0 0],blk g9 25 [C.a, C.b, C.c, C.d, C.e, C.f],blk g4 28 [B.a, B.b, B.c, B.d, B.e, B.f, .slice A n c]] w25):=Lib.hid hT_
  clear S19
  clear hT_ hS_ hg24
  refine @wpG_p _ _ _ _ _ (some 8) (.tuple #[.agg #[((Gm.nB C 0).a:Int), ((Gm.nB C 0).b:Int), ((Gm.nB C 0).c:Int), ((Gm.nB C 0).d:Int), ((Gm.nB C 0).e:Int), ((Gm.nB C 0).f:Int), .slice A20 n21 c22], (Gm.nE C 0)]) _ _ rfl (by rfl) (fun _=>rfl) ?_
  simp only [n1,n3,n4]
  refine @wpG_p _ _ _ _ _ (some 11) (.agg #[((Gm.nB C 0).a:Int), ((Gm.nB C 0).b:Int), ((Gm.nB C 0).c:Int), ((Gm.nB C 0).d:Int), ((Gm.nB C 0).e:Int), ((Gm.nB C 0).f:Int), .slice A20 n21 c22]) _ _ rfl (by rfl) (fun W=>by go_simp) ?_
  simp only [n1,n3,n4]
  refine @wpG_p _ _ _ _ _ (some 12) (Gm.nE C 0) _ _ rfl (by rfl) (fun W=>by go_simp) ?_
  simp only [n1,n3,n4]
  refine wpG_val (some 6) rfl (by rfl) (fun W27 hg28=>⟨.pointer (some ⟨W27.heap.size,0,none⟩),W27.alloc (.cells #[(), (), (), (), (), (), .slice none 0 0] 28),by (first | (go_simp;done) | (go_simp <;> rfl)), ?_⟩)
  simp only [n1,n3,n4]
  obtain ⟨g29,U30,hg_,hu_,hS_⟩:=(S26.out.gr hg28).made [(), (), (), (), (), (), .slice none 0 0] 28
  rw [← hu_,← hg_]
  have S31 : Hid (St w noB [blk g29 28 [(), (), (), (), (), (), .slice none 0 0],own (.slice A20 n21 c22) 3 1 n21 (ic (Gm.nL C 0)),blk g14 28 [(), (), (), (), (), (), .slice none 0 0],blk g9 25 [C.a, C.b, C.c, C.d, C.e, C.f],blk g4 28 [B.a, B.b, B.c, B.d, B.e, B.f, .slice A n c]] U30):=Lib.hid hS_
  clear S26
  clear hg_ hu_ hS_ hg28
  refine wpG_store (none) rfl (by rfl) (fun W32 hg33=>⟨_,run_store_mid 28 (.tmp 6) (.tmp 11) rfl g29 0 #[((Gm.nB C 0).a:Int), ((Gm.nB C 0).b:Int), ((Gm.nB C 0).c:Int), ((Gm.nB C 0).d:Int), ((Gm.nB C 0).e:Int), ((Gm.nB C 0).f:Int), .slice A20 n21 c22] rfl rfl ((S31.out.gr hg33).room 0 rfl 0 7 (by simp)) (by kernel_rfl) (by kernel_rfl), ?_⟩)
  simp only [n2]
  obtain ⟨U34,hu_,hS_⟩:=((S31.out.gr hg33).put 0 rfl 0 (#[((Gm.nB C 0).a:Int), ((Gm.nB C 0).b:Int), ((Gm.nB C 0).c:Int), ((Gm.nB C 0).d:Int), ((Gm.nB C 0).e:Int), ((Gm.nB C 0).f:Int), .slice A20 n21 c22] : Array Value).toList (ds:=[((Gm.nB C 0).a:Int), ((Gm.nB C 0).b:Int), ((Gm.nB C 0).c:Int), ((Gm.nB C 0).d:Int), ((Gm.nB C 0).e:Int), ((Gm.nB C 0).f:Int), .slice A20 n21 c22]) rfl).named
  rw [← hu_]
  have S35 : Hid (St w noB [blk g29 28 [((Gm.nB C 0).a:Int), ((Gm.nB C 0).b:Int), ((Gm.nB C 0).c:Int), ((Gm.nB C 0).d:Int), ((Gm.nB C 0).e:Int), ((Gm.nB C 0).f:Int), .slice A20 n21 c22],own (.slice A20 n21 c22) 3 1 n21 (ic (Gm.nL C 0)),blk g14 28 [(), (), (), (), (), (), .slice none 0 0],blk g9 25 [C.a, C.b, C.c, C.d, C.e, C.f],blk g4 28 [B.a, B.b, B.c, B.d, B.e, B.f, .slice A n c]] U34):=Lib.hid hS_
  clear S31
  clear hu_ hS_ hg33
  refine @wpG_p _ _ _ _ _ (some 7) (Gm.nE C 0) _ _ rfl (by rfl) (fun _=>rfl) ?_
  simp only [n1,n3,n4]
  refine wpG_done (fun V36 hv37=>?_)
  have S38 : Hid (St w noB [blk g29 28 [((Gm.nB C 0).a:Int), ((Gm.nB C 0).b:Int), ((Gm.nB C 0).c:Int), ((Gm.nB C 0).d:Int), ((Gm.nB C 0).e:Int), ((Gm.nB C 0).f:Int), .slice A20 n21 c22],own (.slice A20 n21 c22) 3 1 n21 (ic (Gm.nL C 0)),blk g14 28 [(), (), (), (), (), (), .slice none 0 0],blk g9 25 [C.a, C.b, C.c, C.d, C.e, C.f],blk g4 28 [B.a, B.b, B.c, B.d, B.e, B.f, .slice A n c]] V36):=Lib.hid (S35.out.gr hv37)
  clear S35
  clear hv37
  refine ⟨rfl,hK _ _ ?_⟩
  clear hK
  go_upto_region 2 with fail
  refine wpG_region_k (fun K hK=>?_)
  refine @wpG_p _ _ _ _ _ (some 13) (Gm.nE C 0) _ _ rfl (by rfl) (fun _=>rfl) ?_
  simp only [n1,n3,n4]
  refine @wpG_p _ _ _ _ _ (some 14) (.bool (decide (Gm.nE C 0 ≠ 0))) _ _ rfl (by rfl) (fun W=>op_int_neq W (Gm.nE C 0) 0 rfl rfl rfl Tryd.underlying33) ?_
  simp only [n1,n3,n4]
  refine wpG_done (fun V39 hv40=>?_)
  have S41 : Hid (St w noB [blk g29 28 [((Gm.nB C 0).a:Int), ((Gm.nB C 0).b:Int), ((Gm.nB C 0).c:Int), ((Gm.nB C 0).d:Int), ((Gm.nB C 0).e:Int), ((Gm.nB C 0).f:Int), .slice A20 n21 c22],own (.slice A20 n21 c22) 3 1 n21 (ic (Gm.nL C 0)),blk g14 28 [(), (), (), (), (), (), .slice none 0 0],blk g9 25 [C.a, C.b, C.c, C.d, C.e, C.f],blk g4 28 [B.a, B.b, B.c, B.d, B.e, B.f, .slice A n c]] V39):=Lib.hid (S38.out.gr hv40)
  clear S38
  clear hv40
  refine ⟨rfl,hK _ _ ?_⟩
  clear hK
  obtain ⟨c42,hc42⟩ : ∃ q_,q_ = (decide (Gm.nE C 0 ≠ 0)):=⟨_,rfl⟩
  rw [← hc42]
  have Hc42:=Lib.hid hc42
  clear hc42
  cases c42 with
  | true =>
    have f43:=of_decide_eq_true Hc42.out.symm
    go_upto_region 3 with fail
    refine wpG_region_k (fun K hK=>?_)
    refine @wpG_p _ _ _ _ _ (some 15) (.agg #[(), (), (), (), (), (), .slice none 0 0]) _ _ rfl (by rfl) (fun W=>by go_simp) ?_
    simp only [n1,n3,n4]
    refine @wpG_p _ _ _ _ _ (some 16) (Gm.nE C 0) _ _ rfl (by rfl) (fun _=>rfl) ?_
    simp only [n1,n3,n4]
    refine wpG_store (none) rfl (by rfl) (fun W44 hg45=>⟨_,run_store_mid 28 (.tmp 4) (.tmp 15) rfl g14 0 #[(), (), (), (), (), (), .slice none 0 0] rfl rfl ((S41.out.gr hg45).room 2 rfl 0 7 (by simp)) (by kernel_rfl) (by kernel_rfl), ?_⟩)
    simp only [n2]
    obtain ⟨U46,hu_,hS_⟩:=((S41.out.gr hg45).put 2 rfl 0 (#[(), (), (), (), (), (), .slice none 0 0] : Array Value).toList (ds:=[(), (), (), (), (), (), .slice none 0 0]) rfl).named
    rw [← hu_]
    have S47 : Hid (St w noB [blk g29 28 [((Gm.nB C 0).a:Int), ((Gm.nB C 0).b:Int), ((Gm.nB C 0).c:Int), ((Gm.nB C 0).d:Int), ((Gm.nB C 0).e:Int), ((Gm.nB C 0).f:Int), .slice A20 n21 c22],own (.slice A20 n21 c22) 3 1 n21 (ic (Gm.nL C 0)),blk g14 28 [(), (), (), (), (), (), .slice none 0 0],blk g9 25 [C.a, C.b, C.c, C.d, C.e, C.f],blk g4 28 [B.a, B.b, B.c, B.d, B.e, B.f, .slice A n c]] U46):=Lib.hid hS_
    clear S41
    clear hu_ hS_ hg45
    refine @wpG_p _ _ _ _ _ (some 5) (Gm.nE C 0) _ _ rfl (by rfl) (fun _=>rfl) ?_
    simp only [n1,n3,n4]
    refine wpG_done (fun V48 hv49=>?_)
    have S50 : Hid (St w noB [blk g29 28 [((Gm.nB C 0).a:Int), ((Gm.nB C 0).b:Int), ((Gm.nB C 0).c:Int), ((Gm.nB C 0).d:Int), ((Gm.nB C 0).e:Int), ((Gm.nB C 0).f:Int), .slice A20 n21 c22],own (.slice A20 n21 c22) 3 1 n21 (ic (Gm.nL C 0)),blk g14 28 [(), (), (), (), (), (), .slice none 0 0],blk g9 25 [C.a, C.b, C.c, C.d, C.e, C.f],blk g4 28 [B.a, B.b, B.c, B.d, B.e, B.f, .slice A n c]] V48):=Lib.hid (S47.out.gr hv49)
    clear S47
    clear hv49
    refine ⟨rfl,hK _ _ ?_⟩
    clear hK
    go_wp2_with fail
    (try simp only [Exit.inBlock,Exit.then])
    refine bodyPost_ret (results_cell_tmp rfl _ _ _ g14 0 [(), (), (), (), (), (), .slice none 0 0] _ rfl (S50.out.range 2 rfl 0 7 rfl) Tryd.underlying28 rfl (by kernel_rfl)) rfl ?_
    (obtain ⟨h1_,h2_⟩:=Gm.crop_err (B:=B) (l:=l) f43;exact ⟨none,0,0,by rw [h1_];try rfl,by rw [h2_];exact S50.out.dropAll.nilOwn _ _⟩)
  | false =>
    have f51:=Lib.hid (Decidable.not_not.1 (of_decide_eq_false Hc42.out.symm))
    have f51a:=Int.le_of_eq f51.out
    have f51b:=Int.le_of_eq f51.out.symm
    go_upto_region 4 with fail
    refine wpG_region_k (fun K hK=>?_)
    refine @wpG_tk _ _ _ _ _ (some 17) (.agg #[((Gm.nB C 0).a:Int), ((Gm.nB C 0).b:Int), ((Gm.nB C 0).c:Int), ((Gm.nB C 0).d:Int), ((Gm.nB C 0).e:Int), ((Gm.nB C 0).f:Int), .slice A20 n21 c22]) _ _ rfl (.load_mid (by rfl) 28 (.tmp 6) rfl g29 0 rfl [((Gm.nB C 0).a:Int), ((Gm.nB C 0).b:Int), ((Gm.nB C 0).c:Int), ((Gm.nB C 0).d:Int), ((Gm.nB C 0).e:Int), ((Gm.nB C 0).f:Int), .slice A20 n21 c22] _ (fun W hg=>(S41.out.gr hg).range 0 rfl 0 7 rfl) Tryd.underlying28 rfl (by kernel_rfl)) ?_
    simp only [n1,n3,n4]
    refine @wpG_tk _ _ _ _ _ (some 18) (.agg #[B.a, B.b, B.c, B.d, B.e, B.f, .slice A n c]) _ _ rfl (.load_mid (by rfl) 28 (.tmp 2) rfl g4 0 rfl [B.a, B.b, B.c, B.d, B.e, B.f, .slice A n c] _ (fun W hg=>(S41.out.gr hg).range 4 rfl 0 7 rfl) Tryd.underlying28 rfl (by kernel_rfl)) ?_
    simp only [n1,n3,n4]
    refine wpG_call (some 19) 24 #[.agg #[((Gm.nB C 0).a:Int), ((Gm.nB C 0).b:Int), ((Gm.nB C 0).c:Int), ((Gm.nB C 0).d:Int), ((Gm.nB C 0).e:Int), ((Gm.nB C 0).f:Int), .slice A20 n21 c22], .agg #[B.a, B.b, B.c, B.d, B.e, B.f, .slice A n c]] rfl (by rfl) (fun W=>by go_simp) (fun W55 hg56=>?_)
    refine (paste_any (Gm.nB C 0) _ _ _ (Gm.nL C 0) B _ _ _ l W55 (SL.ofOwn ((S41.out.gr hg56).ownr 1 rfl)) (HGA.out.gr (S41.out.gr hg56).bel) (by have e_f51:=f51.out;exact Gm.ok_new (by first | exact e_f51 | exact Decidable.not_not.1 e_f51)) HOK.out).mono ?_
    rintro e w57 ⟨A52,n53,c54,rfl,hS_⟩
    refine ⟨_,rfl, ?_⟩
    have hT_:=(S41.out.gr hg56).got hS_
    simp only [n1,n3,n4]
    have S58 : Hid (St w noB [own (.slice A52 n53 c54) 3 1 n53 (ic (Gm.paste (Gm.nB C 0) (Gm.nL C 0) B l)),blk g29 28 [((Gm.nB C 0).a:Int), ((Gm.nB C 0).b:Int), ((Gm.nB C 0).c:Int), ((Gm.nB C 0).d:Int), ((Gm.nB C 0).e:Int), ((Gm.nB C 0).f:Int), .slice A20 n21 c22],own (.slice A20 n21 c22) 3 1 n21 (ic (Gm.nL C 0)),blk g14 28 [(), (), (), (), (), (), .slice none 0 0],blk g9 25 [C.a, C.b, C.c, C.d, C.e, C.f],blk g4 28 [B.a, B.b, B.c, B.d, B.e, B.f, .slice A n c]] w57):=Lib.hid hT_
    clear S41
    clear hT_ hS_ hg56
    have hnn53 : n53 ≤ (Gm.paste (Gm.nB C 0) (Gm.nL C 0) B l).length ∧ (Gm.paste (Gm.nB C 0) (Gm.nL C 0) B l).length ≤ n53:=by have h_:=own_icl (S58.out.ownr 0 rfl);omega
    refine wpG_store (none) rfl (by rfl) (fun W59 hg60=>⟨_,run_store_mid 28 (.tmp 4) (.tmp 19) rfl g14 0 #[((Gm.nB C 0).a:Int), ((Gm.nB C 0).b:Int), ((Gm.nB C 0).c:Int), ((Gm.nB C 0).d:Int), ((Gm.nB C 0).e:Int), ((Gm.nB C 0).f:Int), .slice A52 n53 c54] rfl rfl ((S58.out.gr hg60).room 3 rfl 0 7 (by simp)) (by kernel_rfl) (by kernel_rfl), ?_⟩)
    simp only [n2]
    obtain ⟨U61,hu_,hS_⟩:=((S58.out.gr hg60).put 3 rfl 0 (#[((Gm.nB C 0).a:Int), ((Gm.nB C 0).b:Int), ((Gm.nB C 0).c:Int), ((Gm.nB C 0).d:Int), ((Gm.nB C 0).e:Int), ((Gm.nB C 0).f:Int), .slice A52 n53 c54] : Array Value).toList (ds:=[((Gm.nB C 0).a:Int), ((Gm.nB C 0).b:Int), ((Gm.nB C 0).c:Int), ((Gm.nB C 0).d:Int), ((Gm.nB C 0).e:Int), ((Gm.nB C 0).f:Int), .slice A52 n53 c54]) rfl).named
    rw [← hu_]
    have S62 : Hid (St w noB [own (.slice A52 n53 c54) 3 1 n53 (ic (Gm.paste (Gm.nB C 0) (Gm.nL C 0) B l)),blk g29 28 [((Gm.nB C 0).a:Int), ((Gm.nB C 0).b:Int), ((Gm.nB C 0).c:Int), ((Gm.nB C 0).d:Int), ((Gm.nB C 0).e:Int), ((Gm.nB C 0).f:Int), .slice A20 n21 c22],own (.slice A20 n21 c22) 3 1 n21 (ic (Gm.nL C 0)),blk g14 28 [((Gm.nB C 0).a:Int), ((Gm.nB C 0).b:Int), ((Gm.nB C 0).c:Int), ((Gm.nB C 0).d:Int), ((Gm.nB C 0).e:Int), ((Gm.nB C 0).f:Int), .slice A52 n53 c54],blk g9 25 [C.a, C.b, C.c, C.d, C.e, C.f],blk g4 28 [B.a, B.b, B.c, B.d, B.e, B.f, .slice A n c]] U61):=Lib.hid hS_
    clear S58
    clear hu_ hS_ hg60
    refine @wpG_p _ _ _ _ _ (some 5) () _ _ rfl (by rfl) (fun _=>rfl) ?_
    simp only [n1,n3,n4]
    refine wpG_done (fun V63 hv64=>?_)
    have S65 : Hid (St w noB [own (.slice A52 n53 c54) 3 1 n53 (ic (Gm.paste (Gm.nB C 0) (Gm.nL C 0) B l)),blk g29 28 [((Gm.nB C 0).a:Int), ((Gm.nB C 0).b:Int), ((Gm.nB C 0).c:Int), ((Gm.nB C 0).d:Int), ((Gm.nB C 0).e:Int), ((Gm.nB C 0).f:Int), .slice A20 n21 c22],own (.slice A20 n21 c22) 3 1 n21 (ic (Gm.nL C 0)),blk g14 28 [((Gm.nB C 0).a:Int), ((Gm.nB C 0).b:Int), ((Gm.nB C 0).c:Int), ((Gm.nB C 0).d:Int), ((Gm.nB C 0).e:Int), ((Gm.nB C 0).f:Int), .slice A52 n53 c54],blk g9 25 [C.a, C.b, C.c, C.d, C.e, C.f],blk g4 28 [B.a, B.b, B.c, B.d, B.e, B.f, .slice A n c]] V63):=Lib.hid (S62.out.gr hv64)
    clear S62
    clear hv64
    refine ⟨rfl,hK _ _ ?_⟩
    clear hK
    go_wp2_with fail
    (try simp only [Exit.inBlock,Exit.then])
    refine bodyPost_ret (results_cell_tmp rfl _ _ _ g14 0 [((Gm.nB C 0).a:Int), ((Gm.nB C 0).b:Int), ((Gm.nB C 0).c:Int), ((Gm.nB C 0).d:Int), ((Gm.nB C 0).e:Int), ((Gm.nB C 0).f:Int), .slice A52 n53 c54] _ rfl (S65.out.range 3 rfl 0 7 rfl) Tryd.underlying28 rfl (by kernel_rfl)) rfl ?_
    (have e_f51:=f51.out;exact ⟨A52,n53,c54,by rw [show Gm.nE C 0 = 0 from (by first | exact e_f51 | exact Decidable.not_not.1 e_f51)];try rfl,(S65.out.sub (.cons_cons _ (.cons _ (.cons _ (.cons _ (.cons _ (.cons _ .slnil)))))))⟩)
set_option maxRecDepth 1000000 in
set_option maxHeartbeats 4000000 in
theorem shiftg_any (B : Gm.Bx) (A : Option Addr) (n c : Nat) (l : List Int) (x y z : Int) (w : World) (hG : SL w 1 A n c (ic l)) (hok : Gm.ok B l) (hp : Gm.rp3 x y z) :
    Calls Tryd.prog 32 #[.agg #[B.a, B.b, B.c, B.d, B.e, B.f, .slice A n c], .agg #[x, y, z]] w fun e w'=>∃ A n c,e = .returned (.agg #[((Gm.shB B l x y z).a:Int), ((Gm.shB B l x y z).b:Int), ((Gm.shB B l x y z).c:Int), ((Gm.shB B l x y z).d:Int), ((Gm.shB B l x y z).e:Int), ((Gm.shB B l x y z).f:Int), .slice A n c]) ∧ St w noB [own (.slice A n c) 3 1 n (ic l)] w':=by
  have HGA:=Lib.hid hG
  have HLEN : Hid (l.length = n):=Lib.hid (by have h_:=hG.len;rw [ic_len] at h_;omega)
  have hnbHGA : n ≤ 9223372036854775807:=Nat.le_trans hG.cap hG.bnd
  clear hG
  have HOK:=Lib.hid hok
  clear hok
  have S1 : Hid (St w noB [] w):=Lib.hid (St.start w)
  go_enter Tryd.func32,Tryd.ntmps32
  go_upto_region 0 with fail
  refine wpG_region_k (fun K hK=>?_)
  refine wpG_val (some 2) rfl (by rfl) (fun W2 hg3=>⟨.pointer (some ⟨W2.heap.size,0,none⟩),W2.alloc (.cells #[B.a, B.b, B.c, B.d, B.e, B.f, .slice A n c] 28),by (first | (go_simp;done) | (go_simp <;> rfl)), ?_⟩)
  simp only [n1,n3,n4]
  obtain ⟨g4,U5,hg_,hu_,hS_⟩:=(S1.out.gr hg3).made [B.a, B.b, B.c, B.d, B.e, B.f, .slice A n c] 28
  rw [← hu_,← hg_]
  have S6 : Hid (St w noB [blk g4 28 [B.a, B.b, B.c, B.d, B.e, B.f, .slice A n c]] U5):=Lib.hid hS_
  clear S1
  clear hg_ hu_ hS_ hg3
  refine wpG_val (some 3) rfl (by rfl) (fun W7 hg8=>⟨.pointer (some ⟨W7.heap.size,0,none⟩),W7.alloc (.cells #[x, y, z] 23),by (first | (go_simp;done) | (go_simp <;> rfl)), ?_⟩)
  simp only [n1,n3,n4]
  obtain ⟨g9,U10,hg_,hu_,hS_⟩:=(S6.out.gr hg8).made [x, y, z] 23
  rw [← hu_,← hg_]
  have S11 : Hid (St w noB [blk g9 23 [x, y, z],blk g4 28 [B.a, B.b, B.c, B.d, B.e, B.f, .slice A n c]] U10):=Lib.hid hS_
  clear S6
  clear hg_ hu_ hS_ hg8
  refine wpG_val (some 4) rfl (by rfl) (fun W12 hg13=>⟨.pointer (some ⟨W12.heap.size,0,none⟩),W12.alloc (.cells #[(), (), (), (), (), (), .slice none 0 0] 28),by (first | (go_simp;done) | (go_simp <;> rfl)), ?_⟩)
  simp only [n1,n3,n4]
  obtain ⟨g14,U15,hg_,hu_,hS_⟩:=(S11.out.gr hg13).made [(), (), (), (), (), (), .slice none 0 0] 28
  rw [← hu_,← hg_]
  have S16 : Hid (St w noB [blk g14 28 [(), (), (), (), (), (), .slice none 0 0],blk g9 23 [x, y, z],blk g4 28 [B.a, B.b, B.c, B.d, B.e, B.f, .slice A n c]] U15):=Lib.hid hS_
  clear S11
  clear hg_ hu_ hS_ hg13
  refine wpG_done (fun V17 hv18=>?_)
  have S19 : Hid (St w noB [blk g14 28 [(), (), (), (), (), (), .slice none 0 0],blk g9 23 [x, y, z],blk g4 28 [B.a, B.b, B.c, B.d, B.e, B.f, .slice A n c]] V17):=Lib.hid (S16.out.gr hv18)
  clear S16
  clear hv18
  refine ⟨rfl,hK _ _ ?_⟩
  clear hK
  go_upto_region 1 with fail
  refine wpG_region_k (fun K hK=>?_)
  refine @wpG_tk _ _ _ _ _ (some 6) (.agg #[B.a, B.b, B.c, B.d, B.e, B.f, .slice A n c]) _ _ rfl (.load_mid (by rfl) 28 (.tmp 2) rfl g4 0 rfl [B.a, B.b, B.c, B.d, B.e, B.f, .slice A n c] _ (fun W hg=>(S19.out.gr hg).range 2 rfl 0 7 rfl) Tryd.underlying28 rfl (by kernel_rfl)) ?_
  simp only [n1,n3,n4]
  refine wpG_call (some 7) 72 #[.agg #[B.a, B.b, B.c, B.d, B.e, B.f, .slice A n c]] rfl (by rfl) (fun W=>by go_simp) (fun W23 hg24=>?_)
  refine (gclone_any B _ _ _ l W23 (HGA.out.gr (S19.out.gr hg24).bel) (by (have a1:=HOK.out.vol;have a2:=HOK.out.max;have a3:=HLEN.out;omega))).mono ?_
  rintro e w25 ⟨A20,n21,c22,rfl,hS_⟩
  refine ⟨_,rfl, ?_⟩
  have hT_:=(S19.out.gr hg24).got hS_
  simp only [n1,n3,n4]
  have S26 : Hid (St w noB [own (.slice A20 n21 c22) 3 1 n21 (ic l),blk g14 28 [(), (), (), (), (), (), .slice none 0 0],blk g9 23 [x, y, z],blk g4 28 [B.a, B.b, B.c, B.d, B.e, B.f, .slice A n c]] w25):=Lib.hid hT_
  clear S19
  clear hT_ hS_ hg24
  have hnn21 : n21 ≤ l.length ∧ l.length ≤ n21:=by have h_:=own_icl (S26.out.ownr 0 rfl);omega
  refine wpG_val (some 5) rfl (by rfl) (fun W27 hg28=>⟨.pointer (some ⟨W27.heap.size,0,none⟩),W27.alloc (.cells #[(), (), (), (), (), (), .slice none 0 0] 28),by (first | (go_simp;done) | (go_simp <;> rfl)), ?_⟩)
  simp only [n1,n3,n4]
  obtain ⟨g29,U30,hg_,hu_,hS_⟩:=(S26.out.gr hg28).made [(), (), (), (), (), (), .slice none 0 0] 28
  rw [← hu_,← hg_]
  have S31 : Hid (St w noB [blk g29 28 [(), (), (), (), (), (), .slice none 0 0],own (.slice A20 n21 c22) 3 1 n21 (ic l),blk g14 28 [(), (), (), (), (), (), .slice none 0 0],blk g9 23 [x, y, z],blk g4 28 [B.a, B.b, B.c, B.d, B.e, B.f, .slice A n c]] U30):=Lib.hid hS_
  clear S26
  clear hg_ hu_ hS_ hg28
  refine wpG_store (none) rfl (by rfl) (fun W32 hg33=>⟨_,run_store_mid 28 (.tmp 5) (.tmp 7) rfl g29 0 #[B.a, B.b, B.c, B.d, B.e, B.f, .slice A20 n21 c22] rfl rfl ((S31.out.gr hg33).room 0 rfl 0 7 (by simp)) (by kernel_rfl) (by kernel_rfl), ?_⟩)
  simp only [n2]
  obtain ⟨U34,hu_,hS_⟩:=((S31.out.gr hg33).put 0 rfl 0 (#[B.a, B.b, B.c, B.d, B.e, B.f, .slice A20 n21 c22] : Array Value).toList (ds:=[B.a, B.b, B.c, B.d, B.e, B.f, .slice A20 n21 c22]) rfl).named
  rw [← hu_]
  have S35 : Hid (St w noB [blk g29 28 [B.a, B.b, B.c, B.d, B.e, B.f, .slice A20 n21 c22],own (.slice A20 n21 c22) 3 1 n21 (ic l),blk g14 28 [(), (), (), (), (), (), .slice none 0 0],blk g9 23 [x, y, z],blk g4 28 [B.a, B.b, B.c, B.d, B.e, B.f, .slice A n c]] U34):=Lib.hid hS_
  clear S31
  clear hu_ hS_ hg33
  refine wpG_done (fun V36 hv37=>?_)
  have S38 : Hid (St w noB [blk g29 28 [B.a, B.b, B.c, B.d, B.e, B.f, .slice A20 n21 c22],own (.slice A20 n21 c22) 3 1 n21 (ic l),blk g14 28 [(), (), (), (), (), (), .slice none 0 0],blk g9 23 [x, y, z],blk g4 28 [B.a, B.b, B.c, B.d, B.e, B.f, .slice A n c]] V36):=Lib.hid (S35.out.gr hv37)
  clear S35
  clear hv37
  refine ⟨rfl,hK _ _ ?_⟩
  clear hK
  go_upto_region 2 with fail
  refine wpG_region_k (fun K hK=>?_)
  refine @wpG_p _ _ _ _ _ (some 8) (.pointer (some ⟨g29,0,none⟩)) _ _ rfl (by rfl) (fun W=>by go_simp) ?_
  simp only [n1,n3,n4]
  refine @wpG_tk _ _ _ _ _ (some 9) (.agg #[B.a, B.b, B.c, B.d, B.e, B.f]) _ _ rfl (.load_mid (by rfl) 25 (.tmp 8) rfl g29 0 rfl [B.a, B.b, B.c, B.d, B.e, B.f] _ (fun W hg=>(S38.out.gr hg).range 0 rfl 0 6 rfl) Tryd.underlying25 rfl (by kernel_rfl)) ?_
  simp only [n1,n3,n4]
  refine @wpG_tk _ _ _ _ _ (some 10) (.bool B.emp) _ _ rfl (.call (f:=47) (args:=#[.agg #[B.a, B.b, B.c, B.d, B.e, B.f]]) (by rfl) (fun W=>by go_simp) (fun W hg=>pemp_b W B)) ?_
  simp only [n1,n3,n4]
  refine @wpG_p _ _ _ _ _ (some 11) (.bool (!B.emp)) _ _ rfl (by rfl) (fun W=>by go_simp) ?_
  simp only [n1,n3,n4]
  refine wpG_done (fun V39 hv40=>?_)
  have S41 : Hid (St w noB [blk g29 28 [B.a, B.b, B.c, B.d, B.e, B.f, .slice A20 n21 c22],own (.slice A20 n21 c22) 3 1 n21 (ic l),blk g14 28 [(), (), (), (), (), (), .slice none 0 0],blk g9 23 [x, y, z],blk g4 28 [B.a, B.b, B.c, B.d, B.e, B.f, .slice A n c]] V39):=Lib.hid (S38.out.gr hv40)
  clear S38
  clear hv40
  refine ⟨rfl,hK _ _ ?_⟩
  clear hK
  obtain ⟨c42,hc42⟩ : ∃ q_,q_ = (!B.emp):=⟨_,rfl⟩
  rw [← hc42]
  have Hc42:=Lib.hid hc42
  clear hc42
  cases c42 with
  | true =>
    have f43:=Lib.hid ((bnt Hc42.out))
    go_upto_region 3 with fail
    refine wpG_region_k (fun K hK=>?_)
    refine @wpG_p _ _ _ _ _ (some 12) (.pointer (some ⟨g29,0,none⟩)) _ _ rfl (by rfl) (fun W=>by go_simp) ?_
    simp only [n1,n3,n4]
    refine @wpG_tk _ _ _ _ _ (some 13) (.agg #[B.a, B.b, B.c, B.d, B.e, B.f]) _ _ rfl (.load_mid (by rfl) 25 (.tmp 12) rfl g29 0 rfl [B.a, B.b, B.c, B.d, B.e, B.f] _ (fun W hg=>(S41.out.gr hg).range 0 rfl 0 6 rfl) Tryd.underlying25 rfl (by kernel_rfl)) ?_
    simp only [n1,n3,n4]
    refine @wpG_tk _ _ _ _ _ (some 14) (.agg #[x, y, z]) _ _ rfl (.load_mid (by rfl) 23 (.tmp 3) rfl g9 0 rfl [x, y, z] _ (fun W hg=>(S41.out.gr hg).range 3 rfl 0 3 rfl) Tryd.underlying23 rfl (by kernel_rfl)) ?_
    simp only [n1,n3,n4]
    refine @wpG_tk _ _ _ _ _ (some 15) (.agg #[(B.a + x:Int), (B.b + y:Int), (B.c + z:Int), (B.d + x:Int), (B.e + y:Int), (B.f + z:Int)]) _ _ rfl (.call (f:=73) (args:=#[.agg #[B.a, B.b, B.c, B.d, B.e, B.f], .agg #[x, y, z]]) (by rfl) (fun W=>by go_simp) (fun W hg=>pshift_b W B x y z HOK.out.rg hp)) ?_
    simp only [n1,n3,n4]
    refine @wpG_p _ _ _ _ _ (some 16) (.pointer (some ⟨g29,0,none⟩)) _ _ rfl (by rfl) (fun W=>by go_simp) ?_
    simp only [n1,n3,n4]
    refine wpG_store (none) rfl (by rfl) (fun W44 hg45=>⟨_,run_store_mid 25 (.tmp 16) (.tmp 15) rfl g29 0 #[(B.a + x:Int), (B.b + y:Int), (B.c + z:Int), (B.d + x:Int), (B.e + y:Int), (B.f + z:Int)] rfl rfl ((S41.out.gr hg45).room 0 rfl 0 6 (by simp)) (by kernel_rfl) (by kernel_rfl), ?_⟩)
    simp only [n2]
    obtain ⟨U46,hu_,hS_⟩:=((S41.out.gr hg45).put 0 rfl 0 (#[(B.a + x:Int), (B.b + y:Int), (B.c + z:Int), (B.d + x:Int), (B.e + y:Int), (B.f + z:Int)] : Array Value).toList (ds:=[(B.a + x:Int), (B.b + y:Int), (B.c + z:Int), (B.d + x:Int), (B.e + y:Int), (B.f + z:Int), .slice A20 n21 c22]) rfl).named
    rw [← hu_]
    have S47 : Hid (St w noB [blk g29 28 [(B.a + x:Int), (B.b + y:Int), (B.c + z:Int), (B.d + x:Int), (B.e + y:Int), (B.f + z:Int), .slice A20 n21 c22],own (.slice A20 n21 c22) 3 1 n21 (ic l),blk g14 28 [(), (), (), (), (), (), .slice none 0 0],blk g9 23 [x, y, z],blk g4 28 [B.a, B.b, B.c, B.d, B.e, B.f, .slice A n c]] U46):=Lib.hid hS_
    clear S41
    clear hu_ hS_ hg45
    refine wpG_done (fun V48 hv49=>?_)
    have S50 : Hid (St w noB [blk g29 28 [(B.a + x:Int), (B.b + y:Int), (B.c + z:Int), (B.d + x:Int), (B.e + y:Int), (B.f + z:Int), .slice A20 n21 c22],own (.slice A20 n21 c22) 3 1 n21 (ic l),blk g14 28 [(), (), (), (), (), (), .slice none 0 0],blk g9 23 [x, y, z],blk g4 28 [B.a, B.b, B.c, B.d, B.e, B.f, .slice A n c]] V48):=Lib.hid (S47.out.gr hv49)
    clear S47
    clear hv49
    refine ⟨rfl,hK _ _ ?_⟩
    clear hK
    go_upto_region 4 with fail
    refine wpG_region_k (fun K hK=>?_)
    refine @wpG_tk _ _ _ _ _ (some 17) (.agg #[(B.a + x:Int), (B.b + y:Int), (B.c + z:Int), (B.d + x:Int), (B.e + y:Int), (B.f + z:Int), .slice A20 n21 c22]) _ _ rfl (.load_mid (by rfl) 28 (.tmp 5) rfl g29 0 rfl [(B.a + x:Int), (B.b + y:Int), (B.c + z:Int), (B.d + x:Int), (B.e + y:Int), (B.f + z:Int), .slice A20 n21 c22] _ (fun W hg=>(S50.out.gr hg).range 0 rfl 0 7 rfl) Tryd.underlying28 rfl (by kernel_rfl)) ?_
    simp only [n1,n3,n4]
    refine wpG_store (none) rfl (by rfl) (fun W51 hg52=>⟨_,run_store_mid 28 (.tmp 4) (.tmp 17) rfl g14 0 #[(B.a + x:Int), (B.b + y:Int), (B.c + z:Int), (B.d + x:Int), (B.e + y:Int), (B.f + z:Int), .slice A20 n21 c22] rfl rfl ((S50.out.gr hg52).room 2 rfl 0 7 (by simp)) (by kernel_rfl) (by kernel_rfl), ?_⟩)
    simp only [n2]
    obtain ⟨U53,hu_,hS_⟩:=((S50.out.gr hg52).put 2 rfl 0 (#[(B.a + x:Int), (B.b + y:Int), (B.c + z:Int), (B.d + x:Int), (B.e + y:Int), (B.f + z:Int), .slice A20 n21 c22] : Array Value).toList (ds:=[(B.a + x:Int), (B.b + y:Int), (B.c + z:Int), (B.d + x:Int), (B.e + y:Int), (B.f + z:Int), .slice A20 n21 c22]) rfl).named
    rw [← hu_]
    have S54 : Hid (St w noB [blk g29 28 [(B.a + x:Int), (B.b + y:Int), (B.c + z:Int), (B.d + x:Int), (B.e + y:Int), (B.f + z:Int), .slice A20 n21 c22],own (.slice A20 n21 c22) 3 1 n21 (ic l),blk g14 28 [(B.a + x:Int), (B.b + y:Int), (B.c + z:Int), (B.d + x:Int), (B.e + y:Int), (B.f + z:Int), .slice A20 n21 c22],blk g9 23 [x, y, z],blk g4 28 [B.a, B.b, B.c, B.d, B.e, B.f, .slice A n c]] U53):=Lib.hid hS_
    clear S50
    clear hu_ hS_ hg52
    refine wpG_done (fun V55 hv56=>?_)
    have S57 : Hid (St w noB [blk g29 28 [(B.a + x:Int), (B.b + y:Int), (B.c + z:Int), (B.d + x:Int), (B.e + y:Int), (B.f + z:Int), .slice A20 n21 c22],own (.slice A20 n21 c22) 3 1 n21 (ic l),blk g14 28 [(B.a + x:Int), (B.b + y:Int), (B.c + z:Int), (B.d + x:Int), (B.e + y:Int), (B.f + z:Int), .slice A20 n21 c22],blk g9 23 [x, y, z],blk g4 28 [B.a, B.b, B.c, B.d, B.e, B.f, .slice A n c]] V55):=Lib.hid (S54.out.gr hv56)
    clear S54
    clear hv56
    refine ⟨rfl,hK _ _ ?_⟩
    clear hK
    go_wp2_with fail
    (try simp only [Exit.inBlock,Exit.then])
    refine bodyPost_ret (results_cell_mid rfl _ _ _ g14 0 [(B.a + x:Int), (B.b + y:Int), (B.c + z:Int), (B.d + x:Int), (B.e + y:Int), (B.f + z:Int), .slice A20 n21 c22] _ rfl (S57.out.range 2 rfl 0 7 rfl) Tryd.underlying28 rfl (by kernel_rfl)) rfl ?_
    (have e_f43:=f43.out;have a0_:=HOK.out.vol;have a1_:=Gm.vol_ne (by simpa using e_f43 : B.emp = false);have e_ : Gm.shB B l x y z = ⟨B.a + x,B.b + y,B.c + z,B.d + x,B.e + y,B.f + z⟩:=(by unfold Gm.shB;exact if_pos (by omega));exact ⟨A20,n21,c22,by rw [e_];try rfl,((S57.out.front 1 rfl).sub (.cons_cons _ (.cons _ (.cons _ (.cons _ (.cons _ .slnil))))))⟩)
  | false =>
    have f58:=Lib.hid ((bnf Hc42.out))
    go_upto_region 4 with fail
    refine wpG_region_k (fun K hK=>?_)
    refine @wpG_tk _ _ _ _ _ (some 17) (.agg #[B.a, B.b, B.c, B.d, B.e, B.f, .slice A20 n21 c22]) _ _ rfl (.load_mid (by rfl) 28 (.tmp 5) rfl g29 0 rfl [B.a, B.b, B.c, B.d, B.e, B.f, .slice A20 n21 c22] _ (fun W hg=>(S41.out.gr hg).range 0 rfl 0 7 rfl) Tryd.underlying28 rfl (by kernel_rfl)) ?_
    simp only [n1,n3,n4]
    refine wpG_store (none) rfl (by rfl) (fun W59 hg60=>⟨_,run_store_mid 28 (.tmp 4) (.tmp 17) rfl g14 0 #[B.a, B.b, B.c, B.d, B.e, B.f, .slice A20 n21 c22] rfl rfl ((S41.out.gr hg60).room 2 rfl 0 7 (by simp)) (by kernel_rfl) (by kernel_rfl), ?_⟩)
    simp only [n2]
    obtain ⟨U61,hu_,hS_⟩:=((S41.out.gr hg60).put 2 rfl 0 (#[B.a, B.b, B.c, B.d, B.e, B.f, .slice A20 n21 c22] : Array Value).toList (ds:=[B.a, B.b, B.c, B.d, B.e, B.f, .slice A20 n21 c22]) rfl).named
    rw [← hu_]
    have S62 : Hid (St w noB [blk g29 28 [B.a, B.b, B.c, B.d, B.e, B.f, .slice A20 n21 c22],own (.slice A20 n21 c22) 3 1 n21 (ic l),blk g14 28 [B.a, B.b, B.c, B.d, B.e, B.f, .slice A20 n21 c22],blk g9 23 [x, y, z],blk g4 28 [B.a, B.b, B.c, B.d, B.e, B.f, .slice A n c]] U61):=Lib.hid hS_
    clear S41
    clear hu_ hS_ hg60
    refine wpG_done (fun V63 hv64=>?_)
    have S65 : Hid (St w noB [blk g29 28 [B.a, B.b, B.c, B.d, B.e, B.f, .slice A20 n21 c22],own (.slice A20 n21 c22) 3 1 n21 (ic l),blk g14 28 [B.a, B.b, B.c, B.d, B.e, B.f, .slice A20 n21 c22],blk g9 23 [x, y, z],blk g4 28 [B.a, B.b, B.c, B.d, B.e, B.f, .slice A n c]] V63):=Lib.hid (S62.out.gr hv64)
    clear S62
    clear hv64
    refine ⟨rfl,hK _ _ ?_⟩
    clear hK
    go_wp2_with fail
    (try simp only [Exit.inBlock,Exit.then])
    refine bodyPost_ret (results_cell_mid rfl _ _ _ g14 0 [B.a, B.b, B.c, B.d, B.e, B.f, .slice A20 n21 c22] _ rfl (S65.out.range 2 rfl 0 7 rfl) Tryd.underlying28 rfl (by kernel_rfl)) rfl ?_
    (have e_f58:=f58.out;have a0_:=HOK.out.vol;have a1_:=Gm.vol_e (by simpa using e_f58 : B.emp = true);have e_ : Gm.shB B l x y z = B:=(by unfold Gm.shB;exact if_neg (by omega));exact ⟨A20,n21,c22,by rw [e_];try rfl,((S65.out.front 1 rfl).sub (.cons_cons _ (.cons _ (.cons _ (.cons _ (.cons _ .slnil))))))⟩)

end Go.Proofs.YtpapbbolefnkmaaDoor
