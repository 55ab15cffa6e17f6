/-
  GridTurns: the walk.
-/
import Derived.Test.YtjdeaopdbenamaaDoorZE33
import Derived.Test.YtjdeaopdbenamaaDoorZE34
import Derived.Test.YtjdeaopdbenamaaDoorZE48
import Derived.Test.YtjdeaopdbenamaaDoorZE49
import Derived.Test.YtjdeaopdbenamaaDoorZE50
import Derived.Test.YtjdeaopdbenamaaDoorZE47
import Derived.Test.YtjdeaopdbenamaaDoorZE41
import Derived.Test.YtjdeaopdbenamaaDoorZE30
import Derived.Handy
namespace Go.Proofs.YtjdeaopdbenamaaDoor
open Go Go.RowKit
set_option linter.unusedVariables false
set_option linter.unusedSimpArgs false
set_option maxRecDepth 1000000 in
set_option maxHeartbeats 4000000 in
theorem law_gl5 (B : Gm.Bx) (A : Option Addr) (n c : Nat) (l : List Int) (a1 a2 x y z : Int) (w : World) (hG : SL w 1 A n c (ic l)) (ha1 : 0 ≤ a1 ∧ a1 < 256) (ha2 : 0 ≤ a2 ∧ a2 < 256) (hT : Tab w) (hSan : ∀ W,Gr w W → Calls Tryd.prog 11 #[] W fun e w'=>e = .returned (.bool true) ∧ Below W.heap.size W w') :
    Calls Tryd.prog 6 #[.agg #[.int .i64 B.a, .int .i64 B.b, .int .i64 B.c, .int .i64 B.d, .int .i64 B.e, .int .i64 B.f, .slice A n c], .int .u8 a1, .int .u8 a2, .agg #[.int .i64 x, .int .i64 y, .int .i64 z]] w fun e w'=>e = .returned (.bool true) ∧ Below w.heap.size w w':=by
  have HGA:=Lib.hid hG
  have HLEN : Hid (l.length = n):=Lib.hid (by have h_:=hG.len;rw [ic_len] at h_;omega)
  have hnbHGA : n ≤ 9223372036854775807:=Nat.le_trans hG.cap hG.bnd
  clear hG
  have HSAN:=Lib.hid hSan
  clear hSan
  have HTB:=Lib.hid hT
  clear hT
  obtain ⟨s,hs_⟩ : ∃ s : Nat,a1.tmod 48 = (s : Int):=⟨(a1.tmod 48).toNat,by rw [Int.tmod_eq_emod_of_nonneg ha1.1];omega⟩
  have HS48 : Hid (s < 48):=Lib.hid (by rw [Int.tmod_eq_emod_of_nonneg ha1.1] at hs_;omega)
  have HS:=Lib.hid hs_
  clear hs_
  obtain ⟨t,ht_⟩ : ∃ t : Nat,a2.tmod 48 = (t : Int):=⟨(a2.tmod 48).toNat,by rw [Int.tmod_eq_emod_of_nonneg ha2.1];omega⟩
  have HT48 : Hid (t < 48):=Lib.hid (by rw [Int.tmod_eq_emod_of_nonneg ha2.1] at ht_;omega)
  have HT:=Lib.hid ht_
  clear ht_
  have S1 : Hid (St w noB [] w):=Lib.hid (St.start w)
  go_enter Tryd.func6,Tryd.ntmps6
  go_upto_region 0 with fail
  refine wpG_region_k (fun K hK=>?_)
  refine wpG_val (some 4) rfl (by rfl) (fun W2 hg3=>⟨.pointer (some ⟨W2.heap.size,0,none⟩),W2.alloc (.cells #[.int .i64 B.a, .int .i64 B.b, .int .i64 B.c, .int .i64 B.d, .int .i64 B.e, .int .i64 B.f, .slice A n c] 28),by (first | (go_simp;done) | (go_simp <;> rfl)), ?_⟩)
  simp only [n1,n3,n4]
  obtain ⟨g4,U5,hg_,hu_,hS_⟩:=(S1.out.gr hg3).made [.int .i64 B.a, .int .i64 B.b, .int .i64 B.c, .int .i64 B.d, .int .i64 B.e, .int .i64 B.f, .slice A n c] 28
  rw [← hu_,← hg_]
  have S6 : Hid (St w noB [blk g4 28 [.int .i64 B.a, .int .i64 B.b, .int .i64 B.c, .int .i64 B.d, .int .i64 B.e, .int .i64 B.f, .slice A n c]] U5):=Lib.hid hS_
  clear S1
  clear hg_ hu_ hS_ hg3
  refine wpG_val (some 7) rfl (by rfl) (fun W7 hg8=>⟨.pointer (some ⟨W7.heap.size,0,none⟩),W7.alloc (.cells #[.int .i64 x, .int .i64 y, .int .i64 z] 23),by (first | (go_simp;done) | (go_simp <;> rfl)), ?_⟩)
  simp only [n1,n3,n4]
  obtain ⟨g9,U10,hg_,hu_,hS_⟩:=(S6.out.gr hg8).made [.int .i64 x, .int .i64 y, .int .i64 z] 23
  rw [← hu_,← hg_]
  have S11 : Hid (St w noB [blk g9 23 [.int .i64 x, .int .i64 y, .int .i64 z],blk g4 28 [.int .i64 B.a, .int .i64 B.b, .int .i64 B.c, .int .i64 B.d, .int .i64 B.e, .int .i64 B.f, .slice A n c]] U10):=Lib.hid hS_
  clear S6
  clear hg_ hu_ hS_ hg8
  refine @wpG_p _ _ _ _ _ (some 8) (.bool false) _ _ rfl (by rfl) (fun _=>rfl) ?_
  simp only [n1,n3,n4]
  refine wpG_done (fun V12 hv13=>?_)
  have S14 : Hid (St w noB [blk g9 23 [.int .i64 x, .int .i64 y, .int .i64 z],blk g4 28 [.int .i64 B.a, .int .i64 B.b, .int .i64 B.c, .int .i64 B.d, .int .i64 B.e, .int .i64 B.f, .slice A n c]] V12):=Lib.hid (S11.out.gr hv13)
  clear S11
  clear hv13
  refine ⟨rfl,hK _ _ ?_⟩
  clear hK
  go_upto_region 1 with fail
  refine wpG_region_k (fun K hK=>?_)
  refine @wpG_p _ _ _ _ _ (some 12) (.int .u8 a1) _ _ rfl (by rfl) (fun _=>rfl) ?_
  simp only [n1,n3,n4]
  refine @wpG_p _ _ _ _ _ (some 13) (.int .i64 a1) _ _ rfl (by rfl) (fun W=>op_conv_i64 W a1 (by omega) rfl rfl Tryd.underlying5 Tryd.underlying3) ?_
  simp only [n1,n3,n4]
  refine @wpG_p _ _ _ _ _ (some 14) (.int .i64 (s : Int)) _ _ rfl (by rfl) (fun W=>by (have q_:=HS.out;go_simp)) ?_
  simp only [n1,n3,n4]
  refine @wpG_p _ _ _ _ _ (some 15) (.int .u8 a2) _ _ rfl (by rfl) (fun _=>rfl) ?_
  simp only [n1,n3,n4]
  refine @wpG_p _ _ _ _ _ (some 16) (.int .i64 a2) _ _ rfl (by rfl) (fun W=>op_conv_i64 W a2 (by omega) rfl rfl Tryd.underlying5 Tryd.underlying3) ?_
  simp only [n1,n3,n4]
  refine @wpG_p _ _ _ _ _ (some 17) (.int .i64 (t : Int)) _ _ rfl (by rfl) (fun W=>by (have q_:=HT.out;go_simp)) ?_
  simp only [n1,n3,n4]
  refine @wpG_p _ _ _ _ _ (some 9) (.int .i64 (s : Int)) _ _ rfl (by rfl) (fun _=>rfl) ?_
  simp only [n1,n3,n4]
  refine @wpG_p _ _ _ _ _ (some 10) (.int .i64 (t : Int)) _ _ rfl (by rfl) (fun _=>rfl) ?_
  simp only [n1,n3,n4]
  refine wpG_done (fun V15 hv16=>?_)
  have S17 : Hid (St w noB [blk g9 23 [.int .i64 x, .int .i64 y, .int .i64 z],blk g4 28 [.int .i64 B.a, .int .i64 B.b, .int .i64 B.c, .int .i64 B.d, .int .i64 B.e, .int .i64 B.f, .slice A n c]] V15):=Lib.hid (S14.out.gr hv16)
  clear S14
  clear hv16
  refine ⟨rfl,hK _ _ ?_⟩
  clear hK
  go_upto_region 2 with fail
  refine wpG_region_k (fun K hK=>?_)
  refine @wpG_tk _ _ _ _ _ (some 18) (.agg #[.int .i64 B.a, .int .i64 B.b, .int .i64 B.c, .int .i64 B.d, .int .i64 B.e, .int .i64 B.f, .slice A n c]) _ _ rfl (.load_mid (by rfl) 28 (.tmp 4) rfl g4 0 rfl [.int .i64 B.a, .int .i64 B.b, .int .i64 B.c, .int .i64 B.d, .int .i64 B.e, .int .i64 B.f, .slice A n c] _ (fun W hg=>(S17.out.gr hg).range 1 rfl 0 7 rfl) Tryd.underlying28 rfl (by kernel_rfl)) ?_
  simp only [n1,n3,n4]
  refine wpG_val (some 19) rfl (by rfl) (fun W18 hg19=>⟨.slice (some ⟨W18.heap.size,0,none⟩) 1 1,W18.alloc (.cells #[.int .i64 B.a, .int .i64 B.b, .int .i64 B.c, .int .i64 B.d, .int .i64 B.e, .int .i64 B.f, .slice A n c] 28),by (go_simp <;> rfl), ?_⟩)
  simp only [n1,n3,n4]
  obtain ⟨g20,U21,hg_,hu_,hS_⟩:=(S17.out.gr hg19).made [.int .i64 B.a, .int .i64 B.b, .int .i64 B.c, .int .i64 B.d, .int .i64 B.e, .int .i64 B.f, .slice A n c] 28
  rw [← hu_,← hg_]
  have S22 : Hid (St w noB [blk g20 28 [.int .i64 B.a, .int .i64 B.b, .int .i64 B.c, .int .i64 B.d, .int .i64 B.e, .int .i64 B.f, .slice A n c],blk g9 23 [.int .i64 x, .int .i64 y, .int .i64 z],blk g4 28 [.int .i64 B.a, .int .i64 B.b, .int .i64 B.c, .int .i64 B.d, .int .i64 B.e, .int .i64 B.f, .slice A n c]] U21):=Lib.hid hS_
  clear S17
  clear hg_ hu_ hS_ hg19
  refine @wpG_tk _ _ _ _ _ (some 20) (.bool (Gm.fw B l)) _ _ rfl (.call (f:=19) (args:=#[.slice (some ⟨g20,0,none⟩) 1 1]) (by rfl) (fun W=>by go_simp) (fun W hg=>few1_any B _ _ _ l _ _ W (SL.ofBlk (S22.out.gr hg) 0 rfl 7 1 ([.int .i64 B.a, .int .i64 B.b, .int .i64 B.c, .int .i64 B.d, .int .i64 B.e, .int .i64 B.f, .slice A n c]) rfl rfl (by decide)) (HGA.out.gr (S22.out.gr hg).bel))) ?_
  simp only [n1,n3,n4]
  refine @wpG_p _ _ _ _ _ (some 21) (.bool (!(Gm.fw B l))) _ _ rfl (by rfl) (fun W=>by go_simp) ?_
  simp only [n1,n3,n4]
  refine @wpG_p _ _ _ _ _ (some 22) (.bool (!(Gm.fw B l))) _ _ rfl (by rfl) (fun _=>rfl) ?_
  simp only [n1,n3,n4]
  obtain ⟨c23,hc23⟩ : ∃ q_,q_ = (!(Gm.fw B l)):=⟨_,rfl⟩
  rw [← hc23]
  have Hc23:=Lib.hid hc23
  clear hc23
  cases c23 with
  | true =>
    have f24:=Lib.hid ((bnt Hc23.out))
    refine @wpG_no _ _ _ _ _ (some 23) _ _ rfl (by rfl) ?_
    simp only [n1,n3,n4]
    refine @wpG_no _ _ _ _ _ (some 24) _ _ rfl (by rfl) ?_
    simp only [n1,n3,n4]
    refine @wpG_no _ _ _ _ _ (some 25) _ _ rfl (by rfl) ?_
    simp only [n1,n3,n4]
    refine @wpG_no _ _ _ _ _ (some 26) _ _ rfl (by rfl) ?_
    simp only [n1,n3,n4]
    refine @wpG_p _ _ _ _ _ (some 27) (.bool true) _ _ rfl (by rfl) (fun W=>by go_simp) ?_
    simp only [n1,n3,n4]
    refine wpG_done (fun V25 hv26=>?_)
    have S27 : Hid (St w noB [blk g20 28 [.int .i64 B.a, .int .i64 B.b, .int .i64 B.c, .int .i64 B.d, .int .i64 B.e, .int .i64 B.f, .slice A n c],blk g9 23 [.int .i64 x, .int .i64 y, .int .i64 z],blk g4 28 [.int .i64 B.a, .int .i64 B.b, .int .i64 B.c, .int .i64 B.d, .int .i64 B.e, .int .i64 B.f, .slice A n c]] V25):=Lib.hid (S22.out.gr hv26)
    clear S22
    clear hv26
    refine ⟨rfl,hK _ _ ?_⟩
    clear hK
    go_upto_region 3 with fail
    refine wpG_region_k (fun K hK=>?_)
    refine @wpG_tk _ _ _ _ _ (some 28) (.bool true) _ _ rfl (.call (f:=11) (args:=#[]) (by rfl) (fun W=>by go_simp) (fun W hg=>(HSAN.out W (S27.out.gr hg).bel))) ?_
    simp only [n1,n3,n4]
    refine @wpG_p _ _ _ _ _ (some 8) (.bool true) _ _ rfl (by rfl) (fun _=>rfl) ?_
    simp only [n1,n3,n4]
    refine wpG_done (fun V28 hv29=>?_)
    have S30 : Hid (St w noB [blk g20 28 [.int .i64 B.a, .int .i64 B.b, .int .i64 B.c, .int .i64 B.d, .int .i64 B.e, .int .i64 B.f, .slice A n c],blk g9 23 [.int .i64 x, .int .i64 y, .int .i64 z],blk g4 28 [.int .i64 B.a, .int .i64 B.b, .int .i64 B.c, .int .i64 B.d, .int .i64 B.e, .int .i64 B.f, .slice A n c]] V28):=Lib.hid (S27.out.gr hv29)
    clear S27
    clear hv29
    refine ⟨rfl,hK _ _ ?_⟩
    clear hK
    go_wp2_with fail
    go_ret
    refine ⟨?_,S30.out.bel⟩
    show Ending.returned (.bool true) = _
    (first | rfl | (have e_f24:=f24.out;rfl))
  | false =>
    have f31:=Lib.hid ((bnf Hc23.out))
    refine @wpG_tk _ _ _ _ _ (some 23) (.agg #[.int .i64 x, .int .i64 y, .int .i64 z]) _ _ rfl (.load_mid (by rfl) 23 (.tmp 7) rfl g9 0 rfl [.int .i64 x, .int .i64 y, .int .i64 z] _ (fun W hg=>(S22.out.gr hg).range 1 rfl 0 3 rfl) Tryd.underlying23 rfl (by kernel_rfl)) ?_
    simp only [n1,n3,n4]
    refine wpG_val (some 24) rfl (by rfl) (fun W32 hg33=>⟨.slice (some ⟨W32.heap.size,0,none⟩) 1 1,W32.alloc (.cells #[.int .i64 x, .int .i64 y, .int .i64 z] 23),by (go_simp <;> rfl), ?_⟩)
    simp only [n1,n3,n4]
    obtain ⟨g34,U35,hg_,hu_,hS_⟩:=(S22.out.gr hg33).made [.int .i64 x, .int .i64 y, .int .i64 z] 23
    rw [← hu_,← hg_]
    have S36 : Hid (St w noB [blk g34 23 [.int .i64 x, .int .i64 y, .int .i64 z],blk g20 28 [.int .i64 B.a, .int .i64 B.b, .int .i64 B.c, .int .i64 B.d, .int .i64 B.e, .int .i64 B.f, .slice A n c],blk g9 23 [.int .i64 x, .int .i64 y, .int .i64 z],blk g4 28 [.int .i64 B.a, .int .i64 B.b, .int .i64 B.c, .int .i64 B.d, .int .i64 B.e, .int .i64 B.f, .slice A n c]] U35):=Lib.hid hS_
    clear S22
    clear hg_ hu_ hS_ hg33
    refine @wpG_tk _ _ _ _ _ (some 25) (.bool (Gm.nears [(x,y,z)])) _ _ rfl (.call (f:=20) (args:=#[.slice (some ⟨g34,0,none⟩) 1 1]) (by rfl) (fun W=>by go_simp) (fun W hg=>near_any _ _ _ [(x,y,z)] W (SL.ofBlk (S36.out.gr hg) 0 rfl 3 1 (pcs [(x,y,z)]) rfl rfl (by decide)))) ?_
    simp only [n1,n3,n4]
    refine @wpG_p _ _ _ _ _ (some 26) (.bool (!(Gm.nears [(x,y,z)]))) _ _ rfl (by rfl) (fun W=>by go_simp) ?_
    simp only [n1,n3,n4]
    refine @wpG_p _ _ _ _ _ (some 27) (.bool (!(Gm.nears [(x,y,z)]))) _ _ rfl (by rfl) (fun W=>by go_simp) ?_
    simp only [n1,n3,n4]
    refine wpG_done (fun V37 hv38=>?_)
    have S39 : Hid (St w noB [blk g34 23 [.int .i64 x, .int .i64 y, .int .i64 z],blk g20 28 [.int .i64 B.a, .int .i64 B.b, .int .i64 B.c, .int .i64 B.d, .int .i64 B.e, .int .i64 B.f, .slice A n c],blk g9 23 [.int .i64 x, .int .i64 y, .int .i64 z],blk g4 28 [.int .i64 B.a, .int .i64 B.b, .int .i64 B.c, .int .i64 B.d, .int .i64 B.e, .int .i64 B.f, .slice A n c]] V37):=Lib.hid (S36.out.gr hv38)
    clear S36
    clear hv38
    refine ⟨rfl,hK _ _ ?_⟩
    clear hK
    obtain ⟨c40,hc40⟩ : ∃ q_,q_ = (!(Gm.nears [(x,y,z)])):=⟨_,rfl⟩
    rw [← hc40]
    have Hc40:=Lib.hid hc40
    clear hc40
    cases c40 with
    | true =>
      have f41:=Lib.hid ((bnt Hc40.out))
      go_upto_region 3 with fail
      refine wpG_region_k (fun K hK=>?_)
      refine @wpG_tk _ _ _ _ _ (some 28) (.bool true) _ _ rfl (.call (f:=11) (args:=#[]) (by rfl) (fun W=>by go_simp) (fun W hg=>(HSAN.out W (S39.out.gr hg).bel))) ?_
      simp only [n1,n3,n4]
      refine @wpG_p _ _ _ _ _ (some 8) (.bool true) _ _ rfl (by rfl) (fun _=>rfl) ?_
      simp only [n1,n3,n4]
      refine wpG_done (fun V42 hv43=>?_)
      have S44 : Hid (St w noB [blk g34 23 [.int .i64 x, .int .i64 y, .int .i64 z],blk g20 28 [.int .i64 B.a, .int .i64 B.b, .int .i64 B.c, .int .i64 B.d, .int .i64 B.e, .int .i64 B.f, .slice A n c],blk g9 23 [.int .i64 x, .int .i64 y, .int .i64 z],blk g4 28 [.int .i64 B.a, .int .i64 B.b, .int .i64 B.c, .int .i64 B.d, .int .i64 B.e, .int .i64 B.f, .slice A n c]] V42):=Lib.hid (S39.out.gr hv43)
      clear S39
      clear hv43
      refine ⟨rfl,hK _ _ ?_⟩
      clear hK
      go_wp2_with fail
      go_ret
      refine ⟨?_,S44.out.bel⟩
      show Ending.returned (.bool true) = _
      (first | rfl | (have e_f31:=f31.out;have e_f41:=f41.out;rfl))
    | false =>
      have f45:=Lib.hid ((bnf Hc40.out))
      go_upto_region 4 with fail
      refine wpG_region_k (fun K hK=>?_)
      refine @wpG_p _ _ _ _ _ (some 29) (.int .i64 (s : Int)) _ _ rfl (by rfl) (fun _=>rfl) ?_
      simp only [n1,n3,n4]
      refine @wpG_tk _ _ _ _ _ (some 30) (.agg #[.int .i64 B.a, .int .i64 B.b, .int .i64 B.c, .int .i64 B.d, .int .i64 B.e, .int .i64 B.f, .slice A n c]) _ _ rfl (.load_mid (by rfl) 28 (.tmp 4) rfl g4 0 rfl [.int .i64 B.a, .int .i64 B.b, .int .i64 B.c, .int .i64 B.d, .int .i64 B.e, .int .i64 B.f, .slice A n c] _ (fun W hg=>(S39.out.gr hg).range 3 rfl 0 7 rfl) Tryd.underlying28 rfl (by kernel_rfl)) ?_
      simp only [n1,n3,n4]
      refine wpG_call (some 31) 28 #[.int .i64 (s : Int), .agg #[.int .i64 B.a, .int .i64 B.b, .int .i64 B.c, .int .i64 B.d, .int .i64 B.e, .int .i64 B.f, .slice A n c]] rfl (by rfl) (fun W=>by go_simp) (fun W49 hg50=>?_)
      refine (turng_any (s : Int) B _ _ _ l W49 (HGA.out.gr (S39.out.gr hg50).bel) (by have e_f31:=f31.out;have e_f45:=f45.out;exact (Gm.fw_of e_f31).2.1.ok) (HTB.out.below (S39.out.gr hg50).bel)).mono ?_
      rintro e w51 ⟨A46,n47,c48,rfl,hS_⟩
      refine ⟨_,rfl, ?_⟩
      have hT_:=(S39.out.gr hg50).got hS_
      simp only [n1,n3,n4]
      have S52 : Hid (St w noB [own (.slice A46 n47 c48) 3 1 n47 (ic (Gm.turn (s : Int) B l)),blk g34 23 [.int .i64 x, .int .i64 y, .int .i64 z],blk g20 28 [.int .i64 B.a, .int .i64 B.b, .int .i64 B.c, .int .i64 B.d, .int .i64 B.e, .int .i64 B.f, .slice A n c],blk g9 23 [.int .i64 x, .int .i64 y, .int .i64 z],blk g4 28 [.int .i64 B.a, .int .i64 B.b, .int .i64 B.c, .int .i64 B.d, .int .i64 B.e, .int .i64 B.f, .slice A n c]] w51):=Lib.hid hT_
      clear S39
      clear hT_ hS_ hg50
      have hnn47 : n47 ≤ (Gm.turn (s : Int) B l).length ∧ (Gm.turn (s : Int) B l).length ≤ n47:=by have h_:=own_icl (S52.out.ownr 0 rfl);omega
      refine wpG_val (some 11) rfl (by rfl) (fun W53 hg54=>⟨.pointer (some ⟨W53.heap.size,0,none⟩),W53.alloc (.cells #[.int .i64 0, .int .i64 0, .int .i64 0, .int .i64 0, .int .i64 0, .int .i64 0, .slice none 0 0] 28),by (first | (go_simp;done) | (go_simp <;> rfl)), ?_⟩)
      simp only [n1,n3,n4]
      obtain ⟨g55,U56,hg_,hu_,hS_⟩:=(S52.out.gr hg54).made [.int .i64 0, .int .i64 0, .int .i64 0, .int .i64 0, .int .i64 0, .int .i64 0, .slice none 0 0] 28
      rw [← hu_,← hg_]
      have S57 : Hid (St w noB [blk g55 28 [.int .i64 0, .int .i64 0, .int .i64 0, .int .i64 0, .int .i64 0, .int .i64 0, .slice none 0 0],own (.slice A46 n47 c48) 3 1 n47 (ic (Gm.turn (s : Int) B l)),blk g34 23 [.int .i64 x, .int .i64 y, .int .i64 z],blk g20 28 [.int .i64 B.a, .int .i64 B.b, .int .i64 B.c, .int .i64 B.d, .int .i64 B.e, .int .i64 B.f, .slice A n c],blk g9 23 [.int .i64 x, .int .i64 y, .int .i64 z],blk g4 28 [.int .i64 B.a, .int .i64 B.b, .int .i64 B.c, .int .i64 B.d, .int .i64 B.e, .int .i64 B.f, .slice A n c]] U56):=Lib.hid hS_
      clear S52
      clear hg_ hu_ hS_ hg54
      refine wpG_store (none) rfl (by rfl) (fun W58 hg59=>⟨_,run_store_mid 28 (.tmp 11) (.tmp 31) rfl g55 0 #[.int .i64 ((Gm.tB (s : Int) B).a), .int .i64 ((Gm.tB (s : Int) B).b), .int .i64 ((Gm.tB (s : Int) B).c), .int .i64 ((Gm.tB (s : Int) B).d), .int .i64 ((Gm.tB (s : Int) B).e), .int .i64 ((Gm.tB (s : Int) B).f), .slice A46 n47 c48] rfl rfl ((S57.out.gr hg59).room 0 rfl 0 7 (by simp)) (by kernel_rfl) (by kernel_rfl), ?_⟩)
      simp only [n2]
      obtain ⟨U60,hu_,hS_⟩:=((S57.out.gr hg59).put 0 rfl 0 (#[.int .i64 ((Gm.tB (s : Int) B).a), .int .i64 ((Gm.tB (s : Int) B).b), .int .i64 ((Gm.tB (s : Int) B).c), .int .i64 ((Gm.tB (s : Int) B).d), .int .i64 ((Gm.tB (s : Int) B).e), .int .i64 ((Gm.tB (s : Int) B).f), .slice A46 n47 c48] : Array Value).toList (ds:=[.int .i64 ((Gm.tB (s : Int) B).a), .int .i64 ((Gm.tB (s : Int) B).b), .int .i64 ((Gm.tB (s : Int) B).c), .int .i64 ((Gm.tB (s : Int) B).d), .int .i64 ((Gm.tB (s : Int) B).e), .int .i64 ((Gm.tB (s : Int) B).f), .slice A46 n47 c48]) rfl).named
      rw [← hu_]
      have S61 : Hid (St w noB [blk g55 28 [.int .i64 ((Gm.tB (s : Int) B).a), .int .i64 ((Gm.tB (s : Int) B).b), .int .i64 ((Gm.tB (s : Int) B).c), .int .i64 ((Gm.tB (s : Int) B).d), .int .i64 ((Gm.tB (s : Int) B).e), .int .i64 ((Gm.tB (s : Int) B).f), .slice A46 n47 c48],own (.slice A46 n47 c48) 3 1 n47 (ic (Gm.turn (s : Int) B l)),blk g34 23 [.int .i64 x, .int .i64 y, .int .i64 z],blk g20 28 [.int .i64 B.a, .int .i64 B.b, .int .i64 B.c, .int .i64 B.d, .int .i64 B.e, .int .i64 B.f, .slice A n c],blk g9 23 [.int .i64 x, .int .i64 y, .int .i64 z],blk g4 28 [.int .i64 B.a, .int .i64 B.b, .int .i64 B.c, .int .i64 B.d, .int .i64 B.e, .int .i64 B.f, .slice A n c]] U60):=Lib.hid hS_
      clear S57
      clear hu_ hS_ hg59
      refine wpG_done (fun V62 hv63=>?_)
      have S64 : Hid (St w noB [blk g55 28 [.int .i64 ((Gm.tB (s : Int) B).a), .int .i64 ((Gm.tB (s : Int) B).b), .int .i64 ((Gm.tB (s : Int) B).c), .int .i64 ((Gm.tB (s : Int) B).d), .int .i64 ((Gm.tB (s : Int) B).e), .int .i64 ((Gm.tB (s : Int) B).f), .slice A46 n47 c48],own (.slice A46 n47 c48) 3 1 n47 (ic (Gm.turn (s : Int) B l)),blk g34 23 [.int .i64 x, .int .i64 y, .int .i64 z],blk g20 28 [.int .i64 B.a, .int .i64 B.b, .int .i64 B.c, .int .i64 B.d, .int .i64 B.e, .int .i64 B.f, .slice A n c],blk g9 23 [.int .i64 x, .int .i64 y, .int .i64 z],blk g4 28 [.int .i64 B.a, .int .i64 B.b, .int .i64 B.c, .int .i64 B.d, .int .i64 B.e, .int .i64 B.f, .slice A n c]] V62):=Lib.hid (S61.out.gr hv63)
      clear S61
      clear hv63
      refine ⟨rfl,hK _ _ ?_⟩
      clear hK
      go_upto_region 5 with fail
      refine wpK_region_k (by kernel_rfl) (fun K hK=>?_)
      refine wpK_tk (i:=0) (some 32) (v:=.bool true) rfl rfl (by kernel_rfl) (fun _ _ _ h=>onN_panic h) (.call (f:=11) (args:=#[]) (by rfl) (fun W=>by go_simp) (fun W hg=>(HSAN.out W (S64.out.gr (Gr.un hg)).bel))) ?_
      simp only [n1,n3,n4]
      refine wpK_ta (i:=1) (some 33) (v:=.bool true) rfl rfl (by kernel_rfl) (fun _ _ _ h=>onN_panic h) (Or.inl ⟨rfl,fun _=>rfl⟩) ?_
      simp only [n1,n3,n4]
      refine wpK_ta (i:=3) (some 35) (v:=.int .i64 (s : Int)) rfl rfl (by kernel_rfl) (fun _ _ _ h=>onN_panic h) (Or.inl ⟨rfl,fun _=>rfl⟩) ?_
      simp only [n1,n3,n4]
      refine wpK_tk (i:=2) (some 34) (v:=.agg #[.int .i64 ((Gm.tB (s : Int) B).a), .int .i64 ((Gm.tB (s : Int) B).b), .int .i64 ((Gm.tB (s : Int) B).c), .int .i64 ((Gm.tB (s : Int) B).d), .int .i64 ((Gm.tB (s : Int) B).e), .int .i64 ((Gm.tB (s : Int) B).f), .slice A46 n47 c48]) rfl rfl (by kernel_rfl) (fun _ _ _ h=>onN_panic h) (.load_mid (by rfl) 28 (.tmp 11) rfl g55 0 rfl [.int .i64 ((Gm.tB (s : Int) B).a), .int .i64 ((Gm.tB (s : Int) B).b), .int .i64 ((Gm.tB (s : Int) B).c), .int .i64 ((Gm.tB (s : Int) B).d), .int .i64 ((Gm.tB (s : Int) B).e), .int .i64 ((Gm.tB (s : Int) B).f), .slice A46 n47 c48] _ (fun W hg=>(S64.out.gr (Gr.un hg)).range 0 rfl 0 7 rfl) Tryd.underlying28 rfl (by kernel_rfl)) ?_
      simp only [n1,n3,n4]
      refine wpK_tk (i:=4) (some 36) (v:=.agg #[.int .i64 x, .int .i64 y, .int .i64 z]) rfl rfl (by kernel_rfl) (fun _ _ _ h=>onN_panic h) (.load_mid (by rfl) 23 (.tmp 7) rfl g9 0 rfl [.int .i64 x, .int .i64 y, .int .i64 z] _ (fun W hg=>(S64.out.gr (Gr.un hg)).range 4 rfl 0 3 rfl) Tryd.underlying23 rfl (by kernel_rfl)) ?_
      simp only [n1,n3,n4]
      refine wpK_tk (i:=5) (some 37) (v:=.agg #[.int .i64 (Gm.tx (s : Int) x y z), .int .i64 (Gm.ty (s : Int) x y z), .int .i64 (Gm.tz (s : Int) x y z)]) rfl rfl (by kernel_rfl) (fun _ _ _ h=>onN_panic h) (.call (f:=29) (args:=#[.int .i64 (s : Int), .agg #[.int .i64 x, .int .i64 y, .int .i64 z]]) (by rfl) (fun W=>by go_simp) (fun W hg=>turncell_b W (s : Int) x y z (by have e_f31:=f31.out;have e_f45:=f45.out;exact Gm.near1_rp (Gm.nears_iff.1 e_f45 _ (by simp))))) ?_
      simp only [n1,n3,n4]
      refine wpK_tk (i:=6) (some 38) (v:=.int .i64 (Gm.get B l x y z)) rfl rfl (by kernel_rfl) (fun _ _ _ h=>onN_panic h) (.call (f:=21) (args:=#[.agg #[.int .i64 ((Gm.tB (s : Int) B).a), .int .i64 ((Gm.tB (s : Int) B).b), .int .i64 ((Gm.tB (s : Int) B).c), .int .i64 ((Gm.tB (s : Int) B).d), .int .i64 ((Gm.tB (s : Int) B).e), .int .i64 ((Gm.tB (s : Int) B).f), .slice A46 n47 c48], .agg #[.int .i64 (Gm.tx (s : Int) x y z), .int .i64 (Gm.ty (s : Int) x y z), .int .i64 (Gm.tz (s : Int) x y z)]]) (by rfl) (fun W=>by go_simp) (fun W hg=>((get_any (Gm.tB (s : Int) B) _ _ _ (Gm.turn (s : Int) B l) (Gm.tx (s : Int) x y z) (Gm.ty (s : Int) x y z) (Gm.tz (s : Int) x y z) W (SL.ofOwn ((S64.out.gr (Gr.un hg)).ownr 1 rfl)) (by have e_f31:=f31.out;have e_f45:=f45.out;exact Gm.ok_turn (Gm.fw_of e_f31).2.1.ok) (by have e_f31:=f31.out;have e_f45:=f45.out;exact Gm.tp_rp (Gm.nears_iff.1 e_f45 _ (by simp)))).mono (fun e w' h=>⟨h.1.trans (by rw [Gm.get_turn]),h.2⟩)))) ?_
      simp only [n1,n3,n4]
      refine wpK_tk (i:=7) (some 39) (v:=.agg #[.int .i64 B.a, .int .i64 B.b, .int .i64 B.c, .int .i64 B.d, .int .i64 B.e, .int .i64 B.f, .slice A n c]) rfl rfl (by kernel_rfl) (fun _ _ _ h=>onN_panic h) (.load_mid (by rfl) 28 (.tmp 4) rfl g4 0 rfl [.int .i64 B.a, .int .i64 B.b, .int .i64 B.c, .int .i64 B.d, .int .i64 B.e, .int .i64 B.f, .slice A n c] _ (fun W hg=>(S64.out.gr (Gr.un hg)).range 5 rfl 0 7 rfl) Tryd.underlying28 rfl (by kernel_rfl)) ?_
      simp only [n1,n3,n4]
      refine wpK_tk (i:=8) (some 40) (v:=.agg #[.int .i64 x, .int .i64 y, .int .i64 z]) rfl rfl (by kernel_rfl) (fun _ _ _ h=>onN_panic h) (.load_mid (by rfl) 23 (.tmp 7) rfl g9 0 rfl [.int .i64 x, .int .i64 y, .int .i64 z] _ (fun W hg=>(S64.out.gr (Gr.un hg)).range 4 rfl 0 3 rfl) Tryd.underlying23 rfl (by kernel_rfl)) ?_
      simp only [n1,n3,n4]
      refine wpK_tk (i:=9) (some 41) (v:=.int .i64 (Gm.get B l x y z)) rfl rfl (by kernel_rfl) (fun _ _ _ h=>onN_panic h) (.call (f:=21) (args:=#[.agg #[.int .i64 B.a, .int .i64 B.b, .int .i64 B.c, .int .i64 B.d, .int .i64 B.e, .int .i64 B.f, .slice A n c], .agg #[.int .i64 x, .int .i64 y, .int .i64 z]]) (by rfl) (fun W=>by go_simp) (fun W hg=>get_any B _ _ _ l x y z W (HGA.out.gr (S64.out.gr (Gr.un hg)).bel) (by have e_f31:=f31.out;have e_f45:=f45.out;exact (Gm.fw_of e_f31).2.1.ok) (by have e_f31:=f31.out;have e_f45:=f45.out;exact Gm.near1_rp (Gm.nears_iff.1 e_f45 _ (by simp))))) ?_
      simp only [n1,n3,n4]
      refine wpK_ta (i:=10) (some 42) (v:=.bool true) rfl rfl (by kernel_rfl) (fun _ _ _ h=>onN_panic h) (Or.inl ⟨by rfl,fun W=>by go_simp⟩) ?_
      simp only [n1,n3,n4]
      refine wpK_ta (i:=11) (some 43) (v:=.bool true) rfl rfl (by kernel_rfl) (fun _ _ _ h=>onN_panic h) (Or.inl ⟨by rfl,fun W=>by go_simp⟩) ?_
      simp only [n1,n3,n4]
      refine wpK_ta (i:=12) (some 44) (v:=.bool true) rfl rfl (by kernel_rfl) (fun _ _ _ h=>onN_panic h) (Or.inl ⟨rfl,fun _=>rfl⟩) ?_
      simp only [n1,n3,n4]
      refine wpK_ta (i:=13) (some 45) (v:=.int .i64 (t : Int)) rfl rfl (by kernel_rfl) (fun _ _ _ h=>onN_panic h) (Or.inl ⟨rfl,fun _=>rfl⟩) ?_
      simp only [n1,n3,n4]
      refine wpK_ta (i:=16) (some 48) (v:=.int .i64 (t : Int)) rfl rfl (by kernel_rfl) (fun _ _ _ h=>onN_panic h) (Or.inl ⟨rfl,fun _=>rfl⟩) ?_
      simp only [n1,n3,n4]
      refine wpK_ta (i:=17) (some 49) (v:=.int .i64 (s : Int)) rfl rfl (by kernel_rfl) (fun _ _ _ h=>onN_panic h) (Or.inl ⟨rfl,fun _=>rfl⟩) ?_
      simp only [n1,n3,n4]
      refine wpK_tk (i:=14) (some 46) (v:=.agg #[.int .i64 ((Gm.tB (s : Int) B).a), .int .i64 ((Gm.tB (s : Int) B).b), .int .i64 ((Gm.tB (s : Int) B).c), .int .i64 ((Gm.tB (s : Int) B).d), .int .i64 ((Gm.tB (s : Int) B).e), .int .i64 ((Gm.tB (s : Int) B).f), .slice A46 n47 c48]) rfl rfl (by kernel_rfl) (fun _ _ _ h=>onN_panic h) (.load_mid (by rfl) 28 (.tmp 11) rfl g55 0 rfl [.int .i64 ((Gm.tB (s : Int) B).a), .int .i64 ((Gm.tB (s : Int) B).b), .int .i64 ((Gm.tB (s : Int) B).c), .int .i64 ((Gm.tB (s : Int) B).d), .int .i64 ((Gm.tB (s : Int) B).e), .int .i64 ((Gm.tB (s : Int) B).f), .slice A46 n47 c48] _ (fun W hg=>(S64.out.gr (Gr.un hg)).range 0 rfl 0 7 rfl) Tryd.underlying28 rfl (by kernel_rfl)) ?_
      simp only [n1,n3,n4]
      refine wpK_tk (i:=19) (some 51) (v:=.agg #[.int .i64 B.a, .int .i64 B.b, .int .i64 B.c, .int .i64 B.d, .int .i64 B.e, .int .i64 B.f, .slice A n c]) rfl rfl (by kernel_rfl) (fun _ _ _ h=>onN_panic h) (.load_mid (by rfl) 28 (.tmp 4) rfl g4 0 rfl [.int .i64 B.a, .int .i64 B.b, .int .i64 B.c, .int .i64 B.d, .int .i64 B.e, .int .i64 B.f, .slice A n c] _ (fun W hg=>(S64.out.gr (Gr.un hg)).range 5 rfl 0 7 rfl) Tryd.underlying28 rfl (by kernel_rfl)) ?_
      simp only [n1,n3,n4]
      refine wpK_call (i:=15) (some 47) 28 #[.int .i64 (t : Int), .agg #[.int .i64 ((Gm.tB (s : Int) B).a), .int .i64 ((Gm.tB (s : Int) B).b), .int .i64 ((Gm.tB (s : Int) B).c), .int .i64 ((Gm.tB (s : Int) B).d), .int .i64 ((Gm.tB (s : Int) B).e), .int .i64 ((Gm.tB (s : Int) B).f), .slice A46 n47 c48]] rfl rfl (by kernel_rfl) (by rfl) (fun W=>by go_simp) (fun W68 hg69=>?_)
      refine (turng_any (t : Int) (Gm.tB (s : Int) B) _ _ _ (Gm.turn (s : Int) B l) W68 (SL.ofOwn ((S64.out.gr (Gr.un hg69)).ownr 1 rfl)) (by have e_f31:=f31.out;have e_f45:=f45.out;exact Gm.ok_turn (Gm.fw_of e_f31).2.1.ok) (HTB.out.below (S64.out.gr (Gr.un hg69)).bel)).mono ?_
      rintro e w70 ⟨A65,n66,c67,rfl,hS_⟩
      refine ⟨_,rfl,hS_.bel, ?_⟩
      have hT_:=(S64.out.gr (Gr.un hg69)).got hS_
      simp only [n1,n3,n4]
      have S71 : Hid (St w noB [own (.slice A65 n66 c67) 3 1 n66 (ic (Gm.turn (t : Int) (Gm.tB (s : Int) B) (Gm.turn (s : Int) B l))),blk g55 28 [.int .i64 ((Gm.tB (s : Int) B).a), .int .i64 ((Gm.tB (s : Int) B).b), .int .i64 ((Gm.tB (s : Int) B).c), .int .i64 ((Gm.tB (s : Int) B).d), .int .i64 ((Gm.tB (s : Int) B).e), .int .i64 ((Gm.tB (s : Int) B).f), .slice A46 n47 c48],own (.slice A46 n47 c48) 3 1 n47 (ic (Gm.turn (s : Int) B l)),blk g34 23 [.int .i64 x, .int .i64 y, .int .i64 z],blk g20 28 [.int .i64 B.a, .int .i64 B.b, .int .i64 B.c, .int .i64 B.d, .int .i64 B.e, .int .i64 B.f, .slice A n c],blk g9 23 [.int .i64 x, .int .i64 y, .int .i64 z],blk g4 28 [.int .i64 B.a, .int .i64 B.b, .int .i64 B.c, .int .i64 B.d, .int .i64 B.e, .int .i64 B.f, .slice A n c]] w70):=Lib.hid hT_
      clear S64
      clear hT_ hS_ hg69
      have hnn66 : n66 ≤ (Gm.turn (t : Int) (Gm.tB (s : Int) B) (Gm.turn (s : Int) B l)).length ∧ (Gm.turn (t : Int) (Gm.tB (s : Int) B) (Gm.turn (s : Int) B l)).length ≤ n66:=by have h_:=own_icl (S71.out.ownr 0 rfl);omega
      refine wpK_tk (i:=18) (some 50) (v:=.int .i64 (Pt.comp t s : Int)) rfl rfl (by kernel_rfl) (fun _ _ _ h=>onN_panic h) (.call (f:=30) (args:=#[.int .i64 (t : Int), .int .i64 (s : Int)]) (by rfl) (fun W=>by go_simp) (fun W hg=>rcompose_any t s W HT48.out HS48.out)) ?_
      simp only [n1,n3,n4]
      refine wpK_call (i:=20) (some 52) 28 #[.int .i64 (Pt.comp t s : Int), .agg #[.int .i64 B.a, .int .i64 B.b, .int .i64 B.c, .int .i64 B.d, .int .i64 B.e, .int .i64 B.f, .slice A n c]] rfl rfl (by kernel_rfl) (by rfl) (fun W=>by go_simp) (fun W75 hg76=>?_)
      refine (turng_any (Pt.comp t s : Int) B _ _ _ l W75 (HGA.out.gr (S71.out.gr hg76).bel) (by have e_f31:=f31.out;have e_f45:=f45.out;exact (Gm.fw_of e_f31).2.1.ok) (HTB.out.below (S71.out.gr hg76).bel)).mono ?_
      rintro e w77 ⟨A72,n73,c74,rfl,hS_⟩
      refine ⟨_,rfl,hS_.bel, ?_⟩
      have hT_:=(S71.out.gr hg76).got hS_
      simp only [n1,n3,n4]
      have S78 : Hid (St w noB [own (.slice A72 n73 c74) 3 1 n73 (ic (Gm.turn (Pt.comp t s : Int) B l)),own (.slice A65 n66 c67) 3 1 n66 (ic (Gm.turn (t : Int) (Gm.tB (s : Int) B) (Gm.turn (s : Int) B l))),blk g55 28 [.int .i64 ((Gm.tB (s : Int) B).a), .int .i64 ((Gm.tB (s : Int) B).b), .int .i64 ((Gm.tB (s : Int) B).c), .int .i64 ((Gm.tB (s : Int) B).d), .int .i64 ((Gm.tB (s : Int) B).e), .int .i64 ((Gm.tB (s : Int) B).f), .slice A46 n47 c48],own (.slice A46 n47 c48) 3 1 n47 (ic (Gm.turn (s : Int) B l)),blk g34 23 [.int .i64 x, .int .i64 y, .int .i64 z],blk g20 28 [.int .i64 B.a, .int .i64 B.b, .int .i64 B.c, .int .i64 B.d, .int .i64 B.e, .int .i64 B.f, .slice A n c],blk g9 23 [.int .i64 x, .int .i64 y, .int .i64 z],blk g4 28 [.int .i64 B.a, .int .i64 B.b, .int .i64 B.c, .int .i64 B.d, .int .i64 B.e, .int .i64 B.f, .slice A n c]] w77):=Lib.hid hT_
      clear S71
      clear hT_ hS_ hg76
      have hnn73 : n73 ≤ (Gm.turn (Pt.comp t s : Int) B l).length ∧ (Gm.turn (Pt.comp t s : Int) B l).length ≤ n73:=by have h_:=own_icl (S78.out.ownr 0 rfl);omega
      refine wpK_tk (i:=21) (some 53) (v:=.bool true) rfl rfl (by kernel_rfl) (fun _ _ _ h=>onN_panic h) (.call (f:=26) (args:=#[.agg #[.int .i64 ((Gm.tB (t : Int) (Gm.tB (s : Int) B)).a), .int .i64 ((Gm.tB (t : Int) (Gm.tB (s : Int) B)).b), .int .i64 ((Gm.tB (t : Int) (Gm.tB (s : Int) B)).c), .int .i64 ((Gm.tB (t : Int) (Gm.tB (s : Int) B)).d), .int .i64 ((Gm.tB (t : Int) (Gm.tB (s : Int) B)).e), .int .i64 ((Gm.tB (t : Int) (Gm.tB (s : Int) B)).f), .slice A65 n66 c67], .agg #[.int .i64 ((Gm.tB (Pt.comp t s : Int) B).a), .int .i64 ((Gm.tB (Pt.comp t s : Int) B).b), .int .i64 ((Gm.tB (Pt.comp t s : Int) B).c), .int .i64 ((Gm.tB (Pt.comp t s : Int) B).d), .int .i64 ((Gm.tB (Pt.comp t s : Int) B).e), .int .i64 ((Gm.tB (Pt.comp t s : Int) B).f), .slice A72 n73 c74]]) (by rfl) (fun W=>by go_simp) (fun W hg=>((equal_any (Gm.tB (t : Int) (Gm.tB (s : Int) B)) _ _ _ (Gm.turn (t : Int) (Gm.tB (s : Int) B) (Gm.turn (s : Int) B l)) (Gm.tB (Pt.comp t s : Int) B) _ _ _ (Gm.turn (Pt.comp t s : Int) B l) W (SL.ofOwn ((S78.out.gr hg).ownr 1 rfl)) (SL.ofOwn ((S78.out.gr hg).ownr 0 rfl))).mono (fun e w' h=>⟨h.1.trans (by have e_f31:=f31.out;have e_f45:=f45.out;rw [show (Pt.comp t s : Int) = Gm.cp (t : Int) (s : Int) from rfl,Gm.same_iff.2 ⟨Gm.tB_cp (t:=(t : Int)) (s:=(s : Int)) (Gm.sy_of HT48.out) (Gm.sy_of HS48.out),Gm.turn_cp (t:=(t : Int)) (s:=(s : Int)) (Gm.sy_of HT48.out) (Gm.sy_of HS48.out)⟩]),h.2⟩)))) ?_
      simp only [n1,n3,n4]
      refine wpK_ta (i:=22) (some 54) (v:=.bool true) rfl rfl (by kernel_rfl) (fun _ _ _ h=>onN_panic h) (Or.inl ⟨by rfl,fun W=>by go_simp⟩) ?_
      simp only [n1,n3,n4]
      refine wpK_ta (i:=23) (some 55) (v:=.bool true) rfl rfl (by kernel_rfl) (fun _ _ _ h=>onN_panic h) (Or.inl ⟨rfl,fun _=>rfl⟩) ?_
      simp only [n1,n3,n4]
      refine wpK_ta (i:=24) (some 56) (v:=.int .i64 (s : Int)) rfl rfl (by kernel_rfl) (fun _ _ _ h=>onN_panic h) (Or.inl ⟨rfl,fun _=>rfl⟩) ?_
      simp only [n1,n3,n4]
      refine wpK_tk (i:=25) (some 57) (v:=.int .i64 (Pt.inv s : Int)) rfl rfl (by kernel_rfl) (fun _ _ _ h=>onN_panic h) (.call (f:=31) (args:=#[.int .i64 (s : Int)]) (by rfl) (fun W=>by go_simp) (fun W hg=>rinvert_any s W HS48.out)) ?_
      simp only [n1,n3,n4]
      refine wpK_tk (i:=26) (some 58) (v:=.agg #[.int .i64 ((Gm.tB (s : Int) B).a), .int .i64 ((Gm.tB (s : Int) B).b), .int .i64 ((Gm.tB (s : Int) B).c), .int .i64 ((Gm.tB (s : Int) B).d), .int .i64 ((Gm.tB (s : Int) B).e), .int .i64 ((Gm.tB (s : Int) B).f), .slice A46 n47 c48]) rfl rfl (by kernel_rfl) (fun _ _ _ h=>onN_panic h) (.load_mid (by rfl) 28 (.tmp 11) rfl g55 0 rfl [.int .i64 ((Gm.tB (s : Int) B).a), .int .i64 ((Gm.tB (s : Int) B).b), .int .i64 ((Gm.tB (s : Int) B).c), .int .i64 ((Gm.tB (s : Int) B).d), .int .i64 ((Gm.tB (s : Int) B).e), .int .i64 ((Gm.tB (s : Int) B).f), .slice A46 n47 c48] _ (fun W hg=>(S78.out.gr hg).range 2 rfl 0 7 rfl) Tryd.underlying28 rfl (by kernel_rfl)) ?_
      simp only [n1,n3,n4]
      refine wpK_tk (i:=28) (some 60) (v:=.agg #[.int .i64 B.a, .int .i64 B.b, .int .i64 B.c, .int .i64 B.d, .int .i64 B.e, .int .i64 B.f, .slice A n c]) rfl rfl (by kernel_rfl) (fun _ _ _ h=>onN_panic h) (.load_mid (by rfl) 28 (.tmp 4) rfl g4 0 rfl [.int .i64 B.a, .int .i64 B.b, .int .i64 B.c, .int .i64 B.d, .int .i64 B.e, .int .i64 B.f, .slice A n c] _ (fun W hg=>(S78.out.gr hg).range 7 rfl 0 7 rfl) Tryd.underlying28 rfl (by kernel_rfl)) ?_
      simp only [n1,n3,n4]
      refine wpK_call (i:=27) (some 59) 28 #[.int .i64 (Pt.inv s : Int), .agg #[.int .i64 ((Gm.tB (s : Int) B).a), .int .i64 ((Gm.tB (s : Int) B).b), .int .i64 ((Gm.tB (s : Int) B).c), .int .i64 ((Gm.tB (s : Int) B).d), .int .i64 ((Gm.tB (s : Int) B).e), .int .i64 ((Gm.tB (s : Int) B).f), .slice A46 n47 c48]] rfl rfl (by kernel_rfl) (by rfl) (fun W=>by go_simp) (fun W82 hg83=>?_)
      refine (turng_any (Pt.inv s : Int) (Gm.tB (s : Int) B) _ _ _ (Gm.turn (s : Int) B l) W82 (SL.ofOwn ((S78.out.gr hg83).ownr 3 rfl)) (by have e_f31:=f31.out;have e_f45:=f45.out;exact Gm.ok_turn (Gm.fw_of e_f31).2.1.ok) (HTB.out.below (S78.out.gr hg83).bel)).mono ?_
      rintro e w84 ⟨A79,n80,c81,rfl,hS_⟩
      refine ⟨_,rfl,hS_.bel, ?_⟩
      have hT_:=(S78.out.gr hg83).got hS_
      simp only [n1,n3,n4]
      have S85 : Hid (St w noB [own (.slice A79 n80 c81) 3 1 n80 (ic (Gm.turn (Pt.inv s : Int) (Gm.tB (s : Int) B) (Gm.turn (s : Int) B l))),own (.slice A72 n73 c74) 3 1 n73 (ic (Gm.turn (Pt.comp t s : Int) B l)),own (.slice A65 n66 c67) 3 1 n66 (ic (Gm.turn (t : Int) (Gm.tB (s : Int) B) (Gm.turn (s : Int) B l))),blk g55 28 [.int .i64 ((Gm.tB (s : Int) B).a), .int .i64 ((Gm.tB (s : Int) B).b), .int .i64 ((Gm.tB (s : Int) B).c), .int .i64 ((Gm.tB (s : Int) B).d), .int .i64 ((Gm.tB (s : Int) B).e), .int .i64 ((Gm.tB (s : Int) B).f), .slice A46 n47 c48],own (.slice A46 n47 c48) 3 1 n47 (ic (Gm.turn (s : Int) B l)),blk g34 23 [.int .i64 x, .int .i64 y, .int .i64 z],blk g20 28 [.int .i64 B.a, .int .i64 B.b, .int .i64 B.c, .int .i64 B.d, .int .i64 B.e, .int .i64 B.f, .slice A n c],blk g9 23 [.int .i64 x, .int .i64 y, .int .i64 z],blk g4 28 [.int .i64 B.a, .int .i64 B.b, .int .i64 B.c, .int .i64 B.d, .int .i64 B.e, .int .i64 B.f, .slice A n c]] w84):=Lib.hid hT_
      clear S78
      clear hT_ hS_ hg83
      have hnn80 : n80 ≤ (Gm.turn (Pt.inv s : Int) (Gm.tB (s : Int) B) (Gm.turn (s : Int) B l)).length ∧ (Gm.turn (Pt.inv s : Int) (Gm.tB (s : Int) B) (Gm.turn (s : Int) B l)).length ≤ n80:=by have h_:=own_icl (S85.out.ownr 0 rfl);omega
      refine wpK_tk (i:=29) (some 61) (v:=.bool true) rfl rfl (by kernel_rfl) (fun _ _ _ h=>onN_panic h) (.call (f:=26) (args:=#[.agg #[.int .i64 ((Gm.tB (Pt.inv s : Int) (Gm.tB (s : Int) B)).a), .int .i64 ((Gm.tB (Pt.inv s : Int) (Gm.tB (s : Int) B)).b), .int .i64 ((Gm.tB (Pt.inv s : Int) (Gm.tB (s : Int) B)).c), .int .i64 ((Gm.tB (Pt.inv s : Int) (Gm.tB (s : Int) B)).d), .int .i64 ((Gm.tB (Pt.inv s : Int) (Gm.tB (s : Int) B)).e), .int .i64 ((Gm.tB (Pt.inv s : Int) (Gm.tB (s : Int) B)).f), .slice A79 n80 c81], .agg #[.int .i64 B.a, .int .i64 B.b, .int .i64 B.c, .int .i64 B.d, .int .i64 B.e, .int .i64 B.f, .slice A n c]]) (by rfl) (fun W=>by go_simp) (fun W hg=>((equal_any (Gm.tB (Pt.inv s : Int) (Gm.tB (s : Int) B)) _ _ _ (Gm.turn (Pt.inv s : Int) (Gm.tB (s : Int) B) (Gm.turn (s : Int) B l)) B _ _ _ l W (SL.ofOwn ((S85.out.gr hg).ownr 0 rfl)) (HGA.out.gr (S85.out.gr hg).bel)).mono (fun e w' h=>⟨h.1.trans (by have e_f31:=f31.out;have e_f45:=f45.out;rw [show (Pt.inv s : Int) = Gm.iv (s : Int) by unfold Gm.iv;rw [(Gm.sy_of HS48.out)];rfl,Gm.same_iff.2 ⟨Gm.tB_back (Gm.fw_of e_f31).2.1 (Gm.sy_of HS48.out),Gm.turn_back (Gm.fw_of e_f31).2.1 (Gm.sy_of HS48.out)⟩]),h.2⟩)))) ?_
      simp only [n1,n3,n4]
      refine wpK_ta (i:=30) (some 62) (v:=.bool true) rfl rfl (by kernel_rfl) (fun _ _ _ h=>onN_panic h) (Or.inl ⟨by rfl,fun W=>by go_simp⟩) ?_
      simp only [n1,n3,n4]
      refine wpK_ta (i:=31) (some 8) (v:=.bool true) rfl rfl (by kernel_rfl) (fun _ _ _ h=>onN_panic h) (Or.inl ⟨rfl,fun _=>rfl⟩) ?_
      simp only [n1,n3,n4]
      refine wpK_done (by kernel_rfl) (fun V86 hv87=>?_) _
      have S88 : Hid (St w noB [own (.slice A79 n80 c81) 3 1 n80 (ic (Gm.turn (Pt.inv s : Int) (Gm.tB (s : Int) B) (Gm.turn (s : Int) B l))),own (.slice A72 n73 c74) 3 1 n73 (ic (Gm.turn (Pt.comp t s : Int) B l)),own (.slice A65 n66 c67) 3 1 n66 (ic (Gm.turn (t : Int) (Gm.tB (s : Int) B) (Gm.turn (s : Int) B l))),blk g55 28 [.int .i64 ((Gm.tB (s : Int) B).a), .int .i64 ((Gm.tB (s : Int) B).b), .int .i64 ((Gm.tB (s : Int) B).c), .int .i64 ((Gm.tB (s : Int) B).d), .int .i64 ((Gm.tB (s : Int) B).e), .int .i64 ((Gm.tB (s : Int) B).f), .slice A46 n47 c48],own (.slice A46 n47 c48) 3 1 n47 (ic (Gm.turn (s : Int) B l)),blk g34 23 [.int .i64 x, .int .i64 y, .int .i64 z],blk g20 28 [.int .i64 B.a, .int .i64 B.b, .int .i64 B.c, .int .i64 B.d, .int .i64 B.e, .int .i64 B.f, .slice A n c],blk g9 23 [.int .i64 x, .int .i64 y, .int .i64 z],blk g4 28 [.int .i64 B.a, .int .i64 B.b, .int .i64 B.c, .int .i64 B.d, .int .i64 B.e, .int .i64 B.f, .slice A n c]] V86):=Lib.hid (S85.out.gr hv87)
      clear S85
      clear hv87
      refine ⟨rfl,hK _ _ ?_⟩
      clear hK
      go_wp2_with fail
      go_ret
      refine ⟨?_,S88.out.bel⟩
      show Ending.returned (.bool true) = _
      (first | rfl | (have e_f31:=f31.out;have e_f45:=f45.out;rfl))

end Go.Proofs.YtjdeaopdbenamaaDoor
