/-
  GridCrops: the walk.
-/
import Derived.Test.YtjdeaopdbenamaaDoorZF00
import Derived.Test.YtjdeaopdbenamaaDoorZF33
import Derived.Test.YtjdeaopdbenamaaDoorZF34
import Derived.Test.YtjdeaopdbenamaaDoorZF47
import Derived.Test.YtjdeaopdbenamaaDoorZF48
import Derived.Test.YtjdeaopdbenamaaDoorZF49
import Derived.Test.YtjdeaopdbenamaaDoorZF46
import Derived.Test.YtjdeaopdbenamaaDoorZF40
import Derived.Test.YtjdeaopdbenamaaDoorZF24
import Derived.Test.YtjdeaopdbenamaaDoorZF18
import Derived.Handy
namespace Go.Proofs.YtjdeaopdbenamaaDoor
open Go Go.RowKit
set_option linter.unusedVariables false
set_option linter.unusedSimpArgs false
set_option maxRecDepth 1000000 in
set_option maxHeartbeats 4000000 in
theorem law_gl6 (B : Gm.Bx) (A : Option Addr) (n c : Nat) (l : List Int) (F H : Gm.Bx) (x y z : Int) (w : World) (hG : SL w 1 A n c (ic l)) (hSan : ∀ W,Gr w W → Calls Tryd.prog 11 #[] W fun e w'=>e = .returned (.bool true) ∧ Below W.heap.size W w') :
    Calls Tryd.prog 7 #[.agg #[B.a, B.b, B.c, B.d, B.e, B.f, .slice A n c], .agg #[F.a, F.b, F.c, F.d, F.e, F.f], .agg #[H.a, H.b, H.c, H.d, H.e, H.f], .agg #[x, y, z]] w fun e w'=>e = .returned (.bool true) ∧ Below w.heap.size w w':=by
  have HGA:=Lib.hid hG
  have HLEN : Hid (l.length = n):=Lib.hid (by have h_:=hG.len;rw [ic_len] at h_;omega)
  have hnbHGA : n ≤ 9223372036854775807:=Nat.le_trans hG.cap hG.bnd
  clear hG
  have HSAN:=Lib.hid hSan
  clear hSan
  have S1 : Hid (St w noB [] w):=Lib.hid (St.start w)
  go_enter Tryd.func7,Tryd.ntmps7
  go_upto_region 0 with fail
  refine wpG_region_k (fun K hK=>?_)
  refine wpG_val (some 4) rfl (by rfl) (fun W2 hg3=>⟨.pointer (some ⟨W2.heap.size,0,none⟩),W2.alloc (.cells #[B.a, B.b, B.c, B.d, B.e, B.f, .slice A n c] 28),by (first | (go_simp;done) | (go_simp <;> rfl)), ?_⟩)
  simp only [n1,n3,n4]
  obtain ⟨g4,U5,hg_,hu_,hS_⟩:=(S1.out.gr hg3).made [B.a, B.b, B.c, B.d, B.e, B.f, .slice A n c] 28
  rw [← hu_,← hg_]
  have S6 : Hid (St w noB [blk g4 28 [B.a, B.b, B.c, B.d, B.e, B.f, .slice A n c]] U5):=Lib.hid hS_
  clear S1
  clear hg_ hu_ hS_ hg3
  refine wpG_val (some 5) rfl (by rfl) (fun W7 hg8=>⟨.pointer (some ⟨W7.heap.size,0,none⟩),W7.alloc (.cells #[F.a, F.b, F.c, F.d, F.e, F.f] 25),by (first | (go_simp;done) | (go_simp <;> rfl)), ?_⟩)
  simp only [n1,n3,n4]
  obtain ⟨g9,U10,hg_,hu_,hS_⟩:=(S6.out.gr hg8).made [F.a, F.b, F.c, F.d, F.e, F.f] 25
  rw [← hu_,← hg_]
  have S11 : Hid (St w noB [blk g9 25 [F.a, F.b, F.c, F.d, F.e, F.f],blk g4 28 [B.a, B.b, B.c, B.d, B.e, B.f, .slice A n c]] U10):=Lib.hid hS_
  clear S6
  clear hg_ hu_ hS_ hg8
  refine wpG_val (some 6) rfl (by rfl) (fun W12 hg13=>⟨.pointer (some ⟨W12.heap.size,0,none⟩),W12.alloc (.cells #[H.a, H.b, H.c, H.d, H.e, H.f] 25),by (first | (go_simp;done) | (go_simp <;> rfl)), ?_⟩)
  simp only [n1,n3,n4]
  obtain ⟨g14,U15,hg_,hu_,hS_⟩:=(S11.out.gr hg13).made [H.a, H.b, H.c, H.d, H.e, H.f] 25
  rw [← hu_,← hg_]
  have S16 : Hid (St w noB [blk g14 25 [H.a, H.b, H.c, H.d, H.e, H.f],blk g9 25 [F.a, F.b, F.c, F.d, F.e, F.f],blk g4 28 [B.a, B.b, B.c, B.d, B.e, B.f, .slice A n c]] U15):=Lib.hid hS_
  clear S11
  clear hg_ hu_ hS_ hg13
  refine wpG_val (some 7) rfl (by rfl) (fun W17 hg18=>⟨.pointer (some ⟨W17.heap.size,0,none⟩),W17.alloc (.cells #[x, y, z] 23),by (first | (go_simp;done) | (go_simp <;> rfl)), ?_⟩)
  simp only [n1,n3,n4]
  obtain ⟨g19,U20,hg_,hu_,hS_⟩:=(S16.out.gr hg18).made [x, y, z] 23
  rw [← hu_,← hg_]
  have S21 : Hid (St w noB [blk g19 23 [x, y, z],blk g14 25 [H.a, H.b, H.c, H.d, H.e, H.f],blk g9 25 [F.a, F.b, F.c, F.d, F.e, F.f],blk g4 28 [B.a, B.b, B.c, B.d, B.e, B.f, .slice A n c]] U20):=Lib.hid hS_
  clear S16
  clear hg_ hu_ hS_ hg18
  refine @wpG_p _ _ _ _ _ (some 8) (.bool false) _ _ rfl (by rfl) (fun _=>rfl) ?_
  simp only [n1,n3,n4]
  refine wpG_done (fun V22 hv23=>?_)
  have S24 : Hid (St w noB [blk g19 23 [x, y, z],blk g14 25 [H.a, H.b, H.c, H.d, H.e, H.f],blk g9 25 [F.a, F.b, F.c, F.d, F.e, F.f],blk g4 28 [B.a, B.b, B.c, B.d, B.e, B.f, .slice A n c]] V22):=Lib.hid (S21.out.gr hv23)
  clear S21
  clear hv23
  refine ⟨rfl,hK _ _ ?_⟩
  clear hK
  go_upto_region 1 with fail
  refine wpG_region_k (fun K hK=>?_)
  refine @wpG_tk _ _ _ _ _ (some 18) (.agg #[B.a, B.b, B.c, B.d, B.e, B.f, .slice A n c]) _ _ rfl (.load_mid (by rfl) 28 (.tmp 4) rfl g4 0 rfl [B.a, B.b, B.c, B.d, B.e, B.f, .slice A n c] _ (fun W hg=>(S24.out.gr hg).range 3 rfl 0 7 rfl) Tryd.underlying28 rfl (by kernel_rfl)) ?_
  simp only [n1,n3,n4]
  refine wpG_val (some 19) rfl (by rfl) (fun W25 hg26=>⟨.slice (some ⟨W25.heap.size,0,none⟩) 1 1,W25.alloc (.cells #[B.a, B.b, B.c, B.d, B.e, B.f, .slice A n c] 28),by (go_simp <;> rfl), ?_⟩)
  simp only [n1,n3,n4]
  obtain ⟨g27,U28,hg_,hu_,hS_⟩:=(S24.out.gr hg26).made [B.a, B.b, B.c, B.d, B.e, B.f, .slice A n c] 28
  rw [← hu_,← hg_]
  have S29 : Hid (St w noB [blk g27 28 [B.a, B.b, B.c, B.d, B.e, B.f, .slice A n c],blk g19 23 [x, y, z],blk g14 25 [H.a, H.b, H.c, H.d, H.e, H.f],blk g9 25 [F.a, F.b, F.c, F.d, F.e, F.f],blk g4 28 [B.a, B.b, B.c, B.d, B.e, B.f, .slice A n c]] U28):=Lib.hid hS_
  clear S24
  clear hg_ hu_ hS_ hg26
  refine @wpG_tk _ _ _ _ _ (some 20) (.bool (Gm.fw B l)) _ _ rfl (.call (f:=19) (args:=#[.slice (some ⟨g27,0,none⟩) 1 1]) (by rfl) (fun W=>by go_simp) (fun W hg=>few1_any B _ _ _ l _ _ W (SL.ofBlk (S29.out.gr hg) 0 rfl 7 1 ([B.a, B.b, B.c, B.d, B.e, B.f, .slice A n c]) rfl rfl (by decide)) (HGA.out.gr (S29.out.gr hg).bel))) ?_
  simp only [n1,n3,n4]
  refine @wpG_p _ _ _ _ _ (some 21) (.bool (!(Gm.fw B l))) _ _ rfl (by rfl) (fun W=>by go_simp) ?_
  simp only [n1,n3,n4]
  refine @wpG_p _ _ _ _ _ (some 22) (.bool (!(Gm.fw B l))) _ _ rfl (by rfl) (fun _=>rfl) ?_
  simp only [n1,n3,n4]
  obtain ⟨c30,hc30⟩ : ∃ q_,q_ = (!(Gm.fw B l)):=⟨_,rfl⟩
  rw [← hc30]
  have Hc30:=Lib.hid hc30
  clear hc30
  cases c30 with
  | true =>
    have f31:=Lib.hid ((bnt Hc30.out))
    refine @wpG_no _ _ _ _ _ (some 23) _ _ rfl (by rfl) ?_
    simp only [n1,n3,n4]
    refine @wpG_no _ _ _ _ _ (some 24) _ _ rfl (by rfl) ?_
    simp only [n1,n3,n4]
    refine @wpG_no _ _ _ _ _ (some 25) _ _ rfl (by rfl) ?_
    simp only [n1,n3,n4]
    refine @wpG_no _ _ _ _ _ (some 26) _ _ rfl (by rfl) ?_
    simp only [n1,n3,n4]
    refine @wpG_no _ _ _ _ _ (some 27) _ _ rfl (by rfl) ?_
    simp only [n1,n3,n4]
    refine @wpG_no _ _ _ _ _ (some 28) _ _ rfl (by rfl) ?_
    simp only [n1,n3,n4]
    refine @wpG_no _ _ _ _ _ (some 29) _ _ rfl (by rfl) ?_
    simp only [n1,n3,n4]
    refine @wpG_no _ _ _ _ _ (some 30) _ _ rfl (by rfl) ?_
    simp only [n1,n3,n4]
    refine @wpG_no _ _ _ _ _ (some 31) _ _ rfl (by rfl) ?_
    simp only [n1,n3,n4]
    refine @wpG_no _ _ _ _ _ (some 32) _ _ rfl (by rfl) ?_
    simp only [n1,n3,n4]
    refine @wpG_no _ _ _ _ _ (some 33) _ _ rfl (by rfl) ?_
    simp only [n1,n3,n4]
    refine @wpG_no _ _ _ _ _ (some 34) _ _ rfl (by rfl) ?_
    simp only [n1,n3,n4]
    refine @wpG_p _ _ _ _ _ (some 35) (.bool true) _ _ rfl (by rfl) (fun W=>by go_simp) ?_
    simp only [n1,n3,n4]
    refine @wpG_p _ _ _ _ _ (some 36) (.bool true) _ _ rfl (by rfl) (fun _=>rfl) ?_
    simp only [n1,n3,n4]
    refine @wpG_no _ _ _ _ _ (some 37) _ _ rfl (by rfl) ?_
    simp only [n1,n3,n4]
    refine @wpG_no _ _ _ _ _ (some 38) _ _ rfl (by rfl) ?_
    simp only [n1,n3,n4]
    refine @wpG_no _ _ _ _ _ (some 39) _ _ rfl (by rfl) ?_
    simp only [n1,n3,n4]
    refine @wpG_p _ _ _ _ _ (some 40) (.bool true) _ _ rfl (by rfl) (fun W=>by go_simp) ?_
    simp only [n1,n3,n4]
    refine @wpG_p _ _ _ _ _ (some 41) (.bool true) _ _ rfl (by rfl) (fun _=>rfl) ?_
    simp only [n1,n3,n4]
    refine @wpG_no _ _ _ _ _ (some 42) _ _ rfl (by rfl) ?_
    simp only [n1,n3,n4]
    refine @wpG_no _ _ _ _ _ (some 43) _ _ rfl (by rfl) ?_
    simp only [n1,n3,n4]
    refine @wpG_no _ _ _ _ _ (some 44) _ _ rfl (by rfl) ?_
    simp only [n1,n3,n4]
    refine @wpG_p _ _ _ _ _ (some 45) (.bool true) _ _ rfl (by rfl) (fun W=>by go_simp) ?_
    simp only [n1,n3,n4]
    refine wpG_done (fun V32 hv33=>?_)
    have S34 : Hid (St w noB [blk g27 28 [B.a, B.b, B.c, B.d, B.e, B.f, .slice A n c],blk g19 23 [x, y, z],blk g14 25 [H.a, H.b, H.c, H.d, H.e, H.f],blk g9 25 [F.a, F.b, F.c, F.d, F.e, F.f],blk g4 28 [B.a, B.b, B.c, B.d, B.e, B.f, .slice A n c]] V32):=Lib.hid (S29.out.gr hv33)
    clear S29
    clear hv33
    refine ⟨rfl,hK _ _ ?_⟩
    clear hK
    go_upto_region 2 with fail
    refine wpG_region_k (fun K hK=>?_)
    refine @wpG_tk _ _ _ _ _ (some 46) (.bool true) _ _ rfl (.call (f:=11) (args:=#[]) (by rfl) (fun W=>by go_simp) (fun W hg=>(HSAN.out W (S34.out.gr hg).bel))) ?_
    simp only [n1,n3,n4]
    refine @wpG_p _ _ _ _ _ (some 8) (.bool true) _ _ rfl (by rfl) (fun _=>rfl) ?_
    simp only [n1,n3,n4]
    refine wpG_done (fun V35 hv36=>?_)
    have S37 : Hid (St w noB [blk g27 28 [B.a, B.b, B.c, B.d, B.e, B.f, .slice A n c],blk g19 23 [x, y, z],blk g14 25 [H.a, H.b, H.c, H.d, H.e, H.f],blk g9 25 [F.a, F.b, F.c, F.d, F.e, F.f],blk g4 28 [B.a, B.b, B.c, B.d, B.e, B.f, .slice A n c]] V35):=Lib.hid (S34.out.gr hv36)
    clear S34
    clear hv36
    refine ⟨rfl,hK _ _ ?_⟩
    clear hK
    go_wp2_with fail
    go_ret
    refine ⟨?_,S37.out.bel⟩
    show Ending.returned (.bool true) = _
    (first | rfl | (have e_f31:=f31.out;rfl))
  | false =>
    have f38:=Lib.hid ((bnf Hc30.out))
    refine @wpG_p _ _ _ _ _ (some 23) (.pointer (some ⟨g9,0,none⟩)) _ _ rfl (by rfl) (fun W=>by go_simp) ?_
    simp only [n1,n3,n4]
    refine @wpG_tk _ _ _ _ _ (some 24) (.agg #[F.a, F.b, F.c]) _ _ rfl (.load_mid (by rfl) 23 (.tmp 23) rfl g9 0 rfl [F.a, F.b, F.c] _ (fun W hg=>(S29.out.gr hg).range 3 rfl 0 3 rfl) Tryd.underlying23 rfl (by kernel_rfl)) ?_
    simp only [n1,n3,n4]
    refine @wpG_p _ _ _ _ _ (some 25) (.pointer (some ⟨g9,3,none⟩)) _ _ rfl (by rfl) (fun W=>by go_simp) ?_
    simp only [n1,n3,n4]
    refine @wpG_tk _ _ _ _ _ (some 26) (.agg #[F.d, F.e, F.f]) _ _ rfl (.load_mid (by rfl) 23 (.tmp 25) rfl g9 3 rfl [F.d, F.e, F.f] _ (fun W hg=>(S29.out.gr hg).range 3 rfl 3 3 rfl) Tryd.underlying23 rfl (by kernel_rfl)) ?_
    simp only [n1,n3,n4]
    refine @wpG_p _ _ _ _ _ (some 27) (.pointer (some ⟨g14,0,none⟩)) _ _ rfl (by rfl) (fun W=>by go_simp) ?_
    simp only [n1,n3,n4]
    refine @wpG_tk _ _ _ _ _ (some 28) (.agg #[H.a, H.b, H.c]) _ _ rfl (.load_mid (by rfl) 23 (.tmp 27) rfl g14 0 rfl [H.a, H.b, H.c] _ (fun W hg=>(S29.out.gr hg).range 2 rfl 0 3 rfl) Tryd.underlying23 rfl (by kernel_rfl)) ?_
    simp only [n1,n3,n4]
    refine @wpG_p _ _ _ _ _ (some 29) (.pointer (some ⟨g14,3,none⟩)) _ _ rfl (by rfl) (fun W=>by go_simp) ?_
    simp only [n1,n3,n4]
    refine @wpG_tk _ _ _ _ _ (some 30) (.agg #[H.d, H.e, H.f]) _ _ rfl (.load_mid (by rfl) 23 (.tmp 29) rfl g14 3 rfl [H.d, H.e, H.f] _ (fun W hg=>(S29.out.gr hg).range 2 rfl 3 3 rfl) Tryd.underlying23 rfl (by kernel_rfl)) ?_
    simp only [n1,n3,n4]
    refine @wpG_tk _ _ _ _ _ (some 31) (.agg #[x, y, z]) _ _ rfl (.load_mid (by rfl) 23 (.tmp 7) rfl g19 0 rfl [x, y, z] _ (fun W hg=>(S29.out.gr hg).range 1 rfl 0 3 rfl) Tryd.underlying23 rfl (by kernel_rfl)) ?_
    simp only [n1,n3,n4]
    refine wpG_val (some 32) rfl (by rfl) (fun W39 hg40=>⟨.slice (some ⟨W39.heap.size,0,none⟩) 5 5,W39.alloc (.cells #[F.a, F.b, F.c, F.d, F.e, F.f, H.a, H.b, H.c, H.d, H.e, H.f, x, y, z] 23),by (go_simp <;> rfl), ?_⟩)
    simp only [n1,n3,n4]
    obtain ⟨g41,U42,hg_,hu_,hS_⟩:=(S29.out.gr hg40).made [F.a, F.b, F.c, F.d, F.e, F.f, H.a, H.b, H.c, H.d, H.e, H.f, x, y, z] 23
    rw [← hu_,← hg_]
    have S43 : Hid (St w noB [blk g41 23 [F.a, F.b, F.c, F.d, F.e, F.f, H.a, H.b, H.c, H.d, H.e, H.f, x, y, z],blk g27 28 [B.a, B.b, B.c, B.d, B.e, B.f, .slice A n c],blk g19 23 [x, y, z],blk g14 25 [H.a, H.b, H.c, H.d, H.e, H.f],blk g9 25 [F.a, F.b, F.c, F.d, F.e, F.f],blk g4 28 [B.a, B.b, B.c, B.d, B.e, B.f, .slice A n c]] U42):=Lib.hid hS_
    clear S29
    clear hg_ hu_ hS_ hg40
    refine @wpG_tk _ _ _ _ _ (some 33) (.bool (Gm.nears [(F.a,F.b,F.c),(F.d,F.e,F.f),(H.a,H.b,H.c),(H.d,H.e,H.f),(x,y,z)])) _ _ rfl (.call (f:=20) (args:=#[.slice (some ⟨g41,0,none⟩) 5 5]) (by rfl) (fun W=>by go_simp) (fun W hg=>near_any _ _ _ [(F.a,F.b,F.c),(F.d,F.e,F.f),(H.a,H.b,H.c),(H.d,H.e,H.f),(x,y,z)] W (SL.ofBlk (S43.out.gr hg) 0 rfl 3 5 (pcs [(F.a,F.b,F.c),(F.d,F.e,F.f),(H.a,H.b,H.c),(H.d,H.e,H.f),(x,y,z)]) rfl rfl (by decide)))) ?_
    simp only [n1,n3,n4]
    refine @wpG_p _ _ _ _ _ (some 34) (.bool (!(Gm.nears [(F.a,F.b,F.c),(F.d,F.e,F.f),(H.a,H.b,H.c),(H.d,H.e,H.f),(x,y,z)]))) _ _ rfl (by rfl) (fun W=>by go_simp) ?_
    simp only [n1,n3,n4]
    refine @wpG_p _ _ _ _ _ (some 35) (.bool (!(Gm.nears [(F.a,F.b,F.c),(F.d,F.e,F.f),(H.a,H.b,H.c),(H.d,H.e,H.f),(x,y,z)]))) _ _ rfl (by rfl) (fun W=>by go_simp) ?_
    simp only [n1,n3,n4]
    refine @wpG_p _ _ _ _ _ (some 36) (.bool (!(Gm.nears [(F.a,F.b,F.c),(F.d,F.e,F.f),(H.a,H.b,H.c),(H.d,H.e,H.f),(x,y,z)]))) _ _ rfl (by rfl) (fun _=>rfl) ?_
    simp only [n1,n3,n4]
    obtain ⟨c44,hc44⟩ : ∃ q_,q_ = (!(Gm.nears [(F.a,F.b,F.c),(F.d,F.e,F.f),(H.a,H.b,H.c),(H.d,H.e,H.f),(x,y,z)])):=⟨_,rfl⟩
    rw [← hc44]
    have Hc44:=Lib.hid hc44
    clear hc44
    cases c44 with
    | true =>
      have f45:=Lib.hid ((bnt Hc44.out))
      refine @wpG_no _ _ _ _ _ (some 37) _ _ rfl (by rfl) ?_
      simp only [n1,n3,n4]
      refine @wpG_no _ _ _ _ _ (some 38) _ _ rfl (by rfl) ?_
      simp only [n1,n3,n4]
      refine @wpG_no _ _ _ _ _ (some 39) _ _ rfl (by rfl) ?_
      simp only [n1,n3,n4]
      refine @wpG_p _ _ _ _ _ (some 40) (.bool true) _ _ rfl (by rfl) (fun W=>by go_simp) ?_
      simp only [n1,n3,n4]
      refine @wpG_p _ _ _ _ _ (some 41) (.bool true) _ _ rfl (by rfl) (fun _=>rfl) ?_
      simp only [n1,n3,n4]
      refine @wpG_no _ _ _ _ _ (some 42) _ _ rfl (by rfl) ?_
      simp only [n1,n3,n4]
      refine @wpG_no _ _ _ _ _ (some 43) _ _ rfl (by rfl) ?_
      simp only [n1,n3,n4]
      refine @wpG_no _ _ _ _ _ (some 44) _ _ rfl (by rfl) ?_
      simp only [n1,n3,n4]
      refine @wpG_p _ _ _ _ _ (some 45) (.bool true) _ _ rfl (by rfl) (fun W=>by go_simp) ?_
      simp only [n1,n3,n4]
      refine wpG_done (fun V46 hv47=>?_)
      have S48 : Hid (St w noB [blk g41 23 [F.a, F.b, F.c, F.d, F.e, F.f, H.a, H.b, H.c, H.d, H.e, H.f, x, y, z],blk g27 28 [B.a, B.b, B.c, B.d, B.e, B.f, .slice A n c],blk g19 23 [x, y, z],blk g14 25 [H.a, H.b, H.c, H.d, H.e, H.f],blk g9 25 [F.a, F.b, F.c, F.d, F.e, F.f],blk g4 28 [B.a, B.b, B.c, B.d, B.e, B.f, .slice A n c]] V46):=Lib.hid (S43.out.gr hv47)
      clear S43
      clear hv47
      refine ⟨rfl,hK _ _ ?_⟩
      clear hK
      go_upto_region 2 with fail
      refine wpG_region_k (fun K hK=>?_)
      refine @wpG_tk _ _ _ _ _ (some 46) (.bool true) _ _ rfl (.call (f:=11) (args:=#[]) (by rfl) (fun W=>by go_simp) (fun W hg=>(HSAN.out W (S48.out.gr hg).bel))) ?_
      simp only [n1,n3,n4]
      refine @wpG_p _ _ _ _ _ (some 8) (.bool true) _ _ rfl (by rfl) (fun _=>rfl) ?_
      simp only [n1,n3,n4]
      refine wpG_done (fun V49 hv50=>?_)
      have S51 : Hid (St w noB [blk g41 23 [F.a, F.b, F.c, F.d, F.e, F.f, H.a, H.b, H.c, H.d, H.e, H.f, x, y, z],blk g27 28 [B.a, B.b, B.c, B.d, B.e, B.f, .slice A n c],blk g19 23 [x, y, z],blk g14 25 [H.a, H.b, H.c, H.d, H.e, H.f],blk g9 25 [F.a, F.b, F.c, F.d, F.e, F.f],blk g4 28 [B.a, B.b, B.c, B.d, B.e, B.f, .slice A n c]] V49):=Lib.hid (S48.out.gr hv50)
      clear S48
      clear hv50
      refine ⟨rfl,hK _ _ ?_⟩
      clear hK
      go_wp2_with fail
      go_ret
      refine ⟨?_,S51.out.bel⟩
      show Ending.returned (.bool true) = _
      (first | rfl | (have e_f38:=f38.out;have e_f45:=f45.out;rfl))
    | false =>
      have f52:=Lib.hid ((bnf Hc44.out))
      refine @wpG_tk _ _ _ _ _ (some 37) (.agg #[F.a, F.b, F.c, F.d, F.e, F.f]) _ _ rfl (.load_mid (by rfl) 25 (.tmp 5) rfl g9 0 rfl [F.a, F.b, F.c, F.d, F.e, F.f] _ (fun W hg=>(S43.out.gr hg).range 4 rfl 0 6 rfl) Tryd.underlying25 rfl (by kernel_rfl)) ?_
      simp only [n1,n3,n4]
      refine @wpG_tk _ _ _ _ _ (some 38) F.vol _ _ rfl (.call (f:=10) (args:=#[.agg #[F.a, F.b, F.c, F.d, F.e, F.f]]) (by rfl) (fun W=>by go_simp) (fun W hg=>vol_b W F (by have e_f38:=f38.out;have e_f52:=f52.out;exact (⟨(Gm.near1_rp (Gm.nears_iff.1 e_f52 (F.a,F.b,F.c) (by simp))),(Gm.near1_rp (Gm.nears_iff.1 e_f52 (F.d,F.e,F.f) (by simp)))⟩ : Gm.Bx.rg F)))) ?_
      simp only [n1,n3,n4]
      refine @wpG_p _ _ _ _ _ (some 39) (.bool (decide (F.vol > 1000))) _ _ rfl (by rfl) (fun W=>op_int_gtr W F.vol 1000 rfl rfl rfl Tryd.underlying3) ?_
      simp only [n1,n3,n4]
      refine @wpG_p _ _ _ _ _ (some 40) (.bool (decide (F.vol > 1000))) _ _ rfl (by rfl) (fun W=>by go_simp) ?_
      simp only [n1,n3,n4]
      refine @wpG_p _ _ _ _ _ (some 41) (.bool (decide (F.vol > 1000))) _ _ rfl (by rfl) (fun _=>rfl) ?_
      simp only [n1,n3,n4]
      obtain ⟨c53,hc53⟩ : ∃ q_,q_ = (decide (F.vol > 1000)):=⟨_,rfl⟩
      rw [← hc53]
      have Hc53:=Lib.hid hc53
      clear hc53
      cases c53 with
      | true =>
        have f54:=of_decide_eq_true Hc53.out.symm
        refine @wpG_no _ _ _ _ _ (some 42) _ _ rfl (by rfl) ?_
        simp only [n1,n3,n4]
        refine @wpG_no _ _ _ _ _ (some 43) _ _ rfl (by rfl) ?_
        simp only [n1,n3,n4]
        refine @wpG_no _ _ _ _ _ (some 44) _ _ rfl (by rfl) ?_
        simp only [n1,n3,n4]
        refine @wpG_p _ _ _ _ _ (some 45) (.bool true) _ _ rfl (by rfl) (fun W=>by go_simp) ?_
        simp only [n1,n3,n4]
        refine wpG_done (fun V55 hv56=>?_)
        have S57 : Hid (St w noB [blk g41 23 [F.a, F.b, F.c, F.d, F.e, F.f, H.a, H.b, H.c, H.d, H.e, H.f, x, y, z],blk g27 28 [B.a, B.b, B.c, B.d, B.e, B.f, .slice A n c],blk g19 23 [x, y, z],blk g14 25 [H.a, H.b, H.c, H.d, H.e, H.f],blk g9 25 [F.a, F.b, F.c, F.d, F.e, F.f],blk g4 28 [B.a, B.b, B.c, B.d, B.e, B.f, .slice A n c]] V55):=Lib.hid (S43.out.gr hv56)
        clear S43
        clear hv56
        refine ⟨rfl,hK _ _ ?_⟩
        clear hK
        go_upto_region 2 with fail
        refine wpG_region_k (fun K hK=>?_)
        refine @wpG_tk _ _ _ _ _ (some 46) (.bool true) _ _ rfl (.call (f:=11) (args:=#[]) (by rfl) (fun W=>by go_simp) (fun W hg=>(HSAN.out W (S57.out.gr hg).bel))) ?_
        simp only [n1,n3,n4]
        refine @wpG_p _ _ _ _ _ (some 8) (.bool true) _ _ rfl (by rfl) (fun _=>rfl) ?_
        simp only [n1,n3,n4]
        refine wpG_done (fun V58 hv59=>?_)
        have S60 : Hid (St w noB [blk g41 23 [F.a, F.b, F.c, F.d, F.e, F.f, H.a, H.b, H.c, H.d, H.e, H.f, x, y, z],blk g27 28 [B.a, B.b, B.c, B.d, B.e, B.f, .slice A n c],blk g19 23 [x, y, z],blk g14 25 [H.a, H.b, H.c, H.d, H.e, H.f],blk g9 25 [F.a, F.b, F.c, F.d, F.e, F.f],blk g4 28 [B.a, B.b, B.c, B.d, B.e, B.f, .slice A n c]] V58):=Lib.hid (S57.out.gr hv59)
        clear S57
        clear hv59
        refine ⟨rfl,hK _ _ ?_⟩
        clear hK
        go_wp2_with fail
        go_ret
        refine ⟨?_,S60.out.bel⟩
        show Ending.returned (.bool true) = _
        (first | rfl | (have e_f38:=f38.out;have e_f52:=f52.out;rfl))
      | false =>
        have f61:=of_decide_eq_false Hc53.out.symm
        refine @wpG_tk _ _ _ _ _ (some 42) (.agg #[H.a, H.b, H.c, H.d, H.e, H.f]) _ _ rfl (.load_mid (by rfl) 25 (.tmp 6) rfl g14 0 rfl [H.a, H.b, H.c, H.d, H.e, H.f] _ (fun W hg=>(S43.out.gr hg).range 3 rfl 0 6 rfl) Tryd.underlying25 rfl (by kernel_rfl)) ?_
        simp only [n1,n3,n4]
        refine @wpG_tk _ _ _ _ _ (some 43) H.vol _ _ rfl (.call (f:=10) (args:=#[.agg #[H.a, H.b, H.c, H.d, H.e, H.f]]) (by rfl) (fun W=>by go_simp) (fun W hg=>vol_b W H (by have e_f38:=f38.out;have e_f52:=f52.out;exact (⟨(Gm.near1_rp (Gm.nears_iff.1 e_f52 (H.a,H.b,H.c) (by simp))),(Gm.near1_rp (Gm.nears_iff.1 e_f52 (H.d,H.e,H.f) (by simp)))⟩ : Gm.Bx.rg H)))) ?_
        simp only [n1,n3,n4]
        refine @wpG_p _ _ _ _ _ (some 44) (.bool (decide (H.vol > 1000))) _ _ rfl (by rfl) (fun W=>op_int_gtr W H.vol 1000 rfl rfl rfl Tryd.underlying3) ?_
        simp only [n1,n3,n4]
        refine @wpG_p _ _ _ _ _ (some 45) (.bool (decide (H.vol > 1000))) _ _ rfl (by rfl) (fun W=>by go_simp) ?_
        simp only [n1,n3,n4]
        refine wpG_done (fun V62 hv63=>?_)
        have S64 : Hid (St w noB [blk g41 23 [F.a, F.b, F.c, F.d, F.e, F.f, H.a, H.b, H.c, H.d, H.e, H.f, x, y, z],blk g27 28 [B.a, B.b, B.c, B.d, B.e, B.f, .slice A n c],blk g19 23 [x, y, z],blk g14 25 [H.a, H.b, H.c, H.d, H.e, H.f],blk g9 25 [F.a, F.b, F.c, F.d, F.e, F.f],blk g4 28 [B.a, B.b, B.c, B.d, B.e, B.f, .slice A n c]] V62):=Lib.hid (S43.out.gr hv63)
        clear S43
        clear hv63
        refine ⟨rfl,hK _ _ ?_⟩
        clear hK
        obtain ⟨c65,hc65⟩ : ∃ q_,q_ = (decide (H.vol > 1000)):=⟨_,rfl⟩
        rw [← hc65]
        have Hc65:=Lib.hid hc65
        clear hc65
        cases c65 with
        | true =>
          have f66:=of_decide_eq_true Hc65.out.symm
          go_upto_region 2 with fail
          refine wpG_region_k (fun K hK=>?_)
          refine @wpG_tk _ _ _ _ _ (some 46) (.bool true) _ _ rfl (.call (f:=11) (args:=#[]) (by rfl) (fun W=>by go_simp) (fun W hg=>(HSAN.out W (S64.out.gr hg).bel))) ?_
          simp only [n1,n3,n4]
          refine @wpG_p _ _ _ _ _ (some 8) (.bool true) _ _ rfl (by rfl) (fun _=>rfl) ?_
          simp only [n1,n3,n4]
          refine wpG_done (fun V67 hv68=>?_)
          have S69 : Hid (St w noB [blk g41 23 [F.a, F.b, F.c, F.d, F.e, F.f, H.a, H.b, H.c, H.d, H.e, H.f, x, y, z],blk g27 28 [B.a, B.b, B.c, B.d, B.e, B.f, .slice A n c],blk g19 23 [x, y, z],blk g14 25 [H.a, H.b, H.c, H.d, H.e, H.f],blk g9 25 [F.a, F.b, F.c, F.d, F.e, F.f],blk g4 28 [B.a, B.b, B.c, B.d, B.e, B.f, .slice A n c]] V67):=Lib.hid (S64.out.gr hv68)
          clear S64
          clear hv68
          refine ⟨rfl,hK _ _ ?_⟩
          clear hK
          go_wp2_with fail
          go_ret
          refine ⟨?_,S69.out.bel⟩
          show Ending.returned (.bool true) = _
          (first | rfl | (have e_f38:=f38.out;have e_f52:=f52.out;rfl))
        | false =>
          have f70:=of_decide_eq_false Hc65.out.symm
          go_upto_region 3 with fail
          refine wpG_region_k (fun K hK=>?_)
          refine @wpG_tk _ _ _ _ _ (some 48) (.agg #[B.a, B.b, B.c, B.d, B.e, B.f, .slice A n c]) _ _ rfl (.load_mid (by rfl) 28 (.tmp 4) rfl g4 0 rfl [B.a, B.b, B.c, B.d, B.e, B.f, .slice A n c] _ (fun W hg=>(S64.out.gr hg).range 5 rfl 0 7 rfl) Tryd.underlying28 rfl (by kernel_rfl)) ?_
          simp only [n1,n3,n4]
          refine @wpG_tk _ _ _ _ _ (some 49) (.agg #[F.a, F.b, F.c, F.d, F.e, F.f]) _ _ rfl (.load_mid (by rfl) 25 (.tmp 5) rfl g9 0 rfl [F.a, F.b, F.c, F.d, F.e, F.f] _ (fun W hg=>(S64.out.gr hg).range 4 rfl 0 6 rfl) Tryd.underlying25 rfl (by kernel_rfl)) ?_
          simp only [n1,n3,n4]
          refine wpG_call (some 50) 17 #[.agg #[B.a, B.b, B.c, B.d, B.e, B.f, .slice A n c], .agg #[F.a, F.b, F.c, F.d, F.e, F.f]] rfl (by rfl) (fun W=>by go_simp) (fun W74 hg75=>?_)
          refine (crop_any B _ _ _ l F W74 (HGA.out.gr (S64.out.gr hg75).bel) (by have e_f38:=f38.out;have e_f52:=f52.out;exact (Gm.fw_of e_f38).2.1.ok)).mono ?_
          rintro e w76 ⟨A71,n72,c73,rfl,hS_⟩
          refine ⟨_,rfl, ?_⟩
          have hT_:=(S64.out.gr hg75).got hS_
          simp only [n1,n3,n4]
          have S77 : Hid (St w noB [own (.slice A71 n72 c73) 3 1 n72 (ic (Gm.paste (Gm.nB F 0) (Gm.nL F 0) B l)),blk g41 23 [F.a, F.b, F.c, F.d, F.e, F.f, H.a, H.b, H.c, H.d, H.e, H.f, x, y, z],blk g27 28 [B.a, B.b, B.c, B.d, B.e, B.f, .slice A n c],blk g19 23 [x, y, z],blk g14 25 [H.a, H.b, H.c, H.d, H.e, H.f],blk g9 25 [F.a, F.b, F.c, F.d, F.e, F.f],blk g4 28 [B.a, B.b, B.c, B.d, B.e, B.f, .slice A n c]] w76):=Lib.hid hT_
          clear S64
          clear hT_ hS_ hg75
          refine @wpG_p _ _ _ _ _ (some 47) (.tuple #[.agg #[((Gm.nB F 0).a:Int), ((Gm.nB F 0).b:Int), ((Gm.nB F 0).c:Int), ((Gm.nB F 0).d:Int), ((Gm.nB F 0).e:Int), ((Gm.nB F 0).f:Int), .slice A71 n72 c73], (Gm.nE F 0)]) _ _ rfl (by rfl) (fun _=>rfl) ?_
          simp only [n1,n3,n4]
          refine @wpG_p _ _ _ _ _ (some 51) (.agg #[((Gm.nB F 0).a:Int), ((Gm.nB F 0).b:Int), ((Gm.nB F 0).c:Int), ((Gm.nB F 0).d:Int), ((Gm.nB F 0).e:Int), ((Gm.nB F 0).f:Int), .slice A71 n72 c73]) _ _ rfl (by rfl) (fun W=>by go_simp) ?_
          simp only [n1,n3,n4]
          refine @wpG_p _ _ _ _ _ (some 52) (Gm.nE F 0) _ _ rfl (by rfl) (fun W=>by go_simp) ?_
          simp only [n1,n3,n4]
          refine wpG_val (some 9) rfl (by rfl) (fun W78 hg79=>⟨.pointer (some ⟨W78.heap.size,0,none⟩),W78.alloc (.cells #[(), (), (), (), (), (), .slice none 0 0] 28),by (first | (go_simp;done) | (go_simp <;> rfl)), ?_⟩)
          simp only [n1,n3,n4]
          obtain ⟨g80,U81,hg_,hu_,hS_⟩:=(S77.out.gr hg79).made [(), (), (), (), (), (), .slice none 0 0] 28
          rw [← hu_,← hg_]
          have S82 : Hid (St w noB [blk g80 28 [(), (), (), (), (), (), .slice none 0 0],own (.slice A71 n72 c73) 3 1 n72 (ic (Gm.paste (Gm.nB F 0) (Gm.nL F 0) B l)),blk g41 23 [F.a, F.b, F.c, F.d, F.e, F.f, H.a, H.b, H.c, H.d, H.e, H.f, x, y, z],blk g27 28 [B.a, B.b, B.c, B.d, B.e, B.f, .slice A n c],blk g19 23 [x, y, z],blk g14 25 [H.a, H.b, H.c, H.d, H.e, H.f],blk g9 25 [F.a, F.b, F.c, F.d, F.e, F.f],blk g4 28 [B.a, B.b, B.c, B.d, B.e, B.f, .slice A n c]] U81):=Lib.hid hS_
          clear S77
          clear hg_ hu_ hS_ hg79
          refine wpG_store (none) rfl (by rfl) (fun W83 hg84=>⟨_,run_store_mid 28 (.tmp 9) (.tmp 51) rfl g80 0 #[((Gm.nB F 0).a:Int), ((Gm.nB F 0).b:Int), ((Gm.nB F 0).c:Int), ((Gm.nB F 0).d:Int), ((Gm.nB F 0).e:Int), ((Gm.nB F 0).f:Int), .slice A71 n72 c73] rfl rfl ((S82.out.gr hg84).room 0 rfl 0 7 (by simp)) (by kernel_rfl) (by kernel_rfl), ?_⟩)
          simp only [n2]
          obtain ⟨U85,hu_,hS_⟩:=((S82.out.gr hg84).put 0 rfl 0 (#[((Gm.nB F 0).a:Int), ((Gm.nB F 0).b:Int), ((Gm.nB F 0).c:Int), ((Gm.nB F 0).d:Int), ((Gm.nB F 0).e:Int), ((Gm.nB F 0).f:Int), .slice A71 n72 c73] : Array Value).toList (ds:=[((Gm.nB F 0).a:Int), ((Gm.nB F 0).b:Int), ((Gm.nB F 0).c:Int), ((Gm.nB F 0).d:Int), ((Gm.nB F 0).e:Int), ((Gm.nB F 0).f:Int), .slice A71 n72 c73]) rfl).named
          rw [← hu_]
          have S86 : Hid (St w noB [blk g80 28 [((Gm.nB F 0).a:Int), ((Gm.nB F 0).b:Int), ((Gm.nB F 0).c:Int), ((Gm.nB F 0).d:Int), ((Gm.nB F 0).e:Int), ((Gm.nB F 0).f:Int), .slice A71 n72 c73],own (.slice A71 n72 c73) 3 1 n72 (ic (Gm.paste (Gm.nB F 0) (Gm.nL F 0) B l)),blk g41 23 [F.a, F.b, F.c, F.d, F.e, F.f, H.a, H.b, H.c, H.d, H.e, H.f, x, y, z],blk g27 28 [B.a, B.b, B.c, B.d, B.e, B.f, .slice A n c],blk g19 23 [x, y, z],blk g14 25 [H.a, H.b, H.c, H.d, H.e, H.f],blk g9 25 [F.a, F.b, F.c, F.d, F.e, F.f],blk g4 28 [B.a, B.b, B.c, B.d, B.e, B.f, .slice A n c]] U85):=Lib.hid hS_
          clear S82
          clear hu_ hS_ hg84
          refine @wpG_p _ _ _ _ _ (some 10) (Gm.nE F 0) _ _ rfl (by rfl) (fun _=>rfl) ?_
          simp only [n1,n3,n4]
          refine wpG_done (fun V87 hv88=>?_)
          have S89 : Hid (St w noB [blk g80 28 [((Gm.nB F 0).a:Int), ((Gm.nB F 0).b:Int), ((Gm.nB F 0).c:Int), ((Gm.nB F 0).d:Int), ((Gm.nB F 0).e:Int), ((Gm.nB F 0).f:Int), .slice A71 n72 c73],own (.slice A71 n72 c73) 3 1 n72 (ic (Gm.paste (Gm.nB F 0) (Gm.nL F 0) B l)),blk g41 23 [F.a, F.b, F.c, F.d, F.e, F.f, H.a, H.b, H.c, H.d, H.e, H.f, x, y, z],blk g27 28 [B.a, B.b, B.c, B.d, B.e, B.f, .slice A n c],blk g19 23 [x, y, z],blk g14 25 [H.a, H.b, H.c, H.d, H.e, H.f],blk g9 25 [F.a, F.b, F.c, F.d, F.e, F.f],blk g4 28 [B.a, B.b, B.c, B.d, B.e, B.f, .slice A n c]] V87):=Lib.hid (S86.out.gr hv88)
          clear S86
          clear hv88
          refine ⟨rfl,hK _ _ ?_⟩
          clear hK
          go_upto_region 4 with fail
          refine wpG_region_k (fun K hK=>?_)
          refine @wpG_tk _ _ _ _ _ (some 54) (.agg #[B.a, B.b, B.c, B.d, B.e, B.f, .slice A n c]) _ _ rfl (.load_mid (by rfl) 28 (.tmp 4) rfl g4 0 rfl [B.a, B.b, B.c, B.d, B.e, B.f, .slice A n c] _ (fun W hg=>(S89.out.gr hg).range 7 rfl 0 7 rfl) Tryd.underlying28 rfl (by kernel_rfl)) ?_
          simp only [n1,n3,n4]
          refine @wpG_p _ _ _ _ _ (some 55) (.pointer (some ⟨g4,0,none⟩)) _ _ rfl (by rfl) (fun W=>by go_simp) ?_
          simp only [n1,n3,n4]
          refine @wpG_tk _ _ _ _ _ (some 56) (.agg #[B.a, B.b, B.c, B.d, B.e, B.f]) _ _ rfl (.load_mid (by rfl) 25 (.tmp 55) rfl g4 0 rfl [B.a, B.b, B.c, B.d, B.e, B.f] _ (fun W hg=>(S89.out.gr hg).range 7 rfl 0 6 rfl) Tryd.underlying25 rfl (by kernel_rfl)) ?_
          simp only [n1,n3,n4]
          refine wpG_call (some 57) 17 #[.agg #[B.a, B.b, B.c, B.d, B.e, B.f, .slice A n c], .agg #[B.a, B.b, B.c, B.d, B.e, B.f]] rfl (by rfl) (fun W=>by go_simp) (fun W93 hg94=>?_)
          refine (crop_any B _ _ _ l B W93 (HGA.out.gr (S89.out.gr hg94).bel) (by have e_f38:=f38.out;have e_f52:=f52.out;exact (Gm.fw_of e_f38).2.1.ok)).mono ?_
          rintro e w95 ⟨A90,n91,c92,rfl,hS_⟩
          refine ⟨_,rfl, ?_⟩
          have hT_:=(S89.out.gr hg94).got hS_
          simp only [n1,n3,n4]
          have S96 : Hid (St w noB [own (.slice A90 n91 c92) 3 1 n91 (ic (Gm.paste (Gm.nB B 0) (Gm.nL B 0) B l)),blk g80 28 [((Gm.nB F 0).a:Int), ((Gm.nB F 0).b:Int), ((Gm.nB F 0).c:Int), ((Gm.nB F 0).d:Int), ((Gm.nB F 0).e:Int), ((Gm.nB F 0).f:Int), .slice A71 n72 c73],own (.slice A71 n72 c73) 3 1 n72 (ic (Gm.paste (Gm.nB F 0) (Gm.nL F 0) B l)),blk g41 23 [F.a, F.b, F.c, F.d, F.e, F.f, H.a, H.b, H.c, H.d, H.e, H.f, x, y, z],blk g27 28 [B.a, B.b, B.c, B.d, B.e, B.f, .slice A n c],blk g19 23 [x, y, z],blk g14 25 [H.a, H.b, H.c, H.d, H.e, H.f],blk g9 25 [F.a, F.b, F.c, F.d, F.e, F.f],blk g4 28 [B.a, B.b, B.c, B.d, B.e, B.f, .slice A n c]] w95):=Lib.hid hT_
          clear S89
          clear hT_ hS_ hg94
          refine @wpG_p _ _ _ _ _ (some 53) (.tuple #[.agg #[((Gm.nB B 0).a:Int), ((Gm.nB B 0).b:Int), ((Gm.nB B 0).c:Int), ((Gm.nB B 0).d:Int), ((Gm.nB B 0).e:Int), ((Gm.nB B 0).f:Int), .slice A90 n91 c92], (Gm.nE B 0)]) _ _ rfl (by rfl) (fun _=>rfl) ?_
          simp only [n1,n3,n4]
          refine @wpG_p _ _ _ _ _ (some 58) (.agg #[((Gm.nB B 0).a:Int), ((Gm.nB B 0).b:Int), ((Gm.nB B 0).c:Int), ((Gm.nB B 0).d:Int), ((Gm.nB B 0).e:Int), ((Gm.nB B 0).f:Int), .slice A90 n91 c92]) _ _ rfl (by rfl) (fun W=>by go_simp) ?_
          simp only [n1,n3,n4]
          refine @wpG_p _ _ _ _ _ (some 59) (Gm.nE B 0) _ _ rfl (by rfl) (fun W=>by go_simp) ?_
          simp only [n1,n3,n4]
          refine wpG_val (some 11) rfl (by rfl) (fun W97 hg98=>⟨.pointer (some ⟨W97.heap.size,0,none⟩),W97.alloc (.cells #[(), (), (), (), (), (), .slice none 0 0] 28),by (first | (go_simp;done) | (go_simp <;> rfl)), ?_⟩)
          simp only [n1,n3,n4]
          obtain ⟨g99,U100,hg_,hu_,hS_⟩:=(S96.out.gr hg98).made [(), (), (), (), (), (), .slice none 0 0] 28
          rw [← hu_,← hg_]
          have S101 : Hid (St w noB [blk g99 28 [(), (), (), (), (), (), .slice none 0 0],own (.slice A90 n91 c92) 3 1 n91 (ic (Gm.paste (Gm.nB B 0) (Gm.nL B 0) B l)),blk g80 28 [((Gm.nB F 0).a:Int), ((Gm.nB F 0).b:Int), ((Gm.nB F 0).c:Int), ((Gm.nB F 0).d:Int), ((Gm.nB F 0).e:Int), ((Gm.nB F 0).f:Int), .slice A71 n72 c73],own (.slice A71 n72 c73) 3 1 n72 (ic (Gm.paste (Gm.nB F 0) (Gm.nL F 0) B l)),blk g41 23 [F.a, F.b, F.c, F.d, F.e, F.f, H.a, H.b, H.c, H.d, H.e, H.f, x, y, z],blk g27 28 [B.a, B.b, B.c, B.d, B.e, B.f, .slice A n c],blk g19 23 [x, y, z],blk g14 25 [H.a, H.b, H.c, H.d, H.e, H.f],blk g9 25 [F.a, F.b, F.c, F.d, F.e, F.f],blk g4 28 [B.a, B.b, B.c, B.d, B.e, B.f, .slice A n c]] U100):=Lib.hid hS_
          clear S96
          clear hg_ hu_ hS_ hg98
          refine wpG_store (none) rfl (by rfl) (fun W102 hg103=>⟨_,run_store_mid 28 (.tmp 11) (.tmp 58) rfl g99 0 #[((Gm.nB B 0).a:Int), ((Gm.nB B 0).b:Int), ((Gm.nB B 0).c:Int), ((Gm.nB B 0).d:Int), ((Gm.nB B 0).e:Int), ((Gm.nB B 0).f:Int), .slice A90 n91 c92] rfl rfl ((S101.out.gr hg103).room 0 rfl 0 7 (by simp)) (by kernel_rfl) (by kernel_rfl), ?_⟩)
          simp only [n2]
          obtain ⟨U104,hu_,hS_⟩:=((S101.out.gr hg103).put 0 rfl 0 (#[((Gm.nB B 0).a:Int), ((Gm.nB B 0).b:Int), ((Gm.nB B 0).c:Int), ((Gm.nB B 0).d:Int), ((Gm.nB B 0).e:Int), ((Gm.nB B 0).f:Int), .slice A90 n91 c92] : Array Value).toList (ds:=[((Gm.nB B 0).a:Int), ((Gm.nB B 0).b:Int), ((Gm.nB B 0).c:Int), ((Gm.nB B 0).d:Int), ((Gm.nB B 0).e:Int), ((Gm.nB B 0).f:Int), .slice A90 n91 c92]) rfl).named
          rw [← hu_]
          have S105 : Hid (St w noB [blk g99 28 [((Gm.nB B 0).a:Int), ((Gm.nB B 0).b:Int), ((Gm.nB B 0).c:Int), ((Gm.nB B 0).d:Int), ((Gm.nB B 0).e:Int), ((Gm.nB B 0).f:Int), .slice A90 n91 c92],own (.slice A90 n91 c92) 3 1 n91 (ic (Gm.paste (Gm.nB B 0) (Gm.nL B 0) B l)),blk g80 28 [((Gm.nB F 0).a:Int), ((Gm.nB F 0).b:Int), ((Gm.nB F 0).c:Int), ((Gm.nB F 0).d:Int), ((Gm.nB F 0).e:Int), ((Gm.nB F 0).f:Int), .slice A71 n72 c73],own (.slice A71 n72 c73) 3 1 n72 (ic (Gm.paste (Gm.nB F 0) (Gm.nL F 0) B l)),blk g41 23 [F.a, F.b, F.c, F.d, F.e, F.f, H.a, H.b, H.c, H.d, H.e, H.f, x, y, z],blk g27 28 [B.a, B.b, B.c, B.d, B.e, B.f, .slice A n c],blk g19 23 [x, y, z],blk g14 25 [H.a, H.b, H.c, H.d, H.e, H.f],blk g9 25 [F.a, F.b, F.c, F.d, F.e, F.f],blk g4 28 [B.a, B.b, B.c, B.d, B.e, B.f, .slice A n c]] U104):=Lib.hid hS_
          clear S101
          clear hu_ hS_ hg103
          refine @wpG_p _ _ _ _ _ (some 12) (Gm.nE B 0) _ _ rfl (by rfl) (fun _=>rfl) ?_
          simp only [n1,n3,n4]
          refine wpG_done (fun V106 hv107=>?_)
          have S108 : Hid (St w noB [blk g99 28 [((Gm.nB B 0).a:Int), ((Gm.nB B 0).b:Int), ((Gm.nB B 0).c:Int), ((Gm.nB B 0).d:Int), ((Gm.nB B 0).e:Int), ((Gm.nB B 0).f:Int), .slice A90 n91 c92],own (.slice A90 n91 c92) 3 1 n91 (ic (Gm.paste (Gm.nB B 0) (Gm.nL B 0) B l)),blk g80 28 [((Gm.nB F 0).a:Int), ((Gm.nB F 0).b:Int), ((Gm.nB F 0).c:Int), ((Gm.nB F 0).d:Int), ((Gm.nB F 0).e:Int), ((Gm.nB F 0).f:Int), .slice A71 n72 c73],own (.slice A71 n72 c73) 3 1 n72 (ic (Gm.paste (Gm.nB F 0) (Gm.nL F 0) B l)),blk g41 23 [F.a, F.b, F.c, F.d, F.e, F.f, H.a, H.b, H.c, H.d, H.e, H.f, x, y, z],blk g27 28 [B.a, B.b, B.c, B.d, B.e, B.f, .slice A n c],blk g19 23 [x, y, z],blk g14 25 [H.a, H.b, H.c, H.d, H.e, H.f],blk g9 25 [F.a, F.b, F.c, F.d, F.e, F.f],blk g4 28 [B.a, B.b, B.c, B.d, B.e, B.f, .slice A n c]] V106):=Lib.hid (S105.out.gr hv107)
          clear S105
          clear hv107
          refine ⟨rfl,hK _ _ ?_⟩
          clear hK
          go_upto_region 5 with fail
          refine wpG_region_k (fun K hK=>?_)
          refine @wpG_p _ _ _ _ _ (some 13) () _ _ rfl (by rfl) (fun _=>rfl) ?_
          simp only [n1,n3,n4]
          refine wpG_done (fun V109 hv110=>?_)
          have S111 : Hid (St w noB [blk g99 28 [((Gm.nB B 0).a:Int), ((Gm.nB B 0).b:Int), ((Gm.nB B 0).c:Int), ((Gm.nB B 0).d:Int), ((Gm.nB B 0).e:Int), ((Gm.nB B 0).f:Int), .slice A90 n91 c92],own (.slice A90 n91 c92) 3 1 n91 (ic (Gm.paste (Gm.nB B 0) (Gm.nL B 0) B l)),blk g80 28 [((Gm.nB F 0).a:Int), ((Gm.nB F 0).b:Int), ((Gm.nB F 0).c:Int), ((Gm.nB F 0).d:Int), ((Gm.nB F 0).e:Int), ((Gm.nB F 0).f:Int), .slice A71 n72 c73],own (.slice A71 n72 c73) 3 1 n72 (ic (Gm.paste (Gm.nB F 0) (Gm.nL F 0) B l)),blk g41 23 [F.a, F.b, F.c, F.d, F.e, F.f, H.a, H.b, H.c, H.d, H.e, H.f, x, y, z],blk g27 28 [B.a, B.b, B.c, B.d, B.e, B.f, .slice A n c],blk g19 23 [x, y, z],blk g14 25 [H.a, H.b, H.c, H.d, H.e, H.f],blk g9 25 [F.a, F.b, F.c, F.d, F.e, F.f],blk g4 28 [B.a, B.b, B.c, B.d, B.e, B.f, .slice A n c]] V109):=Lib.hid (S108.out.gr hv110)
          clear S108
          clear hv110
          refine ⟨rfl,hK _ _ ?_⟩
          clear hK
          go_upto_region 6 with fail
          refine wpG_region_k (fun K hK=>?_)
          refine @wpG_tk _ _ _ _ _ (some 60) (.agg #[x, y, z]) _ _ rfl (.load_mid (by rfl) 23 (.tmp 7) rfl g19 0 rfl [x, y, z] _ (fun W hg=>(S111.out.gr hg).range 6 rfl 0 3 rfl) Tryd.underlying23 rfl (by kernel_rfl)) ?_
          simp only [n1,n3,n4]
          refine @wpG_tk _ _ _ _ _ (some 61) (.agg #[F.a, F.b, F.c, F.d, F.e, F.f]) _ _ rfl (.load_mid (by rfl) 25 (.tmp 5) rfl g9 0 rfl [F.a, F.b, F.c, F.d, F.e, F.f] _ (fun W hg=>(S111.out.gr hg).range 8 rfl 0 6 rfl) Tryd.underlying25 rfl (by kernel_rfl)) ?_
          simp only [n1,n3,n4]
          refine @wpG_tk _ _ _ _ _ (some 62) (.bool (F.inb x y z)) _ _ rfl (.call (f:=23) (args:=#[.agg #[x, y, z], .agg #[F.a, F.b, F.c, F.d, F.e, F.f]]) (by rfl) (fun W=>by go_simp) (fun W hg=>in_b W x y z F)) ?_
          simp only [n1,n3,n4]
          refine wpG_done (fun V112 hv113=>?_)
          have S114 : Hid (St w noB [blk g99 28 [((Gm.nB B 0).a:Int), ((Gm.nB B 0).b:Int), ((Gm.nB B 0).c:Int), ((Gm.nB B 0).d:Int), ((Gm.nB B 0).e:Int), ((Gm.nB B 0).f:Int), .slice A90 n91 c92],own (.slice A90 n91 c92) 3 1 n91 (ic (Gm.paste (Gm.nB B 0) (Gm.nL B 0) B l)),blk g80 28 [((Gm.nB F 0).a:Int), ((Gm.nB F 0).b:Int), ((Gm.nB F 0).c:Int), ((Gm.nB F 0).d:Int), ((Gm.nB F 0).e:Int), ((Gm.nB F 0).f:Int), .slice A71 n72 c73],own (.slice A71 n72 c73) 3 1 n72 (ic (Gm.paste (Gm.nB F 0) (Gm.nL F 0) B l)),blk g41 23 [F.a, F.b, F.c, F.d, F.e, F.f, H.a, H.b, H.c, H.d, H.e, H.f, x, y, z],blk g27 28 [B.a, B.b, B.c, B.d, B.e, B.f, .slice A n c],blk g19 23 [x, y, z],blk g14 25 [H.a, H.b, H.c, H.d, H.e, H.f],blk g9 25 [F.a, F.b, F.c, F.d, F.e, F.f],blk g4 28 [B.a, B.b, B.c, B.d, B.e, B.f, .slice A n c]] V112):=Lib.hid (S111.out.gr hv113)
          clear S111
          clear hv113
          refine ⟨rfl,hK _ _ ?_⟩
          clear hK
          obtain ⟨c115,hc115⟩ : ∃ q_,q_ = (F.inb x y z):=⟨_,rfl⟩
          rw [← hc115]
          have Hc115:=Lib.hid hc115
          clear hc115
          cases c115 with
          | true =>
            have f116:=Lib.hid (Hc115.out.symm)
            go_upto_region 7 with fail
            refine wpG_region_k (fun K hK=>?_)
            refine @wpG_tk _ _ _ _ _ (some 63) (.agg #[B.a, B.b, B.c, B.d, B.e, B.f, .slice A n c]) _ _ rfl (.load_mid (by rfl) 28 (.tmp 4) rfl g4 0 rfl [B.a, B.b, B.c, B.d, B.e, B.f, .slice A n c] _ (fun W hg=>(S114.out.gr hg).range 9 rfl 0 7 rfl) Tryd.underlying28 rfl (by kernel_rfl)) ?_
            simp only [n1,n3,n4]
            refine @wpG_tk _ _ _ _ _ (some 64) (.agg #[x, y, z]) _ _ rfl (.load_mid (by rfl) 23 (.tmp 7) rfl g19 0 rfl [x, y, z] _ (fun W hg=>(S114.out.gr hg).range 6 rfl 0 3 rfl) Tryd.underlying23 rfl (by kernel_rfl)) ?_
            simp only [n1,n3,n4]
            refine @wpG_tk _ _ _ _ _ (some 65) (Gm.get B l x y z) _ _ rfl (.call (f:=21) (args:=#[.agg #[B.a, B.b, B.c, B.d, B.e, B.f, .slice A n c], .agg #[x, y, z]]) (by rfl) (fun W=>by go_simp) (fun W hg=>get_any B _ _ _ l x y z W (HGA.out.gr (S114.out.gr hg).bel) (by have e_f38:=f38.out;have e_f52:=f52.out;have e_f116:=f116.out;exact (Gm.fw_of e_f38).2.1.ok) (by have e_f38:=f38.out;have e_f52:=f52.out;have e_f116:=f116.out;exact (Gm.near1_rp (Gm.nears_iff.1 e_f52 (x,y,z) (by simp)))))) ?_
            simp only [n1,n3,n4]
            refine @wpG_p _ _ _ _ _ (some 13) (Gm.get B l x y z) _ _ rfl (by rfl) (fun _=>rfl) ?_
            simp only [n1,n3,n4]
            refine wpG_done (fun V117 hv118=>?_)
            have S119 : Hid (St w noB [blk g99 28 [((Gm.nB B 0).a:Int), ((Gm.nB B 0).b:Int), ((Gm.nB B 0).c:Int), ((Gm.nB B 0).d:Int), ((Gm.nB B 0).e:Int), ((Gm.nB B 0).f:Int), .slice A90 n91 c92],own (.slice A90 n91 c92) 3 1 n91 (ic (Gm.paste (Gm.nB B 0) (Gm.nL B 0) B l)),blk g80 28 [((Gm.nB F 0).a:Int), ((Gm.nB F 0).b:Int), ((Gm.nB F 0).c:Int), ((Gm.nB F 0).d:Int), ((Gm.nB F 0).e:Int), ((Gm.nB F 0).f:Int), .slice A71 n72 c73],own (.slice A71 n72 c73) 3 1 n72 (ic (Gm.paste (Gm.nB F 0) (Gm.nL F 0) B l)),blk g41 23 [F.a, F.b, F.c, F.d, F.e, F.f, H.a, H.b, H.c, H.d, H.e, H.f, x, y, z],blk g27 28 [B.a, B.b, B.c, B.d, B.e, B.f, .slice A n c],blk g19 23 [x, y, z],blk g14 25 [H.a, H.b, H.c, H.d, H.e, H.f],blk g9 25 [F.a, F.b, F.c, F.d, F.e, F.f],blk g4 28 [B.a, B.b, B.c, B.d, B.e, B.f, .slice A n c]] V117):=Lib.hid (S114.out.gr hv118)
            clear S114
            clear hv118
            refine ⟨rfl,hK _ _ ?_⟩
            clear hK
            go_upto_region 8 with fail
            refine wpK_region_k (by kernel_rfl) (fun K hK=>?_)
            refine wpK_ta (i:=0) (some 66) (v:=(Gm.nE F 0)) rfl rfl (by kernel_rfl) (fun _ _ _ h=>onN_panic h) (Or.inl ⟨rfl,fun _=>rfl⟩) ?_
            simp only [n1,n3,n4]
            have hz_F : Gm.nE F 0 = 0:=by have e_f38:=f38.out;have e_f52:=f52.out;have e_f116:=f116.out;exact Gm.nE_zero (⟨(Gm.near1_rp (Gm.nears_iff.1 e_f52 (F.a,F.b,F.c) (by simp))),(Gm.near1_rp (Gm.nears_iff.1 e_f52 (F.d,F.e,F.f) (by simp)))⟩ : Gm.Bx.rg F) (by have h_:=f61;simp at h_;omega)
            refine wpK_ta (i:=1) (some 67) (v:=.bool false) rfl rfl (by kernel_rfl) (fun _ _ _ h=>onN_panic h) (Or.inl ⟨by rfl,fun W=>by have hq : ¬ (Gm.nE F 0 ≠ 0):=(by omega);first | (go_simp;done) | (go_simp <;> omega)⟩) ?_
            simp only [n1,n3,n4]
            refine wpK_ta (i:=2) (some 68) (v:=.bool false) rfl rfl (by kernel_rfl) (fun _ _ _ h=>onN_panic h) (Or.inl ⟨rfl,fun _=>rfl⟩) ?_
            simp only [n1,n3,n4]
            refine wpK_ta (i:=3) (some 69) (v:=(Gm.nE B 0)) rfl rfl (by kernel_rfl) (fun _ _ _ h=>onN_panic h) (Or.inl ⟨rfl,fun _=>rfl⟩) ?_
            simp only [n1,n3,n4]
            have hz_B : Gm.nE B 0 = 0:=by have e_f38:=f38.out;have e_f52:=f52.out;have e_f116:=f116.out;exact Gm.nE_zero (Gm.fw_of e_f38).2.1.1 (Gm.fw_of e_f38).2.1.2.2.1
            refine wpK_ta (i:=4) (some 70) (v:=.bool false) rfl rfl (by kernel_rfl) (fun _ _ _ h=>onN_panic h) (Or.inl ⟨by rfl,fun W=>by have hq : ¬ (Gm.nE B 0 ≠ 0):=(by omega);first | (go_simp;done) | (go_simp <;> omega)⟩) ?_
            simp only [n1,n3,n4]
            refine wpK_ta (i:=5) (some 71) (v:=.bool false) rfl rfl (by kernel_rfl) (fun _ _ _ h=>onN_panic h) (Or.inl ⟨by rfl,fun W=>by go_simp⟩) ?_
            simp only [n1,n3,n4]
            refine wpK_ta (i:=6) (some 72) (v:=.bool false) rfl rfl (by kernel_rfl) (fun _ _ _ h=>onN_panic h) (Or.inl ⟨rfl,fun _=>rfl⟩) ?_
            simp only [n1,n3,n4]
            refine wpK_ta (i:=10) (some 76) (v:=(Gm.get B l x y z)) rfl rfl (by kernel_rfl) (fun _ _ _ h=>onN_panic h) (Or.inl ⟨rfl,fun _=>rfl⟩) ?_
            simp only [n1,n3,n4]
            refine wpK_tk (i:=7) (some 73) (v:=.agg #[((Gm.nB F 0).a:Int), ((Gm.nB F 0).b:Int), ((Gm.nB F 0).c:Int), ((Gm.nB F 0).d:Int), ((Gm.nB F 0).e:Int), ((Gm.nB F 0).f:Int), .slice A71 n72 c73]) rfl rfl (by kernel_rfl) (fun _ _ _ h=>onN_panic h) (.load_mid (by rfl) 28 (.tmp 9) rfl g80 0 rfl [((Gm.nB F 0).a:Int), ((Gm.nB F 0).b:Int), ((Gm.nB F 0).c:Int), ((Gm.nB F 0).d:Int), ((Gm.nB F 0).e:Int), ((Gm.nB F 0).f:Int), .slice A71 n72 c73] _ (fun W hg=>(S119.out.gr (Gr.un hg)).range 2 rfl 0 7 rfl) Tryd.underlying28 rfl (by kernel_rfl)) ?_
            simp only [n1,n3,n4]
            refine wpK_tk (i:=8) (some 74) (v:=.agg #[x, y, z]) rfl rfl (by kernel_rfl) (fun _ _ _ h=>onN_panic h) (.load_mid (by rfl) 23 (.tmp 7) rfl g19 0 rfl [x, y, z] _ (fun W hg=>(S119.out.gr (Gr.un hg)).range 6 rfl 0 3 rfl) Tryd.underlying23 rfl (by kernel_rfl)) ?_
            simp only [n1,n3,n4]
            refine wpK_tk (i:=9) (some 75) (v:=(Gm.get B l x y z)) rfl rfl (by kernel_rfl) (fun _ _ _ h=>onN_panic h) (.call (f:=21) (args:=#[.agg #[((Gm.nB F 0).a:Int), ((Gm.nB F 0).b:Int), ((Gm.nB F 0).c:Int), ((Gm.nB F 0).d:Int), ((Gm.nB F 0).e:Int), ((Gm.nB F 0).f:Int), .slice A71 n72 c73], .agg #[x, y, z]]) (by rfl) (fun W=>by go_simp) (fun W hg=>((get_any (Gm.nB F 0) _ _ _ (Gm.paste (Gm.nB F 0) (Gm.nL F 0) B l) x y z W (SL.ofOwn ((S119.out.gr (Gr.un hg)).ownr 3 rfl)) (by have e_f38:=f38.out;have e_f52:=f52.out;have e_f116:=f116.out;exact Gm.ok_crop (⟨(Gm.near1_rp (Gm.nears_iff.1 e_f52 (F.a,F.b,F.c) (by simp))),(Gm.near1_rp (Gm.nears_iff.1 e_f52 (F.d,F.e,F.f) (by simp)))⟩ : Gm.Bx.rg F) (by have h_:=f61;simp at h_;omega)) (by have e_f38:=f38.out;have e_f52:=f52.out;have e_f116:=f116.out;exact (Gm.near1_rp (Gm.nears_iff.1 e_f52 (x,y,z) (by simp))))).mono (fun e w' h=>⟨h.1.trans (by have e_f38:=f38.out;have e_f52:=f52.out;have e_f116:=f116.out;rw [Gm.get_crop (⟨(Gm.near1_rp (Gm.nears_iff.1 e_f52 (F.a,F.b,F.c) (by simp))),(Gm.near1_rp (Gm.nears_iff.1 e_f52 (F.d,F.e,F.f) (by simp)))⟩ : Gm.Bx.rg F) (by have h_:=f61;simp at h_;omega),e_f116];rfl),h.2⟩)))) ?_
            simp only [n1,n3,n4]
            refine wpK_ta (i:=11) (some 77) (v:=.bool false) rfl rfl (by kernel_rfl) (fun _ _ _ h=>onN_panic h) (Or.inl ⟨by rfl,fun W=>by go_simp⟩) ?_
            simp only [n1,n3,n4]
            refine wpK_ta (i:=12) (some 78) (v:=.bool false) rfl rfl (by kernel_rfl) (fun _ _ _ h=>onN_panic h) (Or.inl ⟨by rfl,fun W=>by go_simp⟩) ?_
            simp only [n1,n3,n4]
            refine wpK_ta (i:=13) (some 79) (v:=.bool false) rfl rfl (by kernel_rfl) (fun _ _ _ h=>onN_panic h) (Or.inl ⟨rfl,fun _=>rfl⟩) ?_
            simp only [n1,n3,n4]
            refine wpK_tk (i:=14) (some 80) (v:=.agg #[((Gm.nB B 0).a:Int), ((Gm.nB B 0).b:Int), ((Gm.nB B 0).c:Int), ((Gm.nB B 0).d:Int), ((Gm.nB B 0).e:Int), ((Gm.nB B 0).f:Int), .slice A90 n91 c92]) rfl rfl (by kernel_rfl) (fun _ _ _ h=>onN_panic h) (.load_mid (by rfl) 28 (.tmp 11) rfl g99 0 rfl [((Gm.nB B 0).a:Int), ((Gm.nB B 0).b:Int), ((Gm.nB B 0).c:Int), ((Gm.nB B 0).d:Int), ((Gm.nB B 0).e:Int), ((Gm.nB B 0).f:Int), .slice A90 n91 c92] _ (fun W hg=>(S119.out.gr (Gr.un hg)).range 0 rfl 0 7 rfl) Tryd.underlying28 rfl (by kernel_rfl)) ?_
            simp only [n1,n3,n4]
            refine wpK_tk (i:=15) (some 81) (v:=.agg #[B.a, B.b, B.c, B.d, B.e, B.f, .slice A n c]) rfl rfl (by kernel_rfl) (fun _ _ _ h=>onN_panic h) (.load_mid (by rfl) 28 (.tmp 4) rfl g4 0 rfl [B.a, B.b, B.c, B.d, B.e, B.f, .slice A n c] _ (fun W hg=>(S119.out.gr (Gr.un hg)).range 9 rfl 0 7 rfl) Tryd.underlying28 rfl (by kernel_rfl)) ?_
            simp only [n1,n3,n4]
            refine wpK_tk (i:=16) (some 82) (v:=.bool true) rfl rfl (by kernel_rfl) (fun _ _ _ h=>onN_panic h) (.call (f:=26) (args:=#[.agg #[((Gm.nB B 0).a:Int), ((Gm.nB B 0).b:Int), ((Gm.nB B 0).c:Int), ((Gm.nB B 0).d:Int), ((Gm.nB B 0).e:Int), ((Gm.nB B 0).f:Int), .slice A90 n91 c92], .agg #[B.a, B.b, B.c, B.d, B.e, B.f, .slice A n c]]) (by rfl) (fun W=>by go_simp) (fun W hg=>((equal_any (Gm.nB B 0) _ _ _ (Gm.paste (Gm.nB B 0) (Gm.nL B 0) B l) B _ _ _ l W (SL.ofOwn ((S119.out.gr (Gr.un hg)).ownr 1 rfl)) (HGA.out.gr (S119.out.gr (Gr.un hg)).bel)).mono (fun e w' h=>⟨h.1.trans (by have e_f38:=f38.out;have e_f52:=f52.out;have e_f116:=f116.out;rw [Gm.same_iff.2 (Gm.crop_self (Gm.fw_of e_f38).2.1)]),h.2⟩)))) ?_
            simp only [n1,n3,n4]
            refine wpK_ta (i:=17) (some 83) (v:=.bool false) rfl rfl (by kernel_rfl) (fun _ _ _ h=>onN_panic h) (Or.inl ⟨by rfl,fun W=>by first | (go_simp;done) | (cases true <;> rfl)⟩) ?_
            simp only [n1,n3,n4]
            refine wpK_ta (i:=18) (some 84) (v:=.bool false) rfl rfl (by kernel_rfl) (fun _ _ _ h=>onN_panic h) (Or.inl ⟨by rfl,fun W=>by go_simp⟩) ?_
            simp only [n1,n3,n4]
            refine wpK_ta (i:=19) (some 85) (v:=.bool false) rfl rfl (by kernel_rfl) (fun _ _ _ h=>onN_panic h) (Or.inl ⟨rfl,fun _=>rfl⟩) ?_
            simp only [n1,n3,n4]
            refine wpK_tk (i:=20) (some 86) (v:=.agg #[B.a, B.b, B.c, B.d, B.e, B.f, .slice A n c]) rfl rfl (by kernel_rfl) (fun _ _ _ h=>onN_panic h) (.load_mid (by rfl) 28 (.tmp 4) rfl g4 0 rfl [B.a, B.b, B.c, B.d, B.e, B.f, .slice A n c] _ (fun W hg=>(S119.out.gr (Gr.un hg)).range 9 rfl 0 7 rfl) Tryd.underlying28 rfl (by kernel_rfl)) ?_
            simp only [n1,n3,n4]
            refine wpK_tk (i:=21) (some 87) (v:=.agg #[x, y, z]) rfl rfl (by kernel_rfl) (fun _ _ _ h=>onN_panic h) (.load_mid (by rfl) 23 (.tmp 7) rfl g19 0 rfl [x, y, z] _ (fun W hg=>(S119.out.gr (Gr.un hg)).range 6 rfl 0 3 rfl) Tryd.underlying23 rfl (by kernel_rfl)) ?_
            simp only [n1,n3,n4]
            refine wpK_tk (i:=23) (some 89) (v:=.agg #[x, y, z]) rfl rfl (by kernel_rfl) (fun _ _ _ h=>onN_panic h) (.load_mid (by rfl) 23 (.tmp 7) rfl g19 0 rfl [x, y, z] _ (fun W hg=>(S119.out.gr (Gr.un hg)).range 6 rfl 0 3 rfl) Tryd.underlying23 rfl (by kernel_rfl)) ?_
            simp only [n1,n3,n4]
            refine wpK_tk (i:=26) (some 92) (v:=.agg #[B.a, B.b, B.c, B.d, B.e, B.f, .slice A n c]) rfl rfl (by kernel_rfl) (fun _ _ _ h=>onN_panic h) (.load_mid (by rfl) 28 (.tmp 4) rfl g4 0 rfl [B.a, B.b, B.c, B.d, B.e, B.f, .slice A n c] _ (fun W hg=>(S119.out.gr (Gr.un hg)).range 9 rfl 0 7 rfl) Tryd.underlying28 rfl (by kernel_rfl)) ?_
            simp only [n1,n3,n4]
            refine wpK_call (i:=22) (some 88) 32 #[.agg #[B.a, B.b, B.c, B.d, B.e, B.f, .slice A n c], .agg #[x, y, z]] rfl rfl (by kernel_rfl) (by rfl) (fun W=>by go_simp) (fun W123 hg124=>?_)
            refine (shiftg_any B _ _ _ l x y z W123 (HGA.out.gr (S119.out.gr (Gr.un hg124)).bel) (by have e_f38:=f38.out;have e_f52:=f52.out;have e_f116:=f116.out;exact (Gm.fw_of e_f38).2.1.ok) (by have e_f38:=f38.out;have e_f52:=f52.out;have e_f116:=f116.out;exact (Gm.near1_rp (Gm.nears_iff.1 e_f52 (x,y,z) (by simp))))).mono ?_
            rintro e w125 ⟨A120,n121,c122,rfl,hS_⟩
            refine ⟨_,rfl,hS_.bel, ?_⟩
            have hT_:=(S119.out.gr (Gr.un hg124)).got hS_
            simp only [n1,n3,n4]
            have S126 : Hid (St w noB [own (.slice A120 n121 c122) 3 1 n121 (ic l),blk g99 28 [((Gm.nB B 0).a:Int), ((Gm.nB B 0).b:Int), ((Gm.nB B 0).c:Int), ((Gm.nB B 0).d:Int), ((Gm.nB B 0).e:Int), ((Gm.nB B 0).f:Int), .slice A90 n91 c92],own (.slice A90 n91 c92) 3 1 n91 (ic (Gm.paste (Gm.nB B 0) (Gm.nL B 0) B l)),blk g80 28 [((Gm.nB F 0).a:Int), ((Gm.nB F 0).b:Int), ((Gm.nB F 0).c:Int), ((Gm.nB F 0).d:Int), ((Gm.nB F 0).e:Int), ((Gm.nB F 0).f:Int), .slice A71 n72 c73],own (.slice A71 n72 c73) 3 1 n72 (ic (Gm.paste (Gm.nB F 0) (Gm.nL F 0) B l)),blk g41 23 [F.a, F.b, F.c, F.d, F.e, F.f, H.a, H.b, H.c, H.d, H.e, H.f, x, y, z],blk g27 28 [B.a, B.b, B.c, B.d, B.e, B.f, .slice A n c],blk g19 23 [x, y, z],blk g14 25 [H.a, H.b, H.c, H.d, H.e, H.f],blk g9 25 [F.a, F.b, F.c, F.d, F.e, F.f],blk g4 28 [B.a, B.b, B.c, B.d, B.e, B.f, .slice A n c]] w125):=Lib.hid hT_
            clear S119
            clear hT_ hS_ hg124
            refine wpK_tk (i:=24) (some 90) (v:=.agg #[(x * (-1):Int), (y * (-1):Int), (z * (-1):Int)]) rfl rfl (by kernel_rfl) (fun _ _ _ h=>onN_panic h) (.call (f:=33) (args:=#[.agg #[x, y, z], (-1:Int)]) (by rfl) (fun W=>by go_simp) (fun W hg=>rscale_any x y z (-1) W (Gm.rp2 (by have e_f38:=f38.out;have e_f52:=f52.out;have e_f116:=f116.out;exact (Gm.near1_rp (Gm.nears_iff.1 e_f52 (x,y,z) (by simp))))))) ?_
            simp only [n1,n3,n4]
            refine wpK_call (i:=25) (some 91) 32 #[.agg #[((Gm.shB B l x y z).a:Int), ((Gm.shB B l x y z).b:Int), ((Gm.shB B l x y z).c:Int), ((Gm.shB B l x y z).d:Int), ((Gm.shB B l x y z).e:Int), ((Gm.shB B l x y z).f:Int), .slice A120 n121 c122], .agg #[(x * (-1):Int), (y * (-1):Int), (z * (-1):Int)]] rfl rfl (by kernel_rfl) (by rfl) (fun W=>by go_simp) (fun W130 hg131=>?_)
            refine (shiftg_any (Gm.shB B l x y z) _ _ _ l (x * (-1)) (y * (-1)) (z * (-1)) W130 (SL.ofOwn ((S126.out.gr hg131).ownr 0 rfl)) (by have e_f38:=f38.out;have e_f52:=f52.out;have e_f116:=f116.out;exact Gm.ok_sh (Gm.fw_of e_f38) (Gm.nears_iff.1 e_f52 (x,y,z) (by simp))) (by have e_f38:=f38.out;have e_f52:=f52.out;have e_f116:=f116.out;exact Gm.neg_rp (Gm.nears_iff.1 e_f52 (x,y,z) (by simp)))).mono ?_
            rintro e w132 ⟨A127,n128,c129,rfl,hS_⟩
            refine ⟨_,rfl,hS_.bel, ?_⟩
            have hT_:=(S126.out.gr hg131).got hS_
            simp only [n1,n3,n4]
            have S133 : Hid (St w noB [own (.slice A127 n128 c129) 3 1 n128 (ic l),own (.slice A120 n121 c122) 3 1 n121 (ic l),blk g99 28 [((Gm.nB B 0).a:Int), ((Gm.nB B 0).b:Int), ((Gm.nB B 0).c:Int), ((Gm.nB B 0).d:Int), ((Gm.nB B 0).e:Int), ((Gm.nB B 0).f:Int), .slice A90 n91 c92],own (.slice A90 n91 c92) 3 1 n91 (ic (Gm.paste (Gm.nB B 0) (Gm.nL B 0) B l)),blk g80 28 [((Gm.nB F 0).a:Int), ((Gm.nB F 0).b:Int), ((Gm.nB F 0).c:Int), ((Gm.nB F 0).d:Int), ((Gm.nB F 0).e:Int), ((Gm.nB F 0).f:Int), .slice A71 n72 c73],own (.slice A71 n72 c73) 3 1 n72 (ic (Gm.paste (Gm.nB F 0) (Gm.nL F 0) B l)),blk g41 23 [F.a, F.b, F.c, F.d, F.e, F.f, H.a, H.b, H.c, H.d, H.e, H.f, x, y, z],blk g27 28 [B.a, B.b, B.c, B.d, B.e, B.f, .slice A n c],blk g19 23 [x, y, z],blk g14 25 [H.a, H.b, H.c, H.d, H.e, H.f],blk g9 25 [F.a, F.b, F.c, F.d, F.e, F.f],blk g4 28 [B.a, B.b, B.c, B.d, B.e, B.f, .slice A n c]] w132):=Lib.hid hT_
            clear S126
            clear hT_ hS_ hg131
            refine wpK_tk (i:=27) (some 93) (v:=.bool true) rfl rfl (by kernel_rfl) (fun _ _ _ h=>onN_panic h) (.call (f:=26) (args:=#[.agg #[((Gm.shB (Gm.shB B l x y z) l (x * (-1)) (y * (-1)) (z * (-1))).a:Int), ((Gm.shB (Gm.shB B l x y z) l (x * (-1)) (y * (-1)) (z * (-1))).b:Int), ((Gm.shB (Gm.shB B l x y z) l (x * (-1)) (y * (-1)) (z * (-1))).c:Int), ((Gm.shB (Gm.shB B l x y z) l (x * (-1)) (y * (-1)) (z * (-1))).d:Int), ((Gm.shB (Gm.shB B l x y z) l (x * (-1)) (y * (-1)) (z * (-1))).e:Int), ((Gm.shB (Gm.shB B l x y z) l (x * (-1)) (y * (-1)) (z * (-1))).f:Int), .slice A127 n128 c129], .agg #[B.a, B.b, B.c, B.d, B.e, B.f, .slice A n c]]) (by rfl) (fun W=>by go_simp) (fun W hg=>((equal_any (Gm.shB (Gm.shB B l x y z) l (x * (-1)) (y * (-1)) (z * (-1))) _ _ _ l B _ _ _ l W (SL.ofOwn ((S133.out.gr hg).ownr 0 rfl)) (HGA.out.gr (S133.out.gr hg).bel)).mono (fun e w' h=>⟨h.1.trans (by have e_f38:=f38.out;have e_f52:=f52.out;have e_f116:=f116.out;rw [Gm.same_iff.2 ⟨Gm.shift_back,rfl⟩]),h.2⟩)))) ?_
            simp only [n1,n3,n4]
            refine wpK_ta (i:=28) (some 94) (v:=.bool false) rfl rfl (by kernel_rfl) (fun _ _ _ h=>onN_panic h) (Or.inl ⟨by rfl,fun W=>by first | (go_simp;done) | (cases true <;> rfl)⟩) ?_
            simp only [n1,n3,n4]
            refine wpK_ta (i:=29) (some 95) (v:=.bool false) rfl rfl (by kernel_rfl) (fun _ _ _ h=>onN_panic h) (Or.inl ⟨by rfl,fun W=>by go_simp⟩) ?_
            simp only [n1,n3,n4]
            refine wpK_done (by kernel_rfl) (fun V134 hv135=>?_) _
            have S136 : Hid (St w noB [own (.slice A127 n128 c129) 3 1 n128 (ic l),own (.slice A120 n121 c122) 3 1 n121 (ic l),blk g99 28 [((Gm.nB B 0).a:Int), ((Gm.nB B 0).b:Int), ((Gm.nB B 0).c:Int), ((Gm.nB B 0).d:Int), ((Gm.nB B 0).e:Int), ((Gm.nB B 0).f:Int), .slice A90 n91 c92],own (.slice A90 n91 c92) 3 1 n91 (ic (Gm.paste (Gm.nB B 0) (Gm.nL B 0) B l)),blk g80 28 [((Gm.nB F 0).a:Int), ((Gm.nB F 0).b:Int), ((Gm.nB F 0).c:Int), ((Gm.nB F 0).d:Int), ((Gm.nB F 0).e:Int), ((Gm.nB F 0).f:Int), .slice A71 n72 c73],own (.slice A71 n72 c73) 3 1 n72 (ic (Gm.paste (Gm.nB F 0) (Gm.nL F 0) B l)),blk g41 23 [F.a, F.b, F.c, F.d, F.e, F.f, H.a, H.b, H.c, H.d, H.e, H.f, x, y, z],blk g27 28 [B.a, B.b, B.c, B.d, B.e, B.f, .slice A n c],blk g19 23 [x, y, z],blk g14 25 [H.a, H.b, H.c, H.d, H.e, H.f],blk g9 25 [F.a, F.b, F.c, F.d, F.e, F.f],blk g4 28 [B.a, B.b, B.c, B.d, B.e, B.f, .slice A n c]] V134):=Lib.hid (S133.out.gr hv135)
            clear S133
            clear hv135
            refine ⟨rfl,hK _ _ ?_⟩
            clear hK
            go_upto_region 10 with fail
            refine wpG_region_k (fun K hK=>?_)
            refine @wpG_tk _ _ _ _ _ (some 97) (.agg #[((Gm.nB F 0).a:Int), ((Gm.nB F 0).b:Int), ((Gm.nB F 0).c:Int), ((Gm.nB F 0).d:Int), ((Gm.nB F 0).e:Int), ((Gm.nB F 0).f:Int), .slice A71 n72 c73]) _ _ rfl (.load_mid (by rfl) 28 (.tmp 9) rfl g80 0 rfl [((Gm.nB F 0).a:Int), ((Gm.nB F 0).b:Int), ((Gm.nB F 0).c:Int), ((Gm.nB F 0).d:Int), ((Gm.nB F 0).e:Int), ((Gm.nB F 0).f:Int), .slice A71 n72 c73] _ (fun W hg=>(S136.out.gr hg).range 4 rfl 0 7 rfl) Tryd.underlying28 rfl (by kernel_rfl)) ?_
            simp only [n1,n3,n4]
            refine @wpG_tk _ _ _ _ _ (some 98) (.agg #[H.a, H.b, H.c, H.d, H.e, H.f]) _ _ rfl (.load_mid (by rfl) 25 (.tmp 6) rfl g14 0 rfl [H.a, H.b, H.c, H.d, H.e, H.f] _ (fun W hg=>(S136.out.gr hg).range 9 rfl 0 6 rfl) Tryd.underlying25 rfl (by kernel_rfl)) ?_
            simp only [n1,n3,n4]
            refine wpG_call (some 99) 17 #[.agg #[((Gm.nB F 0).a:Int), ((Gm.nB F 0).b:Int), ((Gm.nB F 0).c:Int), ((Gm.nB F 0).d:Int), ((Gm.nB F 0).e:Int), ((Gm.nB F 0).f:Int), .slice A71 n72 c73], .agg #[H.a, H.b, H.c, H.d, H.e, H.f]] rfl (by rfl) (fun W=>by go_simp) (fun W140 hg141=>?_)
            refine (crop_any (Gm.nB F 0) _ _ _ (Gm.paste (Gm.nB F 0) (Gm.nL F 0) B l) H W140 (SL.ofOwn ((S136.out.gr hg141).ownr 5 rfl)) (by have e_f38:=f38.out;have e_f52:=f52.out;have e_f116:=f116.out;exact Gm.ok_crop (⟨(Gm.near1_rp (Gm.nears_iff.1 e_f52 (F.a,F.b,F.c) (by simp))),(Gm.near1_rp (Gm.nears_iff.1 e_f52 (F.d,F.e,F.f) (by simp)))⟩ : Gm.Bx.rg F) (by have h_:=f61;simp at h_;omega))).mono ?_
            rintro e w142 ⟨A137,n138,c139,rfl,hS_⟩
            refine ⟨_,rfl, ?_⟩
            have hT_:=(S136.out.gr hg141).got hS_
            simp only [n1,n3,n4]
            have S143 : Hid (St w noB [own (.slice A137 n138 c139) 3 1 n138 (ic (Gm.paste (Gm.nB H 0) (Gm.nL H 0) (Gm.nB F 0) (Gm.paste (Gm.nB F 0) (Gm.nL F 0) B l))),own (.slice A127 n128 c129) 3 1 n128 (ic l),own (.slice A120 n121 c122) 3 1 n121 (ic l),blk g99 28 [((Gm.nB B 0).a:Int), ((Gm.nB B 0).b:Int), ((Gm.nB B 0).c:Int), ((Gm.nB B 0).d:Int), ((Gm.nB B 0).e:Int), ((Gm.nB B 0).f:Int), .slice A90 n91 c92],own (.slice A90 n91 c92) 3 1 n91 (ic (Gm.paste (Gm.nB B 0) (Gm.nL B 0) B l)),blk g80 28 [((Gm.nB F 0).a:Int), ((Gm.nB F 0).b:Int), ((Gm.nB F 0).c:Int), ((Gm.nB F 0).d:Int), ((Gm.nB F 0).e:Int), ((Gm.nB F 0).f:Int), .slice A71 n72 c73],own (.slice A71 n72 c73) 3 1 n72 (ic (Gm.paste (Gm.nB F 0) (Gm.nL F 0) B l)),blk g41 23 [F.a, F.b, F.c, F.d, F.e, F.f, H.a, H.b, H.c, H.d, H.e, H.f, x, y, z],blk g27 28 [B.a, B.b, B.c, B.d, B.e, B.f, .slice A n c],blk g19 23 [x, y, z],blk g14 25 [H.a, H.b, H.c, H.d, H.e, H.f],blk g9 25 [F.a, F.b, F.c, F.d, F.e, F.f],blk g4 28 [B.a, B.b, B.c, B.d, B.e, B.f, .slice A n c]] w142):=Lib.hid hT_
            clear S136
            clear hT_ hS_ hg141
            refine @wpG_p _ _ _ _ _ (some 96) (.tuple #[.agg #[((Gm.nB H 0).a:Int), ((Gm.nB H 0).b:Int), ((Gm.nB H 0).c:Int), ((Gm.nB H 0).d:Int), ((Gm.nB H 0).e:Int), ((Gm.nB H 0).f:Int), .slice A137 n138 c139], (Gm.nE H 0)]) _ _ rfl (by rfl) (fun _=>rfl) ?_
            simp only [n1,n3,n4]
            refine @wpG_p _ _ _ _ _ (some 100) (.agg #[((Gm.nB H 0).a:Int), ((Gm.nB H 0).b:Int), ((Gm.nB H 0).c:Int), ((Gm.nB H 0).d:Int), ((Gm.nB H 0).e:Int), ((Gm.nB H 0).f:Int), .slice A137 n138 c139]) _ _ rfl (by rfl) (fun W=>by go_simp) ?_
            simp only [n1,n3,n4]
            refine @wpG_p _ _ _ _ _ (some 101) (Gm.nE H 0) _ _ rfl (by rfl) (fun W=>by go_simp) ?_
            simp only [n1,n3,n4]
            refine wpG_val (some 14) rfl (by rfl) (fun W144 hg145=>⟨.pointer (some ⟨W144.heap.size,0,none⟩),W144.alloc (.cells #[(), (), (), (), (), (), .slice none 0 0] 28),by (first | (go_simp;done) | (go_simp <;> rfl)), ?_⟩)
            simp only [n1,n3,n4]
            obtain ⟨g146,U147,hg_,hu_,hS_⟩:=(S143.out.gr hg145).made [(), (), (), (), (), (), .slice none 0 0] 28
            rw [← hu_,← hg_]
            have S148 : Hid (St w noB [blk g146 28 [(), (), (), (), (), (), .slice none 0 0],own (.slice A137 n138 c139) 3 1 n138 (ic (Gm.paste (Gm.nB H 0) (Gm.nL H 0) (Gm.nB F 0) (Gm.paste (Gm.nB F 0) (Gm.nL F 0) B l))),own (.slice A127 n128 c129) 3 1 n128 (ic l),own (.slice A120 n121 c122) 3 1 n121 (ic l),blk g99 28 [((Gm.nB B 0).a:Int), ((Gm.nB B 0).b:Int), ((Gm.nB B 0).c:Int), ((Gm.nB B 0).d:Int), ((Gm.nB B 0).e:Int), ((Gm.nB B 0).f:Int), .slice A90 n91 c92],own (.slice A90 n91 c92) 3 1 n91 (ic (Gm.paste (Gm.nB B 0) (Gm.nL B 0) B l)),blk g80 28 [((Gm.nB F 0).a:Int), ((Gm.nB F 0).b:Int), ((Gm.nB F 0).c:Int), ((Gm.nB F 0).d:Int), ((Gm.nB F 0).e:Int), ((Gm.nB F 0).f:Int), .slice A71 n72 c73],own (.slice A71 n72 c73) 3 1 n72 (ic (Gm.paste (Gm.nB F 0) (Gm.nL F 0) B l)),blk g41 23 [F.a, F.b, F.c, F.d, F.e, F.f, H.a, H.b, H.c, H.d, H.e, H.f, x, y, z],blk g27 28 [B.a, B.b, B.c, B.d, B.e, B.f, .slice A n c],blk g19 23 [x, y, z],blk g14 25 [H.a, H.b, H.c, H.d, H.e, H.f],blk g9 25 [F.a, F.b, F.c, F.d, F.e, F.f],blk g4 28 [B.a, B.b, B.c, B.d, B.e, B.f, .slice A n c]] U147):=Lib.hid hS_
            clear S143
            clear hg_ hu_ hS_ hg145
            refine wpG_store (none) rfl (by rfl) (fun W149 hg150=>⟨_,run_store_mid 28 (.tmp 14) (.tmp 100) rfl g146 0 #[((Gm.nB H 0).a:Int), ((Gm.nB H 0).b:Int), ((Gm.nB H 0).c:Int), ((Gm.nB H 0).d:Int), ((Gm.nB H 0).e:Int), ((Gm.nB H 0).f:Int), .slice A137 n138 c139] rfl rfl ((S148.out.gr hg150).room 0 rfl 0 7 (by simp)) (by kernel_rfl) (by kernel_rfl), ?_⟩)
            simp only [n2]
            obtain ⟨U151,hu_,hS_⟩:=((S148.out.gr hg150).put 0 rfl 0 (#[((Gm.nB H 0).a:Int), ((Gm.nB H 0).b:Int), ((Gm.nB H 0).c:Int), ((Gm.nB H 0).d:Int), ((Gm.nB H 0).e:Int), ((Gm.nB H 0).f:Int), .slice A137 n138 c139] : Array Value).toList (ds:=[((Gm.nB H 0).a:Int), ((Gm.nB H 0).b:Int), ((Gm.nB H 0).c:Int), ((Gm.nB H 0).d:Int), ((Gm.nB H 0).e:Int), ((Gm.nB H 0).f:Int), .slice A137 n138 c139]) rfl).named
            rw [← hu_]
            have S152 : Hid (St w noB [blk g146 28 [((Gm.nB H 0).a:Int), ((Gm.nB H 0).b:Int), ((Gm.nB H 0).c:Int), ((Gm.nB H 0).d:Int), ((Gm.nB H 0).e:Int), ((Gm.nB H 0).f:Int), .slice A137 n138 c139],own (.slice A137 n138 c139) 3 1 n138 (ic (Gm.paste (Gm.nB H 0) (Gm.nL H 0) (Gm.nB F 0) (Gm.paste (Gm.nB F 0) (Gm.nL F 0) B l))),own (.slice A127 n128 c129) 3 1 n128 (ic l),own (.slice A120 n121 c122) 3 1 n121 (ic l),blk g99 28 [((Gm.nB B 0).a:Int), ((Gm.nB B 0).b:Int), ((Gm.nB B 0).c:Int), ((Gm.nB B 0).d:Int), ((Gm.nB B 0).e:Int), ((Gm.nB B 0).f:Int), .slice A90 n91 c92],own (.slice A90 n91 c92) 3 1 n91 (ic (Gm.paste (Gm.nB B 0) (Gm.nL B 0) B l)),blk g80 28 [((Gm.nB F 0).a:Int), ((Gm.nB F 0).b:Int), ((Gm.nB F 0).c:Int), ((Gm.nB F 0).d:Int), ((Gm.nB F 0).e:Int), ((Gm.nB F 0).f:Int), .slice A71 n72 c73],own (.slice A71 n72 c73) 3 1 n72 (ic (Gm.paste (Gm.nB F 0) (Gm.nL F 0) B l)),blk g41 23 [F.a, F.b, F.c, F.d, F.e, F.f, H.a, H.b, H.c, H.d, H.e, H.f, x, y, z],blk g27 28 [B.a, B.b, B.c, B.d, B.e, B.f, .slice A n c],blk g19 23 [x, y, z],blk g14 25 [H.a, H.b, H.c, H.d, H.e, H.f],blk g9 25 [F.a, F.b, F.c, F.d, F.e, F.f],blk g4 28 [B.a, B.b, B.c, B.d, B.e, B.f, .slice A n c]] U151):=Lib.hid hS_
            clear S148
            clear hu_ hS_ hg150
            refine @wpG_p _ _ _ _ _ (some 15) (Gm.nE H 0) _ _ rfl (by rfl) (fun _=>rfl) ?_
            simp only [n1,n3,n4]
            refine wpG_done (fun V153 hv154=>?_)
            have S155 : Hid (St w noB [blk g146 28 [((Gm.nB H 0).a:Int), ((Gm.nB H 0).b:Int), ((Gm.nB H 0).c:Int), ((Gm.nB H 0).d:Int), ((Gm.nB H 0).e:Int), ((Gm.nB H 0).f:Int), .slice A137 n138 c139],own (.slice A137 n138 c139) 3 1 n138 (ic (Gm.paste (Gm.nB H 0) (Gm.nL H 0) (Gm.nB F 0) (Gm.paste (Gm.nB F 0) (Gm.nL F 0) B l))),own (.slice A127 n128 c129) 3 1 n128 (ic l),own (.slice A120 n121 c122) 3 1 n121 (ic l),blk g99 28 [((Gm.nB B 0).a:Int), ((Gm.nB B 0).b:Int), ((Gm.nB B 0).c:Int), ((Gm.nB B 0).d:Int), ((Gm.nB B 0).e:Int), ((Gm.nB B 0).f:Int), .slice A90 n91 c92],own (.slice A90 n91 c92) 3 1 n91 (ic (Gm.paste (Gm.nB B 0) (Gm.nL B 0) B l)),blk g80 28 [((Gm.nB F 0).a:Int), ((Gm.nB F 0).b:Int), ((Gm.nB F 0).c:Int), ((Gm.nB F 0).d:Int), ((Gm.nB F 0).e:Int), ((Gm.nB F 0).f:Int), .slice A71 n72 c73],own (.slice A71 n72 c73) 3 1 n72 (ic (Gm.paste (Gm.nB F 0) (Gm.nL F 0) B l)),blk g41 23 [F.a, F.b, F.c, F.d, F.e, F.f, H.a, H.b, H.c, H.d, H.e, H.f, x, y, z],blk g27 28 [B.a, B.b, B.c, B.d, B.e, B.f, .slice A n c],blk g19 23 [x, y, z],blk g14 25 [H.a, H.b, H.c, H.d, H.e, H.f],blk g9 25 [F.a, F.b, F.c, F.d, F.e, F.f],blk g4 28 [B.a, B.b, B.c, B.d, B.e, B.f, .slice A n c]] V153):=Lib.hid (S152.out.gr hv154)
            clear S152
            clear hv154
            refine ⟨rfl,hK _ _ ?_⟩
            clear hK
            go_upto_region 11 with fail
            refine wpG_region_k (fun K hK=>?_)
            refine @wpG_tk _ _ _ _ _ (some 103) (.agg #[B.a, B.b, B.c, B.d, B.e, B.f, .slice A n c]) _ _ rfl (.load_mid (by rfl) 28 (.tmp 4) rfl g4 0 rfl [B.a, B.b, B.c, B.d, B.e, B.f, .slice A n c] _ (fun W hg=>(S155.out.gr hg).range 13 rfl 0 7 rfl) Tryd.underlying28 rfl (by kernel_rfl)) ?_
            simp only [n1,n3,n4]
            refine @wpG_tk _ _ _ _ _ (some 104) (.agg #[H.a, H.b, H.c, H.d, H.e, H.f]) _ _ rfl (.load_mid (by rfl) 25 (.tmp 6) rfl g14 0 rfl [H.a, H.b, H.c, H.d, H.e, H.f] _ (fun W hg=>(S155.out.gr hg).range 11 rfl 0 6 rfl) Tryd.underlying25 rfl (by kernel_rfl)) ?_
            simp only [n1,n3,n4]
            refine wpG_call (some 105) 17 #[.agg #[B.a, B.b, B.c, B.d, B.e, B.f, .slice A n c], .agg #[H.a, H.b, H.c, H.d, H.e, H.f]] rfl (by rfl) (fun W=>by go_simp) (fun W159 hg160=>?_)
            refine (crop_any B _ _ _ l H W159 (HGA.out.gr (S155.out.gr hg160).bel) (by have e_f38:=f38.out;have e_f52:=f52.out;have e_f116:=f116.out;exact (Gm.fw_of e_f38).2.1.ok)).mono ?_
            rintro e w161 ⟨A156,n157,c158,rfl,hS_⟩
            refine ⟨_,rfl, ?_⟩
            have hT_:=(S155.out.gr hg160).got hS_
            simp only [n1,n3,n4]
            have S162 : Hid (St w noB [own (.slice A156 n157 c158) 3 1 n157 (ic (Gm.paste (Gm.nB H 0) (Gm.nL H 0) B l)),blk g146 28 [((Gm.nB H 0).a:Int), ((Gm.nB H 0).b:Int), ((Gm.nB H 0).c:Int), ((Gm.nB H 0).d:Int), ((Gm.nB H 0).e:Int), ((Gm.nB H 0).f:Int), .slice A137 n138 c139],own (.slice A137 n138 c139) 3 1 n138 (ic (Gm.paste (Gm.nB H 0) (Gm.nL H 0) (Gm.nB F 0) (Gm.paste (Gm.nB F 0) (Gm.nL F 0) B l))),own (.slice A127 n128 c129) 3 1 n128 (ic l),own (.slice A120 n121 c122) 3 1 n121 (ic l),blk g99 28 [((Gm.nB B 0).a:Int), ((Gm.nB B 0).b:Int), ((Gm.nB B 0).c:Int), ((Gm.nB B 0).d:Int), ((Gm.nB B 0).e:Int), ((Gm.nB B 0).f:Int), .slice A90 n91 c92],own (.slice A90 n91 c92) 3 1 n91 (ic (Gm.paste (Gm.nB B 0) (Gm.nL B 0) B l)),blk g80 28 [((Gm.nB F 0).a:Int), ((Gm.nB F 0).b:Int), ((Gm.nB F 0).c:Int), ((Gm.nB F 0).d:Int), ((Gm.nB F 0).e:Int), ((Gm.nB F 0).f:Int), .slice A71 n72 c73],own (.slice A71 n72 c73) 3 1 n72 (ic (Gm.paste (Gm.nB F 0) (Gm.nL F 0) B l)),blk g41 23 [F.a, F.b, F.c, F.d, F.e, F.f, H.a, H.b, H.c, H.d, H.e, H.f, x, y, z],blk g27 28 [B.a, B.b, B.c, B.d, B.e, B.f, .slice A n c],blk g19 23 [x, y, z],blk g14 25 [H.a, H.b, H.c, H.d, H.e, H.f],blk g9 25 [F.a, F.b, F.c, F.d, F.e, F.f],blk g4 28 [B.a, B.b, B.c, B.d, B.e, B.f, .slice A n c]] w161):=Lib.hid hT_
            clear S155
            clear hT_ hS_ hg160
            refine @wpG_p _ _ _ _ _ (some 102) (.tuple #[.agg #[((Gm.nB H 0).a:Int), ((Gm.nB H 0).b:Int), ((Gm.nB H 0).c:Int), ((Gm.nB H 0).d:Int), ((Gm.nB H 0).e:Int), ((Gm.nB H 0).f:Int), .slice A156 n157 c158], (Gm.nE H 0)]) _ _ rfl (by rfl) (fun _=>rfl) ?_
            simp only [n1,n3,n4]
            refine @wpG_p _ _ _ _ _ (some 106) (.agg #[((Gm.nB H 0).a:Int), ((Gm.nB H 0).b:Int), ((Gm.nB H 0).c:Int), ((Gm.nB H 0).d:Int), ((Gm.nB H 0).e:Int), ((Gm.nB H 0).f:Int), .slice A156 n157 c158]) _ _ rfl (by rfl) (fun W=>by go_simp) ?_
            simp only [n1,n3,n4]
            refine @wpG_p _ _ _ _ _ (some 107) (Gm.nE H 0) _ _ rfl (by rfl) (fun W=>by go_simp) ?_
            simp only [n1,n3,n4]
            refine wpG_val (some 16) rfl (by rfl) (fun W163 hg164=>⟨.pointer (some ⟨W163.heap.size,0,none⟩),W163.alloc (.cells #[(), (), (), (), (), (), .slice none 0 0] 28),by (first | (go_simp;done) | (go_simp <;> rfl)), ?_⟩)
            simp only [n1,n3,n4]
            obtain ⟨g165,U166,hg_,hu_,hS_⟩:=(S162.out.gr hg164).made [(), (), (), (), (), (), .slice none 0 0] 28
            rw [← hu_,← hg_]
            have S167 : Hid (St w noB [blk g165 28 [(), (), (), (), (), (), .slice none 0 0],own (.slice A156 n157 c158) 3 1 n157 (ic (Gm.paste (Gm.nB H 0) (Gm.nL H 0) B l)),blk g146 28 [((Gm.nB H 0).a:Int), ((Gm.nB H 0).b:Int), ((Gm.nB H 0).c:Int), ((Gm.nB H 0).d:Int), ((Gm.nB H 0).e:Int), ((Gm.nB H 0).f:Int), .slice A137 n138 c139],own (.slice A137 n138 c139) 3 1 n138 (ic (Gm.paste (Gm.nB H 0) (Gm.nL H 0) (Gm.nB F 0) (Gm.paste (Gm.nB F 0) (Gm.nL F 0) B l))),own (.slice A127 n128 c129) 3 1 n128 (ic l),own (.slice A120 n121 c122) 3 1 n121 (ic l),blk g99 28 [((Gm.nB B 0).a:Int), ((Gm.nB B 0).b:Int), ((Gm.nB B 0).c:Int), ((Gm.nB B 0).d:Int), ((Gm.nB B 0).e:Int), ((Gm.nB B 0).f:Int), .slice A90 n91 c92],own (.slice A90 n91 c92) 3 1 n91 (ic (Gm.paste (Gm.nB B 0) (Gm.nL B 0) B l)),blk g80 28 [((Gm.nB F 0).a:Int), ((Gm.nB F 0).b:Int), ((Gm.nB F 0).c:Int), ((Gm.nB F 0).d:Int), ((Gm.nB F 0).e:Int), ((Gm.nB F 0).f:Int), .slice A71 n72 c73],own (.slice A71 n72 c73) 3 1 n72 (ic (Gm.paste (Gm.nB F 0) (Gm.nL F 0) B l)),blk g41 23 [F.a, F.b, F.c, F.d, F.e, F.f, H.a, H.b, H.c, H.d, H.e, H.f, x, y, z],blk g27 28 [B.a, B.b, B.c, B.d, B.e, B.f, .slice A n c],blk g19 23 [x, y, z],blk g14 25 [H.a, H.b, H.c, H.d, H.e, H.f],blk g9 25 [F.a, F.b, F.c, F.d, F.e, F.f],blk g4 28 [B.a, B.b, B.c, B.d, B.e, B.f, .slice A n c]] U166):=Lib.hid hS_
            clear S162
            clear hg_ hu_ hS_ hg164
            refine wpG_store (none) rfl (by rfl) (fun W168 hg169=>⟨_,run_store_mid 28 (.tmp 16) (.tmp 106) rfl g165 0 #[((Gm.nB H 0).a:Int), ((Gm.nB H 0).b:Int), ((Gm.nB H 0).c:Int), ((Gm.nB H 0).d:Int), ((Gm.nB H 0).e:Int), ((Gm.nB H 0).f:Int), .slice A156 n157 c158] rfl rfl ((S167.out.gr hg169).room 0 rfl 0 7 (by simp)) (by kernel_rfl) (by kernel_rfl), ?_⟩)
            simp only [n2]
            obtain ⟨U170,hu_,hS_⟩:=((S167.out.gr hg169).put 0 rfl 0 (#[((Gm.nB H 0).a:Int), ((Gm.nB H 0).b:Int), ((Gm.nB H 0).c:Int), ((Gm.nB H 0).d:Int), ((Gm.nB H 0).e:Int), ((Gm.nB H 0).f:Int), .slice A156 n157 c158] : Array Value).toList (ds:=[((Gm.nB H 0).a:Int), ((Gm.nB H 0).b:Int), ((Gm.nB H 0).c:Int), ((Gm.nB H 0).d:Int), ((Gm.nB H 0).e:Int), ((Gm.nB H 0).f:Int), .slice A156 n157 c158]) rfl).named
            rw [← hu_]
            have S171 : Hid (St w noB [blk g165 28 [((Gm.nB H 0).a:Int), ((Gm.nB H 0).b:Int), ((Gm.nB H 0).c:Int), ((Gm.nB H 0).d:Int), ((Gm.nB H 0).e:Int), ((Gm.nB H 0).f:Int), .slice A156 n157 c158],own (.slice A156 n157 c158) 3 1 n157 (ic (Gm.paste (Gm.nB H 0) (Gm.nL H 0) B l)),blk g146 28 [((Gm.nB H 0).a:Int), ((Gm.nB H 0).b:Int), ((Gm.nB H 0).c:Int), ((Gm.nB H 0).d:Int), ((Gm.nB H 0).e:Int), ((Gm.nB H 0).f:Int), .slice A137 n138 c139],own (.slice A137 n138 c139) 3 1 n138 (ic (Gm.paste (Gm.nB H 0) (Gm.nL H 0) (Gm.nB F 0) (Gm.paste (Gm.nB F 0) (Gm.nL F 0) B l))),own (.slice A127 n128 c129) 3 1 n128 (ic l),own (.slice A120 n121 c122) 3 1 n121 (ic l),blk g99 28 [((Gm.nB B 0).a:Int), ((Gm.nB B 0).b:Int), ((Gm.nB B 0).c:Int), ((Gm.nB B 0).d:Int), ((Gm.nB B 0).e:Int), ((Gm.nB B 0).f:Int), .slice A90 n91 c92],own (.slice A90 n91 c92) 3 1 n91 (ic (Gm.paste (Gm.nB B 0) (Gm.nL B 0) B l)),blk g80 28 [((Gm.nB F 0).a:Int), ((Gm.nB F 0).b:Int), ((Gm.nB F 0).c:Int), ((Gm.nB F 0).d:Int), ((Gm.nB F 0).e:Int), ((Gm.nB F 0).f:Int), .slice A71 n72 c73],own (.slice A71 n72 c73) 3 1 n72 (ic (Gm.paste (Gm.nB F 0) (Gm.nL F 0) B l)),blk g41 23 [F.a, F.b, F.c, F.d, F.e, F.f, H.a, H.b, H.c, H.d, H.e, H.f, x, y, z],blk g27 28 [B.a, B.b, B.c, B.d, B.e, B.f, .slice A n c],blk g19 23 [x, y, z],blk g14 25 [H.a, H.b, H.c, H.d, H.e, H.f],blk g9 25 [F.a, F.b, F.c, F.d, F.e, F.f],blk g4 28 [B.a, B.b, B.c, B.d, B.e, B.f, .slice A n c]] U170):=Lib.hid hS_
            clear S167
            clear hu_ hS_ hg169
            refine @wpG_p _ _ _ _ _ (some 17) (Gm.nE H 0) _ _ rfl (by rfl) (fun _=>rfl) ?_
            simp only [n1,n3,n4]
            refine wpG_done (fun V172 hv173=>?_)
            have S174 : Hid (St w noB [blk g165 28 [((Gm.nB H 0).a:Int), ((Gm.nB H 0).b:Int), ((Gm.nB H 0).c:Int), ((Gm.nB H 0).d:Int), ((Gm.nB H 0).e:Int), ((Gm.nB H 0).f:Int), .slice A156 n157 c158],own (.slice A156 n157 c158) 3 1 n157 (ic (Gm.paste (Gm.nB H 0) (Gm.nL H 0) B l)),blk g146 28 [((Gm.nB H 0).a:Int), ((Gm.nB H 0).b:Int), ((Gm.nB H 0).c:Int), ((Gm.nB H 0).d:Int), ((Gm.nB H 0).e:Int), ((Gm.nB H 0).f:Int), .slice A137 n138 c139],own (.slice A137 n138 c139) 3 1 n138 (ic (Gm.paste (Gm.nB H 0) (Gm.nL H 0) (Gm.nB F 0) (Gm.paste (Gm.nB F 0) (Gm.nL F 0) B l))),own (.slice A127 n128 c129) 3 1 n128 (ic l),own (.slice A120 n121 c122) 3 1 n121 (ic l),blk g99 28 [((Gm.nB B 0).a:Int), ((Gm.nB B 0).b:Int), ((Gm.nB B 0).c:Int), ((Gm.nB B 0).d:Int), ((Gm.nB B 0).e:Int), ((Gm.nB B 0).f:Int), .slice A90 n91 c92],own (.slice A90 n91 c92) 3 1 n91 (ic (Gm.paste (Gm.nB B 0) (Gm.nL B 0) B l)),blk g80 28 [((Gm.nB F 0).a:Int), ((Gm.nB F 0).b:Int), ((Gm.nB F 0).c:Int), ((Gm.nB F 0).d:Int), ((Gm.nB F 0).e:Int), ((Gm.nB F 0).f:Int), .slice A71 n72 c73],own (.slice A71 n72 c73) 3 1 n72 (ic (Gm.paste (Gm.nB F 0) (Gm.nL F 0) B l)),blk g41 23 [F.a, F.b, F.c, F.d, F.e, F.f, H.a, H.b, H.c, H.d, H.e, H.f, x, y, z],blk g27 28 [B.a, B.b, B.c, B.d, B.e, B.f, .slice A n c],blk g19 23 [x, y, z],blk g14 25 [H.a, H.b, H.c, H.d, H.e, H.f],blk g9 25 [F.a, F.b, F.c, F.d, F.e, F.f],blk g4 28 [B.a, B.b, B.c, B.d, B.e, B.f, .slice A n c]] V172):=Lib.hid (S171.out.gr hv173)
            clear S171
            clear hv173
            refine ⟨rfl,hK _ _ ?_⟩
            clear hK
            go_upto_region 12 with fail
            refine wpG_region_k (fun K hK=>?_)
            refine @wpG_tk _ _ _ _ _ (some 108) (.bool true) _ _ rfl (.call (f:=11) (args:=#[]) (by rfl) (fun W=>by go_simp) (fun W hg=>(HSAN.out W (S174.out.gr hg).bel))) ?_
            simp only [n1,n3,n4]
            refine @wpG_p _ _ _ _ _ (some 109) (.bool true) _ _ rfl (by rfl) (fun _=>rfl) ?_
            simp only [n1,n3,n4]
            refine @wpG_p _ _ _ _ _ (some 110) (Gm.nE H 0) _ _ rfl (by rfl) (fun _=>rfl) ?_
            simp only [n1,n3,n4]
            have hz_H : Gm.nE H 0 = 0:=by have e_f38:=f38.out;have e_f52:=f52.out;have e_f116:=f116.out;exact Gm.nE_zero (⟨(Gm.near1_rp (Gm.nears_iff.1 e_f52 (H.a,H.b,H.c) (by simp))),(Gm.near1_rp (Gm.nears_iff.1 e_f52 (H.d,H.e,H.f) (by simp)))⟩ : Gm.Bx.rg H) (by have h_:=f70;simp at h_;omega)
            refine @wpG_p _ _ _ _ _ (some 111) (.bool true) _ _ rfl (by rfl) (fun W=>by have hq : (Gm.nE H 0 = 0):=(by omega);first | (go_simp;done) | (go_simp <;> omega)) ?_
            simp only [n1,n3,n4]
            refine @wpG_p _ _ _ _ _ (some 112) (.bool true) _ _ rfl (by rfl) (fun W=>by go_simp) ?_
            simp only [n1,n3,n4]
            refine @wpG_p _ _ _ _ _ (some 113) (.bool true) _ _ rfl (by rfl) (fun _=>rfl) ?_
            simp only [n1,n3,n4]
            refine @wpG_p _ _ _ _ _ (some 114) (Gm.nE H 0) _ _ rfl (by rfl) (fun _=>rfl) ?_
            simp only [n1,n3,n4]
            have hz_H : Gm.nE H 0 = 0:=by have e_f38:=f38.out;have e_f52:=f52.out;have e_f116:=f116.out;exact Gm.nE_zero (⟨(Gm.near1_rp (Gm.nears_iff.1 e_f52 (H.a,H.b,H.c) (by simp))),(Gm.near1_rp (Gm.nears_iff.1 e_f52 (H.d,H.e,H.f) (by simp)))⟩ : Gm.Bx.rg H) (by have h_:=f70;simp at h_;omega)
            refine @wpG_p _ _ _ _ _ (some 115) (.bool true) _ _ rfl (by rfl) (fun W=>by have hq : (Gm.nE H 0 = 0):=(by omega);first | (go_simp;done) | (go_simp <;> omega)) ?_
            simp only [n1,n3,n4]
            refine @wpG_p _ _ _ _ _ (some 116) (.bool true) _ _ rfl (by rfl) (fun W=>by go_simp) ?_
            simp only [n1,n3,n4]
            refine @wpG_p _ _ _ _ _ (some 117) (.bool true) _ _ rfl (by rfl) (fun _=>rfl) ?_
            simp only [n1,n3,n4]
            refine @wpG_tk _ _ _ _ _ (some 118) (.agg #[F.a, F.b, F.c, F.d, F.e, F.f]) _ _ rfl (.load_mid (by rfl) 25 (.tmp 5) rfl g9 0 rfl [F.a, F.b, F.c, F.d, F.e, F.f] _ (fun W hg=>(S174.out.gr hg).range 14 rfl 0 6 rfl) Tryd.underlying25 rfl (by kernel_rfl)) ?_
            simp only [n1,n3,n4]
            refine @wpG_tk _ _ _ _ _ (some 119) (.agg #[H.a, H.b, H.c, H.d, H.e, H.f]) _ _ rfl (.load_mid (by rfl) 25 (.tmp 6) rfl g14 0 rfl [H.a, H.b, H.c, H.d, H.e, H.f] _ (fun W hg=>(S174.out.gr hg).range 13 rfl 0 6 rfl) Tryd.underlying25 rfl (by kernel_rfl)) ?_
            simp only [n1,n3,n4]
            refine @wpG_tk _ _ _ _ _ (some 120) (.bool (conB F.a F.b F.c F.d F.e F.f H.a H.b H.c H.d H.e H.f)) _ _ rfl (.call (f:=34) (args:=#[.agg #[F.a, F.b, F.c, F.d, F.e, F.f], .agg #[H.a, H.b, H.c, H.d, H.e, H.f]]) (by rfl) (fun W=>by go_simp) (fun W hg=>rcontains_s F.a F.b F.c F.d F.e F.f H.a H.b H.c H.d H.e H.f W (Gm.rg12 (by have e_f38:=f38.out;have e_f52:=f52.out;have e_f116:=f116.out;exact (⟨(Gm.near1_rp (Gm.nears_iff.1 e_f52 (F.a,F.b,F.c) (by simp))),(Gm.near1_rp (Gm.nears_iff.1 e_f52 (F.d,F.e,F.f) (by simp)))⟩ : Gm.Bx.rg F)) (by have e_f38:=f38.out;have e_f52:=f52.out;have e_f116:=f116.out;exact (⟨(Gm.near1_rp (Gm.nears_iff.1 e_f52 (H.a,H.b,H.c) (by simp))),(Gm.near1_rp (Gm.nears_iff.1 e_f52 (H.d,H.e,H.f) (by simp)))⟩ : Gm.Bx.rg H))))) ?_
            simp only [n1,n3,n4]
            refine @wpG_p _ _ _ _ _ (some 121) (.bool (!(conB F.a F.b F.c F.d F.e F.f H.a H.b H.c H.d H.e H.f))) _ _ rfl (by rfl) (fun W=>by go_simp) ?_
            simp only [n1,n3,n4]
            refine @wpG_p _ _ _ _ _ (some 122) (.bool (!(conB F.a F.b F.c F.d F.e F.f H.a H.b H.c H.d H.e H.f))) _ _ rfl (by rfl) (fun _=>rfl) ?_
            simp only [n1,n3,n4]
            obtain ⟨c175,hc175⟩ : ∃ q_,q_ = (!(conB F.a F.b F.c F.d F.e F.f H.a H.b H.c H.d H.e H.f)):=⟨_,rfl⟩
            rw [← hc175]
            have Hc175:=Lib.hid hc175
            clear hc175
            cases c175 with
            | true =>
              have f176:=Lib.hid ((bnt Hc175.out))
              refine @wpG_no _ _ _ _ _ (some 123) _ _ rfl (by rfl) ?_
              simp only [n1,n3,n4]
              refine @wpG_no _ _ _ _ _ (some 124) _ _ rfl (by rfl) ?_
              simp only [n1,n3,n4]
              refine @wpG_no _ _ _ _ _ (some 125) _ _ rfl (by rfl) ?_
              simp only [n1,n3,n4]
              refine @wpG_p _ _ _ _ _ (some 126) (.bool true) _ _ rfl (by rfl) (fun W=>by go_simp) ?_
              simp only [n1,n3,n4]
              refine @wpG_p _ _ _ _ _ (some 127) (.bool true) _ _ rfl (by rfl) (fun W=>by go_simp) ?_
              simp only [n1,n3,n4]
              refine @wpG_p _ _ _ _ _ (some 8) (.bool true) _ _ rfl (by rfl) (fun _=>rfl) ?_
              simp only [n1,n3,n4]
              refine wpG_done (fun V177 hv178=>?_)
              have S179 : Hid (St w noB [blk g165 28 [((Gm.nB H 0).a:Int), ((Gm.nB H 0).b:Int), ((Gm.nB H 0).c:Int), ((Gm.nB H 0).d:Int), ((Gm.nB H 0).e:Int), ((Gm.nB H 0).f:Int), .slice A156 n157 c158],own (.slice A156 n157 c158) 3 1 n157 (ic (Gm.paste (Gm.nB H 0) (Gm.nL H 0) B l)),blk g146 28 [((Gm.nB H 0).a:Int), ((Gm.nB H 0).b:Int), ((Gm.nB H 0).c:Int), ((Gm.nB H 0).d:Int), ((Gm.nB H 0).e:Int), ((Gm.nB H 0).f:Int), .slice A137 n138 c139],own (.slice A137 n138 c139) 3 1 n138 (ic (Gm.paste (Gm.nB H 0) (Gm.nL H 0) (Gm.nB F 0) (Gm.paste (Gm.nB F 0) (Gm.nL F 0) B l))),own (.slice A127 n128 c129) 3 1 n128 (ic l),own (.slice A120 n121 c122) 3 1 n121 (ic l),blk g99 28 [((Gm.nB B 0).a:Int), ((Gm.nB B 0).b:Int), ((Gm.nB B 0).c:Int), ((Gm.nB B 0).d:Int), ((Gm.nB B 0).e:Int), ((Gm.nB B 0).f:Int), .slice A90 n91 c92],own (.slice A90 n91 c92) 3 1 n91 (ic (Gm.paste (Gm.nB B 0) (Gm.nL B 0) B l)),blk g80 28 [((Gm.nB F 0).a:Int), ((Gm.nB F 0).b:Int), ((Gm.nB F 0).c:Int), ((Gm.nB F 0).d:Int), ((Gm.nB F 0).e:Int), ((Gm.nB F 0).f:Int), .slice A71 n72 c73],own (.slice A71 n72 c73) 3 1 n72 (ic (Gm.paste (Gm.nB F 0) (Gm.nL F 0) B l)),blk g41 23 [F.a, F.b, F.c, F.d, F.e, F.f, H.a, H.b, H.c, H.d, H.e, H.f, x, y, z],blk g27 28 [B.a, B.b, B.c, B.d, B.e, B.f, .slice A n c],blk g19 23 [x, y, z],blk g14 25 [H.a, H.b, H.c, H.d, H.e, H.f],blk g9 25 [F.a, F.b, F.c, F.d, F.e, F.f],blk g4 28 [B.a, B.b, B.c, B.d, B.e, B.f, .slice A n c]] V177):=Lib.hid (S174.out.gr hv178)
              clear S174
              clear hv178
              refine ⟨rfl,hK _ _ ?_⟩
              clear hK
              go_wp2_with fail
              go_ret
              refine ⟨?_,S179.out.bel⟩
              show Ending.returned (.bool true) = _
              (first | rfl | (have e_f38:=f38.out;have e_f52:=f52.out;have e_f116:=f116.out;have e_f176:=f176.out;rfl))
            | false =>
              have f180:=Lib.hid ((bnf Hc175.out))
              refine @wpG_tk _ _ _ _ _ (some 123) (.agg #[((Gm.nB H 0).a:Int), ((Gm.nB H 0).b:Int), ((Gm.nB H 0).c:Int), ((Gm.nB H 0).d:Int), ((Gm.nB H 0).e:Int), ((Gm.nB H 0).f:Int), .slice A137 n138 c139]) _ _ rfl (.load_mid (by rfl) 28 (.tmp 14) rfl g146 0 rfl [((Gm.nB H 0).a:Int), ((Gm.nB H 0).b:Int), ((Gm.nB H 0).c:Int), ((Gm.nB H 0).d:Int), ((Gm.nB H 0).e:Int), ((Gm.nB H 0).f:Int), .slice A137 n138 c139] _ (fun W hg=>(S174.out.gr hg).range 2 rfl 0 7 rfl) Tryd.underlying28 rfl (by kernel_rfl)) ?_
              simp only [n1,n3,n4]
              refine @wpG_tk _ _ _ _ _ (some 124) (.agg #[((Gm.nB H 0).a:Int), ((Gm.nB H 0).b:Int), ((Gm.nB H 0).c:Int), ((Gm.nB H 0).d:Int), ((Gm.nB H 0).e:Int), ((Gm.nB H 0).f:Int), .slice A156 n157 c158]) _ _ rfl (.load_mid (by rfl) 28 (.tmp 16) rfl g165 0 rfl [((Gm.nB H 0).a:Int), ((Gm.nB H 0).b:Int), ((Gm.nB H 0).c:Int), ((Gm.nB H 0).d:Int), ((Gm.nB H 0).e:Int), ((Gm.nB H 0).f:Int), .slice A156 n157 c158] _ (fun W hg=>(S174.out.gr hg).range 0 rfl 0 7 rfl) Tryd.underlying28 rfl (by kernel_rfl)) ?_
              simp only [n1,n3,n4]
              refine @wpG_tk _ _ _ _ _ (some 125) (.bool true) _ _ rfl (.call (f:=26) (args:=#[.agg #[((Gm.nB H 0).a:Int), ((Gm.nB H 0).b:Int), ((Gm.nB H 0).c:Int), ((Gm.nB H 0).d:Int), ((Gm.nB H 0).e:Int), ((Gm.nB H 0).f:Int), .slice A137 n138 c139], .agg #[((Gm.nB H 0).a:Int), ((Gm.nB H 0).b:Int), ((Gm.nB H 0).c:Int), ((Gm.nB H 0).d:Int), ((Gm.nB H 0).e:Int), ((Gm.nB H 0).f:Int), .slice A156 n157 c158]]) (by rfl) (fun W=>by go_simp) (fun W hg=>((equal_any (Gm.nB H 0) _ _ _ (Gm.paste (Gm.nB H 0) (Gm.nL H 0) (Gm.nB F 0) (Gm.paste (Gm.nB F 0) (Gm.nL F 0) B l)) (Gm.nB H 0) _ _ _ (Gm.paste (Gm.nB H 0) (Gm.nL H 0) B l) W (SL.ofOwn ((S174.out.gr hg).ownr 3 rfl)) (SL.ofOwn ((S174.out.gr hg).ownr 1 rfl))).mono (fun e w' h=>⟨h.1.trans (by have e_f38:=f38.out;have e_f52:=f52.out;have e_f116:=f116.out;have e_f180:=f180.out;rw [Gm.same_iff.2 ⟨rfl,Gm.crop_crop (⟨(Gm.near1_rp (Gm.nears_iff.1 e_f52 (F.a,F.b,F.c) (by simp))),(Gm.near1_rp (Gm.nears_iff.1 e_f52 (F.d,F.e,F.f) (by simp)))⟩ : Gm.Bx.rg F) (by have h_:=f61;simp at h_;omega) (⟨(Gm.near1_rp (Gm.nears_iff.1 e_f52 (H.a,H.b,H.c) (by simp))),(Gm.near1_rp (Gm.nears_iff.1 e_f52 (H.d,H.e,H.f) (by simp)))⟩ : Gm.Bx.rg H) (by have h_:=f70;simp at h_;omega) (fun x y z=>Gm.con_in e_f180)⟩]),h.2⟩)))) ?_
              simp only [n1,n3,n4]
              refine @wpG_p _ _ _ _ _ (some 126) (.bool true) _ _ rfl (by rfl) (fun W=>by go_simp) ?_
              simp only [n1,n3,n4]
              refine @wpG_p _ _ _ _ _ (some 127) (.bool true) _ _ rfl (by rfl) (fun W=>by go_simp) ?_
              simp only [n1,n3,n4]
              refine @wpG_p _ _ _ _ _ (some 8) (.bool true) _ _ rfl (by rfl) (fun _=>rfl) ?_
              simp only [n1,n3,n4]
              refine wpG_done (fun V181 hv182=>?_)
              have S183 : Hid (St w noB [blk g165 28 [((Gm.nB H 0).a:Int), ((Gm.nB H 0).b:Int), ((Gm.nB H 0).c:Int), ((Gm.nB H 0).d:Int), ((Gm.nB H 0).e:Int), ((Gm.nB H 0).f:Int), .slice A156 n157 c158],own (.slice A156 n157 c158) 3 1 n157 (ic (Gm.paste (Gm.nB H 0) (Gm.nL H 0) B l)),blk g146 28 [((Gm.nB H 0).a:Int), ((Gm.nB H 0).b:Int), ((Gm.nB H 0).c:Int), ((Gm.nB H 0).d:Int), ((Gm.nB H 0).e:Int), ((Gm.nB H 0).f:Int), .slice A137 n138 c139],own (.slice A137 n138 c139) 3 1 n138 (ic (Gm.paste (Gm.nB H 0) (Gm.nL H 0) (Gm.nB F 0) (Gm.paste (Gm.nB F 0) (Gm.nL F 0) B l))),own (.slice A127 n128 c129) 3 1 n128 (ic l),own (.slice A120 n121 c122) 3 1 n121 (ic l),blk g99 28 [((Gm.nB B 0).a:Int), ((Gm.nB B 0).b:Int), ((Gm.nB B 0).c:Int), ((Gm.nB B 0).d:Int), ((Gm.nB B 0).e:Int), ((Gm.nB B 0).f:Int), .slice A90 n91 c92],own (.slice A90 n91 c92) 3 1 n91 (ic (Gm.paste (Gm.nB B 0) (Gm.nL B 0) B l)),blk g80 28 [((Gm.nB F 0).a:Int), ((Gm.nB F 0).b:Int), ((Gm.nB F 0).c:Int), ((Gm.nB F 0).d:Int), ((Gm.nB F 0).e:Int), ((Gm.nB F 0).f:Int), .slice A71 n72 c73],own (.slice A71 n72 c73) 3 1 n72 (ic (Gm.paste (Gm.nB F 0) (Gm.nL F 0) B l)),blk g41 23 [F.a, F.b, F.c, F.d, F.e, F.f, H.a, H.b, H.c, H.d, H.e, H.f, x, y, z],blk g27 28 [B.a, B.b, B.c, B.d, B.e, B.f, .slice A n c],blk g19 23 [x, y, z],blk g14 25 [H.a, H.b, H.c, H.d, H.e, H.f],blk g9 25 [F.a, F.b, F.c, F.d, F.e, F.f],blk g4 28 [B.a, B.b, B.c, B.d, B.e, B.f, .slice A n c]] V181):=Lib.hid (S174.out.gr hv182)
              clear S174
              clear hv182
              refine ⟨rfl,hK _ _ ?_⟩
              clear hK
              go_wp2_with fail
              go_ret
              refine ⟨?_,S183.out.bel⟩
              show Ending.returned (.bool true) = _
              (first | rfl | (have e_f38:=f38.out;have e_f52:=f52.out;have e_f116:=f116.out;have e_f180:=f180.out;rfl))
          | false =>
            have f184:=Lib.hid (Hc115.out.symm)
            go_upto_region 8 with fail
            refine wpK_region_k (by kernel_rfl) (fun K hK=>?_)
            refine wpK_ta (i:=0) (some 66) (v:=(Gm.nE F 0)) rfl rfl (by kernel_rfl) (fun _ _ _ h=>onN_panic h) (Or.inl ⟨rfl,fun _=>rfl⟩) ?_
            simp only [n1,n3,n4]
            have hz_F : Gm.nE F 0 = 0:=by have e_f38:=f38.out;have e_f52:=f52.out;have e_f184:=f184.out;exact Gm.nE_zero (⟨(Gm.near1_rp (Gm.nears_iff.1 e_f52 (F.a,F.b,F.c) (by simp))),(Gm.near1_rp (Gm.nears_iff.1 e_f52 (F.d,F.e,F.f) (by simp)))⟩ : Gm.Bx.rg F) (by have h_:=f61;simp at h_;omega)
            refine wpK_ta (i:=1) (some 67) (v:=.bool false) rfl rfl (by kernel_rfl) (fun _ _ _ h=>onN_panic h) (Or.inl ⟨by rfl,fun W=>by have hq : ¬ (Gm.nE F 0 ≠ 0):=(by omega);first | (go_simp;done) | (go_simp <;> omega)⟩) ?_
            simp only [n1,n3,n4]
            refine wpK_ta (i:=2) (some 68) (v:=.bool false) rfl rfl (by kernel_rfl) (fun _ _ _ h=>onN_panic h) (Or.inl ⟨rfl,fun _=>rfl⟩) ?_
            simp only [n1,n3,n4]
            refine wpK_ta (i:=3) (some 69) (v:=(Gm.nE B 0)) rfl rfl (by kernel_rfl) (fun _ _ _ h=>onN_panic h) (Or.inl ⟨rfl,fun _=>rfl⟩) ?_
            simp only [n1,n3,n4]
            have hz_B : Gm.nE B 0 = 0:=by have e_f38:=f38.out;have e_f52:=f52.out;have e_f184:=f184.out;exact Gm.nE_zero (Gm.fw_of e_f38).2.1.1 (Gm.fw_of e_f38).2.1.2.2.1
            refine wpK_ta (i:=4) (some 70) (v:=.bool false) rfl rfl (by kernel_rfl) (fun _ _ _ h=>onN_panic h) (Or.inl ⟨by rfl,fun W=>by have hq : ¬ (Gm.nE B 0 ≠ 0):=(by omega);first | (go_simp;done) | (go_simp <;> omega)⟩) ?_
            simp only [n1,n3,n4]
            refine wpK_ta (i:=5) (some 71) (v:=.bool false) rfl rfl (by kernel_rfl) (fun _ _ _ h=>onN_panic h) (Or.inl ⟨by rfl,fun W=>by go_simp⟩) ?_
            simp only [n1,n3,n4]
            refine wpK_ta (i:=6) (some 72) (v:=.bool false) rfl rfl (by kernel_rfl) (fun _ _ _ h=>onN_panic h) (Or.inl ⟨rfl,fun _=>rfl⟩) ?_
            simp only [n1,n3,n4]
            refine wpK_ta (i:=10) (some 76) (v:=()) rfl rfl (by kernel_rfl) (fun _ _ _ h=>onN_panic h) (Or.inl ⟨rfl,fun _=>rfl⟩) ?_
            simp only [n1,n3,n4]
            refine wpK_tk (i:=7) (some 73) (v:=.agg #[((Gm.nB F 0).a:Int), ((Gm.nB F 0).b:Int), ((Gm.nB F 0).c:Int), ((Gm.nB F 0).d:Int), ((Gm.nB F 0).e:Int), ((Gm.nB F 0).f:Int), .slice A71 n72 c73]) rfl rfl (by kernel_rfl) (fun _ _ _ h=>onN_panic h) (.load_mid (by rfl) 28 (.tmp 9) rfl g80 0 rfl [((Gm.nB F 0).a:Int), ((Gm.nB F 0).b:Int), ((Gm.nB F 0).c:Int), ((Gm.nB F 0).d:Int), ((Gm.nB F 0).e:Int), ((Gm.nB F 0).f:Int), .slice A71 n72 c73] _ (fun W hg=>(S114.out.gr (Gr.un hg)).range 2 rfl 0 7 rfl) Tryd.underlying28 rfl (by kernel_rfl)) ?_
            simp only [n1,n3,n4]
            refine wpK_tk (i:=8) (some 74) (v:=.agg #[x, y, z]) rfl rfl (by kernel_rfl) (fun _ _ _ h=>onN_panic h) (.load_mid (by rfl) 23 (.tmp 7) rfl g19 0 rfl [x, y, z] _ (fun W hg=>(S114.out.gr (Gr.un hg)).range 6 rfl 0 3 rfl) Tryd.underlying23 rfl (by kernel_rfl)) ?_
            simp only [n1,n3,n4]
            refine wpK_tk (i:=9) (some 75) (v:=()) rfl rfl (by kernel_rfl) (fun _ _ _ h=>onN_panic h) (.call (f:=21) (args:=#[.agg #[((Gm.nB F 0).a:Int), ((Gm.nB F 0).b:Int), ((Gm.nB F 0).c:Int), ((Gm.nB F 0).d:Int), ((Gm.nB F 0).e:Int), ((Gm.nB F 0).f:Int), .slice A71 n72 c73], .agg #[x, y, z]]) (by rfl) (fun W=>by go_simp) (fun W hg=>((get_any (Gm.nB F 0) _ _ _ (Gm.paste (Gm.nB F 0) (Gm.nL F 0) B l) x y z W (SL.ofOwn ((S114.out.gr (Gr.un hg)).ownr 3 rfl)) (by have e_f38:=f38.out;have e_f52:=f52.out;have e_f184:=f184.out;exact Gm.ok_crop (⟨(Gm.near1_rp (Gm.nears_iff.1 e_f52 (F.a,F.b,F.c) (by simp))),(Gm.near1_rp (Gm.nears_iff.1 e_f52 (F.d,F.e,F.f) (by simp)))⟩ : Gm.Bx.rg F) (by have h_:=f61;simp at h_;omega)) (by have e_f38:=f38.out;have e_f52:=f52.out;have e_f184:=f184.out;exact (Gm.near1_rp (Gm.nears_iff.1 e_f52 (x,y,z) (by simp))))).mono (fun e w' h=>⟨h.1.trans (by have e_f38:=f38.out;have e_f52:=f52.out;have e_f184:=f184.out;rw [Gm.get_crop (⟨(Gm.near1_rp (Gm.nears_iff.1 e_f52 (F.a,F.b,F.c) (by simp))),(Gm.near1_rp (Gm.nears_iff.1 e_f52 (F.d,F.e,F.f) (by simp)))⟩ : Gm.Bx.rg F) (by have h_:=f61;simp at h_;omega),e_f184];rfl),h.2⟩)))) ?_
            simp only [n1,n3,n4]
            refine wpK_ta (i:=11) (some 77) (v:=.bool false) rfl rfl (by kernel_rfl) (fun _ _ _ h=>onN_panic h) (Or.inl ⟨by rfl,fun W=>by go_simp⟩) ?_
            simp only [n1,n3,n4]
            refine wpK_ta (i:=12) (some 78) (v:=.bool false) rfl rfl (by kernel_rfl) (fun _ _ _ h=>onN_panic h) (Or.inl ⟨by rfl,fun W=>by go_simp⟩) ?_
            simp only [n1,n3,n4]
            refine wpK_ta (i:=13) (some 79) (v:=.bool false) rfl rfl (by kernel_rfl) (fun _ _ _ h=>onN_panic h) (Or.inl ⟨rfl,fun _=>rfl⟩) ?_
            simp only [n1,n3,n4]
            refine wpK_tk (i:=14) (some 80) (v:=.agg #[((Gm.nB B 0).a:Int), ((Gm.nB B 0).b:Int), ((Gm.nB B 0).c:Int), ((Gm.nB B 0).d:Int), ((Gm.nB B 0).e:Int), ((Gm.nB B 0).f:Int), .slice A90 n91 c92]) rfl rfl (by kernel_rfl) (fun _ _ _ h=>onN_panic h) (.load_mid (by rfl) 28 (.tmp 11) rfl g99 0 rfl [((Gm.nB B 0).a:Int), ((Gm.nB B 0).b:Int), ((Gm.nB B 0).c:Int), ((Gm.nB B 0).d:Int), ((Gm.nB B 0).e:Int), ((Gm.nB B 0).f:Int), .slice A90 n91 c92] _ (fun W hg=>(S114.out.gr (Gr.un hg)).range 0 rfl 0 7 rfl) Tryd.underlying28 rfl (by kernel_rfl)) ?_
            simp only [n1,n3,n4]
            refine wpK_tk (i:=15) (some 81) (v:=.agg #[B.a, B.b, B.c, B.d, B.e, B.f, .slice A n c]) rfl rfl (by kernel_rfl) (fun _ _ _ h=>onN_panic h) (.load_mid (by rfl) 28 (.tmp 4) rfl g4 0 rfl [B.a, B.b, B.c, B.d, B.e, B.f, .slice A n c] _ (fun W hg=>(S114.out.gr (Gr.un hg)).range 9 rfl 0 7 rfl) Tryd.underlying28 rfl (by kernel_rfl)) ?_
            simp only [n1,n3,n4]
            refine wpK_tk (i:=16) (some 82) (v:=.bool true) rfl rfl (by kernel_rfl) (fun _ _ _ h=>onN_panic h) (.call (f:=26) (args:=#[.agg #[((Gm.nB B 0).a:Int), ((Gm.nB B 0).b:Int), ((Gm.nB B 0).c:Int), ((Gm.nB B 0).d:Int), ((Gm.nB B 0).e:Int), ((Gm.nB B 0).f:Int), .slice A90 n91 c92], .agg #[B.a, B.b, B.c, B.d, B.e, B.f, .slice A n c]]) (by rfl) (fun W=>by go_simp) (fun W hg=>((equal_any (Gm.nB B 0) _ _ _ (Gm.paste (Gm.nB B 0) (Gm.nL B 0) B l) B _ _ _ l W (SL.ofOwn ((S114.out.gr (Gr.un hg)).ownr 1 rfl)) (HGA.out.gr (S114.out.gr (Gr.un hg)).bel)).mono (fun e w' h=>⟨h.1.trans (by have e_f38:=f38.out;have e_f52:=f52.out;have e_f184:=f184.out;rw [Gm.same_iff.2 (Gm.crop_self (Gm.fw_of e_f38).2.1)]),h.2⟩)))) ?_
            simp only [n1,n3,n4]
            refine wpK_ta (i:=17) (some 83) (v:=.bool false) rfl rfl (by kernel_rfl) (fun _ _ _ h=>onN_panic h) (Or.inl ⟨by rfl,fun W=>by first | (go_simp;done) | (cases true <;> rfl)⟩) ?_
            simp only [n1,n3,n4]
            refine wpK_ta (i:=18) (some 84) (v:=.bool false) rfl rfl (by kernel_rfl) (fun _ _ _ h=>onN_panic h) (Or.inl ⟨by rfl,fun W=>by go_simp⟩) ?_
            simp only [n1,n3,n4]
            refine wpK_ta (i:=19) (some 85) (v:=.bool false) rfl rfl (by kernel_rfl) (fun _ _ _ h=>onN_panic h) (Or.inl ⟨rfl,fun _=>rfl⟩) ?_
            simp only [n1,n3,n4]
            refine wpK_tk (i:=20) (some 86) (v:=.agg #[B.a, B.b, B.c, B.d, B.e, B.f, .slice A n c]) rfl rfl (by kernel_rfl) (fun _ _ _ h=>onN_panic h) (.load_mid (by rfl) 28 (.tmp 4) rfl g4 0 rfl [B.a, B.b, B.c, B.d, B.e, B.f, .slice A n c] _ (fun W hg=>(S114.out.gr (Gr.un hg)).range 9 rfl 0 7 rfl) Tryd.underlying28 rfl (by kernel_rfl)) ?_
            simp only [n1,n3,n4]
            refine wpK_tk (i:=21) (some 87) (v:=.agg #[x, y, z]) rfl rfl (by kernel_rfl) (fun _ _ _ h=>onN_panic h) (.load_mid (by rfl) 23 (.tmp 7) rfl g19 0 rfl [x, y, z] _ (fun W hg=>(S114.out.gr (Gr.un hg)).range 6 rfl 0 3 rfl) Tryd.underlying23 rfl (by kernel_rfl)) ?_
            simp only [n1,n3,n4]
            refine wpK_tk (i:=23) (some 89) (v:=.agg #[x, y, z]) rfl rfl (by kernel_rfl) (fun _ _ _ h=>onN_panic h) (.load_mid (by rfl) 23 (.tmp 7) rfl g19 0 rfl [x, y, z] _ (fun W hg=>(S114.out.gr (Gr.un hg)).range 6 rfl 0 3 rfl) Tryd.underlying23 rfl (by kernel_rfl)) ?_
            simp only [n1,n3,n4]
            refine wpK_tk (i:=26) (some 92) (v:=.agg #[B.a, B.b, B.c, B.d, B.e, B.f, .slice A n c]) rfl rfl (by kernel_rfl) (fun _ _ _ h=>onN_panic h) (.load_mid (by rfl) 28 (.tmp 4) rfl g4 0 rfl [B.a, B.b, B.c, B.d, B.e, B.f, .slice A n c] _ (fun W hg=>(S114.out.gr (Gr.un hg)).range 9 rfl 0 7 rfl) Tryd.underlying28 rfl (by kernel_rfl)) ?_
            simp only [n1,n3,n4]
            refine wpK_call (i:=22) (some 88) 32 #[.agg #[B.a, B.b, B.c, B.d, B.e, B.f, .slice A n c], .agg #[x, y, z]] rfl rfl (by kernel_rfl) (by rfl) (fun W=>by go_simp) (fun W188 hg189=>?_)
            refine (shiftg_any B _ _ _ l x y z W188 (HGA.out.gr (S114.out.gr (Gr.un hg189)).bel) (by have e_f38:=f38.out;have e_f52:=f52.out;have e_f184:=f184.out;exact (Gm.fw_of e_f38).2.1.ok) (by have e_f38:=f38.out;have e_f52:=f52.out;have e_f184:=f184.out;exact (Gm.near1_rp (Gm.nears_iff.1 e_f52 (x,y,z) (by simp))))).mono ?_
            rintro e w190 ⟨A185,n186,c187,rfl,hS_⟩
            refine ⟨_,rfl,hS_.bel, ?_⟩
            have hT_:=(S114.out.gr (Gr.un hg189)).got hS_
            simp only [n1,n3,n4]
            have S191 : Hid (St w noB [own (.slice A185 n186 c187) 3 1 n186 (ic l),blk g99 28 [((Gm.nB B 0).a:Int), ((Gm.nB B 0).b:Int), ((Gm.nB B 0).c:Int), ((Gm.nB B 0).d:Int), ((Gm.nB B 0).e:Int), ((Gm.nB B 0).f:Int), .slice A90 n91 c92],own (.slice A90 n91 c92) 3 1 n91 (ic (Gm.paste (Gm.nB B 0) (Gm.nL B 0) B l)),blk g80 28 [((Gm.nB F 0).a:Int), ((Gm.nB F 0).b:Int), ((Gm.nB F 0).c:Int), ((Gm.nB F 0).d:Int), ((Gm.nB F 0).e:Int), ((Gm.nB F 0).f:Int), .slice A71 n72 c73],own (.slice A71 n72 c73) 3 1 n72 (ic (Gm.paste (Gm.nB F 0) (Gm.nL F 0) B l)),blk g41 23 [F.a, F.b, F.c, F.d, F.e, F.f, H.a, H.b, H.c, H.d, H.e, H.f, x, y, z],blk g27 28 [B.a, B.b, B.c, B.d, B.e, B.f, .slice A n c],blk g19 23 [x, y, z],blk g14 25 [H.a, H.b, H.c, H.d, H.e, H.f],blk g9 25 [F.a, F.b, F.c, F.d, F.e, F.f],blk g4 28 [B.a, B.b, B.c, B.d, B.e, B.f, .slice A n c]] w190):=Lib.hid hT_
            clear S114
            clear hT_ hS_ hg189
            refine wpK_tk (i:=24) (some 90) (v:=.agg #[(x * (-1):Int), (y * (-1):Int), (z * (-1):Int)]) rfl rfl (by kernel_rfl) (fun _ _ _ h=>onN_panic h) (.call (f:=33) (args:=#[.agg #[x, y, z], (-1:Int)]) (by rfl) (fun W=>by go_simp) (fun W hg=>rscale_any x y z (-1) W (Gm.rp2 (by have e_f38:=f38.out;have e_f52:=f52.out;have e_f184:=f184.out;exact (Gm.near1_rp (Gm.nears_iff.1 e_f52 (x,y,z) (by simp))))))) ?_
            simp only [n1,n3,n4]
            refine wpK_call (i:=25) (some 91) 32 #[.agg #[((Gm.shB B l x y z).a:Int), ((Gm.shB B l x y z).b:Int), ((Gm.shB B l x y z).c:Int), ((Gm.shB B l x y z).d:Int), ((Gm.shB B l x y z).e:Int), ((Gm.shB B l x y z).f:Int), .slice A185 n186 c187], .agg #[(x * (-1):Int), (y * (-1):Int), (z * (-1):Int)]] rfl rfl (by kernel_rfl) (by rfl) (fun W=>by go_simp) (fun W195 hg196=>?_)
            refine (shiftg_any (Gm.shB B l x y z) _ _ _ l (x * (-1)) (y * (-1)) (z * (-1)) W195 (SL.ofOwn ((S191.out.gr hg196).ownr 0 rfl)) (by have e_f38:=f38.out;have e_f52:=f52.out;have e_f184:=f184.out;exact Gm.ok_sh (Gm.fw_of e_f38) (Gm.nears_iff.1 e_f52 (x,y,z) (by simp))) (by have e_f38:=f38.out;have e_f52:=f52.out;have e_f184:=f184.out;exact Gm.neg_rp (Gm.nears_iff.1 e_f52 (x,y,z) (by simp)))).mono ?_
            rintro e w197 ⟨A192,n193,c194,rfl,hS_⟩
            refine ⟨_,rfl,hS_.bel, ?_⟩
            have hT_:=(S191.out.gr hg196).got hS_
            simp only [n1,n3,n4]
            have S198 : Hid (St w noB [own (.slice A192 n193 c194) 3 1 n193 (ic l),own (.slice A185 n186 c187) 3 1 n186 (ic l),blk g99 28 [((Gm.nB B 0).a:Int), ((Gm.nB B 0).b:Int), ((Gm.nB B 0).c:Int), ((Gm.nB B 0).d:Int), ((Gm.nB B 0).e:Int), ((Gm.nB B 0).f:Int), .slice A90 n91 c92],own (.slice A90 n91 c92) 3 1 n91 (ic (Gm.paste (Gm.nB B 0) (Gm.nL B 0) B l)),blk g80 28 [((Gm.nB F 0).a:Int), ((Gm.nB F 0).b:Int), ((Gm.nB F 0).c:Int), ((Gm.nB F 0).d:Int), ((Gm.nB F 0).e:Int), ((Gm.nB F 0).f:Int), .slice A71 n72 c73],own (.slice A71 n72 c73) 3 1 n72 (ic (Gm.paste (Gm.nB F 0) (Gm.nL F 0) B l)),blk g41 23 [F.a, F.b, F.c, F.d, F.e, F.f, H.a, H.b, H.c, H.d, H.e, H.f, x, y, z],blk g27 28 [B.a, B.b, B.c, B.d, B.e, B.f, .slice A n c],blk g19 23 [x, y, z],blk g14 25 [H.a, H.b, H.c, H.d, H.e, H.f],blk g9 25 [F.a, F.b, F.c, F.d, F.e, F.f],blk g4 28 [B.a, B.b, B.c, B.d, B.e, B.f, .slice A n c]] w197):=Lib.hid hT_
            clear S191
            clear hT_ hS_ hg196
            refine wpK_tk (i:=27) (some 93) (v:=.bool true) rfl rfl (by kernel_rfl) (fun _ _ _ h=>onN_panic h) (.call (f:=26) (args:=#[.agg #[((Gm.shB (Gm.shB B l x y z) l (x * (-1)) (y * (-1)) (z * (-1))).a:Int), ((Gm.shB (Gm.shB B l x y z) l (x * (-1)) (y * (-1)) (z * (-1))).b:Int), ((Gm.shB (Gm.shB B l x y z) l (x * (-1)) (y * (-1)) (z * (-1))).c:Int), ((Gm.shB (Gm.shB B l x y z) l (x * (-1)) (y * (-1)) (z * (-1))).d:Int), ((Gm.shB (Gm.shB B l x y z) l (x * (-1)) (y * (-1)) (z * (-1))).e:Int), ((Gm.shB (Gm.shB B l x y z) l (x * (-1)) (y * (-1)) (z * (-1))).f:Int), .slice A192 n193 c194], .agg #[B.a, B.b, B.c, B.d, B.e, B.f, .slice A n c]]) (by rfl) (fun W=>by go_simp) (fun W hg=>((equal_any (Gm.shB (Gm.shB B l x y z) l (x * (-1)) (y * (-1)) (z * (-1))) _ _ _ l B _ _ _ l W (SL.ofOwn ((S198.out.gr hg).ownr 0 rfl)) (HGA.out.gr (S198.out.gr hg).bel)).mono (fun e w' h=>⟨h.1.trans (by have e_f38:=f38.out;have e_f52:=f52.out;have e_f184:=f184.out;rw [Gm.same_iff.2 ⟨Gm.shift_back,rfl⟩]),h.2⟩)))) ?_
            simp only [n1,n3,n4]
            refine wpK_ta (i:=28) (some 94) (v:=.bool false) rfl rfl (by kernel_rfl) (fun _ _ _ h=>onN_panic h) (Or.inl ⟨by rfl,fun W=>by first | (go_simp;done) | (cases true <;> rfl)⟩) ?_
            simp only [n1,n3,n4]
            refine wpK_ta (i:=29) (some 95) (v:=.bool false) rfl rfl (by kernel_rfl) (fun _ _ _ h=>onN_panic h) (Or.inl ⟨by rfl,fun W=>by go_simp⟩) ?_
            simp only [n1,n3,n4]
            refine wpK_done (by kernel_rfl) (fun V199 hv200=>?_) _
            have S201 : Hid (St w noB [own (.slice A192 n193 c194) 3 1 n193 (ic l),own (.slice A185 n186 c187) 3 1 n186 (ic l),blk g99 28 [((Gm.nB B 0).a:Int), ((Gm.nB B 0).b:Int), ((Gm.nB B 0).c:Int), ((Gm.nB B 0).d:Int), ((Gm.nB B 0).e:Int), ((Gm.nB B 0).f:Int), .slice A90 n91 c92],own (.slice A90 n91 c92) 3 1 n91 (ic (Gm.paste (Gm.nB B 0) (Gm.nL B 0) B l)),blk g80 28 [((Gm.nB F 0).a:Int), ((Gm.nB F 0).b:Int), ((Gm.nB F 0).c:Int), ((Gm.nB F 0).d:Int), ((Gm.nB F 0).e:Int), ((Gm.nB F 0).f:Int), .slice A71 n72 c73],own (.slice A71 n72 c73) 3 1 n72 (ic (Gm.paste (Gm.nB F 0) (Gm.nL F 0) B l)),blk g41 23 [F.a, F.b, F.c, F.d, F.e, F.f, H.a, H.b, H.c, H.d, H.e, H.f, x, y, z],blk g27 28 [B.a, B.b, B.c, B.d, B.e, B.f, .slice A n c],blk g19 23 [x, y, z],blk g14 25 [H.a, H.b, H.c, H.d, H.e, H.f],blk g9 25 [F.a, F.b, F.c, F.d, F.e, F.f],blk g4 28 [B.a, B.b, B.c, B.d, B.e, B.f, .slice A n c]] V199):=Lib.hid (S198.out.gr hv200)
            clear S198
            clear hv200
            refine ⟨rfl,hK _ _ ?_⟩
            clear hK
            go_upto_region 10 with fail
            refine wpG_region_k (fun K hK=>?_)
            refine @wpG_tk _ _ _ _ _ (some 97) (.agg #[((Gm.nB F 0).a:Int), ((Gm.nB F 0).b:Int), ((Gm.nB F 0).c:Int), ((Gm.nB F 0).d:Int), ((Gm.nB F 0).e:Int), ((Gm.nB F 0).f:Int), .slice A71 n72 c73]) _ _ rfl (.load_mid (by rfl) 28 (.tmp 9) rfl g80 0 rfl [((Gm.nB F 0).a:Int), ((Gm.nB F 0).b:Int), ((Gm.nB F 0).c:Int), ((Gm.nB F 0).d:Int), ((Gm.nB F 0).e:Int), ((Gm.nB F 0).f:Int), .slice A71 n72 c73] _ (fun W hg=>(S201.out.gr hg).range 4 rfl 0 7 rfl) Tryd.underlying28 rfl (by kernel_rfl)) ?_
            simp only [n1,n3,n4]
            refine @wpG_tk _ _ _ _ _ (some 98) (.agg #[H.a, H.b, H.c, H.d, H.e, H.f]) _ _ rfl (.load_mid (by rfl) 25 (.tmp 6) rfl g14 0 rfl [H.a, H.b, H.c, H.d, H.e, H.f] _ (fun W hg=>(S201.out.gr hg).range 9 rfl 0 6 rfl) Tryd.underlying25 rfl (by kernel_rfl)) ?_
            simp only [n1,n3,n4]
            refine wpG_call (some 99) 17 #[.agg #[((Gm.nB F 0).a:Int), ((Gm.nB F 0).b:Int), ((Gm.nB F 0).c:Int), ((Gm.nB F 0).d:Int), ((Gm.nB F 0).e:Int), ((Gm.nB F 0).f:Int), .slice A71 n72 c73], .agg #[H.a, H.b, H.c, H.d, H.e, H.f]] rfl (by rfl) (fun W=>by go_simp) (fun W205 hg206=>?_)
            refine (crop_any (Gm.nB F 0) _ _ _ (Gm.paste (Gm.nB F 0) (Gm.nL F 0) B l) H W205 (SL.ofOwn ((S201.out.gr hg206).ownr 5 rfl)) (by have e_f38:=f38.out;have e_f52:=f52.out;have e_f184:=f184.out;exact Gm.ok_crop (⟨(Gm.near1_rp (Gm.nears_iff.1 e_f52 (F.a,F.b,F.c) (by simp))),(Gm.near1_rp (Gm.nears_iff.1 e_f52 (F.d,F.e,F.f) (by simp)))⟩ : Gm.Bx.rg F) (by have h_:=f61;simp at h_;omega))).mono ?_
            rintro e w207 ⟨A202,n203,c204,rfl,hS_⟩
            refine ⟨_,rfl, ?_⟩
            have hT_:=(S201.out.gr hg206).got hS_
            simp only [n1,n3,n4]
            have S208 : Hid (St w noB [own (.slice A202 n203 c204) 3 1 n203 (ic (Gm.paste (Gm.nB H 0) (Gm.nL H 0) (Gm.nB F 0) (Gm.paste (Gm.nB F 0) (Gm.nL F 0) B l))),own (.slice A192 n193 c194) 3 1 n193 (ic l),own (.slice A185 n186 c187) 3 1 n186 (ic l),blk g99 28 [((Gm.nB B 0).a:Int), ((Gm.nB B 0).b:Int), ((Gm.nB B 0).c:Int), ((Gm.nB B 0).d:Int), ((Gm.nB B 0).e:Int), ((Gm.nB B 0).f:Int), .slice A90 n91 c92],own (.slice A90 n91 c92) 3 1 n91 (ic (Gm.paste (Gm.nB B 0) (Gm.nL B 0) B l)),blk g80 28 [((Gm.nB F 0).a:Int), ((Gm.nB F 0).b:Int), ((Gm.nB F 0).c:Int), ((Gm.nB F 0).d:Int), ((Gm.nB F 0).e:Int), ((Gm.nB F 0).f:Int), .slice A71 n72 c73],own (.slice A71 n72 c73) 3 1 n72 (ic (Gm.paste (Gm.nB F 0) (Gm.nL F 0) B l)),blk g41 23 [F.a, F.b, F.c, F.d, F.e, F.f, H.a, H.b, H.c, H.d, H.e, H.f, x, y, z],blk g27 28 [B.a, B.b, B.c, B.d, B.e, B.f, .slice A n c],blk g19 23 [x, y, z],blk g14 25 [H.a, H.b, H.c, H.d, H.e, H.f],blk g9 25 [F.a, F.b, F.c, F.d, F.e, F.f],blk g4 28 [B.a, B.b, B.c, B.d, B.e, B.f, .slice A n c]] w207):=Lib.hid hT_
            clear S201
            clear hT_ hS_ hg206
            refine @wpG_p _ _ _ _ _ (some 96) (.tuple #[.agg #[((Gm.nB H 0).a:Int), ((Gm.nB H 0).b:Int), ((Gm.nB H 0).c:Int), ((Gm.nB H 0).d:Int), ((Gm.nB H 0).e:Int), ((Gm.nB H 0).f:Int), .slice A202 n203 c204], (Gm.nE H 0)]) _ _ rfl (by rfl) (fun _=>rfl) ?_
            simp only [n1,n3,n4]
            refine @wpG_p _ _ _ _ _ (some 100) (.agg #[((Gm.nB H 0).a:Int), ((Gm.nB H 0).b:Int), ((Gm.nB H 0).c:Int), ((Gm.nB H 0).d:Int), ((Gm.nB H 0).e:Int), ((Gm.nB H 0).f:Int), .slice A202 n203 c204]) _ _ rfl (by rfl) (fun W=>by go_simp) ?_
            simp only [n1,n3,n4]
            refine @wpG_p _ _ _ _ _ (some 101) (Gm.nE H 0) _ _ rfl (by rfl) (fun W=>by go_simp) ?_
            simp only [n1,n3,n4]
            refine wpG_val (some 14) rfl (by rfl) (fun W209 hg210=>⟨.pointer (some ⟨W209.heap.size,0,none⟩),W209.alloc (.cells #[(), (), (), (), (), (), .slice none 0 0] 28),by (first | (go_simp;done) | (go_simp <;> rfl)), ?_⟩)
            simp only [n1,n3,n4]
            obtain ⟨g211,U212,hg_,hu_,hS_⟩:=(S208.out.gr hg210).made [(), (), (), (), (), (), .slice none 0 0] 28
            rw [← hu_,← hg_]
            have S213 : Hid (St w noB [blk g211 28 [(), (), (), (), (), (), .slice none 0 0],own (.slice A202 n203 c204) 3 1 n203 (ic (Gm.paste (Gm.nB H 0) (Gm.nL H 0) (Gm.nB F 0) (Gm.paste (Gm.nB F 0) (Gm.nL F 0) B l))),own (.slice A192 n193 c194) 3 1 n193 (ic l),own (.slice A185 n186 c187) 3 1 n186 (ic l),blk g99 28 [((Gm.nB B 0).a:Int), ((Gm.nB B 0).b:Int), ((Gm.nB B 0).c:Int), ((Gm.nB B 0).d:Int), ((Gm.nB B 0).e:Int), ((Gm.nB B 0).f:Int), .slice A90 n91 c92],own (.slice A90 n91 c92) 3 1 n91 (ic (Gm.paste (Gm.nB B 0) (Gm.nL B 0) B l)),blk g80 28 [((Gm.nB F 0).a:Int), ((Gm.nB F 0).b:Int), ((Gm.nB F 0).c:Int), ((Gm.nB F 0).d:Int), ((Gm.nB F 0).e:Int), ((Gm.nB F 0).f:Int), .slice A71 n72 c73],own (.slice A71 n72 c73) 3 1 n72 (ic (Gm.paste (Gm.nB F 0) (Gm.nL F 0) B l)),blk g41 23 [F.a, F.b, F.c, F.d, F.e, F.f, H.a, H.b, H.c, H.d, H.e, H.f, x, y, z],blk g27 28 [B.a, B.b, B.c, B.d, B.e, B.f, .slice A n c],blk g19 23 [x, y, z],blk g14 25 [H.a, H.b, H.c, H.d, H.e, H.f],blk g9 25 [F.a, F.b, F.c, F.d, F.e, F.f],blk g4 28 [B.a, B.b, B.c, B.d, B.e, B.f, .slice A n c]] U212):=Lib.hid hS_
            clear S208
            clear hg_ hu_ hS_ hg210
            refine wpG_store (none) rfl (by rfl) (fun W214 hg215=>⟨_,run_store_mid 28 (.tmp 14) (.tmp 100) rfl g211 0 #[((Gm.nB H 0).a:Int), ((Gm.nB H 0).b:Int), ((Gm.nB H 0).c:Int), ((Gm.nB H 0).d:Int), ((Gm.nB H 0).e:Int), ((Gm.nB H 0).f:Int), .slice A202 n203 c204] rfl rfl ((S213.out.gr hg215).room 0 rfl 0 7 (by simp)) (by kernel_rfl) (by kernel_rfl), ?_⟩)
            simp only [n2]
            obtain ⟨U216,hu_,hS_⟩:=((S213.out.gr hg215).put 0 rfl 0 (#[((Gm.nB H 0).a:Int), ((Gm.nB H 0).b:Int), ((Gm.nB H 0).c:Int), ((Gm.nB H 0).d:Int), ((Gm.nB H 0).e:Int), ((Gm.nB H 0).f:Int), .slice A202 n203 c204] : Array Value).toList (ds:=[((Gm.nB H 0).a:Int), ((Gm.nB H 0).b:Int), ((Gm.nB H 0).c:Int), ((Gm.nB H 0).d:Int), ((Gm.nB H 0).e:Int), ((Gm.nB H 0).f:Int), .slice A202 n203 c204]) rfl).named
            rw [← hu_]
            have S217 : Hid (St w noB [blk g211 28 [((Gm.nB H 0).a:Int), ((Gm.nB H 0).b:Int), ((Gm.nB H 0).c:Int), ((Gm.nB H 0).d:Int), ((Gm.nB H 0).e:Int), ((Gm.nB H 0).f:Int), .slice A202 n203 c204],own (.slice A202 n203 c204) 3 1 n203 (ic (Gm.paste (Gm.nB H 0) (Gm.nL H 0) (Gm.nB F 0) (Gm.paste (Gm.nB F 0) (Gm.nL F 0) B l))),own (.slice A192 n193 c194) 3 1 n193 (ic l),own (.slice A185 n186 c187) 3 1 n186 (ic l),blk g99 28 [((Gm.nB B 0).a:Int), ((Gm.nB B 0).b:Int), ((Gm.nB B 0).c:Int), ((Gm.nB B 0).d:Int), ((Gm.nB B 0).e:Int), ((Gm.nB B 0).f:Int), .slice A90 n91 c92],own (.slice A90 n91 c92) 3 1 n91 (ic (Gm.paste (Gm.nB B 0) (Gm.nL B 0) B l)),blk g80 28 [((Gm.nB F 0).a:Int), ((Gm.nB F 0).b:Int), ((Gm.nB F 0).c:Int), ((Gm.nB F 0).d:Int), ((Gm.nB F 0).e:Int), ((Gm.nB F 0).f:Int), .slice A71 n72 c73],own (.slice A71 n72 c73) 3 1 n72 (ic (Gm.paste (Gm.nB F 0) (Gm.nL F 0) B l)),blk g41 23 [F.a, F.b, F.c, F.d, F.e, F.f, H.a, H.b, H.c, H.d, H.e, H.f, x, y, z],blk g27 28 [B.a, B.b, B.c, B.d, B.e, B.f, .slice A n c],blk g19 23 [x, y, z],blk g14 25 [H.a, H.b, H.c, H.d, H.e, H.f],blk g9 25 [F.a, F.b, F.c, F.d, F.e, F.f],blk g4 28 [B.a, B.b, B.c, B.d, B.e, B.f, .slice A n c]] U216):=Lib.hid hS_
            clear S213
            clear hu_ hS_ hg215
            refine @wpG_p _ _ _ _ _ (some 15) (Gm.nE H 0) _ _ rfl (by rfl) (fun _=>rfl) ?_
            simp only [n1,n3,n4]
            refine wpG_done (fun V218 hv219=>?_)
            have S220 : Hid (St w noB [blk g211 28 [((Gm.nB H 0).a:Int), ((Gm.nB H 0).b:Int), ((Gm.nB H 0).c:Int), ((Gm.nB H 0).d:Int), ((Gm.nB H 0).e:Int), ((Gm.nB H 0).f:Int), .slice A202 n203 c204],own (.slice A202 n203 c204) 3 1 n203 (ic (Gm.paste (Gm.nB H 0) (Gm.nL H 0) (Gm.nB F 0) (Gm.paste (Gm.nB F 0) (Gm.nL F 0) B l))),own (.slice A192 n193 c194) 3 1 n193 (ic l),own (.slice A185 n186 c187) 3 1 n186 (ic l),blk g99 28 [((Gm.nB B 0).a:Int), ((Gm.nB B 0).b:Int), ((Gm.nB B 0).c:Int), ((Gm.nB B 0).d:Int), ((Gm.nB B 0).e:Int), ((Gm.nB B 0).f:Int), .slice A90 n91 c92],own (.slice A90 n91 c92) 3 1 n91 (ic (Gm.paste (Gm.nB B 0) (Gm.nL B 0) B l)),blk g80 28 [((Gm.nB F 0).a:Int), ((Gm.nB F 0).b:Int), ((Gm.nB F 0).c:Int), ((Gm.nB F 0).d:Int), ((Gm.nB F 0).e:Int), ((Gm.nB F 0).f:Int), .slice A71 n72 c73],own (.slice A71 n72 c73) 3 1 n72 (ic (Gm.paste (Gm.nB F 0) (Gm.nL F 0) B l)),blk g41 23 [F.a, F.b, F.c, F.d, F.e, F.f, H.a, H.b, H.c, H.d, H.e, H.f, x, y, z],blk g27 28 [B.a, B.b, B.c, B.d, B.e, B.f, .slice A n c],blk g19 23 [x, y, z],blk g14 25 [H.a, H.b, H.c, H.d, H.e, H.f],blk g9 25 [F.a, F.b, F.c, F.d, F.e, F.f],blk g4 28 [B.a, B.b, B.c, B.d, B.e, B.f, .slice A n c]] V218):=Lib.hid (S217.out.gr hv219)
            clear S217
            clear hv219
            refine ⟨rfl,hK _ _ ?_⟩
            clear hK
            go_upto_region 11 with fail
            refine wpG_region_k (fun K hK=>?_)
            refine @wpG_tk _ _ _ _ _ (some 103) (.agg #[B.a, B.b, B.c, B.d, B.e, B.f, .slice A n c]) _ _ rfl (.load_mid (by rfl) 28 (.tmp 4) rfl g4 0 rfl [B.a, B.b, B.c, B.d, B.e, B.f, .slice A n c] _ (fun W hg=>(S220.out.gr hg).range 13 rfl 0 7 rfl) Tryd.underlying28 rfl (by kernel_rfl)) ?_
            simp only [n1,n3,n4]
            refine @wpG_tk _ _ _ _ _ (some 104) (.agg #[H.a, H.b, H.c, H.d, H.e, H.f]) _ _ rfl (.load_mid (by rfl) 25 (.tmp 6) rfl g14 0 rfl [H.a, H.b, H.c, H.d, H.e, H.f] _ (fun W hg=>(S220.out.gr hg).range 11 rfl 0 6 rfl) Tryd.underlying25 rfl (by kernel_rfl)) ?_
            simp only [n1,n3,n4]
            refine wpG_call (some 105) 17 #[.agg #[B.a, B.b, B.c, B.d, B.e, B.f, .slice A n c], .agg #[H.a, H.b, H.c, H.d, H.e, H.f]] rfl (by rfl) (fun W=>by go_simp) (fun W224 hg225=>?_)
            refine (crop_any B _ _ _ l H W224 (HGA.out.gr (S220.out.gr hg225).bel) (by have e_f38:=f38.out;have e_f52:=f52.out;have e_f184:=f184.out;exact (Gm.fw_of e_f38).2.1.ok)).mono ?_
            rintro e w226 ⟨A221,n222,c223,rfl,hS_⟩
            refine ⟨_,rfl, ?_⟩
            have hT_:=(S220.out.gr hg225).got hS_
            simp only [n1,n3,n4]
            have S227 : Hid (St w noB [own (.slice A221 n222 c223) 3 1 n222 (ic (Gm.paste (Gm.nB H 0) (Gm.nL H 0) B l)),blk g211 28 [((Gm.nB H 0).a:Int), ((Gm.nB H 0).b:Int), ((Gm.nB H 0).c:Int), ((Gm.nB H 0).d:Int), ((Gm.nB H 0).e:Int), ((Gm.nB H 0).f:Int), .slice A202 n203 c204],own (.slice A202 n203 c204) 3 1 n203 (ic (Gm.paste (Gm.nB H 0) (Gm.nL H 0) (Gm.nB F 0) (Gm.paste (Gm.nB F 0) (Gm.nL F 0) B l))),own (.slice A192 n193 c194) 3 1 n193 (ic l),own (.slice A185 n186 c187) 3 1 n186 (ic l),blk g99 28 [((Gm.nB B 0).a:Int), ((Gm.nB B 0).b:Int), ((Gm.nB B 0).c:Int), ((Gm.nB B 0).d:Int), ((Gm.nB B 0).e:Int), ((Gm.nB B 0).f:Int), .slice A90 n91 c92],own (.slice A90 n91 c92) 3 1 n91 (ic (Gm.paste (Gm.nB B 0) (Gm.nL B 0) B l)),blk g80 28 [((Gm.nB F 0).a:Int), ((Gm.nB F 0).b:Int), ((Gm.nB F 0).c:Int), ((Gm.nB F 0).d:Int), ((Gm.nB F 0).e:Int), ((Gm.nB F 0).f:Int), .slice A71 n72 c73],own (.slice A71 n72 c73) 3 1 n72 (ic (Gm.paste (Gm.nB F 0) (Gm.nL F 0) B l)),blk g41 23 [F.a, F.b, F.c, F.d, F.e, F.f, H.a, H.b, H.c, H.d, H.e, H.f, x, y, z],blk g27 28 [B.a, B.b, B.c, B.d, B.e, B.f, .slice A n c],blk g19 23 [x, y, z],blk g14 25 [H.a, H.b, H.c, H.d, H.e, H.f],blk g9 25 [F.a, F.b, F.c, F.d, F.e, F.f],blk g4 28 [B.a, B.b, B.c, B.d, B.e, B.f, .slice A n c]] w226):=Lib.hid hT_
            clear S220
            clear hT_ hS_ hg225
            refine @wpG_p _ _ _ _ _ (some 102) (.tuple #[.agg #[((Gm.nB H 0).a:Int), ((Gm.nB H 0).b:Int), ((Gm.nB H 0).c:Int), ((Gm.nB H 0).d:Int), ((Gm.nB H 0).e:Int), ((Gm.nB H 0).f:Int), .slice A221 n222 c223], (Gm.nE H 0)]) _ _ rfl (by rfl) (fun _=>rfl) ?_
            simp only [n1,n3,n4]
            refine @wpG_p _ _ _ _ _ (some 106) (.agg #[((Gm.nB H 0).a:Int), ((Gm.nB H 0).b:Int), ((Gm.nB H 0).c:Int), ((Gm.nB H 0).d:Int), ((Gm.nB H 0).e:Int), ((Gm.nB H 0).f:Int), .slice A221 n222 c223]) _ _ rfl (by rfl) (fun W=>by go_simp) ?_
            simp only [n1,n3,n4]
            refine @wpG_p _ _ _ _ _ (some 107) (Gm.nE H 0) _ _ rfl (by rfl) (fun W=>by go_simp) ?_
            simp only [n1,n3,n4]
            refine wpG_val (some 16) rfl (by rfl) (fun W228 hg229=>⟨.pointer (some ⟨W228.heap.size,0,none⟩),W228.alloc (.cells #[(), (), (), (), (), (), .slice none 0 0] 28),by (first | (go_simp;done) | (go_simp <;> rfl)), ?_⟩)
            simp only [n1,n3,n4]
            obtain ⟨g230,U231,hg_,hu_,hS_⟩:=(S227.out.gr hg229).made [(), (), (), (), (), (), .slice none 0 0] 28
            rw [← hu_,← hg_]
            have S232 : Hid (St w noB [blk g230 28 [(), (), (), (), (), (), .slice none 0 0],own (.slice A221 n222 c223) 3 1 n222 (ic (Gm.paste (Gm.nB H 0) (Gm.nL H 0) B l)),blk g211 28 [((Gm.nB H 0).a:Int), ((Gm.nB H 0).b:Int), ((Gm.nB H 0).c:Int), ((Gm.nB H 0).d:Int), ((Gm.nB H 0).e:Int), ((Gm.nB H 0).f:Int), .slice A202 n203 c204],own (.slice A202 n203 c204) 3 1 n203 (ic (Gm.paste (Gm.nB H 0) (Gm.nL H 0) (Gm.nB F 0) (Gm.paste (Gm.nB F 0) (Gm.nL F 0) B l))),own (.slice A192 n193 c194) 3 1 n193 (ic l),own (.slice A185 n186 c187) 3 1 n186 (ic l),blk g99 28 [((Gm.nB B 0).a:Int), ((Gm.nB B 0).b:Int), ((Gm.nB B 0).c:Int), ((Gm.nB B 0).d:Int), ((Gm.nB B 0).e:Int), ((Gm.nB B 0).f:Int), .slice A90 n91 c92],own (.slice A90 n91 c92) 3 1 n91 (ic (Gm.paste (Gm.nB B 0) (Gm.nL B 0) B l)),blk g80 28 [((Gm.nB F 0).a:Int), ((Gm.nB F 0).b:Int), ((Gm.nB F 0).c:Int), ((Gm.nB F 0).d:Int), ((Gm.nB F 0).e:Int), ((Gm.nB F 0).f:Int), .slice A71 n72 c73],own (.slice A71 n72 c73) 3 1 n72 (ic (Gm.paste (Gm.nB F 0) (Gm.nL F 0) B l)),blk g41 23 [F.a, F.b, F.c, F.d, F.e, F.f, H.a, H.b, H.c, H.d, H.e, H.f, x, y, z],blk g27 28 [B.a, B.b, B.c, B.d, B.e, B.f, .slice A n c],blk g19 23 [x, y, z],blk g14 25 [H.a, H.b, H.c, H.d, H.e, H.f],blk g9 25 [F.a, F.b, F.c, F.d, F.e, F.f],blk g4 28 [B.a, B.b, B.c, B.d, B.e, B.f, .slice A n c]] U231):=Lib.hid hS_
            clear S227
            clear hg_ hu_ hS_ hg229
            refine wpG_store (none) rfl (by rfl) (fun W233 hg234=>⟨_,run_store_mid 28 (.tmp 16) (.tmp 106) rfl g230 0 #[((Gm.nB H 0).a:Int), ((Gm.nB H 0).b:Int), ((Gm.nB H 0).c:Int), ((Gm.nB H 0).d:Int), ((Gm.nB H 0).e:Int), ((Gm.nB H 0).f:Int), .slice A221 n222 c223] rfl rfl ((S232.out.gr hg234).room 0 rfl 0 7 (by simp)) (by kernel_rfl) (by kernel_rfl), ?_⟩)
            simp only [n2]
            obtain ⟨U235,hu_,hS_⟩:=((S232.out.gr hg234).put 0 rfl 0 (#[((Gm.nB H 0).a:Int), ((Gm.nB H 0).b:Int), ((Gm.nB H 0).c:Int), ((Gm.nB H 0).d:Int), ((Gm.nB H 0).e:Int), ((Gm.nB H 0).f:Int), .slice A221 n222 c223] : Array Value).toList (ds:=[((Gm.nB H 0).a:Int), ((Gm.nB H 0).b:Int), ((Gm.nB H 0).c:Int), ((Gm.nB H 0).d:Int), ((Gm.nB H 0).e:Int), ((Gm.nB H 0).f:Int), .slice A221 n222 c223]) rfl).named
            rw [← hu_]
            have S236 : Hid (St w noB [blk g230 28 [((Gm.nB H 0).a:Int), ((Gm.nB H 0).b:Int), ((Gm.nB H 0).c:Int), ((Gm.nB H 0).d:Int), ((Gm.nB H 0).e:Int), ((Gm.nB H 0).f:Int), .slice A221 n222 c223],own (.slice A221 n222 c223) 3 1 n222 (ic (Gm.paste (Gm.nB H 0) (Gm.nL H 0) B l)),blk g211 28 [((Gm.nB H 0).a:Int), ((Gm.nB H 0).b:Int), ((Gm.nB H 0).c:Int), ((Gm.nB H 0).d:Int), ((Gm.nB H 0).e:Int), ((Gm.nB H 0).f:Int), .slice A202 n203 c204],own (.slice A202 n203 c204) 3 1 n203 (ic (Gm.paste (Gm.nB H 0) (Gm.nL H 0) (Gm.nB F 0) (Gm.paste (Gm.nB F 0) (Gm.nL F 0) B l))),own (.slice A192 n193 c194) 3 1 n193 (ic l),own (.slice A185 n186 c187) 3 1 n186 (ic l),blk g99 28 [((Gm.nB B 0).a:Int), ((Gm.nB B 0).b:Int), ((Gm.nB B 0).c:Int), ((Gm.nB B 0).d:Int), ((Gm.nB B 0).e:Int), ((Gm.nB B 0).f:Int), .slice A90 n91 c92],own (.slice A90 n91 c92) 3 1 n91 (ic (Gm.paste (Gm.nB B 0) (Gm.nL B 0) B l)),blk g80 28 [((Gm.nB F 0).a:Int), ((Gm.nB F 0).b:Int), ((Gm.nB F 0).c:Int), ((Gm.nB F 0).d:Int), ((Gm.nB F 0).e:Int), ((Gm.nB F 0).f:Int), .slice A71 n72 c73],own (.slice A71 n72 c73) 3 1 n72 (ic (Gm.paste (Gm.nB F 0) (Gm.nL F 0) B l)),blk g41 23 [F.a, F.b, F.c, F.d, F.e, F.f, H.a, H.b, H.c, H.d, H.e, H.f, x, y, z],blk g27 28 [B.a, B.b, B.c, B.d, B.e, B.f, .slice A n c],blk g19 23 [x, y, z],blk g14 25 [H.a, H.b, H.c, H.d, H.e, H.f],blk g9 25 [F.a, F.b, F.c, F.d, F.e, F.f],blk g4 28 [B.a, B.b, B.c, B.d, B.e, B.f, .slice A n c]] U235):=Lib.hid hS_
            clear S232
            clear hu_ hS_ hg234
            refine @wpG_p _ _ _ _ _ (some 17) (Gm.nE H 0) _ _ rfl (by rfl) (fun _=>rfl) ?_
            simp only [n1,n3,n4]
            refine wpG_done (fun V237 hv238=>?_)
            have S239 : Hid (St w noB [blk g230 28 [((Gm.nB H 0).a:Int), ((Gm.nB H 0).b:Int), ((Gm.nB H 0).c:Int), ((Gm.nB H 0).d:Int), ((Gm.nB H 0).e:Int), ((Gm.nB H 0).f:Int), .slice A221 n222 c223],own (.slice A221 n222 c223) 3 1 n222 (ic (Gm.paste (Gm.nB H 0) (Gm.nL H 0) B l)),blk g211 28 [((Gm.nB H 0).a:Int), ((Gm.nB H 0).b:Int), ((Gm.nB H 0).c:Int), ((Gm.nB H 0).d:Int), ((Gm.nB H 0).e:Int), ((Gm.nB H 0).f:Int), .slice A202 n203 c204],own (.slice A202 n203 c204) 3 1 n203 (ic (Gm.paste (Gm.nB H 0) (Gm.nL H 0) (Gm.nB F 0) (Gm.paste (Gm.nB F 0) (Gm.nL F 0) B l))),own (.slice A192 n193 c194) 3 1 n193 (ic l),own (.slice A185 n186 c187) 3 1 n186 (ic l),blk g99 28 [((Gm.nB B 0).a:Int), ((Gm.nB B 0).b:Int), ((Gm.nB B 0).c:Int), ((Gm.nB B 0).d:Int), ((Gm.nB B 0).e:Int), ((Gm.nB B 0).f:Int), .slice A90 n91 c92],own (.slice A90 n91 c92) 3 1 n91 (ic (Gm.paste (Gm.nB B 0) (Gm.nL B 0) B l)),blk g80 28 [((Gm.nB F 0).a:Int), ((Gm.nB F 0).b:Int), ((Gm.nB F 0).c:Int), ((Gm.nB F 0).d:Int), ((Gm.nB F 0).e:Int), ((Gm.nB F 0).f:Int), .slice A71 n72 c73],own (.slice A71 n72 c73) 3 1 n72 (ic (Gm.paste (Gm.nB F 0) (Gm.nL F 0) B l)),blk g41 23 [F.a, F.b, F.c, F.d, F.e, F.f, H.a, H.b, H.c, H.d, H.e, H.f, x, y, z],blk g27 28 [B.a, B.b, B.c, B.d, B.e, B.f, .slice A n c],blk g19 23 [x, y, z],blk g14 25 [H.a, H.b, H.c, H.d, H.e, H.f],blk g9 25 [F.a, F.b, F.c, F.d, F.e, F.f],blk g4 28 [B.a, B.b, B.c, B.d, B.e, B.f, .slice A n c]] V237):=Lib.hid (S236.out.gr hv238)
            clear S236
            clear hv238
            refine ⟨rfl,hK _ _ ?_⟩
            clear hK
            go_upto_region 12 with fail
            refine wpG_region_k (fun K hK=>?_)
            refine @wpG_tk _ _ _ _ _ (some 108) (.bool true) _ _ rfl (.call (f:=11) (args:=#[]) (by rfl) (fun W=>by go_simp) (fun W hg=>(HSAN.out W (S239.out.gr hg).bel))) ?_
            simp only [n1,n3,n4]
            refine @wpG_p _ _ _ _ _ (some 109) (.bool true) _ _ rfl (by rfl) (fun _=>rfl) ?_
            simp only [n1,n3,n4]
            refine @wpG_p _ _ _ _ _ (some 110) (Gm.nE H 0) _ _ rfl (by rfl) (fun _=>rfl) ?_
            simp only [n1,n3,n4]
            have hz_H : Gm.nE H 0 = 0:=by have e_f38:=f38.out;have e_f52:=f52.out;have e_f184:=f184.out;exact Gm.nE_zero (⟨(Gm.near1_rp (Gm.nears_iff.1 e_f52 (H.a,H.b,H.c) (by simp))),(Gm.near1_rp (Gm.nears_iff.1 e_f52 (H.d,H.e,H.f) (by simp)))⟩ : Gm.Bx.rg H) (by have h_:=f70;simp at h_;omega)
            refine @wpG_p _ _ _ _ _ (some 111) (.bool true) _ _ rfl (by rfl) (fun W=>by have hq : (Gm.nE H 0 = 0):=(by omega);first | (go_simp;done) | (go_simp <;> omega)) ?_
            simp only [n1,n3,n4]
            refine @wpG_p _ _ _ _ _ (some 112) (.bool true) _ _ rfl (by rfl) (fun W=>by go_simp) ?_
            simp only [n1,n3,n4]
            refine @wpG_p _ _ _ _ _ (some 113) (.bool true) _ _ rfl (by rfl) (fun _=>rfl) ?_
            simp only [n1,n3,n4]
            refine @wpG_p _ _ _ _ _ (some 114) (Gm.nE H 0) _ _ rfl (by rfl) (fun _=>rfl) ?_
            simp only [n1,n3,n4]
            have hz_H : Gm.nE H 0 = 0:=by have e_f38:=f38.out;have e_f52:=f52.out;have e_f184:=f184.out;exact Gm.nE_zero (⟨(Gm.near1_rp (Gm.nears_iff.1 e_f52 (H.a,H.b,H.c) (by simp))),(Gm.near1_rp (Gm.nears_iff.1 e_f52 (H.d,H.e,H.f) (by simp)))⟩ : Gm.Bx.rg H) (by have h_:=f70;simp at h_;omega)
            refine @wpG_p _ _ _ _ _ (some 115) (.bool true) _ _ rfl (by rfl) (fun W=>by have hq : (Gm.nE H 0 = 0):=(by omega);first | (go_simp;done) | (go_simp <;> omega)) ?_
            simp only [n1,n3,n4]
            refine @wpG_p _ _ _ _ _ (some 116) (.bool true) _ _ rfl (by rfl) (fun W=>by go_simp) ?_
            simp only [n1,n3,n4]
            refine @wpG_p _ _ _ _ _ (some 117) (.bool true) _ _ rfl (by rfl) (fun _=>rfl) ?_
            simp only [n1,n3,n4]
            refine @wpG_tk _ _ _ _ _ (some 118) (.agg #[F.a, F.b, F.c, F.d, F.e, F.f]) _ _ rfl (.load_mid (by rfl) 25 (.tmp 5) rfl g9 0 rfl [F.a, F.b, F.c, F.d, F.e, F.f] _ (fun W hg=>(S239.out.gr hg).range 14 rfl 0 6 rfl) Tryd.underlying25 rfl (by kernel_rfl)) ?_
            simp only [n1,n3,n4]
            refine @wpG_tk _ _ _ _ _ (some 119) (.agg #[H.a, H.b, H.c, H.d, H.e, H.f]) _ _ rfl (.load_mid (by rfl) 25 (.tmp 6) rfl g14 0 rfl [H.a, H.b, H.c, H.d, H.e, H.f] _ (fun W hg=>(S239.out.gr hg).range 13 rfl 0 6 rfl) Tryd.underlying25 rfl (by kernel_rfl)) ?_
            simp only [n1,n3,n4]
            refine @wpG_tk _ _ _ _ _ (some 120) (.bool (conB F.a F.b F.c F.d F.e F.f H.a H.b H.c H.d H.e H.f)) _ _ rfl (.call (f:=34) (args:=#[.agg #[F.a, F.b, F.c, F.d, F.e, F.f], .agg #[H.a, H.b, H.c, H.d, H.e, H.f]]) (by rfl) (fun W=>by go_simp) (fun W hg=>rcontains_s F.a F.b F.c F.d F.e F.f H.a H.b H.c H.d H.e H.f W (Gm.rg12 (by have e_f38:=f38.out;have e_f52:=f52.out;have e_f184:=f184.out;exact (⟨(Gm.near1_rp (Gm.nears_iff.1 e_f52 (F.a,F.b,F.c) (by simp))),(Gm.near1_rp (Gm.nears_iff.1 e_f52 (F.d,F.e,F.f) (by simp)))⟩ : Gm.Bx.rg F)) (by have e_f38:=f38.out;have e_f52:=f52.out;have e_f184:=f184.out;exact (⟨(Gm.near1_rp (Gm.nears_iff.1 e_f52 (H.a,H.b,H.c) (by simp))),(Gm.near1_rp (Gm.nears_iff.1 e_f52 (H.d,H.e,H.f) (by simp)))⟩ : Gm.Bx.rg H))))) ?_
            simp only [n1,n3,n4]
            refine @wpG_p _ _ _ _ _ (some 121) (.bool (!(conB F.a F.b F.c F.d F.e F.f H.a H.b H.c H.d H.e H.f))) _ _ rfl (by rfl) (fun W=>by go_simp) ?_
            simp only [n1,n3,n4]
            refine @wpG_p _ _ _ _ _ (some 122) (.bool (!(conB F.a F.b F.c F.d F.e F.f H.a H.b H.c H.d H.e H.f))) _ _ rfl (by rfl) (fun _=>rfl) ?_
            simp only [n1,n3,n4]
            obtain ⟨c240,hc240⟩ : ∃ q_,q_ = (!(conB F.a F.b F.c F.d F.e F.f H.a H.b H.c H.d H.e H.f)):=⟨_,rfl⟩
            rw [← hc240]
            have Hc240:=Lib.hid hc240
            clear hc240
            cases c240 with
            | true =>
              have f241:=Lib.hid ((bnt Hc240.out))
              refine @wpG_no _ _ _ _ _ (some 123) _ _ rfl (by rfl) ?_
              simp only [n1,n3,n4]
              refine @wpG_no _ _ _ _ _ (some 124) _ _ rfl (by rfl) ?_
              simp only [n1,n3,n4]
              refine @wpG_no _ _ _ _ _ (some 125) _ _ rfl (by rfl) ?_
              simp only [n1,n3,n4]
              refine @wpG_p _ _ _ _ _ (some 126) (.bool true) _ _ rfl (by rfl) (fun W=>by go_simp) ?_
              simp only [n1,n3,n4]
              refine @wpG_p _ _ _ _ _ (some 127) (.bool true) _ _ rfl (by rfl) (fun W=>by go_simp) ?_
              simp only [n1,n3,n4]
              refine @wpG_p _ _ _ _ _ (some 8) (.bool true) _ _ rfl (by rfl) (fun _=>rfl) ?_
              simp only [n1,n3,n4]
              refine wpG_done (fun V242 hv243=>?_)
              have S244 : Hid (St w noB [blk g230 28 [((Gm.nB H 0).a:Int), ((Gm.nB H 0).b:Int), ((Gm.nB H 0).c:Int), ((Gm.nB H 0).d:Int), ((Gm.nB H 0).e:Int), ((Gm.nB H 0).f:Int), .slice A221 n222 c223],own (.slice A221 n222 c223) 3 1 n222 (ic (Gm.paste (Gm.nB H 0) (Gm.nL H 0) B l)),blk g211 28 [((Gm.nB H 0).a:Int), ((Gm.nB H 0).b:Int), ((Gm.nB H 0).c:Int), ((Gm.nB H 0).d:Int), ((Gm.nB H 0).e:Int), ((Gm.nB H 0).f:Int), .slice A202 n203 c204],own (.slice A202 n203 c204) 3 1 n203 (ic (Gm.paste (Gm.nB H 0) (Gm.nL H 0) (Gm.nB F 0) (Gm.paste (Gm.nB F 0) (Gm.nL F 0) B l))),own (.slice A192 n193 c194) 3 1 n193 (ic l),own (.slice A185 n186 c187) 3 1 n186 (ic l),blk g99 28 [((Gm.nB B 0).a:Int), ((Gm.nB B 0).b:Int), ((Gm.nB B 0).c:Int), ((Gm.nB B 0).d:Int), ((Gm.nB B 0).e:Int), ((Gm.nB B 0).f:Int), .slice A90 n91 c92],own (.slice A90 n91 c92) 3 1 n91 (ic (Gm.paste (Gm.nB B 0) (Gm.nL B 0) B l)),blk g80 28 [((Gm.nB F 0).a:Int), ((Gm.nB F 0).b:Int), ((Gm.nB F 0).c:Int), ((Gm.nB F 0).d:Int), ((Gm.nB F 0).e:Int), ((Gm.nB F 0).f:Int), .slice A71 n72 c73],own (.slice A71 n72 c73) 3 1 n72 (ic (Gm.paste (Gm.nB F 0) (Gm.nL F 0) B l)),blk g41 23 [F.a, F.b, F.c, F.d, F.e, F.f, H.a, H.b, H.c, H.d, H.e, H.f, x, y, z],blk g27 28 [B.a, B.b, B.c, B.d, B.e, B.f, .slice A n c],blk g19 23 [x, y, z],blk g14 25 [H.a, H.b, H.c, H.d, H.e, H.f],blk g9 25 [F.a, F.b, F.c, F.d, F.e, F.f],blk g4 28 [B.a, B.b, B.c, B.d, B.e, B.f, .slice A n c]] V242):=Lib.hid (S239.out.gr hv243)
              clear S239
              clear hv243
              refine ⟨rfl,hK _ _ ?_⟩
              clear hK
              go_wp2_with fail
              go_ret
              refine ⟨?_,S244.out.bel⟩
              show Ending.returned (.bool true) = _
              (first | rfl | (have e_f38:=f38.out;have e_f52:=f52.out;have e_f184:=f184.out;have e_f241:=f241.out;rfl))
            | false =>
              have f245:=Lib.hid ((bnf Hc240.out))
              refine @wpG_tk _ _ _ _ _ (some 123) (.agg #[((Gm.nB H 0).a:Int), ((Gm.nB H 0).b:Int), ((Gm.nB H 0).c:Int), ((Gm.nB H 0).d:Int), ((Gm.nB H 0).e:Int), ((Gm.nB H 0).f:Int), .slice A202 n203 c204]) _ _ rfl (.load_mid (by rfl) 28 (.tmp 14) rfl g211 0 rfl [((Gm.nB H 0).a:Int), ((Gm.nB H 0).b:Int), ((Gm.nB H 0).c:Int), ((Gm.nB H 0).d:Int), ((Gm.nB H 0).e:Int), ((Gm.nB H 0).f:Int), .slice A202 n203 c204] _ (fun W hg=>(S239.out.gr hg).range 2 rfl 0 7 rfl) Tryd.underlying28 rfl (by kernel_rfl)) ?_
              simp only [n1,n3,n4]
              refine @wpG_tk _ _ _ _ _ (some 124) (.agg #[((Gm.nB H 0).a:Int), ((Gm.nB H 0).b:Int), ((Gm.nB H 0).c:Int), ((Gm.nB H 0).d:Int), ((Gm.nB H 0).e:Int), ((Gm.nB H 0).f:Int), .slice A221 n222 c223]) _ _ rfl (.load_mid (by rfl) 28 (.tmp 16) rfl g230 0 rfl [((Gm.nB H 0).a:Int), ((Gm.nB H 0).b:Int), ((Gm.nB H 0).c:Int), ((Gm.nB H 0).d:Int), ((Gm.nB H 0).e:Int), ((Gm.nB H 0).f:Int), .slice A221 n222 c223] _ (fun W hg=>(S239.out.gr hg).range 0 rfl 0 7 rfl) Tryd.underlying28 rfl (by kernel_rfl)) ?_
              simp only [n1,n3,n4]
              refine @wpG_tk _ _ _ _ _ (some 125) (.bool true) _ _ rfl (.call (f:=26) (args:=#[.agg #[((Gm.nB H 0).a:Int), ((Gm.nB H 0).b:Int), ((Gm.nB H 0).c:Int), ((Gm.nB H 0).d:Int), ((Gm.nB H 0).e:Int), ((Gm.nB H 0).f:Int), .slice A202 n203 c204], .agg #[((Gm.nB H 0).a:Int), ((Gm.nB H 0).b:Int), ((Gm.nB H 0).c:Int), ((Gm.nB H 0).d:Int), ((Gm.nB H 0).e:Int), ((Gm.nB H 0).f:Int), .slice A221 n222 c223]]) (by rfl) (fun W=>by go_simp) (fun W hg=>((equal_any (Gm.nB H 0) _ _ _ (Gm.paste (Gm.nB H 0) (Gm.nL H 0) (Gm.nB F 0) (Gm.paste (Gm.nB F 0) (Gm.nL F 0) B l)) (Gm.nB H 0) _ _ _ (Gm.paste (Gm.nB H 0) (Gm.nL H 0) B l) W (SL.ofOwn ((S239.out.gr hg).ownr 3 rfl)) (SL.ofOwn ((S239.out.gr hg).ownr 1 rfl))).mono (fun e w' h=>⟨h.1.trans (by have e_f38:=f38.out;have e_f52:=f52.out;have e_f184:=f184.out;have e_f245:=f245.out;rw [Gm.same_iff.2 ⟨rfl,Gm.crop_crop (⟨(Gm.near1_rp (Gm.nears_iff.1 e_f52 (F.a,F.b,F.c) (by simp))),(Gm.near1_rp (Gm.nears_iff.1 e_f52 (F.d,F.e,F.f) (by simp)))⟩ : Gm.Bx.rg F) (by have h_:=f61;simp at h_;omega) (⟨(Gm.near1_rp (Gm.nears_iff.1 e_f52 (H.a,H.b,H.c) (by simp))),(Gm.near1_rp (Gm.nears_iff.1 e_f52 (H.d,H.e,H.f) (by simp)))⟩ : Gm.Bx.rg H) (by have h_:=f70;simp at h_;omega) (fun x y z=>Gm.con_in e_f245)⟩]),h.2⟩)))) ?_
              simp only [n1,n3,n4]
              refine @wpG_p _ _ _ _ _ (some 126) (.bool true) _ _ rfl (by rfl) (fun W=>by go_simp) ?_
              simp only [n1,n3,n4]
              refine @wpG_p _ _ _ _ _ (some 127) (.bool true) _ _ rfl (by rfl) (fun W=>by go_simp) ?_
              simp only [n1,n3,n4]
              refine @wpG_p _ _ _ _ _ (some 8) (.bool true) _ _ rfl (by rfl) (fun _=>rfl) ?_
              simp only [n1,n3,n4]
              refine wpG_done (fun V246 hv247=>?_)
              have S248 : Hid (St w noB [blk g230 28 [((Gm.nB H 0).a:Int), ((Gm.nB H 0).b:Int), ((Gm.nB H 0).c:Int), ((Gm.nB H 0).d:Int), ((Gm.nB H 0).e:Int), ((Gm.nB H 0).f:Int), .slice A221 n222 c223],own (.slice A221 n222 c223) 3 1 n222 (ic (Gm.paste (Gm.nB H 0) (Gm.nL H 0) B l)),blk g211 28 [((Gm.nB H 0).a:Int), ((Gm.nB H 0).b:Int), ((Gm.nB H 0).c:Int), ((Gm.nB H 0).d:Int), ((Gm.nB H 0).e:Int), ((Gm.nB H 0).f:Int), .slice A202 n203 c204],own (.slice A202 n203 c204) 3 1 n203 (ic (Gm.paste (Gm.nB H 0) (Gm.nL H 0) (Gm.nB F 0) (Gm.paste (Gm.nB F 0) (Gm.nL F 0) B l))),own (.slice A192 n193 c194) 3 1 n193 (ic l),own (.slice A185 n186 c187) 3 1 n186 (ic l),blk g99 28 [((Gm.nB B 0).a:Int), ((Gm.nB B 0).b:Int), ((Gm.nB B 0).c:Int), ((Gm.nB B 0).d:Int), ((Gm.nB B 0).e:Int), ((Gm.nB B 0).f:Int), .slice A90 n91 c92],own (.slice A90 n91 c92) 3 1 n91 (ic (Gm.paste (Gm.nB B 0) (Gm.nL B 0) B l)),blk g80 28 [((Gm.nB F 0).a:Int), ((Gm.nB F 0).b:Int), ((Gm.nB F 0).c:Int), ((Gm.nB F 0).d:Int), ((Gm.nB F 0).e:Int), ((Gm.nB F 0).f:Int), .slice A71 n72 c73],own (.slice A71 n72 c73) 3 1 n72 (ic (Gm.paste (Gm.nB F 0) (Gm.nL F 0) B l)),blk g41 23 [F.a, F.b, F.c, F.d, F.e, F.f, H.a, H.b, H.c, H.d, H.e, H.f, x, y, z],blk g27 28 [B.a, B.b, B.c, B.d, B.e, B.f, .slice A n c],blk g19 23 [x, y, z],blk g14 25 [H.a, H.b, H.c, H.d, H.e, H.f],blk g9 25 [F.a, F.b, F.c, F.d, F.e, F.f],blk g4 28 [B.a, B.b, B.c, B.d, B.e, B.f, .slice A n c]] V246):=Lib.hid (S239.out.gr hv247)
              clear S239
              clear hv247
              refine ⟨rfl,hK _ _ ?_⟩
              clear hK
              go_wp2_with fail
              go_ret
              refine ⟨?_,S248.out.bel⟩
              show Ending.returned (.bool true) = _
              (first | rfl | (have e_f38:=f38.out;have e_f52:=f52.out;have e_f184:=f184.out;have e_f245:=f245.out;rfl))

end Go.Proofs.YtjdeaopdbenamaaDoor
