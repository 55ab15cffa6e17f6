/-
  GridPastes: the walk.
-/
import Derived.Test.YtjdeaopdbenamaaDoorZD31
import Derived.Test.YtjdeaopdbenamaaDoorZD32
import Derived.Test.YtjdeaopdbenamaaDoorZD47
import Derived.Test.YtjdeaopdbenamaaDoorZD48
import Derived.Test.YtjdeaopdbenamaaDoorZD50
import Derived.Test.YtjdeaopdbenamaaDoorZD46
import Derived.Test.YtjdeaopdbenamaaDoorZD40
import Derived.Handy
namespace Go.Proofs.YtjdeaopdbenamaaDoor
open Go Go.RowKit
set_option linter.unusedVariables false
set_option linter.unusedSimpArgs false
set_option maxRecDepth 1000000 in
set_option maxHeartbeats 4000000 in
theorem law_gl4 (B : Gm.Bx) (A : Option Addr) (n c : Nat) (l : List Int) (C : Gm.Bx) (E : Option Addr) (ne ce : Nat) (m : List Int) (x y z : Int) (w : World) (hG : SL w 1 A n c (ic l)) (hG2 : SL w 1 E ne ce (ic m)) (hSan : ∀ W,Gr w W → Calls Tryd.prog 11 #[] W fun e w' => e = .returned (.bool true) ∧ Below W.heap.size W w') :
    Calls Tryd.prog 5 #[.agg #[.int .i64 B.a, .int .i64 B.b, .int .i64 B.c, .int .i64 B.d, .int .i64 B.e, .int .i64 B.f, .slice A n c], .agg #[.int .i64 C.a, .int .i64 C.b, .int .i64 C.c, .int .i64 C.d, .int .i64 C.e, .int .i64 C.f, .slice E ne ce], .agg #[.int .i64 x, .int .i64 y, .int .i64 z]] w fun e w' => e = .returned (.bool true) ∧ Below w.heap.size w w':=by
  have HGA:=Lib.hid hG
  have HLEN : Hid (l.length = n):=Lib.hid (by have h_:=hG.len;rw [ic_len] at h_;omega)
  have hnbHGA : n ≤ 9223372036854775807:=Nat.le_trans hG.cap hG.bnd
  clear hG
  have HGB:=Lib.hid hG2
  have HLEN2 : Hid (m.length = ne):=Lib.hid (by have h_:=hG2.len;rw [ic_len] at h_;omega)
  have hnbHGB : ne ≤ 9223372036854775807:=Nat.le_trans hG2.cap hG2.bnd
  clear hG2
  have HSAN:=Lib.hid hSan
  clear hSan
  have S1 : Hid (St w noB [] w):=Lib.hid (St.start w)
  go_enter Tryd.func5,Tryd.ntmps5
  go_upto_region 0 with fail
  refine wpG_region_k (fun K hK => ?_)
  refine wpG_val (some 3) rfl (by rfl) (fun W2 hg3 => ⟨.pointer (some ⟨W2.heap.size,0,none⟩),W2.alloc (.cells #[.int .i64 B.a, .int .i64 B.b, .int .i64 B.c, .int .i64 B.d, .int .i64 B.e, .int .i64 B.f, .slice A n c] 28),by (first | (go_simp;done) | (go_simp <;> rfl)), ?_⟩)
  simp only [n1,n3,n4]
  obtain ⟨g4,U5,hg_,hu_,hS_⟩:=(S1.out.gr hg3).made [.int .i64 B.a, .int .i64 B.b, .int .i64 B.c, .int .i64 B.d, .int .i64 B.e, .int .i64 B.f, .slice A n c] 28
  rw [← hu_,← hg_]
  have S6 : Hid (St w noB [blk g4 28 [.int .i64 B.a, .int .i64 B.b, .int .i64 B.c, .int .i64 B.d, .int .i64 B.e, .int .i64 B.f, .slice A n c]] U5):=Lib.hid hS_
  clear S1
  clear hg_ hu_ hS_ hg3
  refine wpG_val (some 4) rfl (by rfl) (fun W7 hg8 => ⟨.pointer (some ⟨W7.heap.size,0,none⟩),W7.alloc (.cells #[.int .i64 C.a, .int .i64 C.b, .int .i64 C.c, .int .i64 C.d, .int .i64 C.e, .int .i64 C.f, .slice E ne ce] 28),by (first | (go_simp;done) | (go_simp <;> rfl)), ?_⟩)
  simp only [n1,n3,n4]
  obtain ⟨g9,U10,hg_,hu_,hS_⟩:=(S6.out.gr hg8).made [.int .i64 C.a, .int .i64 C.b, .int .i64 C.c, .int .i64 C.d, .int .i64 C.e, .int .i64 C.f, .slice E ne ce] 28
  rw [← hu_,← hg_]
  have S11 : Hid (St w noB [blk g9 28 [.int .i64 C.a, .int .i64 C.b, .int .i64 C.c, .int .i64 C.d, .int .i64 C.e, .int .i64 C.f, .slice E ne ce],blk g4 28 [.int .i64 B.a, .int .i64 B.b, .int .i64 B.c, .int .i64 B.d, .int .i64 B.e, .int .i64 B.f, .slice A n c]] U10):=Lib.hid hS_
  clear S6
  clear hg_ hu_ hS_ hg8
  refine wpG_val (some 5) rfl (by rfl) (fun W12 hg13 => ⟨.pointer (some ⟨W12.heap.size,0,none⟩),W12.alloc (.cells #[.int .i64 x, .int .i64 y, .int .i64 z] 23),by (first | (go_simp;done) | (go_simp <;> rfl)), ?_⟩)
  simp only [n1,n3,n4]
  obtain ⟨g14,U15,hg_,hu_,hS_⟩:=(S11.out.gr hg13).made [.int .i64 x, .int .i64 y, .int .i64 z] 23
  rw [← hu_,← hg_]
  have S16 : Hid (St w noB [blk g14 23 [.int .i64 x, .int .i64 y, .int .i64 z],blk g9 28 [.int .i64 C.a, .int .i64 C.b, .int .i64 C.c, .int .i64 C.d, .int .i64 C.e, .int .i64 C.f, .slice E ne ce],blk g4 28 [.int .i64 B.a, .int .i64 B.b, .int .i64 B.c, .int .i64 B.d, .int .i64 B.e, .int .i64 B.f, .slice A n c]] U15):=Lib.hid hS_
  clear S11
  clear hg_ hu_ hS_ hg13
  refine @wpG_p _ _ _ _ _ (some 6) (.bool false) _ _ rfl (by rfl) (fun _ => rfl) ?_
  simp only [n1,n3,n4]
  refine wpG_done (fun V17 hv18 => ?_)
  have S19 : Hid (St w noB [blk g14 23 [.int .i64 x, .int .i64 y, .int .i64 z],blk g9 28 [.int .i64 C.a, .int .i64 C.b, .int .i64 C.c, .int .i64 C.d, .int .i64 C.e, .int .i64 C.f, .slice E ne ce],blk g4 28 [.int .i64 B.a, .int .i64 B.b, .int .i64 B.c, .int .i64 B.d, .int .i64 B.e, .int .i64 B.f, .slice A n c]] V17):=Lib.hid (S16.out.gr hv18)
  clear S16
  clear hv18
  refine ⟨rfl,hK _ _ ?_⟩
  clear hK
  go_upto_region 1 with fail
  refine wpG_region_k (fun K hK => ?_)
  refine @wpG_tk _ _ _ _ _ (some 10) (.agg #[.int .i64 B.a, .int .i64 B.b, .int .i64 B.c, .int .i64 B.d, .int .i64 B.e, .int .i64 B.f, .slice A n c]) _ _ rfl (.load_mid (by rfl) 28 (.tmp 3) rfl g4 0 rfl [.int .i64 B.a, .int .i64 B.b, .int .i64 B.c, .int .i64 B.d, .int .i64 B.e, .int .i64 B.f, .slice A n c] _ (fun W hg => (S19.out.gr hg).range 2 rfl 0 7 rfl) Tryd.underlying28 rfl (by kernel_rfl)) ?_
  simp only [n1,n3,n4]
  refine @wpG_tk _ _ _ _ _ (some 11) (.agg #[.int .i64 C.a, .int .i64 C.b, .int .i64 C.c, .int .i64 C.d, .int .i64 C.e, .int .i64 C.f, .slice E ne ce]) _ _ rfl (.load_mid (by rfl) 28 (.tmp 4) rfl g9 0 rfl [.int .i64 C.a, .int .i64 C.b, .int .i64 C.c, .int .i64 C.d, .int .i64 C.e, .int .i64 C.f, .slice E ne ce] _ (fun W hg => (S19.out.gr hg).range 1 rfl 0 7 rfl) Tryd.underlying28 rfl (by kernel_rfl)) ?_
  simp only [n1,n3,n4]
  refine wpG_val (some 12) rfl (by rfl) (fun W20 hg21 => ⟨.slice (some ⟨W20.heap.size,0,none⟩) 2 2,W20.alloc (.cells #[.int .i64 B.a, .int .i64 B.b, .int .i64 B.c, .int .i64 B.d, .int .i64 B.e, .int .i64 B.f, .slice A n c, .int .i64 C.a, .int .i64 C.b, .int .i64 C.c, .int .i64 C.d, .int .i64 C.e, .int .i64 C.f, .slice E ne ce] 28),by (go_simp <;> rfl), ?_⟩)
  simp only [n1,n3,n4]
  obtain ⟨g22,U23,hg_,hu_,hS_⟩:=(S19.out.gr hg21).made [.int .i64 B.a, .int .i64 B.b, .int .i64 B.c, .int .i64 B.d, .int .i64 B.e, .int .i64 B.f, .slice A n c, .int .i64 C.a, .int .i64 C.b, .int .i64 C.c, .int .i64 C.d, .int .i64 C.e, .int .i64 C.f, .slice E ne ce] 28
  rw [← hu_,← hg_]
  have S24 : Hid (St w noB [blk g22 28 [.int .i64 B.a, .int .i64 B.b, .int .i64 B.c, .int .i64 B.d, .int .i64 B.e, .int .i64 B.f, .slice A n c, .int .i64 C.a, .int .i64 C.b, .int .i64 C.c, .int .i64 C.d, .int .i64 C.e, .int .i64 C.f, .slice E ne ce],blk g14 23 [.int .i64 x, .int .i64 y, .int .i64 z],blk g9 28 [.int .i64 C.a, .int .i64 C.b, .int .i64 C.c, .int .i64 C.d, .int .i64 C.e, .int .i64 C.f, .slice E ne ce],blk g4 28 [.int .i64 B.a, .int .i64 B.b, .int .i64 B.c, .int .i64 B.d, .int .i64 B.e, .int .i64 B.f, .slice A n c]] U23):=Lib.hid hS_
  clear S19
  clear hg_ hu_ hS_ hg21
  refine @wpG_tk _ _ _ _ _ (some 13) (.bool (Gm.fw B l && Gm.fw C m)) _ _ rfl (.call (f:=19) (args:=#[.slice (some ⟨g22,0,none⟩) 2 2]) (by rfl) (fun W => by go_simp) (fun W hg => few2_any B _ _ _ l C _ _ _ m _ _ W (SL.ofBlk (S24.out.gr hg) 0 rfl 7 2 ([.int .i64 B.a, .int .i64 B.b, .int .i64 B.c, .int .i64 B.d, .int .i64 B.e, .int .i64 B.f, .slice A n c] ++ [.int .i64 C.a, .int .i64 C.b, .int .i64 C.c, .int .i64 C.d, .int .i64 C.e, .int .i64 C.f, .slice E ne ce]) rfl rfl (by decide)) (HGA.out.gr (S24.out.gr hg).bel) (HGB.out.gr (S24.out.gr hg).bel))) ?_
  simp only [n1,n3,n4]
  refine @wpG_p _ _ _ _ _ (some 14) (.bool (!(Gm.fw B l && Gm.fw C m))) _ _ rfl (by rfl) (fun W => by go_simp) ?_
  simp only [n1,n3,n4]
  refine @wpG_p _ _ _ _ _ (some 15) (.bool (!(Gm.fw B l && Gm.fw C m))) _ _ rfl (by rfl) (fun _ => rfl) ?_
  simp only [n1,n3,n4]
  obtain ⟨c25,hc25⟩ : ∃ q_,q_ = (!(Gm.fw B l && Gm.fw C m)):=⟨_,rfl⟩
  rw [← hc25]
  have Hc25:=Lib.hid hc25
  clear hc25
  cases c25 with
  | true =>
    have f26:=Lib.hid ((bnt Hc25.out))
    refine @wpG_no _ _ _ _ _ (some 16) _ _ rfl (by rfl) ?_
    simp only [n1,n3,n4]
    refine @wpG_no _ _ _ _ _ (some 17) _ _ rfl (by rfl) ?_
    simp only [n1,n3,n4]
    refine @wpG_no _ _ _ _ _ (some 18) _ _ rfl (by rfl) ?_
    simp only [n1,n3,n4]
    refine @wpG_no _ _ _ _ _ (some 19) _ _ rfl (by rfl) ?_
    simp only [n1,n3,n4]
    refine @wpG_p _ _ _ _ _ (some 20) (.bool true) _ _ rfl (by rfl) (fun W => by go_simp) ?_
    simp only [n1,n3,n4]
    refine wpG_done (fun V27 hv28 => ?_)
    have S29 : Hid (St w noB [blk g22 28 [.int .i64 B.a, .int .i64 B.b, .int .i64 B.c, .int .i64 B.d, .int .i64 B.e, .int .i64 B.f, .slice A n c, .int .i64 C.a, .int .i64 C.b, .int .i64 C.c, .int .i64 C.d, .int .i64 C.e, .int .i64 C.f, .slice E ne ce],blk g14 23 [.int .i64 x, .int .i64 y, .int .i64 z],blk g9 28 [.int .i64 C.a, .int .i64 C.b, .int .i64 C.c, .int .i64 C.d, .int .i64 C.e, .int .i64 C.f, .slice E ne ce],blk g4 28 [.int .i64 B.a, .int .i64 B.b, .int .i64 B.c, .int .i64 B.d, .int .i64 B.e, .int .i64 B.f, .slice A n c]] V27):=Lib.hid (S24.out.gr hv28)
    clear S24
    clear hv28
    refine ⟨rfl,hK _ _ ?_⟩
    clear hK
    go_upto_region 2 with fail
    refine wpG_region_k (fun K hK => ?_)
    refine @wpG_tk _ _ _ _ _ (some 21) (.bool true) _ _ rfl (.call (f:=11) (args:=#[]) (by rfl) (fun W => by go_simp) (fun W hg => (HSAN.out W (S29.out.gr hg).bel))) ?_
    simp only [n1,n3,n4]
    refine @wpG_p _ _ _ _ _ (some 6) (.bool true) _ _ rfl (by rfl) (fun _ => rfl) ?_
    simp only [n1,n3,n4]
    refine wpG_done (fun V30 hv31 => ?_)
    have S32 : Hid (St w noB [blk g22 28 [.int .i64 B.a, .int .i64 B.b, .int .i64 B.c, .int .i64 B.d, .int .i64 B.e, .int .i64 B.f, .slice A n c, .int .i64 C.a, .int .i64 C.b, .int .i64 C.c, .int .i64 C.d, .int .i64 C.e, .int .i64 C.f, .slice E ne ce],blk g14 23 [.int .i64 x, .int .i64 y, .int .i64 z],blk g9 28 [.int .i64 C.a, .int .i64 C.b, .int .i64 C.c, .int .i64 C.d, .int .i64 C.e, .int .i64 C.f, .slice E ne ce],blk g4 28 [.int .i64 B.a, .int .i64 B.b, .int .i64 B.c, .int .i64 B.d, .int .i64 B.e, .int .i64 B.f, .slice A n c]] V30):=Lib.hid (S29.out.gr hv31)
    clear S29
    clear hv31
    refine ⟨rfl,hK _ _ ?_⟩
    clear hK
    go_wp2_with fail
    go_ret
    refine ⟨?_,S32.out.bel⟩
    show Ending.returned (.bool true) = _
    (first | rfl | (have e_f26:=f26.out;rfl))
  | false =>
    have f33:=Lib.hid ((bnf Hc25.out))
    refine @wpG_tk _ _ _ _ _ (some 16) (.agg #[.int .i64 x, .int .i64 y, .int .i64 z]) _ _ rfl (.load_mid (by rfl) 23 (.tmp 5) rfl g14 0 rfl [.int .i64 x, .int .i64 y, .int .i64 z] _ (fun W hg => (S24.out.gr hg).range 1 rfl 0 3 rfl) Tryd.underlying23 rfl (by kernel_rfl)) ?_
    simp only [n1,n3,n4]
    refine wpG_val (some 17) rfl (by rfl) (fun W34 hg35 => ⟨.slice (some ⟨W34.heap.size,0,none⟩) 1 1,W34.alloc (.cells #[.int .i64 x, .int .i64 y, .int .i64 z] 23),by (go_simp <;> rfl), ?_⟩)
    simp only [n1,n3,n4]
    obtain ⟨g36,U37,hg_,hu_,hS_⟩:=(S24.out.gr hg35).made [.int .i64 x, .int .i64 y, .int .i64 z] 23
    rw [← hu_,← hg_]
    have S38 : Hid (St w noB [blk g36 23 [.int .i64 x, .int .i64 y, .int .i64 z],blk g22 28 [.int .i64 B.a, .int .i64 B.b, .int .i64 B.c, .int .i64 B.d, .int .i64 B.e, .int .i64 B.f, .slice A n c, .int .i64 C.a, .int .i64 C.b, .int .i64 C.c, .int .i64 C.d, .int .i64 C.e, .int .i64 C.f, .slice E ne ce],blk g14 23 [.int .i64 x, .int .i64 y, .int .i64 z],blk g9 28 [.int .i64 C.a, .int .i64 C.b, .int .i64 C.c, .int .i64 C.d, .int .i64 C.e, .int .i64 C.f, .slice E ne ce],blk g4 28 [.int .i64 B.a, .int .i64 B.b, .int .i64 B.c, .int .i64 B.d, .int .i64 B.e, .int .i64 B.f, .slice A n c]] U37):=Lib.hid hS_
    clear S24
    clear hg_ hu_ hS_ hg35
    refine @wpG_tk _ _ _ _ _ (some 18) (.bool (Gm.nears [(x,y,z)])) _ _ rfl (.call (f:=20) (args:=#[.slice (some ⟨g36,0,none⟩) 1 1]) (by rfl) (fun W => by go_simp) (fun W hg => near_any _ _ _ [(x,y,z)] W (SL.ofBlk (S38.out.gr hg) 0 rfl 3 1 (pcs [(x,y,z)]) rfl rfl (by decide)))) ?_
    simp only [n1,n3,n4]
    refine @wpG_p _ _ _ _ _ (some 19) (.bool (!(Gm.nears [(x,y,z)]))) _ _ rfl (by rfl) (fun W => by go_simp) ?_
    simp only [n1,n3,n4]
    refine @wpG_p _ _ _ _ _ (some 20) (.bool (!(Gm.nears [(x,y,z)]))) _ _ rfl (by rfl) (fun W => by go_simp) ?_
    simp only [n1,n3,n4]
    refine wpG_done (fun V39 hv40 => ?_)
    have S41 : Hid (St w noB [blk g36 23 [.int .i64 x, .int .i64 y, .int .i64 z],blk g22 28 [.int .i64 B.a, .int .i64 B.b, .int .i64 B.c, .int .i64 B.d, .int .i64 B.e, .int .i64 B.f, .slice A n c, .int .i64 C.a, .int .i64 C.b, .int .i64 C.c, .int .i64 C.d, .int .i64 C.e, .int .i64 C.f, .slice E ne ce],blk g14 23 [.int .i64 x, .int .i64 y, .int .i64 z],blk g9 28 [.int .i64 C.a, .int .i64 C.b, .int .i64 C.c, .int .i64 C.d, .int .i64 C.e, .int .i64 C.f, .slice E ne ce],blk g4 28 [.int .i64 B.a, .int .i64 B.b, .int .i64 B.c, .int .i64 B.d, .int .i64 B.e, .int .i64 B.f, .slice A n c]] V39):=Lib.hid (S38.out.gr hv40)
    clear S38
    clear hv40
    refine ⟨rfl,hK _ _ ?_⟩
    clear hK
    obtain ⟨c42,hc42⟩ : ∃ q_,q_ = (!(Gm.nears [(x,y,z)])):=⟨_,rfl⟩
    rw [← hc42]
    have Hc42:=Lib.hid hc42
    clear hc42
    cases c42 with
    | true =>
      have f43:=Lib.hid ((bnt Hc42.out))
      go_upto_region 2 with fail
      refine wpG_region_k (fun K hK => ?_)
      refine @wpG_tk _ _ _ _ _ (some 21) (.bool true) _ _ rfl (.call (f:=11) (args:=#[]) (by rfl) (fun W => by go_simp) (fun W hg => (HSAN.out W (S41.out.gr hg).bel))) ?_
      simp only [n1,n3,n4]
      refine @wpG_p _ _ _ _ _ (some 6) (.bool true) _ _ rfl (by rfl) (fun _ => rfl) ?_
      simp only [n1,n3,n4]
      refine wpG_done (fun V44 hv45 => ?_)
      have S46 : Hid (St w noB [blk g36 23 [.int .i64 x, .int .i64 y, .int .i64 z],blk g22 28 [.int .i64 B.a, .int .i64 B.b, .int .i64 B.c, .int .i64 B.d, .int .i64 B.e, .int .i64 B.f, .slice A n c, .int .i64 C.a, .int .i64 C.b, .int .i64 C.c, .int .i64 C.d, .int .i64 C.e, .int .i64 C.f, .slice E ne ce],blk g14 23 [.int .i64 x, .int .i64 y, .int .i64 z],blk g9 28 [.int .i64 C.a, .int .i64 C.b, .int .i64 C.c, .int .i64 C.d, .int .i64 C.e, .int .i64 C.f, .slice E ne ce],blk g4 28 [.int .i64 B.a, .int .i64 B.b, .int .i64 B.c, .int .i64 B.d, .int .i64 B.e, .int .i64 B.f, .slice A n c]] V44):=Lib.hid (S41.out.gr hv45)
      clear S41
      clear hv45
      refine ⟨rfl,hK _ _ ?_⟩
      clear hK
      go_wp2_with fail
      go_ret
      refine ⟨?_,S46.out.bel⟩
      show Ending.returned (.bool true) = _
      (first | rfl | (have e_f33:=f33.out;have e_f43:=f43.out;rfl))
    | false =>
      have f47:=Lib.hid ((bnf Hc42.out))
      go_upto_region 3 with fail
      refine wpG_region_k (fun K hK => ?_)
      refine @wpG_tk _ _ _ _ _ (some 22) (.agg #[.int .i64 B.a, .int .i64 B.b, .int .i64 B.c, .int .i64 B.d, .int .i64 B.e, .int .i64 B.f, .slice A n c]) _ _ rfl (.load_mid (by rfl) 28 (.tmp 3) rfl g4 0 rfl [.int .i64 B.a, .int .i64 B.b, .int .i64 B.c, .int .i64 B.d, .int .i64 B.e, .int .i64 B.f, .slice A n c] _ (fun W hg => (S41.out.gr hg).range 4 rfl 0 7 rfl) Tryd.underlying28 rfl (by kernel_rfl)) ?_
      simp only [n1,n3,n4]
      refine @wpG_tk _ _ _ _ _ (some 23) (.agg #[.int .i64 C.a, .int .i64 C.b, .int .i64 C.c, .int .i64 C.d, .int .i64 C.e, .int .i64 C.f, .slice E ne ce]) _ _ rfl (.load_mid (by rfl) 28 (.tmp 4) rfl g9 0 rfl [.int .i64 C.a, .int .i64 C.b, .int .i64 C.c, .int .i64 C.d, .int .i64 C.e, .int .i64 C.f, .slice E ne ce] _ (fun W hg => (S41.out.gr hg).range 3 rfl 0 7 rfl) Tryd.underlying28 rfl (by kernel_rfl)) ?_
      simp only [n1,n3,n4]
      refine wpG_call (some 24) 24 #[.agg #[.int .i64 B.a, .int .i64 B.b, .int .i64 B.c, .int .i64 B.d, .int .i64 B.e, .int .i64 B.f, .slice A n c], .agg #[.int .i64 C.a, .int .i64 C.b, .int .i64 C.c, .int .i64 C.d, .int .i64 C.e, .int .i64 C.f, .slice E ne ce]] rfl (by rfl) (fun W => by go_simp) (fun W51 hg52 => ?_)
      refine (paste_any B _ _ _ l C _ _ _ m W51 (HGA.out.gr (S41.out.gr hg52).bel) (HGB.out.gr (S41.out.gr hg52).bel) (by have e_f33:=f33.out;have e_f47:=f47.out;have a_:=e_f33;rw [Bool.and_eq_true] at a_;exact (Gm.fw_of a_.1).2.1.ok) (by have e_f33:=f33.out;have e_f47:=f47.out;have a_:=e_f33;rw [Bool.and_eq_true] at a_;exact (Gm.fw_of a_.2).2.1.ok)).mono ?_
      rintro e w53 ⟨A48,n49,c50,rfl,hS_⟩
      refine ⟨_,rfl, ?_⟩
      have hT_:=(S41.out.gr hg52).got hS_
      simp only [n1,n3,n4]
      have S54 : Hid (St w noB [own (.slice A48 n49 c50) 3 1 n49 (ic (Gm.paste B l C m)),blk g36 23 [.int .i64 x, .int .i64 y, .int .i64 z],blk g22 28 [.int .i64 B.a, .int .i64 B.b, .int .i64 B.c, .int .i64 B.d, .int .i64 B.e, .int .i64 B.f, .slice A n c, .int .i64 C.a, .int .i64 C.b, .int .i64 C.c, .int .i64 C.d, .int .i64 C.e, .int .i64 C.f, .slice E ne ce],blk g14 23 [.int .i64 x, .int .i64 y, .int .i64 z],blk g9 28 [.int .i64 C.a, .int .i64 C.b, .int .i64 C.c, .int .i64 C.d, .int .i64 C.e, .int .i64 C.f, .slice E ne ce],blk g4 28 [.int .i64 B.a, .int .i64 B.b, .int .i64 B.c, .int .i64 B.d, .int .i64 B.e, .int .i64 B.f, .slice A n c]] w53):=Lib.hid hT_
      clear S41
      clear hT_ hS_ hg52
      have hnn49 : n49 ≤ (Gm.paste B l C m).length ∧ (Gm.paste B l C m).length ≤ n49:=by have h_:=own_icl (S54.out.ownr 0 rfl);omega
      refine wpG_val (some 7) rfl (by rfl) (fun W55 hg56 => ⟨.pointer (some ⟨W55.heap.size,0,none⟩),W55.alloc (.cells #[.int .i64 0, .int .i64 0, .int .i64 0, .int .i64 0, .int .i64 0, .int .i64 0, .slice none 0 0] 28),by (first | (go_simp;done) | (go_simp <;> rfl)), ?_⟩)
      simp only [n1,n3,n4]
      obtain ⟨g57,U58,hg_,hu_,hS_⟩:=(S54.out.gr hg56).made [.int .i64 0, .int .i64 0, .int .i64 0, .int .i64 0, .int .i64 0, .int .i64 0, .slice none 0 0] 28
      rw [← hu_,← hg_]
      have S59 : Hid (St w noB [blk g57 28 [.int .i64 0, .int .i64 0, .int .i64 0, .int .i64 0, .int .i64 0, .int .i64 0, .slice none 0 0],own (.slice A48 n49 c50) 3 1 n49 (ic (Gm.paste B l C m)),blk g36 23 [.int .i64 x, .int .i64 y, .int .i64 z],blk g22 28 [.int .i64 B.a, .int .i64 B.b, .int .i64 B.c, .int .i64 B.d, .int .i64 B.e, .int .i64 B.f, .slice A n c, .int .i64 C.a, .int .i64 C.b, .int .i64 C.c, .int .i64 C.d, .int .i64 C.e, .int .i64 C.f, .slice E ne ce],blk g14 23 [.int .i64 x, .int .i64 y, .int .i64 z],blk g9 28 [.int .i64 C.a, .int .i64 C.b, .int .i64 C.c, .int .i64 C.d, .int .i64 C.e, .int .i64 C.f, .slice E ne ce],blk g4 28 [.int .i64 B.a, .int .i64 B.b, .int .i64 B.c, .int .i64 B.d, .int .i64 B.e, .int .i64 B.f, .slice A n c]] U58):=Lib.hid hS_
      clear S54
      clear hg_ hu_ hS_ hg56
      refine wpG_store (none) rfl (by rfl) (fun W60 hg61 => ⟨_,run_store_mid 28 (.tmp 7) (.tmp 24) rfl g57 0 #[.int .i64 B.a, .int .i64 B.b, .int .i64 B.c, .int .i64 B.d, .int .i64 B.e, .int .i64 B.f, .slice A48 n49 c50] rfl rfl ((S59.out.gr hg61).room 0 rfl 0 7 (by simp)) (by kernel_rfl) (by kernel_rfl), ?_⟩)
      simp only [n2]
      obtain ⟨U62,hu_,hS_⟩:=((S59.out.gr hg61).put 0 rfl 0 (#[.int .i64 B.a, .int .i64 B.b, .int .i64 B.c, .int .i64 B.d, .int .i64 B.e, .int .i64 B.f, .slice A48 n49 c50] : Array Value).toList (ds:=[.int .i64 B.a, .int .i64 B.b, .int .i64 B.c, .int .i64 B.d, .int .i64 B.e, .int .i64 B.f, .slice A48 n49 c50]) rfl).named
      rw [← hu_]
      have S63 : Hid (St w noB [blk g57 28 [.int .i64 B.a, .int .i64 B.b, .int .i64 B.c, .int .i64 B.d, .int .i64 B.e, .int .i64 B.f, .slice A48 n49 c50],own (.slice A48 n49 c50) 3 1 n49 (ic (Gm.paste B l C m)),blk g36 23 [.int .i64 x, .int .i64 y, .int .i64 z],blk g22 28 [.int .i64 B.a, .int .i64 B.b, .int .i64 B.c, .int .i64 B.d, .int .i64 B.e, .int .i64 B.f, .slice A n c, .int .i64 C.a, .int .i64 C.b, .int .i64 C.c, .int .i64 C.d, .int .i64 C.e, .int .i64 C.f, .slice E ne ce],blk g14 23 [.int .i64 x, .int .i64 y, .int .i64 z],blk g9 28 [.int .i64 C.a, .int .i64 C.b, .int .i64 C.c, .int .i64 C.d, .int .i64 C.e, .int .i64 C.f, .slice E ne ce],blk g4 28 [.int .i64 B.a, .int .i64 B.b, .int .i64 B.c, .int .i64 B.d, .int .i64 B.e, .int .i64 B.f, .slice A n c]] U62):=Lib.hid hS_
      clear S59
      clear hu_ hS_ hg61
      refine wpG_done (fun V64 hv65 => ?_)
      have S66 : Hid (St w noB [blk g57 28 [.int .i64 B.a, .int .i64 B.b, .int .i64 B.c, .int .i64 B.d, .int .i64 B.e, .int .i64 B.f, .slice A48 n49 c50],own (.slice A48 n49 c50) 3 1 n49 (ic (Gm.paste B l C m)),blk g36 23 [.int .i64 x, .int .i64 y, .int .i64 z],blk g22 28 [.int .i64 B.a, .int .i64 B.b, .int .i64 B.c, .int .i64 B.d, .int .i64 B.e, .int .i64 B.f, .slice A n c, .int .i64 C.a, .int .i64 C.b, .int .i64 C.c, .int .i64 C.d, .int .i64 C.e, .int .i64 C.f, .slice E ne ce],blk g14 23 [.int .i64 x, .int .i64 y, .int .i64 z],blk g9 28 [.int .i64 C.a, .int .i64 C.b, .int .i64 C.c, .int .i64 C.d, .int .i64 C.e, .int .i64 C.f, .slice E ne ce],blk g4 28 [.int .i64 B.a, .int .i64 B.b, .int .i64 B.c, .int .i64 B.d, .int .i64 B.e, .int .i64 B.f, .slice A n c]] V64):=Lib.hid (S63.out.gr hv65)
      clear S63
      clear hv65
      refine ⟨rfl,hK _ _ ?_⟩
      clear hK
      go_upto_region 4 with fail
      refine wpG_region_k (fun K hK => ?_)
      refine @wpG_tk _ _ _ _ _ (some 25) (.agg #[.int .i64 B.a, .int .i64 B.b, .int .i64 B.c, .int .i64 B.d, .int .i64 B.e, .int .i64 B.f, .slice A n c]) _ _ rfl (.load_mid (by rfl) 28 (.tmp 3) rfl g4 0 rfl [.int .i64 B.a, .int .i64 B.b, .int .i64 B.c, .int .i64 B.d, .int .i64 B.e, .int .i64 B.f, .slice A n c] _ (fun W hg => (S66.out.gr hg).range 6 rfl 0 7 rfl) Tryd.underlying28 rfl (by kernel_rfl)) ?_
      simp only [n1,n3,n4]
      refine @wpG_tk _ _ _ _ _ (some 26) (.agg #[.int .i64 x, .int .i64 y, .int .i64 z]) _ _ rfl (.load_mid (by rfl) 23 (.tmp 5) rfl g14 0 rfl [.int .i64 x, .int .i64 y, .int .i64 z] _ (fun W hg => (S66.out.gr hg).range 4 rfl 0 3 rfl) Tryd.underlying23 rfl (by kernel_rfl)) ?_
      simp only [n1,n3,n4]
      refine @wpG_tk _ _ _ _ _ (some 27) (.int .i64 (Gm.get B l x y z)) _ _ rfl (.call (f:=21) (args:=#[.agg #[.int .i64 B.a, .int .i64 B.b, .int .i64 B.c, .int .i64 B.d, .int .i64 B.e, .int .i64 B.f, .slice A n c], .agg #[.int .i64 x, .int .i64 y, .int .i64 z]]) (by rfl) (fun W => by go_simp) (fun W hg => get_any B _ _ _ l x y z W (HGA.out.gr (S66.out.gr hg).bel) (by have e_f33:=f33.out;have e_f47:=f47.out;have a_:=e_f33;rw [Bool.and_eq_true] at a_;exact (Gm.fw_of a_.1).2.1.ok) (by have e_f33:=f33.out;have e_f47:=f47.out;exact Gm.near1_rp (Gm.nears_iff.1 e_f47 _ (by simp))))) ?_
      simp only [n1,n3,n4]
      refine @wpG_p _ _ _ _ _ (some 8) (.int .i64 (Gm.get B l x y z)) _ _ rfl (by rfl) (fun _ => rfl) ?_
      simp only [n1,n3,n4]
      refine wpG_done (fun V67 hv68 => ?_)
      have S69 : Hid (St w noB [blk g57 28 [.int .i64 B.a, .int .i64 B.b, .int .i64 B.c, .int .i64 B.d, .int .i64 B.e, .int .i64 B.f, .slice A48 n49 c50],own (.slice A48 n49 c50) 3 1 n49 (ic (Gm.paste B l C m)),blk g36 23 [.int .i64 x, .int .i64 y, .int .i64 z],blk g22 28 [.int .i64 B.a, .int .i64 B.b, .int .i64 B.c, .int .i64 B.d, .int .i64 B.e, .int .i64 B.f, .slice A n c, .int .i64 C.a, .int .i64 C.b, .int .i64 C.c, .int .i64 C.d, .int .i64 C.e, .int .i64 C.f, .slice E ne ce],blk g14 23 [.int .i64 x, .int .i64 y, .int .i64 z],blk g9 28 [.int .i64 C.a, .int .i64 C.b, .int .i64 C.c, .int .i64 C.d, .int .i64 C.e, .int .i64 C.f, .slice E ne ce],blk g4 28 [.int .i64 B.a, .int .i64 B.b, .int .i64 B.c, .int .i64 B.d, .int .i64 B.e, .int .i64 B.f, .slice A n c]] V67):=Lib.hid (S66.out.gr hv68)
      clear S66
      clear hv68
      refine ⟨rfl,hK _ _ ?_⟩
      clear hK
      go_upto_region 5 with fail
      refine wpG_region_k (fun K hK => ?_)
      refine @wpG_tk _ _ _ _ _ (some 28) (.agg #[.int .i64 x, .int .i64 y, .int .i64 z]) _ _ rfl (.load_mid (by rfl) 23 (.tmp 5) rfl g14 0 rfl [.int .i64 x, .int .i64 y, .int .i64 z] _ (fun W hg => (S69.out.gr hg).range 4 rfl 0 3 rfl) Tryd.underlying23 rfl (by kernel_rfl)) ?_
      simp only [n1,n3,n4]
      refine @wpG_p _ _ _ _ _ (some 29) (.pointer (some ⟨g4,0,none⟩)) _ _ rfl (by rfl) (fun W => by go_simp) ?_
      simp only [n1,n3,n4]
      refine @wpG_tk _ _ _ _ _ (some 30) (.agg #[.int .i64 B.a, .int .i64 B.b, .int .i64 B.c, .int .i64 B.d, .int .i64 B.e, .int .i64 B.f]) _ _ rfl (.load_mid (by rfl) 25 (.tmp 29) rfl g4 0 rfl [.int .i64 B.a, .int .i64 B.b, .int .i64 B.c, .int .i64 B.d, .int .i64 B.e, .int .i64 B.f] _ (fun W hg => (S69.out.gr hg).range 6 rfl 0 6 rfl) Tryd.underlying25 rfl (by kernel_rfl)) ?_
      simp only [n1,n3,n4]
      refine @wpG_tk _ _ _ _ _ (some 31) (.bool (B.inb x y z)) _ _ rfl (.call (f:=23) (args:=#[.agg #[.int .i64 x, .int .i64 y, .int .i64 z], .agg #[.int .i64 B.a, .int .i64 B.b, .int .i64 B.c, .int .i64 B.d, .int .i64 B.e, .int .i64 B.f]]) (by rfl) (fun W => by go_simp) (fun W hg => in_b W x y z B)) ?_
      simp only [n1,n3,n4]
      refine @wpG_p _ _ _ _ _ (some 32) (.bool (B.inb x y z)) _ _ rfl (by rfl) (fun _ => rfl) ?_
      simp only [n1,n3,n4]
      obtain ⟨c70,hc70⟩ : ∃ q_,q_ = (B.inb x y z):=⟨_,rfl⟩
      rw [← hc70]
      have Hc70:=Lib.hid hc70
      clear hc70
      cases c70 with
      | true =>
        have f71:=Lib.hid (Hc70.out.symm)
        refine @wpG_tk _ _ _ _ _ (some 33) (.agg #[.int .i64 x, .int .i64 y, .int .i64 z]) _ _ rfl (.load_mid (by rfl) 23 (.tmp 5) rfl g14 0 rfl [.int .i64 x, .int .i64 y, .int .i64 z] _ (fun W hg => (S69.out.gr hg).range 4 rfl 0 3 rfl) Tryd.underlying23 rfl (by kernel_rfl)) ?_
        simp only [n1,n3,n4]
        refine @wpG_p _ _ _ _ _ (some 34) (.pointer (some ⟨g9,0,none⟩)) _ _ rfl (by rfl) (fun W => by go_simp) ?_
        simp only [n1,n3,n4]
        refine @wpG_tk _ _ _ _ _ (some 35) (.agg #[.int .i64 C.a, .int .i64 C.b, .int .i64 C.c, .int .i64 C.d, .int .i64 C.e, .int .i64 C.f]) _ _ rfl (.load_mid (by rfl) 25 (.tmp 34) rfl g9 0 rfl [.int .i64 C.a, .int .i64 C.b, .int .i64 C.c, .int .i64 C.d, .int .i64 C.e, .int .i64 C.f] _ (fun W hg => (S69.out.gr hg).range 5 rfl 0 6 rfl) Tryd.underlying25 rfl (by kernel_rfl)) ?_
        simp only [n1,n3,n4]
        refine @wpG_tk _ _ _ _ _ (some 36) (.bool (C.inb x y z)) _ _ rfl (.call (f:=23) (args:=#[.agg #[.int .i64 x, .int .i64 y, .int .i64 z], .agg #[.int .i64 C.a, .int .i64 C.b, .int .i64 C.c, .int .i64 C.d, .int .i64 C.e, .int .i64 C.f]]) (by rfl) (fun W => by go_simp) (fun W hg => in_b W x y z C)) ?_
        simp only [n1,n3,n4]
        refine @wpG_p _ _ _ _ _ (some 37) (.bool (C.inb x y z)) _ _ rfl (by rfl) (fun W => by go_simp) ?_
        simp only [n1,n3,n4]
        refine wpG_done (fun V72 hv73 => ?_)
        have S74 : Hid (St w noB [blk g57 28 [.int .i64 B.a, .int .i64 B.b, .int .i64 B.c, .int .i64 B.d, .int .i64 B.e, .int .i64 B.f, .slice A48 n49 c50],own (.slice A48 n49 c50) 3 1 n49 (ic (Gm.paste B l C m)),blk g36 23 [.int .i64 x, .int .i64 y, .int .i64 z],blk g22 28 [.int .i64 B.a, .int .i64 B.b, .int .i64 B.c, .int .i64 B.d, .int .i64 B.e, .int .i64 B.f, .slice A n c, .int .i64 C.a, .int .i64 C.b, .int .i64 C.c, .int .i64 C.d, .int .i64 C.e, .int .i64 C.f, .slice E ne ce],blk g14 23 [.int .i64 x, .int .i64 y, .int .i64 z],blk g9 28 [.int .i64 C.a, .int .i64 C.b, .int .i64 C.c, .int .i64 C.d, .int .i64 C.e, .int .i64 C.f, .slice E ne ce],blk g4 28 [.int .i64 B.a, .int .i64 B.b, .int .i64 B.c, .int .i64 B.d, .int .i64 B.e, .int .i64 B.f, .slice A n c]] V72):=Lib.hid (S69.out.gr hv73)
        clear S69
        clear hv73
        refine ⟨rfl,hK _ _ ?_⟩
        clear hK
        obtain ⟨c75,hc75⟩ : ∃ q_,q_ = (C.inb x y z):=⟨_,rfl⟩
        rw [← hc75]
        have Hc75:=Lib.hid hc75
        clear hc75
        cases c75 with
        | true =>
          have f76:=Lib.hid (Hc75.out.symm)
          go_upto_region 6 with fail
          refine wpG_region_k (fun K hK => ?_)
          refine @wpG_tk _ _ _ _ _ (some 38) (.agg #[.int .i64 C.a, .int .i64 C.b, .int .i64 C.c, .int .i64 C.d, .int .i64 C.e, .int .i64 C.f, .slice E ne ce]) _ _ rfl (.load_mid (by rfl) 28 (.tmp 4) rfl g9 0 rfl [.int .i64 C.a, .int .i64 C.b, .int .i64 C.c, .int .i64 C.d, .int .i64 C.e, .int .i64 C.f, .slice E ne ce] _ (fun W hg => (S74.out.gr hg).range 5 rfl 0 7 rfl) Tryd.underlying28 rfl (by kernel_rfl)) ?_
          simp only [n1,n3,n4]
          refine @wpG_tk _ _ _ _ _ (some 39) (.agg #[.int .i64 x, .int .i64 y, .int .i64 z]) _ _ rfl (.load_mid (by rfl) 23 (.tmp 5) rfl g14 0 rfl [.int .i64 x, .int .i64 y, .int .i64 z] _ (fun W hg => (S74.out.gr hg).range 4 rfl 0 3 rfl) Tryd.underlying23 rfl (by kernel_rfl)) ?_
          simp only [n1,n3,n4]
          refine @wpG_tk _ _ _ _ _ (some 40) (.int .i64 (Gm.get C m x y z)) _ _ rfl (.call (f:=21) (args:=#[.agg #[.int .i64 C.a, .int .i64 C.b, .int .i64 C.c, .int .i64 C.d, .int .i64 C.e, .int .i64 C.f, .slice E ne ce], .agg #[.int .i64 x, .int .i64 y, .int .i64 z]]) (by rfl) (fun W => by go_simp) (fun W hg => get_any C _ _ _ m x y z W (HGB.out.gr (S74.out.gr hg).bel) (by have e_f33:=f33.out;have e_f47:=f47.out;have e_f71:=f71.out;have e_f76:=f76.out;have a_:=e_f33;rw [Bool.and_eq_true] at a_;exact (Gm.fw_of a_.2).2.1.ok) (by have e_f33:=f33.out;have e_f47:=f47.out;have e_f71:=f71.out;have e_f76:=f76.out;exact Gm.near1_rp (Gm.nears_iff.1 e_f47 _ (by simp))))) ?_
          simp only [n1,n3,n4]
          refine @wpG_p _ _ _ _ _ (some 8) (.int .i64 (Gm.get C m x y z)) _ _ rfl (by rfl) (fun _ => rfl) ?_
          simp only [n1,n3,n4]
          refine wpG_done (fun V77 hv78 => ?_)
          have S79 : Hid (St w noB [blk g57 28 [.int .i64 B.a, .int .i64 B.b, .int .i64 B.c, .int .i64 B.d, .int .i64 B.e, .int .i64 B.f, .slice A48 n49 c50],own (.slice A48 n49 c50) 3 1 n49 (ic (Gm.paste B l C m)),blk g36 23 [.int .i64 x, .int .i64 y, .int .i64 z],blk g22 28 [.int .i64 B.a, .int .i64 B.b, .int .i64 B.c, .int .i64 B.d, .int .i64 B.e, .int .i64 B.f, .slice A n c, .int .i64 C.a, .int .i64 C.b, .int .i64 C.c, .int .i64 C.d, .int .i64 C.e, .int .i64 C.f, .slice E ne ce],blk g14 23 [.int .i64 x, .int .i64 y, .int .i64 z],blk g9 28 [.int .i64 C.a, .int .i64 C.b, .int .i64 C.c, .int .i64 C.d, .int .i64 C.e, .int .i64 C.f, .slice E ne ce],blk g4 28 [.int .i64 B.a, .int .i64 B.b, .int .i64 B.c, .int .i64 B.d, .int .i64 B.e, .int .i64 B.f, .slice A n c]] V77):=Lib.hid (S74.out.gr hv78)
          clear S74
          clear hv78
          refine ⟨rfl,hK _ _ ?_⟩
          clear hK
          go_upto_region 7 with fail
          refine wpG_region_k (fun K hK => ?_)
          refine @wpG_tk _ _ _ _ _ (some 41) (.agg #[.int .i64 B.a, .int .i64 B.b, .int .i64 B.c, .int .i64 B.d, .int .i64 B.e, .int .i64 B.f, .slice A n c]) _ _ rfl (.load_mid (by rfl) 28 (.tmp 3) rfl g4 0 rfl [.int .i64 B.a, .int .i64 B.b, .int .i64 B.c, .int .i64 B.d, .int .i64 B.e, .int .i64 B.f, .slice A n c] _ (fun W hg => (S79.out.gr hg).range 6 rfl 0 7 rfl) Tryd.underlying28 rfl (by kernel_rfl)) ?_
          simp only [n1,n3,n4]
          refine @wpG_tk _ _ _ _ _ (some 42) (.agg #[.int .i64 C.a, .int .i64 C.b, .int .i64 C.c, .int .i64 C.d, .int .i64 C.e, .int .i64 C.f, .slice E ne ce]) _ _ rfl (.load_mid (by rfl) 28 (.tmp 4) rfl g9 0 rfl [.int .i64 C.a, .int .i64 C.b, .int .i64 C.c, .int .i64 C.d, .int .i64 C.e, .int .i64 C.f, .slice E ne ce] _ (fun W hg => (S79.out.gr hg).range 5 rfl 0 7 rfl) Tryd.underlying28 rfl (by kernel_rfl)) ?_
          simp only [n1,n3,n4]
          refine wpG_call (some 43) 25 #[.agg #[.int .i64 B.a, .int .i64 B.b, .int .i64 B.c, .int .i64 B.d, .int .i64 B.e, .int .i64 B.f, .slice A n c], .agg #[.int .i64 C.a, .int .i64 C.b, .int .i64 C.c, .int .i64 C.d, .int .i64 C.e, .int .i64 C.f, .slice E ne ce]] rfl (by rfl) (fun W => by go_simp) (fun W83 hg84 => ?_)
          refine (diff_any B _ _ _ l C _ _ _ m W83 (HGA.out.gr (S79.out.gr hg84).bel) (HGB.out.gr (S79.out.gr hg84).bel) (by have e_f33:=f33.out;have e_f47:=f47.out;have e_f71:=f71.out;have e_f76:=f76.out;have a_:=e_f33;rw [Bool.and_eq_true] at a_;exact (Gm.fw_of a_.1).2.1.ok) (by have e_f33:=f33.out;have e_f47:=f47.out;have e_f71:=f71.out;have e_f76:=f76.out;have a_:=e_f33;rw [Bool.and_eq_true] at a_;exact (Gm.fw_of a_.2).2.1.ok)).mono ?_
          rintro e w85 ⟨A80,n81,c82,rfl,hS_⟩
          refine ⟨_,rfl, ?_⟩
          have hT_:=(S79.out.gr hg84).got hS_
          simp only [n1,n3,n4]
          have S86 : Hid (St w noB [own (.slice A80 n81 c82) 74 5 n81 (ccs (Gm.dif B l C m l.length)),blk g57 28 [.int .i64 B.a, .int .i64 B.b, .int .i64 B.c, .int .i64 B.d, .int .i64 B.e, .int .i64 B.f, .slice A48 n49 c50],own (.slice A48 n49 c50) 3 1 n49 (ic (Gm.paste B l C m)),blk g36 23 [.int .i64 x, .int .i64 y, .int .i64 z],blk g22 28 [.int .i64 B.a, .int .i64 B.b, .int .i64 B.c, .int .i64 B.d, .int .i64 B.e, .int .i64 B.f, .slice A n c, .int .i64 C.a, .int .i64 C.b, .int .i64 C.c, .int .i64 C.d, .int .i64 C.e, .int .i64 C.f, .slice E ne ce],blk g14 23 [.int .i64 x, .int .i64 y, .int .i64 z],blk g9 28 [.int .i64 C.a, .int .i64 C.b, .int .i64 C.c, .int .i64 C.d, .int .i64 C.e, .int .i64 C.f, .slice E ne ce],blk g4 28 [.int .i64 B.a, .int .i64 B.b, .int .i64 B.c, .int .i64 B.d, .int .i64 B.e, .int .i64 B.f, .slice A n c]] w85):=Lib.hid hT_
          clear S79
          clear hT_ hS_ hg84
          refine @wpG_p _ _ _ _ _ (some 9) (.slice A80 n81 c82) _ _ rfl (by rfl) (fun _ => rfl) ?_
          simp only [n1,n3,n4]
          refine wpG_done (fun V87 hv88 => ?_)
          have S89 : Hid (St w noB [own (.slice A80 n81 c82) 74 5 n81 (ccs (Gm.dif B l C m l.length)),blk g57 28 [.int .i64 B.a, .int .i64 B.b, .int .i64 B.c, .int .i64 B.d, .int .i64 B.e, .int .i64 B.f, .slice A48 n49 c50],own (.slice A48 n49 c50) 3 1 n49 (ic (Gm.paste B l C m)),blk g36 23 [.int .i64 x, .int .i64 y, .int .i64 z],blk g22 28 [.int .i64 B.a, .int .i64 B.b, .int .i64 B.c, .int .i64 B.d, .int .i64 B.e, .int .i64 B.f, .slice A n c, .int .i64 C.a, .int .i64 C.b, .int .i64 C.c, .int .i64 C.d, .int .i64 C.e, .int .i64 C.f, .slice E ne ce],blk g14 23 [.int .i64 x, .int .i64 y, .int .i64 z],blk g9 28 [.int .i64 C.a, .int .i64 C.b, .int .i64 C.c, .int .i64 C.d, .int .i64 C.e, .int .i64 C.f, .slice E ne ce],blk g4 28 [.int .i64 B.a, .int .i64 B.b, .int .i64 B.c, .int .i64 B.d, .int .i64 B.e, .int .i64 B.f, .slice A n c]] V87):=Lib.hid (S86.out.gr hv88)
          clear S86
          clear hv88
          refine ⟨rfl,hK _ _ ?_⟩
          clear hK
          go_upto_region 8 with fail
          refine wpK_region_k (by kernel_rfl) (fun K hK => ?_)
          refine wpK_tk (i:=0) (some 44) (v:=.bool true) rfl rfl (by kernel_rfl) (fun _ _ _ h => onN_panic h) (.call (f:=11) (args:=#[]) (by rfl) (fun W => by go_simp) (fun W hg => (HSAN.out W (S89.out.gr (Gr.un hg)).bel))) ?_
          simp only [n1,n3,n4]
          refine wpK_ta (i:=1) (some 45) (v:=.bool true) rfl rfl (by kernel_rfl) (fun _ _ _ h => onN_panic h) (Or.inl ⟨rfl,fun _ => rfl⟩) ?_
          simp only [n1,n3,n4]
          refine wpK_ta (i:=5) (some 49) (v:=.int .i64 (Gm.get C m x y z)) rfl rfl (by kernel_rfl) (fun _ _ _ h => onN_panic h) (Or.inl ⟨rfl,fun _ => rfl⟩) ?_
          simp only [n1,n3,n4]
          refine wpK_tk (i:=2) (some 46) (v:=.agg #[.int .i64 B.a, .int .i64 B.b, .int .i64 B.c, .int .i64 B.d, .int .i64 B.e, .int .i64 B.f, .slice A48 n49 c50]) rfl rfl (by kernel_rfl) (fun _ _ _ h => onN_panic h) (.load_mid (by rfl) 28 (.tmp 7) rfl g57 0 rfl [.int .i64 B.a, .int .i64 B.b, .int .i64 B.c, .int .i64 B.d, .int .i64 B.e, .int .i64 B.f, .slice A48 n49 c50] _ (fun W hg => (S89.out.gr (Gr.un hg)).range 1 rfl 0 7 rfl) Tryd.underlying28 rfl (by kernel_rfl)) ?_
          simp only [n1,n3,n4]
          refine wpK_tk (i:=3) (some 47) (v:=.agg #[.int .i64 x, .int .i64 y, .int .i64 z]) rfl rfl (by kernel_rfl) (fun _ _ _ h => onN_panic h) (.load_mid (by rfl) 23 (.tmp 5) rfl g14 0 rfl [.int .i64 x, .int .i64 y, .int .i64 z] _ (fun W hg => (S89.out.gr (Gr.un hg)).range 5 rfl 0 3 rfl) Tryd.underlying23 rfl (by kernel_rfl)) ?_
          simp only [n1,n3,n4]
          refine wpK_tk (i:=4) (some 48) (v:=.int .i64 (Gm.get C m x y z)) rfl rfl (by kernel_rfl) (fun _ _ _ h => onN_panic h) (.call (f:=21) (args:=#[.agg #[.int .i64 B.a, .int .i64 B.b, .int .i64 B.c, .int .i64 B.d, .int .i64 B.e, .int .i64 B.f, .slice A48 n49 c50], .agg #[.int .i64 x, .int .i64 y, .int .i64 z]]) (by rfl) (fun W => by go_simp) (fun W hg => ((get_any B _ _ _ (Gm.paste B l C m) x y z W (SL.ofOwn ((S89.out.gr (Gr.un hg)).ownr 2 rfl)) (by have e_f33:=f33.out;have e_f47:=f47.out;have e_f71:=f71.out;have e_f76:=f76.out;have a_:=e_f33;rw [Bool.and_eq_true] at a_;exact Gm.ok_paste (Gm.fw_of a_.1).2.1.ok) (by have e_f33:=f33.out;have e_f47:=f47.out;have e_f71:=f71.out;have e_f76:=f76.out;exact Gm.near1_rp (Gm.nears_iff.1 e_f47 _ (by simp)))).mono (fun e w' h => ⟨h.1.trans (by have e_f33:=f33.out;have e_f47:=f47.out;have e_f71:=f71.out;have e_f76:=f76.out;rw [Gm.get_paste,e_f71,e_f76];rfl),h.2⟩)))) ?_
          simp only [n1,n3,n4]
          refine wpK_ta (i:=6) (some 50) (v:=.bool true) rfl rfl (by kernel_rfl) (fun _ _ _ h => onN_panic h) (Or.inl ⟨by rfl,fun W => by go_simp⟩) ?_
          simp only [n1,n3,n4]
          refine wpK_ta (i:=7) (some 51) (v:=.bool true) rfl rfl (by kernel_rfl) (fun _ _ _ h => onN_panic h) (Or.inl ⟨by rfl,fun W => by go_simp⟩) ?_
          simp only [n1,n3,n4]
          refine wpK_ta (i:=8) (some 52) (v:=.bool true) rfl rfl (by kernel_rfl) (fun _ _ _ h => onN_panic h) (Or.inl ⟨rfl,fun _ => rfl⟩) ?_
          simp only [n1,n3,n4]
          refine wpK_ta (i:=10) (some 54) (v:=.slice A80 n81 c82) rfl rfl (by kernel_rfl) (fun _ _ _ h => onN_panic h) (Or.inl ⟨rfl,fun _ => rfl⟩) ?_
          simp only [n1,n3,n4]
          refine wpK_tk (i:=9) (some 53) (v:=.agg #[.int .i64 B.a, .int .i64 B.b, .int .i64 B.c, .int .i64 B.d, .int .i64 B.e, .int .i64 B.f, .slice A n c]) rfl rfl (by kernel_rfl) (fun _ _ _ h => onN_panic h) (.load_mid (by rfl) 28 (.tmp 3) rfl g4 0 rfl [.int .i64 B.a, .int .i64 B.b, .int .i64 B.c, .int .i64 B.d, .int .i64 B.e, .int .i64 B.f, .slice A n c] _ (fun W hg => (S89.out.gr (Gr.un hg)).range 7 rfl 0 7 rfl) Tryd.underlying28 rfl (by kernel_rfl)) ?_
          simp only [n1,n3,n4]
          refine wpK_tk (i:=12) (some 56) (v:=.agg #[.int .i64 B.a, .int .i64 B.b, .int .i64 B.c, .int .i64 B.d, .int .i64 B.e, .int .i64 B.f, .slice A48 n49 c50]) rfl rfl (by kernel_rfl) (fun _ _ _ h => onN_panic h) (.load_mid (by rfl) 28 (.tmp 7) rfl g57 0 rfl [.int .i64 B.a, .int .i64 B.b, .int .i64 B.c, .int .i64 B.d, .int .i64 B.e, .int .i64 B.f, .slice A48 n49 c50] _ (fun W hg => (S89.out.gr (Gr.un hg)).range 1 rfl 0 7 rfl) Tryd.underlying28 rfl (by kernel_rfl)) ?_
          simp only [n1,n3,n4]
          refine wpK_call (i:=11) (some 55) 27 #[.agg #[.int .i64 B.a, .int .i64 B.b, .int .i64 B.c, .int .i64 B.d, .int .i64 B.e, .int .i64 B.f, .slice A n c], .slice A80 n81 c82] rfl rfl (by kernel_rfl) (by rfl) (fun W => by go_simp) (fun W93 hg94 => ?_)
          refine (write_any B _ _ _ l _ _ _ (Gm.dif B l C m l.length) W93 (HGA.out.gr (S89.out.gr (Gr.un hg94)).bel) (by have e_f33:=f33.out;have e_f47:=f47.out;have e_f71:=f71.out;have e_f76:=f76.out;have a_:=e_f33;rw [Bool.and_eq_true] at a_;exact (Gm.fw_of a_.1).2.1.ok) (SL.ofOwn ((S89.out.gr (Gr.un hg94)).ownr 0 rfl)) (by have e_f33:=f33.out;have e_f47:=f47.out;have e_f71:=f71.out;have e_f76:=f76.out;exact Gm.dif_rp (show Gm.ok B l by have a_:=e_f33;rw [Bool.and_eq_true] at a_;exact (Gm.fw_of a_.1).2.1.ok) (Nat.le_refl _))).mono ?_
          rintro e w95 ⟨A90,n91,c92,rfl,hS_⟩
          refine ⟨_,rfl,hS_.bel, ?_⟩
          have hT_:=(S89.out.gr (Gr.un hg94)).got hS_
          simp only [n1,n3,n4]
          have S96 : Hid (St w noB [own (.slice A90 n91 c92) 3 1 n91 (ic (Gm.wr B l (Gm.dif B l C m l.length))),own (.slice A80 n81 c82) 74 5 n81 (ccs (Gm.dif B l C m l.length)),blk g57 28 [.int .i64 B.a, .int .i64 B.b, .int .i64 B.c, .int .i64 B.d, .int .i64 B.e, .int .i64 B.f, .slice A48 n49 c50],own (.slice A48 n49 c50) 3 1 n49 (ic (Gm.paste B l C m)),blk g36 23 [.int .i64 x, .int .i64 y, .int .i64 z],blk g22 28 [.int .i64 B.a, .int .i64 B.b, .int .i64 B.c, .int .i64 B.d, .int .i64 B.e, .int .i64 B.f, .slice A n c, .int .i64 C.a, .int .i64 C.b, .int .i64 C.c, .int .i64 C.d, .int .i64 C.e, .int .i64 C.f, .slice E ne ce],blk g14 23 [.int .i64 x, .int .i64 y, .int .i64 z],blk g9 28 [.int .i64 C.a, .int .i64 C.b, .int .i64 C.c, .int .i64 C.d, .int .i64 C.e, .int .i64 C.f, .slice E ne ce],blk g4 28 [.int .i64 B.a, .int .i64 B.b, .int .i64 B.c, .int .i64 B.d, .int .i64 B.e, .int .i64 B.f, .slice A n c]] w95):=Lib.hid hT_
          clear S89
          clear hT_ hS_ hg94
          have hnn91 : n91 ≤ (Gm.wr B l (Gm.dif B l C m l.length)).length ∧ (Gm.wr B l (Gm.dif B l C m l.length)).length ≤ n91:=by have h_:=own_icl (S96.out.ownr 0 rfl);omega
          refine wpK_tk (i:=13) (some 57) (v:=.bool true) rfl rfl (by kernel_rfl) (fun _ _ _ h => onN_panic h) (.call (f:=26) (args:=#[.agg #[.int .i64 B.a, .int .i64 B.b, .int .i64 B.c, .int .i64 B.d, .int .i64 B.e, .int .i64 B.f, .slice A90 n91 c92], .agg #[.int .i64 B.a, .int .i64 B.b, .int .i64 B.c, .int .i64 B.d, .int .i64 B.e, .int .i64 B.f, .slice A48 n49 c50]]) (by rfl) (fun W => by go_simp) (fun W hg => ((equal_any B _ _ _ (Gm.wr B l (Gm.dif B l C m l.length)) B _ _ _ (Gm.paste B l C m) W (SL.ofOwn ((S96.out.gr hg).ownr 0 rfl)) (SL.ofOwn ((S96.out.gr hg).ownr 3 rfl))).mono (fun e w' h => ⟨h.1.trans (by have e_f33:=f33.out;have e_f47:=f47.out;have e_f71:=f71.out;have e_f76:=f76.out;rw [Gm.wr_dif_all (show Gm.ok B l by have a_:=e_f33;rw [Bool.and_eq_true] at a_;exact (Gm.fw_of a_.1).2.1.ok),Gm.same_iff.2 ⟨rfl,rfl⟩]),h.2⟩)))) ?_
          simp only [n1,n3,n4]
          refine wpK_ta (i:=14) (some 58) (v:=.bool true) rfl rfl (by kernel_rfl) (fun _ _ _ h => onN_panic h) (Or.inl ⟨by rfl,fun W => by go_simp⟩) ?_
          simp only [n1,n3,n4]
          refine wpK_ta (i:=15) (some 59) (v:=.bool true) rfl rfl (by kernel_rfl) (fun _ _ _ h => onN_panic h) (Or.inl ⟨rfl,fun _ => rfl⟩) ?_
          simp only [n1,n3,n4]
          refine wpK_tk (i:=16) (some 60) (v:=.agg #[.int .i64 B.a, .int .i64 B.b, .int .i64 B.c, .int .i64 B.d, .int .i64 B.e, .int .i64 B.f, .slice A48 n49 c50]) rfl rfl (by kernel_rfl) (fun _ _ _ h => onN_panic h) (.load_mid (by rfl) 28 (.tmp 7) rfl g57 0 rfl [.int .i64 B.a, .int .i64 B.b, .int .i64 B.c, .int .i64 B.d, .int .i64 B.e, .int .i64 B.f, .slice A48 n49 c50] _ (fun W hg => (S96.out.gr hg).range 2 rfl 0 7 rfl) Tryd.underlying28 rfl (by kernel_rfl)) ?_
          simp only [n1,n3,n4]
          refine wpK_tk (i:=17) (some 61) (v:=.agg #[.int .i64 C.a, .int .i64 C.b, .int .i64 C.c, .int .i64 C.d, .int .i64 C.e, .int .i64 C.f, .slice E ne ce]) rfl rfl (by kernel_rfl) (fun _ _ _ h => onN_panic h) (.load_mid (by rfl) 28 (.tmp 4) rfl g9 0 rfl [.int .i64 C.a, .int .i64 C.b, .int .i64 C.c, .int .i64 C.d, .int .i64 C.e, .int .i64 C.f, .slice E ne ce] _ (fun W hg => (S96.out.gr hg).range 7 rfl 0 7 rfl) Tryd.underlying28 rfl (by kernel_rfl)) ?_
          simp only [n1,n3,n4]
          refine wpK_call (i:=18) (some 62) 25 #[.agg #[.int .i64 B.a, .int .i64 B.b, .int .i64 B.c, .int .i64 B.d, .int .i64 B.e, .int .i64 B.f, .slice A48 n49 c50], .agg #[.int .i64 C.a, .int .i64 C.b, .int .i64 C.c, .int .i64 C.d, .int .i64 C.e, .int .i64 C.f, .slice E ne ce]] rfl rfl (by kernel_rfl) (by rfl) (fun W => by go_simp) (fun W100 hg101 => ?_)
          refine (diff_any B _ _ _ (Gm.paste B l C m) C _ _ _ m W100 (SL.ofOwn ((S96.out.gr hg101).ownr 3 rfl)) (HGB.out.gr (S96.out.gr hg101).bel) (by have e_f33:=f33.out;have e_f47:=f47.out;have e_f71:=f71.out;have e_f76:=f76.out;have a_:=e_f33;rw [Bool.and_eq_true] at a_;exact Gm.ok_paste (Gm.fw_of a_.1).2.1.ok) (by have e_f33:=f33.out;have e_f47:=f47.out;have e_f71:=f71.out;have e_f76:=f76.out;have a_:=e_f33;rw [Bool.and_eq_true] at a_;exact (Gm.fw_of a_.2).2.1.ok)).mono ?_
          rintro e w102 ⟨A97,n98,c99,rfl,hS_⟩
          refine ⟨_,rfl,hS_.bel, ?_⟩
          have hT_:=(S96.out.gr hg101).got hS_
          simp only [n1,n3,n4]
          have S103 : Hid (St w noB [own (.slice A97 n98 c99) 74 5 n98 (ccs (Gm.dif B (Gm.paste B l C m) C m (Gm.paste B l C m).length)),own (.slice A90 n91 c92) 3 1 n91 (ic (Gm.wr B l (Gm.dif B l C m l.length))),own (.slice A80 n81 c82) 74 5 n81 (ccs (Gm.dif B l C m l.length)),blk g57 28 [.int .i64 B.a, .int .i64 B.b, .int .i64 B.c, .int .i64 B.d, .int .i64 B.e, .int .i64 B.f, .slice A48 n49 c50],own (.slice A48 n49 c50) 3 1 n49 (ic (Gm.paste B l C m)),blk g36 23 [.int .i64 x, .int .i64 y, .int .i64 z],blk g22 28 [.int .i64 B.a, .int .i64 B.b, .int .i64 B.c, .int .i64 B.d, .int .i64 B.e, .int .i64 B.f, .slice A n c, .int .i64 C.a, .int .i64 C.b, .int .i64 C.c, .int .i64 C.d, .int .i64 C.e, .int .i64 C.f, .slice E ne ce],blk g14 23 [.int .i64 x, .int .i64 y, .int .i64 z],blk g9 28 [.int .i64 C.a, .int .i64 C.b, .int .i64 C.c, .int .i64 C.d, .int .i64 C.e, .int .i64 C.f, .slice E ne ce],blk g4 28 [.int .i64 B.a, .int .i64 B.b, .int .i64 B.c, .int .i64 B.d, .int .i64 B.e, .int .i64 B.f, .slice A n c]] w102):=Lib.hid hT_
          clear S96
          clear hT_ hS_ hg101
          refine wpK_ta (i:=19) (some 63) (v:=.int .i64 (n98 : Int)) rfl rfl (by kernel_rfl) (fun _ _ _ h => onN_panic h) (Or.inl ⟨by rfl,fun W => by go_simp⟩) ?_
          simp only [n1,n3,n4]
          have hz_ : n98 ≤ 0:=by have e_f33:=f33.out;have e_f47:=f47.out;have e_f71:=f71.out;have e_f76:=f76.out;have h_:=(S103.out.ownr 0 rfl).1;rw [ccs_len,Gm.dif_paste (show Gm.ok B l by have a_:=e_f33;rw [Bool.and_eq_true] at a_;exact (Gm.fw_of a_.1).2.1.ok) _ (Nat.le_refl _)] at h_;simp at h_;omega
          refine wpK_ta (i:=20) (some 64) (v:=.bool true) rfl rfl (by kernel_rfl) (fun _ _ _ h => onN_panic h) (Or.inl ⟨by rfl,fun W => by have hq : ((n98 : Int) = 0):=(by omega);first | (go_simp;done) | (go_simp <;> omega)⟩) ?_
          simp only [n1,n3,n4]
          refine wpK_ta (i:=21) (some 65) (v:=.bool true) rfl rfl (by kernel_rfl) (fun _ _ _ h => onN_panic h) (Or.inl ⟨by rfl,fun W => by go_simp⟩) ?_
          simp only [n1,n3,n4]
          refine wpK_ta (i:=22) (some 66) (v:=.bool true) rfl rfl (by kernel_rfl) (fun _ _ _ h => onN_panic h) (Or.inl ⟨rfl,fun _ => rfl⟩) ?_
          simp only [n1,n3,n4]
          refine wpK_tk (i:=23) (some 67) (v:=.agg #[.int .i64 B.a, .int .i64 B.b, .int .i64 B.c, .int .i64 B.d, .int .i64 B.e, .int .i64 B.f, .slice A48 n49 c50]) rfl rfl (by kernel_rfl) (fun _ _ _ h => onN_panic h) (.load_mid (by rfl) 28 (.tmp 7) rfl g57 0 rfl [.int .i64 B.a, .int .i64 B.b, .int .i64 B.c, .int .i64 B.d, .int .i64 B.e, .int .i64 B.f, .slice A48 n49 c50] _ (fun W hg => (S103.out.gr hg).range 3 rfl 0 7 rfl) Tryd.underlying28 rfl (by kernel_rfl)) ?_
          simp only [n1,n3,n4]
          refine wpK_tk (i:=24) (some 68) (v:=.agg #[.int .i64 C.a, .int .i64 C.b, .int .i64 C.c, .int .i64 C.d, .int .i64 C.e, .int .i64 C.f, .slice E ne ce]) rfl rfl (by kernel_rfl) (fun _ _ _ h => onN_panic h) (.load_mid (by rfl) 28 (.tmp 4) rfl g9 0 rfl [.int .i64 C.a, .int .i64 C.b, .int .i64 C.c, .int .i64 C.d, .int .i64 C.e, .int .i64 C.f, .slice E ne ce] _ (fun W hg => (S103.out.gr hg).range 8 rfl 0 7 rfl) Tryd.underlying28 rfl (by kernel_rfl)) ?_
          simp only [n1,n3,n4]
          refine wpK_tk (i:=26) (some 70) (v:=.agg #[.int .i64 B.a, .int .i64 B.b, .int .i64 B.c, .int .i64 B.d, .int .i64 B.e, .int .i64 B.f, .slice A48 n49 c50]) rfl rfl (by kernel_rfl) (fun _ _ _ h => onN_panic h) (.load_mid (by rfl) 28 (.tmp 7) rfl g57 0 rfl [.int .i64 B.a, .int .i64 B.b, .int .i64 B.c, .int .i64 B.d, .int .i64 B.e, .int .i64 B.f, .slice A48 n49 c50] _ (fun W hg => (S103.out.gr hg).range 3 rfl 0 7 rfl) Tryd.underlying28 rfl (by kernel_rfl)) ?_
          simp only [n1,n3,n4]
          refine wpK_call (i:=25) (some 69) 24 #[.agg #[.int .i64 B.a, .int .i64 B.b, .int .i64 B.c, .int .i64 B.d, .int .i64 B.e, .int .i64 B.f, .slice A48 n49 c50], .agg #[.int .i64 C.a, .int .i64 C.b, .int .i64 C.c, .int .i64 C.d, .int .i64 C.e, .int .i64 C.f, .slice E ne ce]] rfl rfl (by kernel_rfl) (by rfl) (fun W => by go_simp) (fun W107 hg108 => ?_)
          refine (paste_any B _ _ _ (Gm.paste B l C m) C _ _ _ m W107 (SL.ofOwn ((S103.out.gr hg108).ownr 4 rfl)) (HGB.out.gr (S103.out.gr hg108).bel) (by have e_f33:=f33.out;have e_f47:=f47.out;have e_f71:=f71.out;have e_f76:=f76.out;have a_:=e_f33;rw [Bool.and_eq_true] at a_;exact Gm.ok_paste (Gm.fw_of a_.1).2.1.ok) (by have e_f33:=f33.out;have e_f47:=f47.out;have e_f71:=f71.out;have e_f76:=f76.out;have a_:=e_f33;rw [Bool.and_eq_true] at a_;exact (Gm.fw_of a_.2).2.1.ok)).mono ?_
          rintro e w109 ⟨A104,n105,c106,rfl,hS_⟩
          refine ⟨_,rfl,hS_.bel, ?_⟩
          have hT_:=(S103.out.gr hg108).got hS_
          simp only [n1,n3,n4]
          have S110 : Hid (St w noB [own (.slice A104 n105 c106) 3 1 n105 (ic (Gm.paste B (Gm.paste B l C m) C m)),own (.slice A97 n98 c99) 74 5 n98 (ccs (Gm.dif B (Gm.paste B l C m) C m (Gm.paste B l C m).length)),own (.slice A90 n91 c92) 3 1 n91 (ic (Gm.wr B l (Gm.dif B l C m l.length))),own (.slice A80 n81 c82) 74 5 n81 (ccs (Gm.dif B l C m l.length)),blk g57 28 [.int .i64 B.a, .int .i64 B.b, .int .i64 B.c, .int .i64 B.d, .int .i64 B.e, .int .i64 B.f, .slice A48 n49 c50],own (.slice A48 n49 c50) 3 1 n49 (ic (Gm.paste B l C m)),blk g36 23 [.int .i64 x, .int .i64 y, .int .i64 z],blk g22 28 [.int .i64 B.a, .int .i64 B.b, .int .i64 B.c, .int .i64 B.d, .int .i64 B.e, .int .i64 B.f, .slice A n c, .int .i64 C.a, .int .i64 C.b, .int .i64 C.c, .int .i64 C.d, .int .i64 C.e, .int .i64 C.f, .slice E ne ce],blk g14 23 [.int .i64 x, .int .i64 y, .int .i64 z],blk g9 28 [.int .i64 C.a, .int .i64 C.b, .int .i64 C.c, .int .i64 C.d, .int .i64 C.e, .int .i64 C.f, .slice E ne ce],blk g4 28 [.int .i64 B.a, .int .i64 B.b, .int .i64 B.c, .int .i64 B.d, .int .i64 B.e, .int .i64 B.f, .slice A n c]] w109):=Lib.hid hT_
          clear S103
          clear hT_ hS_ hg108
          have hnn105 : n105 ≤ (Gm.paste B (Gm.paste B l C m) C m).length ∧ (Gm.paste B (Gm.paste B l C m) C m).length ≤ n105:=by have h_:=own_icl (S110.out.ownr 0 rfl);omega
          refine wpK_tk (i:=27) (some 71) (v:=.bool true) rfl rfl (by kernel_rfl) (fun _ _ _ h => onN_panic h) (.call (f:=26) (args:=#[.agg #[.int .i64 B.a, .int .i64 B.b, .int .i64 B.c, .int .i64 B.d, .int .i64 B.e, .int .i64 B.f, .slice A104 n105 c106], .agg #[.int .i64 B.a, .int .i64 B.b, .int .i64 B.c, .int .i64 B.d, .int .i64 B.e, .int .i64 B.f, .slice A48 n49 c50]]) (by rfl) (fun W => by go_simp) (fun W hg => ((equal_any B _ _ _ (Gm.paste B (Gm.paste B l C m) C m) B _ _ _ (Gm.paste B l C m) W (SL.ofOwn ((S110.out.gr hg).ownr 0 rfl)) (SL.ofOwn ((S110.out.gr hg).ownr 5 rfl))).mono (fun e w' h => ⟨h.1.trans (by have e_f33:=f33.out;have e_f47:=f47.out;have e_f71:=f71.out;have e_f76:=f76.out;rw [Gm.paste_twice (show Gm.ok B l by have a_:=e_f33;rw [Bool.and_eq_true] at a_;exact (Gm.fw_of a_.1).2.1.ok),Gm.same_iff.2 ⟨rfl,rfl⟩]),h.2⟩)))) ?_
          simp only [n1,n3,n4]
          refine wpK_ta (i:=28) (some 72) (v:=.bool true) rfl rfl (by kernel_rfl) (fun _ _ _ h => onN_panic h) (Or.inl ⟨by rfl,fun W => by go_simp⟩) ?_
          simp only [n1,n3,n4]
          refine wpK_ta (i:=29) (some 6) (v:=.bool true) rfl rfl (by kernel_rfl) (fun _ _ _ h => onN_panic h) (Or.inl ⟨rfl,fun _ => rfl⟩) ?_
          simp only [n1,n3,n4]
          refine wpK_done (by kernel_rfl) (fun V111 hv112 => ?_) _
          have S113 : Hid (St w noB [own (.slice A104 n105 c106) 3 1 n105 (ic (Gm.paste B (Gm.paste B l C m) C m)),own (.slice A97 n98 c99) 74 5 n98 (ccs (Gm.dif B (Gm.paste B l C m) C m (Gm.paste B l C m).length)),own (.slice A90 n91 c92) 3 1 n91 (ic (Gm.wr B l (Gm.dif B l C m l.length))),own (.slice A80 n81 c82) 74 5 n81 (ccs (Gm.dif B l C m l.length)),blk g57 28 [.int .i64 B.a, .int .i64 B.b, .int .i64 B.c, .int .i64 B.d, .int .i64 B.e, .int .i64 B.f, .slice A48 n49 c50],own (.slice A48 n49 c50) 3 1 n49 (ic (Gm.paste B l C m)),blk g36 23 [.int .i64 x, .int .i64 y, .int .i64 z],blk g22 28 [.int .i64 B.a, .int .i64 B.b, .int .i64 B.c, .int .i64 B.d, .int .i64 B.e, .int .i64 B.f, .slice A n c, .int .i64 C.a, .int .i64 C.b, .int .i64 C.c, .int .i64 C.d, .int .i64 C.e, .int .i64 C.f, .slice E ne ce],blk g14 23 [.int .i64 x, .int .i64 y, .int .i64 z],blk g9 28 [.int .i64 C.a, .int .i64 C.b, .int .i64 C.c, .int .i64 C.d, .int .i64 C.e, .int .i64 C.f, .slice E ne ce],blk g4 28 [.int .i64 B.a, .int .i64 B.b, .int .i64 B.c, .int .i64 B.d, .int .i64 B.e, .int .i64 B.f, .slice A n c]] V111):=Lib.hid (S110.out.gr hv112)
          clear S110
          clear hv112
          refine ⟨rfl,hK _ _ ?_⟩
          clear hK
          go_wp2_with fail
          go_ret
          refine ⟨?_,S113.out.bel⟩
          show Ending.returned (.bool true) = _
          (first | rfl | (have e_f33:=f33.out;have e_f47:=f47.out;have e_f71:=f71.out;have e_f76:=f76.out;rfl))
        | false =>
          have f114:=Lib.hid (Hc75.out.symm)
          go_upto_region 7 with fail
          refine wpG_region_k (fun K hK => ?_)
          refine @wpG_tk _ _ _ _ _ (some 41) (.agg #[.int .i64 B.a, .int .i64 B.b, .int .i64 B.c, .int .i64 B.d, .int .i64 B.e, .int .i64 B.f, .slice A n c]) _ _ rfl (.load_mid (by rfl) 28 (.tmp 3) rfl g4 0 rfl [.int .i64 B.a, .int .i64 B.b, .int .i64 B.c, .int .i64 B.d, .int .i64 B.e, .int .i64 B.f, .slice A n c] _ (fun W hg => (S74.out.gr hg).range 6 rfl 0 7 rfl) Tryd.underlying28 rfl (by kernel_rfl)) ?_
          simp only [n1,n3,n4]
          refine @wpG_tk _ _ _ _ _ (some 42) (.agg #[.int .i64 C.a, .int .i64 C.b, .int .i64 C.c, .int .i64 C.d, .int .i64 C.e, .int .i64 C.f, .slice E ne ce]) _ _ rfl (.load_mid (by rfl) 28 (.tmp 4) rfl g9 0 rfl [.int .i64 C.a, .int .i64 C.b, .int .i64 C.c, .int .i64 C.d, .int .i64 C.e, .int .i64 C.f, .slice E ne ce] _ (fun W hg => (S74.out.gr hg).range 5 rfl 0 7 rfl) Tryd.underlying28 rfl (by kernel_rfl)) ?_
          simp only [n1,n3,n4]
          refine wpG_call (some 43) 25 #[.agg #[.int .i64 B.a, .int .i64 B.b, .int .i64 B.c, .int .i64 B.d, .int .i64 B.e, .int .i64 B.f, .slice A n c], .agg #[.int .i64 C.a, .int .i64 C.b, .int .i64 C.c, .int .i64 C.d, .int .i64 C.e, .int .i64 C.f, .slice E ne ce]] rfl (by rfl) (fun W => by go_simp) (fun W118 hg119 => ?_)
          refine (diff_any B _ _ _ l C _ _ _ m W118 (HGA.out.gr (S74.out.gr hg119).bel) (HGB.out.gr (S74.out.gr hg119).bel) (by have e_f33:=f33.out;have e_f47:=f47.out;have e_f71:=f71.out;have e_f114:=f114.out;have a_:=e_f33;rw [Bool.and_eq_true] at a_;exact (Gm.fw_of a_.1).2.1.ok) (by have e_f33:=f33.out;have e_f47:=f47.out;have e_f71:=f71.out;have e_f114:=f114.out;have a_:=e_f33;rw [Bool.and_eq_true] at a_;exact (Gm.fw_of a_.2).2.1.ok)).mono ?_
          rintro e w120 ⟨A115,n116,c117,rfl,hS_⟩
          refine ⟨_,rfl, ?_⟩
          have hT_:=(S74.out.gr hg119).got hS_
          simp only [n1,n3,n4]
          have S121 : Hid (St w noB [own (.slice A115 n116 c117) 74 5 n116 (ccs (Gm.dif B l C m l.length)),blk g57 28 [.int .i64 B.a, .int .i64 B.b, .int .i64 B.c, .int .i64 B.d, .int .i64 B.e, .int .i64 B.f, .slice A48 n49 c50],own (.slice A48 n49 c50) 3 1 n49 (ic (Gm.paste B l C m)),blk g36 23 [.int .i64 x, .int .i64 y, .int .i64 z],blk g22 28 [.int .i64 B.a, .int .i64 B.b, .int .i64 B.c, .int .i64 B.d, .int .i64 B.e, .int .i64 B.f, .slice A n c, .int .i64 C.a, .int .i64 C.b, .int .i64 C.c, .int .i64 C.d, .int .i64 C.e, .int .i64 C.f, .slice E ne ce],blk g14 23 [.int .i64 x, .int .i64 y, .int .i64 z],blk g9 28 [.int .i64 C.a, .int .i64 C.b, .int .i64 C.c, .int .i64 C.d, .int .i64 C.e, .int .i64 C.f, .slice E ne ce],blk g4 28 [.int .i64 B.a, .int .i64 B.b, .int .i64 B.c, .int .i64 B.d, .int .i64 B.e, .int .i64 B.f, .slice A n c]] w120):=Lib.hid hT_
          clear S74
          clear hT_ hS_ hg119
          refine @wpG_p _ _ _ _ _ (some 9) (.slice A115 n116 c117) _ _ rfl (by rfl) (fun _ => rfl) ?_
          simp only [n1,n3,n4]
          refine wpG_done (fun V122 hv123 => ?_)
          have S124 : Hid (St w noB [own (.slice A115 n116 c117) 74 5 n116 (ccs (Gm.dif B l C m l.length)),blk g57 28 [.int .i64 B.a, .int .i64 B.b, .int .i64 B.c, .int .i64 B.d, .int .i64 B.e, .int .i64 B.f, .slice A48 n49 c50],own (.slice A48 n49 c50) 3 1 n49 (ic (Gm.paste B l C m)),blk g36 23 [.int .i64 x, .int .i64 y, .int .i64 z],blk g22 28 [.int .i64 B.a, .int .i64 B.b, .int .i64 B.c, .int .i64 B.d, .int .i64 B.e, .int .i64 B.f, .slice A n c, .int .i64 C.a, .int .i64 C.b, .int .i64 C.c, .int .i64 C.d, .int .i64 C.e, .int .i64 C.f, .slice E ne ce],blk g14 23 [.int .i64 x, .int .i64 y, .int .i64 z],blk g9 28 [.int .i64 C.a, .int .i64 C.b, .int .i64 C.c, .int .i64 C.d, .int .i64 C.e, .int .i64 C.f, .slice E ne ce],blk g4 28 [.int .i64 B.a, .int .i64 B.b, .int .i64 B.c, .int .i64 B.d, .int .i64 B.e, .int .i64 B.f, .slice A n c]] V122):=Lib.hid (S121.out.gr hv123)
          clear S121
          clear hv123
          refine ⟨rfl,hK _ _ ?_⟩
          clear hK
          go_upto_region 8 with fail
          refine wpK_region_k (by kernel_rfl) (fun K hK => ?_)
          refine wpK_tk (i:=0) (some 44) (v:=.bool true) rfl rfl (by kernel_rfl) (fun _ _ _ h => onN_panic h) (.call (f:=11) (args:=#[]) (by rfl) (fun W => by go_simp) (fun W hg => (HSAN.out W (S124.out.gr (Gr.un hg)).bel))) ?_
          simp only [n1,n3,n4]
          refine wpK_ta (i:=1) (some 45) (v:=.bool true) rfl rfl (by kernel_rfl) (fun _ _ _ h => onN_panic h) (Or.inl ⟨rfl,fun _ => rfl⟩) ?_
          simp only [n1,n3,n4]
          refine wpK_ta (i:=5) (some 49) (v:=.int .i64 (Gm.get B l x y z)) rfl rfl (by kernel_rfl) (fun _ _ _ h => onN_panic h) (Or.inl ⟨rfl,fun _ => rfl⟩) ?_
          simp only [n1,n3,n4]
          refine wpK_tk (i:=2) (some 46) (v:=.agg #[.int .i64 B.a, .int .i64 B.b, .int .i64 B.c, .int .i64 B.d, .int .i64 B.e, .int .i64 B.f, .slice A48 n49 c50]) rfl rfl (by kernel_rfl) (fun _ _ _ h => onN_panic h) (.load_mid (by rfl) 28 (.tmp 7) rfl g57 0 rfl [.int .i64 B.a, .int .i64 B.b, .int .i64 B.c, .int .i64 B.d, .int .i64 B.e, .int .i64 B.f, .slice A48 n49 c50] _ (fun W hg => (S124.out.gr (Gr.un hg)).range 1 rfl 0 7 rfl) Tryd.underlying28 rfl (by kernel_rfl)) ?_
          simp only [n1,n3,n4]
          refine wpK_tk (i:=3) (some 47) (v:=.agg #[.int .i64 x, .int .i64 y, .int .i64 z]) rfl rfl (by kernel_rfl) (fun _ _ _ h => onN_panic h) (.load_mid (by rfl) 23 (.tmp 5) rfl g14 0 rfl [.int .i64 x, .int .i64 y, .int .i64 z] _ (fun W hg => (S124.out.gr (Gr.un hg)).range 5 rfl 0 3 rfl) Tryd.underlying23 rfl (by kernel_rfl)) ?_
          simp only [n1,n3,n4]
          refine wpK_tk (i:=4) (some 48) (v:=.int .i64 (Gm.get B l x y z)) rfl rfl (by kernel_rfl) (fun _ _ _ h => onN_panic h) (.call (f:=21) (args:=#[.agg #[.int .i64 B.a, .int .i64 B.b, .int .i64 B.c, .int .i64 B.d, .int .i64 B.e, .int .i64 B.f, .slice A48 n49 c50], .agg #[.int .i64 x, .int .i64 y, .int .i64 z]]) (by rfl) (fun W => by go_simp) (fun W hg => ((get_any B _ _ _ (Gm.paste B l C m) x y z W (SL.ofOwn ((S124.out.gr (Gr.un hg)).ownr 2 rfl)) (by have e_f33:=f33.out;have e_f47:=f47.out;have e_f71:=f71.out;have e_f114:=f114.out;have a_:=e_f33;rw [Bool.and_eq_true] at a_;exact Gm.ok_paste (Gm.fw_of a_.1).2.1.ok) (by have e_f33:=f33.out;have e_f47:=f47.out;have e_f71:=f71.out;have e_f114:=f114.out;exact Gm.near1_rp (Gm.nears_iff.1 e_f47 _ (by simp)))).mono (fun e w' h => ⟨h.1.trans (by have e_f33:=f33.out;have e_f47:=f47.out;have e_f71:=f71.out;have e_f114:=f114.out;rw [Gm.get_paste,e_f71,e_f114];rfl),h.2⟩)))) ?_
          simp only [n1,n3,n4]
          refine wpK_ta (i:=6) (some 50) (v:=.bool true) rfl rfl (by kernel_rfl) (fun _ _ _ h => onN_panic h) (Or.inl ⟨by rfl,fun W => by go_simp⟩) ?_
          simp only [n1,n3,n4]
          refine wpK_ta (i:=7) (some 51) (v:=.bool true) rfl rfl (by kernel_rfl) (fun _ _ _ h => onN_panic h) (Or.inl ⟨by rfl,fun W => by go_simp⟩) ?_
          simp only [n1,n3,n4]
          refine wpK_ta (i:=8) (some 52) (v:=.bool true) rfl rfl (by kernel_rfl) (fun _ _ _ h => onN_panic h) (Or.inl ⟨rfl,fun _ => rfl⟩) ?_
          simp only [n1,n3,n4]
          refine wpK_ta (i:=10) (some 54) (v:=.slice A115 n116 c117) rfl rfl (by kernel_rfl) (fun _ _ _ h => onN_panic h) (Or.inl ⟨rfl,fun _ => rfl⟩) ?_
          simp only [n1,n3,n4]
          refine wpK_tk (i:=9) (some 53) (v:=.agg #[.int .i64 B.a, .int .i64 B.b, .int .i64 B.c, .int .i64 B.d, .int .i64 B.e, .int .i64 B.f, .slice A n c]) rfl rfl (by kernel_rfl) (fun _ _ _ h => onN_panic h) (.load_mid (by rfl) 28 (.tmp 3) rfl g4 0 rfl [.int .i64 B.a, .int .i64 B.b, .int .i64 B.c, .int .i64 B.d, .int .i64 B.e, .int .i64 B.f, .slice A n c] _ (fun W hg => (S124.out.gr (Gr.un hg)).range 7 rfl 0 7 rfl) Tryd.underlying28 rfl (by kernel_rfl)) ?_
          simp only [n1,n3,n4]
          refine wpK_tk (i:=12) (some 56) (v:=.agg #[.int .i64 B.a, .int .i64 B.b, .int .i64 B.c, .int .i64 B.d, .int .i64 B.e, .int .i64 B.f, .slice A48 n49 c50]) rfl rfl (by kernel_rfl) (fun _ _ _ h => onN_panic h) (.load_mid (by rfl) 28 (.tmp 7) rfl g57 0 rfl [.int .i64 B.a, .int .i64 B.b, .int .i64 B.c, .int .i64 B.d, .int .i64 B.e, .int .i64 B.f, .slice A48 n49 c50] _ (fun W hg => (S124.out.gr (Gr.un hg)).range 1 rfl 0 7 rfl) Tryd.underlying28 rfl (by kernel_rfl)) ?_
          simp only [n1,n3,n4]
          refine wpK_call (i:=11) (some 55) 27 #[.agg #[.int .i64 B.a, .int .i64 B.b, .int .i64 B.c, .int .i64 B.d, .int .i64 B.e, .int .i64 B.f, .slice A n c], .slice A115 n116 c117] rfl rfl (by kernel_rfl) (by rfl) (fun W => by go_simp) (fun W128 hg129 => ?_)
          refine (write_any B _ _ _ l _ _ _ (Gm.dif B l C m l.length) W128 (HGA.out.gr (S124.out.gr (Gr.un hg129)).bel) (by have e_f33:=f33.out;have e_f47:=f47.out;have e_f71:=f71.out;have e_f114:=f114.out;have a_:=e_f33;rw [Bool.and_eq_true] at a_;exact (Gm.fw_of a_.1).2.1.ok) (SL.ofOwn ((S124.out.gr (Gr.un hg129)).ownr 0 rfl)) (by have e_f33:=f33.out;have e_f47:=f47.out;have e_f71:=f71.out;have e_f114:=f114.out;exact Gm.dif_rp (show Gm.ok B l by have a_:=e_f33;rw [Bool.and_eq_true] at a_;exact (Gm.fw_of a_.1).2.1.ok) (Nat.le_refl _))).mono ?_
          rintro e w130 ⟨A125,n126,c127,rfl,hS_⟩
          refine ⟨_,rfl,hS_.bel, ?_⟩
          have hT_:=(S124.out.gr (Gr.un hg129)).got hS_
          simp only [n1,n3,n4]
          have S131 : Hid (St w noB [own (.slice A125 n126 c127) 3 1 n126 (ic (Gm.wr B l (Gm.dif B l C m l.length))),own (.slice A115 n116 c117) 74 5 n116 (ccs (Gm.dif B l C m l.length)),blk g57 28 [.int .i64 B.a, .int .i64 B.b, .int .i64 B.c, .int .i64 B.d, .int .i64 B.e, .int .i64 B.f, .slice A48 n49 c50],own (.slice A48 n49 c50) 3 1 n49 (ic (Gm.paste B l C m)),blk g36 23 [.int .i64 x, .int .i64 y, .int .i64 z],blk g22 28 [.int .i64 B.a, .int .i64 B.b, .int .i64 B.c, .int .i64 B.d, .int .i64 B.e, .int .i64 B.f, .slice A n c, .int .i64 C.a, .int .i64 C.b, .int .i64 C.c, .int .i64 C.d, .int .i64 C.e, .int .i64 C.f, .slice E ne ce],blk g14 23 [.int .i64 x, .int .i64 y, .int .i64 z],blk g9 28 [.int .i64 C.a, .int .i64 C.b, .int .i64 C.c, .int .i64 C.d, .int .i64 C.e, .int .i64 C.f, .slice E ne ce],blk g4 28 [.int .i64 B.a, .int .i64 B.b, .int .i64 B.c, .int .i64 B.d, .int .i64 B.e, .int .i64 B.f, .slice A n c]] w130):=Lib.hid hT_
          clear S124
          clear hT_ hS_ hg129
          have hnn126 : n126 ≤ (Gm.wr B l (Gm.dif B l C m l.length)).length ∧ (Gm.wr B l (Gm.dif B l C m l.length)).length ≤ n126:=by have h_:=own_icl (S131.out.ownr 0 rfl);omega
          refine wpK_tk (i:=13) (some 57) (v:=.bool true) rfl rfl (by kernel_rfl) (fun _ _ _ h => onN_panic h) (.call (f:=26) (args:=#[.agg #[.int .i64 B.a, .int .i64 B.b, .int .i64 B.c, .int .i64 B.d, .int .i64 B.e, .int .i64 B.f, .slice A125 n126 c127], .agg #[.int .i64 B.a, .int .i64 B.b, .int .i64 B.c, .int .i64 B.d, .int .i64 B.e, .int .i64 B.f, .slice A48 n49 c50]]) (by rfl) (fun W => by go_simp) (fun W hg => ((equal_any B _ _ _ (Gm.wr B l (Gm.dif B l C m l.length)) B _ _ _ (Gm.paste B l C m) W (SL.ofOwn ((S131.out.gr hg).ownr 0 rfl)) (SL.ofOwn ((S131.out.gr hg).ownr 3 rfl))).mono (fun e w' h => ⟨h.1.trans (by have e_f33:=f33.out;have e_f47:=f47.out;have e_f71:=f71.out;have e_f114:=f114.out;rw [Gm.wr_dif_all (show Gm.ok B l by have a_:=e_f33;rw [Bool.and_eq_true] at a_;exact (Gm.fw_of a_.1).2.1.ok),Gm.same_iff.2 ⟨rfl,rfl⟩]),h.2⟩)))) ?_
          simp only [n1,n3,n4]
          refine wpK_ta (i:=14) (some 58) (v:=.bool true) rfl rfl (by kernel_rfl) (fun _ _ _ h => onN_panic h) (Or.inl ⟨by rfl,fun W => by go_simp⟩) ?_
          simp only [n1,n3,n4]
          refine wpK_ta (i:=15) (some 59) (v:=.bool true) rfl rfl (by kernel_rfl) (fun _ _ _ h => onN_panic h) (Or.inl ⟨rfl,fun _ => rfl⟩) ?_
          simp only [n1,n3,n4]
          refine wpK_tk (i:=16) (some 60) (v:=.agg #[.int .i64 B.a, .int .i64 B.b, .int .i64 B.c, .int .i64 B.d, .int .i64 B.e, .int .i64 B.f, .slice A48 n49 c50]) rfl rfl (by kernel_rfl) (fun _ _ _ h => onN_panic h) (.load_mid (by rfl) 28 (.tmp 7) rfl g57 0 rfl [.int .i64 B.a, .int .i64 B.b, .int .i64 B.c, .int .i64 B.d, .int .i64 B.e, .int .i64 B.f, .slice A48 n49 c50] _ (fun W hg => (S131.out.gr hg).range 2 rfl 0 7 rfl) Tryd.underlying28 rfl (by kernel_rfl)) ?_
          simp only [n1,n3,n4]
          refine wpK_tk (i:=17) (some 61) (v:=.agg #[.int .i64 C.a, .int .i64 C.b, .int .i64 C.c, .int .i64 C.d, .int .i64 C.e, .int .i64 C.f, .slice E ne ce]) rfl rfl (by kernel_rfl) (fun _ _ _ h => onN_panic h) (.load_mid (by rfl) 28 (.tmp 4) rfl g9 0 rfl [.int .i64 C.a, .int .i64 C.b, .int .i64 C.c, .int .i64 C.d, .int .i64 C.e, .int .i64 C.f, .slice E ne ce] _ (fun W hg => (S131.out.gr hg).range 7 rfl 0 7 rfl) Tryd.underlying28 rfl (by kernel_rfl)) ?_
          simp only [n1,n3,n4]
          refine wpK_call (i:=18) (some 62) 25 #[.agg #[.int .i64 B.a, .int .i64 B.b, .int .i64 B.c, .int .i64 B.d, .int .i64 B.e, .int .i64 B.f, .slice A48 n49 c50], .agg #[.int .i64 C.a, .int .i64 C.b, .int .i64 C.c, .int .i64 C.d, .int .i64 C.e, .int .i64 C.f, .slice E ne ce]] rfl rfl (by kernel_rfl) (by rfl) (fun W => by go_simp) (fun W135 hg136 => ?_)
          refine (diff_any B _ _ _ (Gm.paste B l C m) C _ _ _ m W135 (SL.ofOwn ((S131.out.gr hg136).ownr 3 rfl)) (HGB.out.gr (S131.out.gr hg136).bel) (by have e_f33:=f33.out;have e_f47:=f47.out;have e_f71:=f71.out;have e_f114:=f114.out;have a_:=e_f33;rw [Bool.and_eq_true] at a_;exact Gm.ok_paste (Gm.fw_of a_.1).2.1.ok) (by have e_f33:=f33.out;have e_f47:=f47.out;have e_f71:=f71.out;have e_f114:=f114.out;have a_:=e_f33;rw [Bool.and_eq_true] at a_;exact (Gm.fw_of a_.2).2.1.ok)).mono ?_
          rintro e w137 ⟨A132,n133,c134,rfl,hS_⟩
          refine ⟨_,rfl,hS_.bel, ?_⟩
          have hT_:=(S131.out.gr hg136).got hS_
          simp only [n1,n3,n4]
          have S138 : Hid (St w noB [own (.slice A132 n133 c134) 74 5 n133 (ccs (Gm.dif B (Gm.paste B l C m) C m (Gm.paste B l C m).length)),own (.slice A125 n126 c127) 3 1 n126 (ic (Gm.wr B l (Gm.dif B l C m l.length))),own (.slice A115 n116 c117) 74 5 n116 (ccs (Gm.dif B l C m l.length)),blk g57 28 [.int .i64 B.a, .int .i64 B.b, .int .i64 B.c, .int .i64 B.d, .int .i64 B.e, .int .i64 B.f, .slice A48 n49 c50],own (.slice A48 n49 c50) 3 1 n49 (ic (Gm.paste B l C m)),blk g36 23 [.int .i64 x, .int .i64 y, .int .i64 z],blk g22 28 [.int .i64 B.a, .int .i64 B.b, .int .i64 B.c, .int .i64 B.d, .int .i64 B.e, .int .i64 B.f, .slice A n c, .int .i64 C.a, .int .i64 C.b, .int .i64 C.c, .int .i64 C.d, .int .i64 C.e, .int .i64 C.f, .slice E ne ce],blk g14 23 [.int .i64 x, .int .i64 y, .int .i64 z],blk g9 28 [.int .i64 C.a, .int .i64 C.b, .int .i64 C.c, .int .i64 C.d, .int .i64 C.e, .int .i64 C.f, .slice E ne ce],blk g4 28 [.int .i64 B.a, .int .i64 B.b, .int .i64 B.c, .int .i64 B.d, .int .i64 B.e, .int .i64 B.f, .slice A n c]] w137):=Lib.hid hT_
          clear S131
          clear hT_ hS_ hg136
          refine wpK_ta (i:=19) (some 63) (v:=.int .i64 (n133 : Int)) rfl rfl (by kernel_rfl) (fun _ _ _ h => onN_panic h) (Or.inl ⟨by rfl,fun W => by go_simp⟩) ?_
          simp only [n1,n3,n4]
          have hz_ : n133 ≤ 0:=by have e_f33:=f33.out;have e_f47:=f47.out;have e_f71:=f71.out;have e_f114:=f114.out;have h_:=(S138.out.ownr 0 rfl).1;rw [ccs_len,Gm.dif_paste (show Gm.ok B l by have a_:=e_f33;rw [Bool.and_eq_true] at a_;exact (Gm.fw_of a_.1).2.1.ok) _ (Nat.le_refl _)] at h_;simp at h_;omega
          refine wpK_ta (i:=20) (some 64) (v:=.bool true) rfl rfl (by kernel_rfl) (fun _ _ _ h => onN_panic h) (Or.inl ⟨by rfl,fun W => by have hq : ((n133 : Int) = 0):=(by omega);first | (go_simp;done) | (go_simp <;> omega)⟩) ?_
          simp only [n1,n3,n4]
          refine wpK_ta (i:=21) (some 65) (v:=.bool true) rfl rfl (by kernel_rfl) (fun _ _ _ h => onN_panic h) (Or.inl ⟨by rfl,fun W => by go_simp⟩) ?_
          simp only [n1,n3,n4]
          refine wpK_ta (i:=22) (some 66) (v:=.bool true) rfl rfl (by kernel_rfl) (fun _ _ _ h => onN_panic h) (Or.inl ⟨rfl,fun _ => rfl⟩) ?_
          simp only [n1,n3,n4]
          refine wpK_tk (i:=23) (some 67) (v:=.agg #[.int .i64 B.a, .int .i64 B.b, .int .i64 B.c, .int .i64 B.d, .int .i64 B.e, .int .i64 B.f, .slice A48 n49 c50]) rfl rfl (by kernel_rfl) (fun _ _ _ h => onN_panic h) (.load_mid (by rfl) 28 (.tmp 7) rfl g57 0 rfl [.int .i64 B.a, .int .i64 B.b, .int .i64 B.c, .int .i64 B.d, .int .i64 B.e, .int .i64 B.f, .slice A48 n49 c50] _ (fun W hg => (S138.out.gr hg).range 3 rfl 0 7 rfl) Tryd.underlying28 rfl (by kernel_rfl)) ?_
          simp only [n1,n3,n4]
          refine wpK_tk (i:=24) (some 68) (v:=.agg #[.int .i64 C.a, .int .i64 C.b, .int .i64 C.c, .int .i64 C.d, .int .i64 C.e, .int .i64 C.f, .slice E ne ce]) rfl rfl (by kernel_rfl) (fun _ _ _ h => onN_panic h) (.load_mid (by rfl) 28 (.tmp 4) rfl g9 0 rfl [.int .i64 C.a, .int .i64 C.b, .int .i64 C.c, .int .i64 C.d, .int .i64 C.e, .int .i64 C.f, .slice E ne ce] _ (fun W hg => (S138.out.gr hg).range 8 rfl 0 7 rfl) Tryd.underlying28 rfl (by kernel_rfl)) ?_
          simp only [n1,n3,n4]
          refine wpK_tk (i:=26) (some 70) (v:=.agg #[.int .i64 B.a, .int .i64 B.b, .int .i64 B.c, .int .i64 B.d, .int .i64 B.e, .int .i64 B.f, .slice A48 n49 c50]) rfl rfl (by kernel_rfl) (fun _ _ _ h => onN_panic h) (.load_mid (by rfl) 28 (.tmp 7) rfl g57 0 rfl [.int .i64 B.a, .int .i64 B.b, .int .i64 B.c, .int .i64 B.d, .int .i64 B.e, .int .i64 B.f, .slice A48 n49 c50] _ (fun W hg => (S138.out.gr hg).range 3 rfl 0 7 rfl) Tryd.underlying28 rfl (by kernel_rfl)) ?_
          simp only [n1,n3,n4]
          refine wpK_call (i:=25) (some 69) 24 #[.agg #[.int .i64 B.a, .int .i64 B.b, .int .i64 B.c, .int .i64 B.d, .int .i64 B.e, .int .i64 B.f, .slice A48 n49 c50], .agg #[.int .i64 C.a, .int .i64 C.b, .int .i64 C.c, .int .i64 C.d, .int .i64 C.e, .int .i64 C.f, .slice E ne ce]] rfl rfl (by kernel_rfl) (by rfl) (fun W => by go_simp) (fun W142 hg143 => ?_)
          refine (paste_any B _ _ _ (Gm.paste B l C m) C _ _ _ m W142 (SL.ofOwn ((S138.out.gr hg143).ownr 4 rfl)) (HGB.out.gr (S138.out.gr hg143).bel) (by have e_f33:=f33.out;have e_f47:=f47.out;have e_f71:=f71.out;have e_f114:=f114.out;have a_:=e_f33;rw [Bool.and_eq_true] at a_;exact Gm.ok_paste (Gm.fw_of a_.1).2.1.ok) (by have e_f33:=f33.out;have e_f47:=f47.out;have e_f71:=f71.out;have e_f114:=f114.out;have a_:=e_f33;rw [Bool.and_eq_true] at a_;exact (Gm.fw_of a_.2).2.1.ok)).mono ?_
          rintro e w144 ⟨A139,n140,c141,rfl,hS_⟩
          refine ⟨_,rfl,hS_.bel, ?_⟩
          have hT_:=(S138.out.gr hg143).got hS_
          simp only [n1,n3,n4]
          have S145 : Hid (St w noB [own (.slice A139 n140 c141) 3 1 n140 (ic (Gm.paste B (Gm.paste B l C m) C m)),own (.slice A132 n133 c134) 74 5 n133 (ccs (Gm.dif B (Gm.paste B l C m) C m (Gm.paste B l C m).length)),own (.slice A125 n126 c127) 3 1 n126 (ic (Gm.wr B l (Gm.dif B l C m l.length))),own (.slice A115 n116 c117) 74 5 n116 (ccs (Gm.dif B l C m l.length)),blk g57 28 [.int .i64 B.a, .int .i64 B.b, .int .i64 B.c, .int .i64 B.d, .int .i64 B.e, .int .i64 B.f, .slice A48 n49 c50],own (.slice A48 n49 c50) 3 1 n49 (ic (Gm.paste B l C m)),blk g36 23 [.int .i64 x, .int .i64 y, .int .i64 z],blk g22 28 [.int .i64 B.a, .int .i64 B.b, .int .i64 B.c, .int .i64 B.d, .int .i64 B.e, .int .i64 B.f, .slice A n c, .int .i64 C.a, .int .i64 C.b, .int .i64 C.c, .int .i64 C.d, .int .i64 C.e, .int .i64 C.f, .slice E ne ce],blk g14 23 [.int .i64 x, .int .i64 y, .int .i64 z],blk g9 28 [.int .i64 C.a, .int .i64 C.b, .int .i64 C.c, .int .i64 C.d, .int .i64 C.e, .int .i64 C.f, .slice E ne ce],blk g4 28 [.int .i64 B.a, .int .i64 B.b, .int .i64 B.c, .int .i64 B.d, .int .i64 B.e, .int .i64 B.f, .slice A n c]] w144):=Lib.hid hT_
          clear S138
          clear hT_ hS_ hg143
          have hnn140 : n140 ≤ (Gm.paste B (Gm.paste B l C m) C m).length ∧ (Gm.paste B (Gm.paste B l C m) C m).length ≤ n140:=by have h_:=own_icl (S145.out.ownr 0 rfl);omega
          refine wpK_tk (i:=27) (some 71) (v:=.bool true) rfl rfl (by kernel_rfl) (fun _ _ _ h => onN_panic h) (.call (f:=26) (args:=#[.agg #[.int .i64 B.a, .int .i64 B.b, .int .i64 B.c, .int .i64 B.d, .int .i64 B.e, .int .i64 B.f, .slice A139 n140 c141], .agg #[.int .i64 B.a, .int .i64 B.b, .int .i64 B.c, .int .i64 B.d, .int .i64 B.e, .int .i64 B.f, .slice A48 n49 c50]]) (by rfl) (fun W => by go_simp) (fun W hg => ((equal_any B _ _ _ (Gm.paste B (Gm.paste B l C m) C m) B _ _ _ (Gm.paste B l C m) W (SL.ofOwn ((S145.out.gr hg).ownr 0 rfl)) (SL.ofOwn ((S145.out.gr hg).ownr 5 rfl))).mono (fun e w' h => ⟨h.1.trans (by have e_f33:=f33.out;have e_f47:=f47.out;have e_f71:=f71.out;have e_f114:=f114.out;rw [Gm.paste_twice (show Gm.ok B l by have a_:=e_f33;rw [Bool.and_eq_true] at a_;exact (Gm.fw_of a_.1).2.1.ok),Gm.same_iff.2 ⟨rfl,rfl⟩]),h.2⟩)))) ?_
          simp only [n1,n3,n4]
          refine wpK_ta (i:=28) (some 72) (v:=.bool true) rfl rfl (by kernel_rfl) (fun _ _ _ h => onN_panic h) (Or.inl ⟨by rfl,fun W => by go_simp⟩) ?_
          simp only [n1,n3,n4]
          refine wpK_ta (i:=29) (some 6) (v:=.bool true) rfl rfl (by kernel_rfl) (fun _ _ _ h => onN_panic h) (Or.inl ⟨rfl,fun _ => rfl⟩) ?_
          simp only [n1,n3,n4]
          refine wpK_done (by kernel_rfl) (fun V146 hv147 => ?_) _
          have S148 : Hid (St w noB [own (.slice A139 n140 c141) 3 1 n140 (ic (Gm.paste B (Gm.paste B l C m) C m)),own (.slice A132 n133 c134) 74 5 n133 (ccs (Gm.dif B (Gm.paste B l C m) C m (Gm.paste B l C m).length)),own (.slice A125 n126 c127) 3 1 n126 (ic (Gm.wr B l (Gm.dif B l C m l.length))),own (.slice A115 n116 c117) 74 5 n116 (ccs (Gm.dif B l C m l.length)),blk g57 28 [.int .i64 B.a, .int .i64 B.b, .int .i64 B.c, .int .i64 B.d, .int .i64 B.e, .int .i64 B.f, .slice A48 n49 c50],own (.slice A48 n49 c50) 3 1 n49 (ic (Gm.paste B l C m)),blk g36 23 [.int .i64 x, .int .i64 y, .int .i64 z],blk g22 28 [.int .i64 B.a, .int .i64 B.b, .int .i64 B.c, .int .i64 B.d, .int .i64 B.e, .int .i64 B.f, .slice A n c, .int .i64 C.a, .int .i64 C.b, .int .i64 C.c, .int .i64 C.d, .int .i64 C.e, .int .i64 C.f, .slice E ne ce],blk g14 23 [.int .i64 x, .int .i64 y, .int .i64 z],blk g9 28 [.int .i64 C.a, .int .i64 C.b, .int .i64 C.c, .int .i64 C.d, .int .i64 C.e, .int .i64 C.f, .slice E ne ce],blk g4 28 [.int .i64 B.a, .int .i64 B.b, .int .i64 B.c, .int .i64 B.d, .int .i64 B.e, .int .i64 B.f, .slice A n c]] V146):=Lib.hid (S145.out.gr hv147)
          clear S145
          clear hv147
          refine ⟨rfl,hK _ _ ?_⟩
          clear hK
          go_wp2_with fail
          go_ret
          refine ⟨?_,S148.out.bel⟩
          show Ending.returned (.bool true) = _
          (first | rfl | (have e_f33:=f33.out;have e_f47:=f47.out;have e_f71:=f71.out;have e_f114:=f114.out;rfl))
      | false =>
        have f149:=Lib.hid (Hc70.out.symm)
        refine @wpG_no _ _ _ _ _ (some 33) _ _ rfl (by rfl) ?_
        simp only [n1,n3,n4]
        refine @wpG_no _ _ _ _ _ (some 34) _ _ rfl (by rfl) ?_
        simp only [n1,n3,n4]
        refine @wpG_no _ _ _ _ _ (some 35) _ _ rfl (by rfl) ?_
        simp only [n1,n3,n4]
        refine @wpG_no _ _ _ _ _ (some 36) _ _ rfl (by rfl) ?_
        simp only [n1,n3,n4]
        refine @wpG_p _ _ _ _ _ (some 37) (.bool false) _ _ rfl (by rfl) (fun W => by go_simp) ?_
        simp only [n1,n3,n4]
        refine wpG_done (fun V150 hv151 => ?_)
        have S152 : Hid (St w noB [blk g57 28 [.int .i64 B.a, .int .i64 B.b, .int .i64 B.c, .int .i64 B.d, .int .i64 B.e, .int .i64 B.f, .slice A48 n49 c50],own (.slice A48 n49 c50) 3 1 n49 (ic (Gm.paste B l C m)),blk g36 23 [.int .i64 x, .int .i64 y, .int .i64 z],blk g22 28 [.int .i64 B.a, .int .i64 B.b, .int .i64 B.c, .int .i64 B.d, .int .i64 B.e, .int .i64 B.f, .slice A n c, .int .i64 C.a, .int .i64 C.b, .int .i64 C.c, .int .i64 C.d, .int .i64 C.e, .int .i64 C.f, .slice E ne ce],blk g14 23 [.int .i64 x, .int .i64 y, .int .i64 z],blk g9 28 [.int .i64 C.a, .int .i64 C.b, .int .i64 C.c, .int .i64 C.d, .int .i64 C.e, .int .i64 C.f, .slice E ne ce],blk g4 28 [.int .i64 B.a, .int .i64 B.b, .int .i64 B.c, .int .i64 B.d, .int .i64 B.e, .int .i64 B.f, .slice A n c]] V150):=Lib.hid (S69.out.gr hv151)
        clear S69
        clear hv151
        refine ⟨rfl,hK _ _ ?_⟩
        clear hK
        go_upto_region 7 with fail
        refine wpG_region_k (fun K hK => ?_)
        refine @wpG_tk _ _ _ _ _ (some 41) (.agg #[.int .i64 B.a, .int .i64 B.b, .int .i64 B.c, .int .i64 B.d, .int .i64 B.e, .int .i64 B.f, .slice A n c]) _ _ rfl (.load_mid (by rfl) 28 (.tmp 3) rfl g4 0 rfl [.int .i64 B.a, .int .i64 B.b, .int .i64 B.c, .int .i64 B.d, .int .i64 B.e, .int .i64 B.f, .slice A n c] _ (fun W hg => (S152.out.gr hg).range 6 rfl 0 7 rfl) Tryd.underlying28 rfl (by kernel_rfl)) ?_
        simp only [n1,n3,n4]
        refine @wpG_tk _ _ _ _ _ (some 42) (.agg #[.int .i64 C.a, .int .i64 C.b, .int .i64 C.c, .int .i64 C.d, .int .i64 C.e, .int .i64 C.f, .slice E ne ce]) _ _ rfl (.load_mid (by rfl) 28 (.tmp 4) rfl g9 0 rfl [.int .i64 C.a, .int .i64 C.b, .int .i64 C.c, .int .i64 C.d, .int .i64 C.e, .int .i64 C.f, .slice E ne ce] _ (fun W hg => (S152.out.gr hg).range 5 rfl 0 7 rfl) Tryd.underlying28 rfl (by kernel_rfl)) ?_
        simp only [n1,n3,n4]
        refine wpG_call (some 43) 25 #[.agg #[.int .i64 B.a, .int .i64 B.b, .int .i64 B.c, .int .i64 B.d, .int .i64 B.e, .int .i64 B.f, .slice A n c], .agg #[.int .i64 C.a, .int .i64 C.b, .int .i64 C.c, .int .i64 C.d, .int .i64 C.e, .int .i64 C.f, .slice E ne ce]] rfl (by rfl) (fun W => by go_simp) (fun W156 hg157 => ?_)
        refine (diff_any B _ _ _ l C _ _ _ m W156 (HGA.out.gr (S152.out.gr hg157).bel) (HGB.out.gr (S152.out.gr hg157).bel) (by have e_f33:=f33.out;have e_f47:=f47.out;have e_f149:=f149.out;have a_:=e_f33;rw [Bool.and_eq_true] at a_;exact (Gm.fw_of a_.1).2.1.ok) (by have e_f33:=f33.out;have e_f47:=f47.out;have e_f149:=f149.out;have a_:=e_f33;rw [Bool.and_eq_true] at a_;exact (Gm.fw_of a_.2).2.1.ok)).mono ?_
        rintro e w158 ⟨A153,n154,c155,rfl,hS_⟩
        refine ⟨_,rfl, ?_⟩
        have hT_:=(S152.out.gr hg157).got hS_
        simp only [n1,n3,n4]
        have S159 : Hid (St w noB [own (.slice A153 n154 c155) 74 5 n154 (ccs (Gm.dif B l C m l.length)),blk g57 28 [.int .i64 B.a, .int .i64 B.b, .int .i64 B.c, .int .i64 B.d, .int .i64 B.e, .int .i64 B.f, .slice A48 n49 c50],own (.slice A48 n49 c50) 3 1 n49 (ic (Gm.paste B l C m)),blk g36 23 [.int .i64 x, .int .i64 y, .int .i64 z],blk g22 28 [.int .i64 B.a, .int .i64 B.b, .int .i64 B.c, .int .i64 B.d, .int .i64 B.e, .int .i64 B.f, .slice A n c, .int .i64 C.a, .int .i64 C.b, .int .i64 C.c, .int .i64 C.d, .int .i64 C.e, .int .i64 C.f, .slice E ne ce],blk g14 23 [.int .i64 x, .int .i64 y, .int .i64 z],blk g9 28 [.int .i64 C.a, .int .i64 C.b, .int .i64 C.c, .int .i64 C.d, .int .i64 C.e, .int .i64 C.f, .slice E ne ce],blk g4 28 [.int .i64 B.a, .int .i64 B.b, .int .i64 B.c, .int .i64 B.d, .int .i64 B.e, .int .i64 B.f, .slice A n c]] w158):=Lib.hid hT_
        clear S152
        clear hT_ hS_ hg157
        refine @wpG_p _ _ _ _ _ (some 9) (.slice A153 n154 c155) _ _ rfl (by rfl) (fun _ => rfl) ?_
        simp only [n1,n3,n4]
        refine wpG_done (fun V160 hv161 => ?_)
        have S162 : Hid (St w noB [own (.slice A153 n154 c155) 74 5 n154 (ccs (Gm.dif B l C m l.length)),blk g57 28 [.int .i64 B.a, .int .i64 B.b, .int .i64 B.c, .int .i64 B.d, .int .i64 B.e, .int .i64 B.f, .slice A48 n49 c50],own (.slice A48 n49 c50) 3 1 n49 (ic (Gm.paste B l C m)),blk g36 23 [.int .i64 x, .int .i64 y, .int .i64 z],blk g22 28 [.int .i64 B.a, .int .i64 B.b, .int .i64 B.c, .int .i64 B.d, .int .i64 B.e, .int .i64 B.f, .slice A n c, .int .i64 C.a, .int .i64 C.b, .int .i64 C.c, .int .i64 C.d, .int .i64 C.e, .int .i64 C.f, .slice E ne ce],blk g14 23 [.int .i64 x, .int .i64 y, .int .i64 z],blk g9 28 [.int .i64 C.a, .int .i64 C.b, .int .i64 C.c, .int .i64 C.d, .int .i64 C.e, .int .i64 C.f, .slice E ne ce],blk g4 28 [.int .i64 B.a, .int .i64 B.b, .int .i64 B.c, .int .i64 B.d, .int .i64 B.e, .int .i64 B.f, .slice A n c]] V160):=Lib.hid (S159.out.gr hv161)
        clear S159
        clear hv161
        refine ⟨rfl,hK _ _ ?_⟩
        clear hK
        go_upto_region 8 with fail
        refine wpK_region_k (by kernel_rfl) (fun K hK => ?_)
        refine wpK_tk (i:=0) (some 44) (v:=.bool true) rfl rfl (by kernel_rfl) (fun _ _ _ h => onN_panic h) (.call (f:=11) (args:=#[]) (by rfl) (fun W => by go_simp) (fun W hg => (HSAN.out W (S162.out.gr (Gr.un hg)).bel))) ?_
        simp only [n1,n3,n4]
        refine wpK_ta (i:=1) (some 45) (v:=.bool true) rfl rfl (by kernel_rfl) (fun _ _ _ h => onN_panic h) (Or.inl ⟨rfl,fun _ => rfl⟩) ?_
        simp only [n1,n3,n4]
        refine wpK_ta (i:=5) (some 49) (v:=.int .i64 (Gm.get B l x y z)) rfl rfl (by kernel_rfl) (fun _ _ _ h => onN_panic h) (Or.inl ⟨rfl,fun _ => rfl⟩) ?_
        simp only [n1,n3,n4]
        refine wpK_tk (i:=2) (some 46) (v:=.agg #[.int .i64 B.a, .int .i64 B.b, .int .i64 B.c, .int .i64 B.d, .int .i64 B.e, .int .i64 B.f, .slice A48 n49 c50]) rfl rfl (by kernel_rfl) (fun _ _ _ h => onN_panic h) (.load_mid (by rfl) 28 (.tmp 7) rfl g57 0 rfl [.int .i64 B.a, .int .i64 B.b, .int .i64 B.c, .int .i64 B.d, .int .i64 B.e, .int .i64 B.f, .slice A48 n49 c50] _ (fun W hg => (S162.out.gr (Gr.un hg)).range 1 rfl 0 7 rfl) Tryd.underlying28 rfl (by kernel_rfl)) ?_
        simp only [n1,n3,n4]
        refine wpK_tk (i:=3) (some 47) (v:=.agg #[.int .i64 x, .int .i64 y, .int .i64 z]) rfl rfl (by kernel_rfl) (fun _ _ _ h => onN_panic h) (.load_mid (by rfl) 23 (.tmp 5) rfl g14 0 rfl [.int .i64 x, .int .i64 y, .int .i64 z] _ (fun W hg => (S162.out.gr (Gr.un hg)).range 5 rfl 0 3 rfl) Tryd.underlying23 rfl (by kernel_rfl)) ?_
        simp only [n1,n3,n4]
        refine wpK_tk (i:=4) (some 48) (v:=.int .i64 (Gm.get B l x y z)) rfl rfl (by kernel_rfl) (fun _ _ _ h => onN_panic h) (.call (f:=21) (args:=#[.agg #[.int .i64 B.a, .int .i64 B.b, .int .i64 B.c, .int .i64 B.d, .int .i64 B.e, .int .i64 B.f, .slice A48 n49 c50], .agg #[.int .i64 x, .int .i64 y, .int .i64 z]]) (by rfl) (fun W => by go_simp) (fun W hg => ((get_any B _ _ _ (Gm.paste B l C m) x y z W (SL.ofOwn ((S162.out.gr (Gr.un hg)).ownr 2 rfl)) (by have e_f33:=f33.out;have e_f47:=f47.out;have e_f149:=f149.out;have a_:=e_f33;rw [Bool.and_eq_true] at a_;exact Gm.ok_paste (Gm.fw_of a_.1).2.1.ok) (by have e_f33:=f33.out;have e_f47:=f47.out;have e_f149:=f149.out;exact Gm.near1_rp (Gm.nears_iff.1 e_f47 _ (by simp)))).mono (fun e w' h => ⟨h.1.trans (by have e_f33:=f33.out;have e_f47:=f47.out;have e_f149:=f149.out;rw [Gm.get_paste,e_f149];rfl),h.2⟩)))) ?_
        simp only [n1,n3,n4]
        refine wpK_ta (i:=6) (some 50) (v:=.bool true) rfl rfl (by kernel_rfl) (fun _ _ _ h => onN_panic h) (Or.inl ⟨by rfl,fun W => by go_simp⟩) ?_
        simp only [n1,n3,n4]
        refine wpK_ta (i:=7) (some 51) (v:=.bool true) rfl rfl (by kernel_rfl) (fun _ _ _ h => onN_panic h) (Or.inl ⟨by rfl,fun W => by go_simp⟩) ?_
        simp only [n1,n3,n4]
        refine wpK_ta (i:=8) (some 52) (v:=.bool true) rfl rfl (by kernel_rfl) (fun _ _ _ h => onN_panic h) (Or.inl ⟨rfl,fun _ => rfl⟩) ?_
        simp only [n1,n3,n4]
        refine wpK_ta (i:=10) (some 54) (v:=.slice A153 n154 c155) rfl rfl (by kernel_rfl) (fun _ _ _ h => onN_panic h) (Or.inl ⟨rfl,fun _ => rfl⟩) ?_
        simp only [n1,n3,n4]
        refine wpK_tk (i:=9) (some 53) (v:=.agg #[.int .i64 B.a, .int .i64 B.b, .int .i64 B.c, .int .i64 B.d, .int .i64 B.e, .int .i64 B.f, .slice A n c]) rfl rfl (by kernel_rfl) (fun _ _ _ h => onN_panic h) (.load_mid (by rfl) 28 (.tmp 3) rfl g4 0 rfl [.int .i64 B.a, .int .i64 B.b, .int .i64 B.c, .int .i64 B.d, .int .i64 B.e, .int .i64 B.f, .slice A n c] _ (fun W hg => (S162.out.gr (Gr.un hg)).range 7 rfl 0 7 rfl) Tryd.underlying28 rfl (by kernel_rfl)) ?_
        simp only [n1,n3,n4]
        refine wpK_tk (i:=12) (some 56) (v:=.agg #[.int .i64 B.a, .int .i64 B.b, .int .i64 B.c, .int .i64 B.d, .int .i64 B.e, .int .i64 B.f, .slice A48 n49 c50]) rfl rfl (by kernel_rfl) (fun _ _ _ h => onN_panic h) (.load_mid (by rfl) 28 (.tmp 7) rfl g57 0 rfl [.int .i64 B.a, .int .i64 B.b, .int .i64 B.c, .int .i64 B.d, .int .i64 B.e, .int .i64 B.f, .slice A48 n49 c50] _ (fun W hg => (S162.out.gr (Gr.un hg)).range 1 rfl 0 7 rfl) Tryd.underlying28 rfl (by kernel_rfl)) ?_
        simp only [n1,n3,n4]
        refine wpK_call (i:=11) (some 55) 27 #[.agg #[.int .i64 B.a, .int .i64 B.b, .int .i64 B.c, .int .i64 B.d, .int .i64 B.e, .int .i64 B.f, .slice A n c], .slice A153 n154 c155] rfl rfl (by kernel_rfl) (by rfl) (fun W => by go_simp) (fun W166 hg167 => ?_)
        refine (write_any B _ _ _ l _ _ _ (Gm.dif B l C m l.length) W166 (HGA.out.gr (S162.out.gr (Gr.un hg167)).bel) (by have e_f33:=f33.out;have e_f47:=f47.out;have e_f149:=f149.out;have a_:=e_f33;rw [Bool.and_eq_true] at a_;exact (Gm.fw_of a_.1).2.1.ok) (SL.ofOwn ((S162.out.gr (Gr.un hg167)).ownr 0 rfl)) (by have e_f33:=f33.out;have e_f47:=f47.out;have e_f149:=f149.out;exact Gm.dif_rp (show Gm.ok B l by have a_:=e_f33;rw [Bool.and_eq_true] at a_;exact (Gm.fw_of a_.1).2.1.ok) (Nat.le_refl _))).mono ?_
        rintro e w168 ⟨A163,n164,c165,rfl,hS_⟩
        refine ⟨_,rfl,hS_.bel, ?_⟩
        have hT_:=(S162.out.gr (Gr.un hg167)).got hS_
        simp only [n1,n3,n4]
        have S169 : Hid (St w noB [own (.slice A163 n164 c165) 3 1 n164 (ic (Gm.wr B l (Gm.dif B l C m l.length))),own (.slice A153 n154 c155) 74 5 n154 (ccs (Gm.dif B l C m l.length)),blk g57 28 [.int .i64 B.a, .int .i64 B.b, .int .i64 B.c, .int .i64 B.d, .int .i64 B.e, .int .i64 B.f, .slice A48 n49 c50],own (.slice A48 n49 c50) 3 1 n49 (ic (Gm.paste B l C m)),blk g36 23 [.int .i64 x, .int .i64 y, .int .i64 z],blk g22 28 [.int .i64 B.a, .int .i64 B.b, .int .i64 B.c, .int .i64 B.d, .int .i64 B.e, .int .i64 B.f, .slice A n c, .int .i64 C.a, .int .i64 C.b, .int .i64 C.c, .int .i64 C.d, .int .i64 C.e, .int .i64 C.f, .slice E ne ce],blk g14 23 [.int .i64 x, .int .i64 y, .int .i64 z],blk g9 28 [.int .i64 C.a, .int .i64 C.b, .int .i64 C.c, .int .i64 C.d, .int .i64 C.e, .int .i64 C.f, .slice E ne ce],blk g4 28 [.int .i64 B.a, .int .i64 B.b, .int .i64 B.c, .int .i64 B.d, .int .i64 B.e, .int .i64 B.f, .slice A n c]] w168):=Lib.hid hT_
        clear S162
        clear hT_ hS_ hg167
        have hnn164 : n164 ≤ (Gm.wr B l (Gm.dif B l C m l.length)).length ∧ (Gm.wr B l (Gm.dif B l C m l.length)).length ≤ n164:=by have h_:=own_icl (S169.out.ownr 0 rfl);omega
        refine wpK_tk (i:=13) (some 57) (v:=.bool true) rfl rfl (by kernel_rfl) (fun _ _ _ h => onN_panic h) (.call (f:=26) (args:=#[.agg #[.int .i64 B.a, .int .i64 B.b, .int .i64 B.c, .int .i64 B.d, .int .i64 B.e, .int .i64 B.f, .slice A163 n164 c165], .agg #[.int .i64 B.a, .int .i64 B.b, .int .i64 B.c, .int .i64 B.d, .int .i64 B.e, .int .i64 B.f, .slice A48 n49 c50]]) (by rfl) (fun W => by go_simp) (fun W hg => ((equal_any B _ _ _ (Gm.wr B l (Gm.dif B l C m l.length)) B _ _ _ (Gm.paste B l C m) W (SL.ofOwn ((S169.out.gr hg).ownr 0 rfl)) (SL.ofOwn ((S169.out.gr hg).ownr 3 rfl))).mono (fun e w' h => ⟨h.1.trans (by have e_f33:=f33.out;have e_f47:=f47.out;have e_f149:=f149.out;rw [Gm.wr_dif_all (show Gm.ok B l by have a_:=e_f33;rw [Bool.and_eq_true] at a_;exact (Gm.fw_of a_.1).2.1.ok),Gm.same_iff.2 ⟨rfl,rfl⟩]),h.2⟩)))) ?_
        simp only [n1,n3,n4]
        refine wpK_ta (i:=14) (some 58) (v:=.bool true) rfl rfl (by kernel_rfl) (fun _ _ _ h => onN_panic h) (Or.inl ⟨by rfl,fun W => by go_simp⟩) ?_
        simp only [n1,n3,n4]
        refine wpK_ta (i:=15) (some 59) (v:=.bool true) rfl rfl (by kernel_rfl) (fun _ _ _ h => onN_panic h) (Or.inl ⟨rfl,fun _ => rfl⟩) ?_
        simp only [n1,n3,n4]
        refine wpK_tk (i:=16) (some 60) (v:=.agg #[.int .i64 B.a, .int .i64 B.b, .int .i64 B.c, .int .i64 B.d, .int .i64 B.e, .int .i64 B.f, .slice A48 n49 c50]) rfl rfl (by kernel_rfl) (fun _ _ _ h => onN_panic h) (.load_mid (by rfl) 28 (.tmp 7) rfl g57 0 rfl [.int .i64 B.a, .int .i64 B.b, .int .i64 B.c, .int .i64 B.d, .int .i64 B.e, .int .i64 B.f, .slice A48 n49 c50] _ (fun W hg => (S169.out.gr hg).range 2 rfl 0 7 rfl) Tryd.underlying28 rfl (by kernel_rfl)) ?_
        simp only [n1,n3,n4]
        refine wpK_tk (i:=17) (some 61) (v:=.agg #[.int .i64 C.a, .int .i64 C.b, .int .i64 C.c, .int .i64 C.d, .int .i64 C.e, .int .i64 C.f, .slice E ne ce]) rfl rfl (by kernel_rfl) (fun _ _ _ h => onN_panic h) (.load_mid (by rfl) 28 (.tmp 4) rfl g9 0 rfl [.int .i64 C.a, .int .i64 C.b, .int .i64 C.c, .int .i64 C.d, .int .i64 C.e, .int .i64 C.f, .slice E ne ce] _ (fun W hg => (S169.out.gr hg).range 7 rfl 0 7 rfl) Tryd.underlying28 rfl (by kernel_rfl)) ?_
        simp only [n1,n3,n4]
        refine wpK_call (i:=18) (some 62) 25 #[.agg #[.int .i64 B.a, .int .i64 B.b, .int .i64 B.c, .int .i64 B.d, .int .i64 B.e, .int .i64 B.f, .slice A48 n49 c50], .agg #[.int .i64 C.a, .int .i64 C.b, .int .i64 C.c, .int .i64 C.d, .int .i64 C.e, .int .i64 C.f, .slice E ne ce]] rfl rfl (by kernel_rfl) (by rfl) (fun W => by go_simp) (fun W173 hg174 => ?_)
        refine (diff_any B _ _ _ (Gm.paste B l C m) C _ _ _ m W173 (SL.ofOwn ((S169.out.gr hg174).ownr 3 rfl)) (HGB.out.gr (S169.out.gr hg174).bel) (by have e_f33:=f33.out;have e_f47:=f47.out;have e_f149:=f149.out;have a_:=e_f33;rw [Bool.and_eq_true] at a_;exact Gm.ok_paste (Gm.fw_of a_.1).2.1.ok) (by have e_f33:=f33.out;have e_f47:=f47.out;have e_f149:=f149.out;have a_:=e_f33;rw [Bool.and_eq_true] at a_;exact (Gm.fw_of a_.2).2.1.ok)).mono ?_
        rintro e w175 ⟨A170,n171,c172,rfl,hS_⟩
        refine ⟨_,rfl,hS_.bel, ?_⟩
        have hT_:=(S169.out.gr hg174).got hS_
        simp only [n1,n3,n4]
        have S176 : Hid (St w noB [own (.slice A170 n171 c172) 74 5 n171 (ccs (Gm.dif B (Gm.paste B l C m) C m (Gm.paste B l C m).length)),own (.slice A163 n164 c165) 3 1 n164 (ic (Gm.wr B l (Gm.dif B l C m l.length))),own (.slice A153 n154 c155) 74 5 n154 (ccs (Gm.dif B l C m l.length)),blk g57 28 [.int .i64 B.a, .int .i64 B.b, .int .i64 B.c, .int .i64 B.d, .int .i64 B.e, .int .i64 B.f, .slice A48 n49 c50],own (.slice A48 n49 c50) 3 1 n49 (ic (Gm.paste B l C m)),blk g36 23 [.int .i64 x, .int .i64 y, .int .i64 z],blk g22 28 [.int .i64 B.a, .int .i64 B.b, .int .i64 B.c, .int .i64 B.d, .int .i64 B.e, .int .i64 B.f, .slice A n c, .int .i64 C.a, .int .i64 C.b, .int .i64 C.c, .int .i64 C.d, .int .i64 C.e, .int .i64 C.f, .slice E ne ce],blk g14 23 [.int .i64 x, .int .i64 y, .int .i64 z],blk g9 28 [.int .i64 C.a, .int .i64 C.b, .int .i64 C.c, .int .i64 C.d, .int .i64 C.e, .int .i64 C.f, .slice E ne ce],blk g4 28 [.int .i64 B.a, .int .i64 B.b, .int .i64 B.c, .int .i64 B.d, .int .i64 B.e, .int .i64 B.f, .slice A n c]] w175):=Lib.hid hT_
        clear S169
        clear hT_ hS_ hg174
        refine wpK_ta (i:=19) (some 63) (v:=.int .i64 (n171 : Int)) rfl rfl (by kernel_rfl) (fun _ _ _ h => onN_panic h) (Or.inl ⟨by rfl,fun W => by go_simp⟩) ?_
        simp only [n1,n3,n4]
        have hz_ : n171 ≤ 0:=by have e_f33:=f33.out;have e_f47:=f47.out;have e_f149:=f149.out;have h_:=(S176.out.ownr 0 rfl).1;rw [ccs_len,Gm.dif_paste (show Gm.ok B l by have a_:=e_f33;rw [Bool.and_eq_true] at a_;exact (Gm.fw_of a_.1).2.1.ok) _ (Nat.le_refl _)] at h_;simp at h_;omega
        refine wpK_ta (i:=20) (some 64) (v:=.bool true) rfl rfl (by kernel_rfl) (fun _ _ _ h => onN_panic h) (Or.inl ⟨by rfl,fun W => by have hq : ((n171 : Int) = 0):=(by omega);first | (go_simp;done) | (go_simp <;> omega)⟩) ?_
        simp only [n1,n3,n4]
        refine wpK_ta (i:=21) (some 65) (v:=.bool true) rfl rfl (by kernel_rfl) (fun _ _ _ h => onN_panic h) (Or.inl ⟨by rfl,fun W => by go_simp⟩) ?_
        simp only [n1,n3,n4]
        refine wpK_ta (i:=22) (some 66) (v:=.bool true) rfl rfl (by kernel_rfl) (fun _ _ _ h => onN_panic h) (Or.inl ⟨rfl,fun _ => rfl⟩) ?_
        simp only [n1,n3,n4]
        refine wpK_tk (i:=23) (some 67) (v:=.agg #[.int .i64 B.a, .int .i64 B.b, .int .i64 B.c, .int .i64 B.d, .int .i64 B.e, .int .i64 B.f, .slice A48 n49 c50]) rfl rfl (by kernel_rfl) (fun _ _ _ h => onN_panic h) (.load_mid (by rfl) 28 (.tmp 7) rfl g57 0 rfl [.int .i64 B.a, .int .i64 B.b, .int .i64 B.c, .int .i64 B.d, .int .i64 B.e, .int .i64 B.f, .slice A48 n49 c50] _ (fun W hg => (S176.out.gr hg).range 3 rfl 0 7 rfl) Tryd.underlying28 rfl (by kernel_rfl)) ?_
        simp only [n1,n3,n4]
        refine wpK_tk (i:=24) (some 68) (v:=.agg #[.int .i64 C.a, .int .i64 C.b, .int .i64 C.c, .int .i64 C.d, .int .i64 C.e, .int .i64 C.f, .slice E ne ce]) rfl rfl (by kernel_rfl) (fun _ _ _ h => onN_panic h) (.load_mid (by rfl) 28 (.tmp 4) rfl g9 0 rfl [.int .i64 C.a, .int .i64 C.b, .int .i64 C.c, .int .i64 C.d, .int .i64 C.e, .int .i64 C.f, .slice E ne ce] _ (fun W hg => (S176.out.gr hg).range 8 rfl 0 7 rfl) Tryd.underlying28 rfl (by kernel_rfl)) ?_
        simp only [n1,n3,n4]
        refine wpK_tk (i:=26) (some 70) (v:=.agg #[.int .i64 B.a, .int .i64 B.b, .int .i64 B.c, .int .i64 B.d, .int .i64 B.e, .int .i64 B.f, .slice A48 n49 c50]) rfl rfl (by kernel_rfl) (fun _ _ _ h => onN_panic h) (.load_mid (by rfl) 28 (.tmp 7) rfl g57 0 rfl [.int .i64 B.a, .int .i64 B.b, .int .i64 B.c, .int .i64 B.d, .int .i64 B.e, .int .i64 B.f, .slice A48 n49 c50] _ (fun W hg => (S176.out.gr hg).range 3 rfl 0 7 rfl) Tryd.underlying28 rfl (by kernel_rfl)) ?_
        simp only [n1,n3,n4]
        refine wpK_call (i:=25) (some 69) 24 #[.agg #[.int .i64 B.a, .int .i64 B.b, .int .i64 B.c, .int .i64 B.d, .int .i64 B.e, .int .i64 B.f, .slice A48 n49 c50], .agg #[.int .i64 C.a, .int .i64 C.b, .int .i64 C.c, .int .i64 C.d, .int .i64 C.e, .int .i64 C.f, .slice E ne ce]] rfl rfl (by kernel_rfl) (by rfl) (fun W => by go_simp) (fun W180 hg181 => ?_)
        refine (paste_any B _ _ _ (Gm.paste B l C m) C _ _ _ m W180 (SL.ofOwn ((S176.out.gr hg181).ownr 4 rfl)) (HGB.out.gr (S176.out.gr hg181).bel) (by have e_f33:=f33.out;have e_f47:=f47.out;have e_f149:=f149.out;have a_:=e_f33;rw [Bool.and_eq_true] at a_;exact Gm.ok_paste (Gm.fw_of a_.1).2.1.ok) (by have e_f33:=f33.out;have e_f47:=f47.out;have e_f149:=f149.out;have a_:=e_f33;rw [Bool.and_eq_true] at a_;exact (Gm.fw_of a_.2).2.1.ok)).mono ?_
        rintro e w182 ⟨A177,n178,c179,rfl,hS_⟩
        refine ⟨_,rfl,hS_.bel, ?_⟩
        have hT_:=(S176.out.gr hg181).got hS_
        simp only [n1,n3,n4]
        have S183 : Hid (St w noB [own (.slice A177 n178 c179) 3 1 n178 (ic (Gm.paste B (Gm.paste B l C m) C m)),own (.slice A170 n171 c172) 74 5 n171 (ccs (Gm.dif B (Gm.paste B l C m) C m (Gm.paste B l C m).length)),own (.slice A163 n164 c165) 3 1 n164 (ic (Gm.wr B l (Gm.dif B l C m l.length))),own (.slice A153 n154 c155) 74 5 n154 (ccs (Gm.dif B l C m l.length)),blk g57 28 [.int .i64 B.a, .int .i64 B.b, .int .i64 B.c, .int .i64 B.d, .int .i64 B.e, .int .i64 B.f, .slice A48 n49 c50],own (.slice A48 n49 c50) 3 1 n49 (ic (Gm.paste B l C m)),blk g36 23 [.int .i64 x, .int .i64 y, .int .i64 z],blk g22 28 [.int .i64 B.a, .int .i64 B.b, .int .i64 B.c, .int .i64 B.d, .int .i64 B.e, .int .i64 B.f, .slice A n c, .int .i64 C.a, .int .i64 C.b, .int .i64 C.c, .int .i64 C.d, .int .i64 C.e, .int .i64 C.f, .slice E ne ce],blk g14 23 [.int .i64 x, .int .i64 y, .int .i64 z],blk g9 28 [.int .i64 C.a, .int .i64 C.b, .int .i64 C.c, .int .i64 C.d, .int .i64 C.e, .int .i64 C.f, .slice E ne ce],blk g4 28 [.int .i64 B.a, .int .i64 B.b, .int .i64 B.c, .int .i64 B.d, .int .i64 B.e, .int .i64 B.f, .slice A n c]] w182):=Lib.hid hT_
        clear S176
        clear hT_ hS_ hg181
        have hnn178 : n178 ≤ (Gm.paste B (Gm.paste B l C m) C m).length ∧ (Gm.paste B (Gm.paste B l C m) C m).length ≤ n178:=by have h_:=own_icl (S183.out.ownr 0 rfl);omega
        refine wpK_tk (i:=27) (some 71) (v:=.bool true) rfl rfl (by kernel_rfl) (fun _ _ _ h => onN_panic h) (.call (f:=26) (args:=#[.agg #[.int .i64 B.a, .int .i64 B.b, .int .i64 B.c, .int .i64 B.d, .int .i64 B.e, .int .i64 B.f, .slice A177 n178 c179], .agg #[.int .i64 B.a, .int .i64 B.b, .int .i64 B.c, .int .i64 B.d, .int .i64 B.e, .int .i64 B.f, .slice A48 n49 c50]]) (by rfl) (fun W => by go_simp) (fun W hg => ((equal_any B _ _ _ (Gm.paste B (Gm.paste B l C m) C m) B _ _ _ (Gm.paste B l C m) W (SL.ofOwn ((S183.out.gr hg).ownr 0 rfl)) (SL.ofOwn ((S183.out.gr hg).ownr 5 rfl))).mono (fun e w' h => ⟨h.1.trans (by have e_f33:=f33.out;have e_f47:=f47.out;have e_f149:=f149.out;rw [Gm.paste_twice (show Gm.ok B l by have a_:=e_f33;rw [Bool.and_eq_true] at a_;exact (Gm.fw_of a_.1).2.1.ok),Gm.same_iff.2 ⟨rfl,rfl⟩]),h.2⟩)))) ?_
        simp only [n1,n3,n4]
        refine wpK_ta (i:=28) (some 72) (v:=.bool true) rfl rfl (by kernel_rfl) (fun _ _ _ h => onN_panic h) (Or.inl ⟨by rfl,fun W => by go_simp⟩) ?_
        simp only [n1,n3,n4]
        refine wpK_ta (i:=29) (some 6) (v:=.bool true) rfl rfl (by kernel_rfl) (fun _ _ _ h => onN_panic h) (Or.inl ⟨rfl,fun _ => rfl⟩) ?_
        simp only [n1,n3,n4]
        refine wpK_done (by kernel_rfl) (fun V184 hv185 => ?_) _
        have S186 : Hid (St w noB [own (.slice A177 n178 c179) 3 1 n178 (ic (Gm.paste B (Gm.paste B l C m) C m)),own (.slice A170 n171 c172) 74 5 n171 (ccs (Gm.dif B (Gm.paste B l C m) C m (Gm.paste B l C m).length)),own (.slice A163 n164 c165) 3 1 n164 (ic (Gm.wr B l (Gm.dif B l C m l.length))),own (.slice A153 n154 c155) 74 5 n154 (ccs (Gm.dif B l C m l.length)),blk g57 28 [.int .i64 B.a, .int .i64 B.b, .int .i64 B.c, .int .i64 B.d, .int .i64 B.e, .int .i64 B.f, .slice A48 n49 c50],own (.slice A48 n49 c50) 3 1 n49 (ic (Gm.paste B l C m)),blk g36 23 [.int .i64 x, .int .i64 y, .int .i64 z],blk g22 28 [.int .i64 B.a, .int .i64 B.b, .int .i64 B.c, .int .i64 B.d, .int .i64 B.e, .int .i64 B.f, .slice A n c, .int .i64 C.a, .int .i64 C.b, .int .i64 C.c, .int .i64 C.d, .int .i64 C.e, .int .i64 C.f, .slice E ne ce],blk g14 23 [.int .i64 x, .int .i64 y, .int .i64 z],blk g9 28 [.int .i64 C.a, .int .i64 C.b, .int .i64 C.c, .int .i64 C.d, .int .i64 C.e, .int .i64 C.f, .slice E ne ce],blk g4 28 [.int .i64 B.a, .int .i64 B.b, .int .i64 B.c, .int .i64 B.d, .int .i64 B.e, .int .i64 B.f, .slice A n c]] V184):=Lib.hid (S183.out.gr hv185)
        clear S183
        clear hv185
        refine ⟨rfl,hK _ _ ?_⟩
        clear hK
        go_wp2_with fail
        go_ret
        refine ⟨?_,S186.out.bel⟩
        show Ending.returned (.bool true) = _
        (first | rfl | (have e_f33:=f33.out;have e_f47:=f47.out;have e_f149:=f149.out;rfl))

end Go.Proofs.YtjdeaopdbenamaaDoor
