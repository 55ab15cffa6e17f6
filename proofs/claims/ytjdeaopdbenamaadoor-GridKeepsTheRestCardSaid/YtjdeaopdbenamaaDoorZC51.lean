/-
  GridKeepsTheRest: the walk.
-/
import Derived.Test.YtjdeaopdbenamaaDoorZC31
import Derived.Test.YtjdeaopdbenamaaDoorZC32
import Derived.Test.YtjdeaopdbenamaaDoorZC47
import Derived.Test.YtjdeaopdbenamaaDoorZC48
import Derived.Test.YtjdeaopdbenamaaDoorZC50
import Derived.Test.YtjdeaopdbenamaaDoorZC46
import Derived.Test.YtjdeaopdbenamaaDoorZC40
import Derived.Handy
namespace Go.Proofs.YtjdeaopdbenamaaDoor
open Go Go.RowKit
set_option linter.unusedVariables false
set_option linter.unusedSimpArgs false
set_option maxRecDepth 1000000 in
set_option maxHeartbeats 4000000 in
theorem law_gl3 (B : Gm.Bx) (A : Option Addr) (n c : Nat) (l : List Int) (x y z x2 y2 z2 m : Int) (w : World) (hG : SL w 1 A n c (ic l)) (hSan : ∀ W, Gr w W → Calls Tryd.prog 11 #[] W fun e w' => e = .returned (.bool true) ∧ Below W.heap.size W w') :
    Calls Tryd.prog 4 #[.agg #[.int .i64 B.a, .int .i64 B.b, .int .i64 B.c, .int .i64 B.d, .int .i64 B.e, .int .i64 B.f, .slice A n c], .agg #[.int .i64 x, .int .i64 y, .int .i64 z], .agg #[.int .i64 x2, .int .i64 y2, .int .i64 z2], .int .i64 m] w fun e w' => e = .returned (.bool true) ∧ Below w.heap.size w w' := by
  have HGA := Lib.hid hG
  have HLEN : Hid (l.length = n) := Lib.hid (by have h_ := hG.len; rw [ic_len] at h_; omega)
  have hnbHGA : n ≤ 9223372036854775807 := Nat.le_trans hG.cap hG.bnd
  clear hG
  have HSAN := Lib.hid hSan
  clear hSan
  have S1 : Hid (St w noB [] w) := Lib.hid (St.start w)
  go_enter Tryd.func4, Tryd.ntmps4
  go_upto_region 0 with fail
  refine wpG_region_k (fun K hK => ?_)
  refine wpG_val (some 4) rfl (by rfl) (fun W2 hg3 => ⟨.pointer (some ⟨W2.heap.size, 0, none⟩), W2.alloc (.cells #[.int .i64 B.a, .int .i64 B.b, .int .i64 B.c, .int .i64 B.d, .int .i64 B.e, .int .i64 B.f, .slice A n c] 28), by (first | (go_simp; done) | (go_simp <;> rfl)), ?_⟩)
  simp only [n1, n3, n4]
  obtain ⟨g4, U5, hg_, hu_, hS_⟩ := (S1.out.gr hg3).made [.int .i64 B.a, .int .i64 B.b, .int .i64 B.c, .int .i64 B.d, .int .i64 B.e, .int .i64 B.f, .slice A n c] 28
  rw [← hu_, ← hg_]
  have S6 : Hid (St w noB [blk g4 28 [.int .i64 B.a, .int .i64 B.b, .int .i64 B.c, .int .i64 B.d, .int .i64 B.e, .int .i64 B.f, .slice A n c]] U5) := Lib.hid hS_
  clear S1
  clear hg_ hu_ hS_ hg3
  refine wpG_val (some 5) rfl (by rfl) (fun W7 hg8 => ⟨.pointer (some ⟨W7.heap.size, 0, none⟩), W7.alloc (.cells #[.int .i64 x, .int .i64 y, .int .i64 z] 23), by (first | (go_simp; done) | (go_simp <;> rfl)), ?_⟩)
  simp only [n1, n3, n4]
  obtain ⟨g9, U10, hg_, hu_, hS_⟩ := (S6.out.gr hg8).made [.int .i64 x, .int .i64 y, .int .i64 z] 23
  rw [← hu_, ← hg_]
  have S11 : Hid (St w noB [blk g9 23 [.int .i64 x, .int .i64 y, .int .i64 z], blk g4 28 [.int .i64 B.a, .int .i64 B.b, .int .i64 B.c, .int .i64 B.d, .int .i64 B.e, .int .i64 B.f, .slice A n c]] U10) := Lib.hid hS_
  clear S6
  clear hg_ hu_ hS_ hg8
  refine wpG_val (some 6) rfl (by rfl) (fun W12 hg13 => ⟨.pointer (some ⟨W12.heap.size, 0, none⟩), W12.alloc (.cells #[.int .i64 x2, .int .i64 y2, .int .i64 z2] 23), by (first | (go_simp; done) | (go_simp <;> rfl)), ?_⟩)
  simp only [n1, n3, n4]
  obtain ⟨g14, U15, hg_, hu_, hS_⟩ := (S11.out.gr hg13).made [.int .i64 x2, .int .i64 y2, .int .i64 z2] 23
  rw [← hu_, ← hg_]
  have S16 : Hid (St w noB [blk g14 23 [.int .i64 x2, .int .i64 y2, .int .i64 z2], blk g9 23 [.int .i64 x, .int .i64 y, .int .i64 z], blk g4 28 [.int .i64 B.a, .int .i64 B.b, .int .i64 B.c, .int .i64 B.d, .int .i64 B.e, .int .i64 B.f, .slice A n c]] U15) := Lib.hid hS_
  clear S11
  clear hg_ hu_ hS_ hg13
  refine @wpG_p _ _ _ _ _ (some 8) (.bool false) _ _ rfl (by rfl) (fun _ => rfl) ?_
  simp only [n1, n3, n4]
  refine wpG_done (fun V17 hv18 => ?_)
  have S19 : Hid (St w noB [blk g14 23 [.int .i64 x2, .int .i64 y2, .int .i64 z2], blk g9 23 [.int .i64 x, .int .i64 y, .int .i64 z], blk g4 28 [.int .i64 B.a, .int .i64 B.b, .int .i64 B.c, .int .i64 B.d, .int .i64 B.e, .int .i64 B.f, .slice A n c]] V17) := Lib.hid (S16.out.gr hv18)
  clear S16
  clear hv18
  refine ⟨rfl, hK _ _ ?_⟩
  clear hK
  go_upto_region 1 with fail
  refine wpG_region_k (fun K hK => ?_)
  refine @wpG_tk _ _ _ _ _ (some 13) (.agg #[.int .i64 B.a, .int .i64 B.b, .int .i64 B.c, .int .i64 B.d, .int .i64 B.e, .int .i64 B.f, .slice A n c]) _ _ rfl (.load_mid (by rfl) 28 (.tmp 4) rfl g4 0 rfl [.int .i64 B.a, .int .i64 B.b, .int .i64 B.c, .int .i64 B.d, .int .i64 B.e, .int .i64 B.f, .slice A n c] _ (fun W hg => (S19.out.gr hg).range 2 rfl 0 7 rfl) Tryd.underlying28 rfl (by kernel_rfl)) ?_
  simp only [n1, n3, n4]
  refine wpG_val (some 14) rfl (by rfl) (fun W20 hg21 => ⟨.slice (some ⟨W20.heap.size, 0, none⟩) 1 1, W20.alloc (.cells #[.int .i64 B.a, .int .i64 B.b, .int .i64 B.c, .int .i64 B.d, .int .i64 B.e, .int .i64 B.f, .slice A n c] 28), by (go_simp <;> rfl), ?_⟩)
  simp only [n1, n3, n4]
  obtain ⟨g22, U23, hg_, hu_, hS_⟩ := (S19.out.gr hg21).made [.int .i64 B.a, .int .i64 B.b, .int .i64 B.c, .int .i64 B.d, .int .i64 B.e, .int .i64 B.f, .slice A n c] 28
  rw [← hu_, ← hg_]
  have S24 : Hid (St w noB [blk g22 28 [.int .i64 B.a, .int .i64 B.b, .int .i64 B.c, .int .i64 B.d, .int .i64 B.e, .int .i64 B.f, .slice A n c], blk g14 23 [.int .i64 x2, .int .i64 y2, .int .i64 z2], blk g9 23 [.int .i64 x, .int .i64 y, .int .i64 z], blk g4 28 [.int .i64 B.a, .int .i64 B.b, .int .i64 B.c, .int .i64 B.d, .int .i64 B.e, .int .i64 B.f, .slice A n c]] U23) := Lib.hid hS_
  clear S19
  clear hg_ hu_ hS_ hg21
  refine @wpG_tk _ _ _ _ _ (some 15) (.bool (Gm.fw B l)) _ _ rfl (.call (f := 19) (args := #[.slice (some ⟨g22, 0, none⟩) 1 1]) (by rfl) (fun W => by go_simp) (fun W hg => few1_any B _ _ _ l _ _ W (SL.ofBlk (S24.out.gr hg) 0 rfl 7 1 ([.int .i64 B.a, .int .i64 B.b, .int .i64 B.c, .int .i64 B.d, .int .i64 B.e, .int .i64 B.f, .slice A n c]) rfl rfl (by decide)) (HGA.out.gr (S24.out.gr hg).bel))) ?_
  simp only [n1, n3, n4]
  refine @wpG_p _ _ _ _ _ (some 16) (.bool (!(Gm.fw B l))) _ _ rfl (by rfl) (fun W => by go_simp) ?_
  simp only [n1, n3, n4]
  refine @wpG_p _ _ _ _ _ (some 17) (.bool (!(Gm.fw B l))) _ _ rfl (by rfl) (fun _ => rfl) ?_
  simp only [n1, n3, n4]
  obtain ⟨c25, hc25⟩ : ∃ q_, q_ = (!(Gm.fw B l)) := ⟨_, rfl⟩
  rw [← hc25]
  have Hc25 := Lib.hid hc25
  clear hc25
  cases c25 with
  | true =>
    have f26 := Lib.hid ((bnt Hc25.out))
    refine @wpG_no _ _ _ _ _ (some 18) _ _ rfl (by rfl) ?_
    simp only [n1, n3, n4]
    refine @wpG_no _ _ _ _ _ (some 19) _ _ rfl (by rfl) ?_
    simp only [n1, n3, n4]
    refine @wpG_no _ _ _ _ _ (some 20) _ _ rfl (by rfl) ?_
    simp only [n1, n3, n4]
    refine @wpG_no _ _ _ _ _ (some 21) _ _ rfl (by rfl) ?_
    simp only [n1, n3, n4]
    refine @wpG_no _ _ _ _ _ (some 22) _ _ rfl (by rfl) ?_
    simp only [n1, n3, n4]
    refine @wpG_p _ _ _ _ _ (some 23) (.bool true) _ _ rfl (by rfl) (fun W => by go_simp) ?_
    simp only [n1, n3, n4]
    refine @wpG_p _ _ _ _ _ (some 24) (.bool true) _ _ rfl (by rfl) (fun _ => rfl) ?_
    simp only [n1, n3, n4]
    refine @wpG_no _ _ _ _ _ (some 25) _ _ rfl (by rfl) ?_
    simp only [n1, n3, n4]
    refine @wpG_no _ _ _ _ _ (some 26) _ _ rfl (by rfl) ?_
    simp only [n1, n3, n4]
    refine @wpG_p _ _ _ _ _ (some 27) (.bool true) _ _ rfl (by rfl) (fun W => by go_simp) ?_
    simp only [n1, n3, n4]
    refine @wpG_p _ _ _ _ _ (some 28) (.bool true) _ _ rfl (by rfl) (fun _ => rfl) ?_
    simp only [n1, n3, n4]
    refine @wpG_no _ _ _ _ _ (some 29) _ _ rfl (by rfl) ?_
    simp only [n1, n3, n4]
    refine @wpG_no _ _ _ _ _ (some 30) _ _ rfl (by rfl) ?_
    simp only [n1, n3, n4]
    refine @wpG_p _ _ _ _ _ (some 31) (.bool true) _ _ rfl (by rfl) (fun W => by go_simp) ?_
    simp only [n1, n3, n4]
    refine wpG_done (fun V27 hv28 => ?_)
    have S29 : Hid (St w noB [blk g22 28 [.int .i64 B.a, .int .i64 B.b, .int .i64 B.c, .int .i64 B.d, .int .i64 B.e, .int .i64 B.f, .slice A n c], blk g14 23 [.int .i64 x2, .int .i64 y2, .int .i64 z2], blk g9 23 [.int .i64 x, .int .i64 y, .int .i64 z], blk g4 28 [.int .i64 B.a, .int .i64 B.b, .int .i64 B.c, .int .i64 B.d, .int .i64 B.e, .int .i64 B.f, .slice A n c]] V27) := Lib.hid (S24.out.gr hv28)
    clear S24
    clear hv28
    refine ⟨rfl, hK _ _ ?_⟩
    clear hK
    go_upto_region 2 with fail
    refine wpG_region_k (fun K hK => ?_)
    refine @wpG_tk _ _ _ _ _ (some 32) (.bool true) _ _ rfl (.call (f := 11) (args := #[]) (by rfl) (fun W => by go_simp) (fun W hg => (HSAN.out W (S29.out.gr hg).bel))) ?_
    simp only [n1, n3, n4]
    refine @wpG_p _ _ _ _ _ (some 8) (.bool true) _ _ rfl (by rfl) (fun _ => rfl) ?_
    simp only [n1, n3, n4]
    refine wpG_done (fun V30 hv31 => ?_)
    have S32 : Hid (St w noB [blk g22 28 [.int .i64 B.a, .int .i64 B.b, .int .i64 B.c, .int .i64 B.d, .int .i64 B.e, .int .i64 B.f, .slice A n c], blk g14 23 [.int .i64 x2, .int .i64 y2, .int .i64 z2], blk g9 23 [.int .i64 x, .int .i64 y, .int .i64 z], blk g4 28 [.int .i64 B.a, .int .i64 B.b, .int .i64 B.c, .int .i64 B.d, .int .i64 B.e, .int .i64 B.f, .slice A n c]] V30) := Lib.hid (S29.out.gr hv31)
    clear S29
    clear hv31
    refine ⟨rfl, hK _ _ ?_⟩
    clear hK
    go_wp2_with fail
    go_ret
    refine ⟨?_, S32.out.bel⟩
    show Ending.returned (.bool true) = _
    (first | rfl | (have e_f26 := f26.out; rfl))
  | false =>
    have f33 := Lib.hid ((bnf Hc25.out))
    refine @wpG_tk _ _ _ _ _ (some 18) (.agg #[.int .i64 x, .int .i64 y, .int .i64 z]) _ _ rfl (.load_mid (by rfl) 23 (.tmp 5) rfl g9 0 rfl [.int .i64 x, .int .i64 y, .int .i64 z] _ (fun W hg => (S24.out.gr hg).range 2 rfl 0 3 rfl) Tryd.underlying23 rfl (by kernel_rfl)) ?_
    simp only [n1, n3, n4]
    refine @wpG_tk _ _ _ _ _ (some 19) (.agg #[.int .i64 x2, .int .i64 y2, .int .i64 z2]) _ _ rfl (.load_mid (by rfl) 23 (.tmp 6) rfl g14 0 rfl [.int .i64 x2, .int .i64 y2, .int .i64 z2] _ (fun W hg => (S24.out.gr hg).range 1 rfl 0 3 rfl) Tryd.underlying23 rfl (by kernel_rfl)) ?_
    simp only [n1, n3, n4]
    refine wpG_val (some 20) rfl (by rfl) (fun W34 hg35 => ⟨.slice (some ⟨W34.heap.size, 0, none⟩) 2 2, W34.alloc (.cells #[.int .i64 x, .int .i64 y, .int .i64 z, .int .i64 x2, .int .i64 y2, .int .i64 z2] 23), by (go_simp <;> rfl), ?_⟩)
    simp only [n1, n3, n4]
    obtain ⟨g36, U37, hg_, hu_, hS_⟩ := (S24.out.gr hg35).made [.int .i64 x, .int .i64 y, .int .i64 z, .int .i64 x2, .int .i64 y2, .int .i64 z2] 23
    rw [← hu_, ← hg_]
    have S38 : Hid (St w noB [blk g36 23 [.int .i64 x, .int .i64 y, .int .i64 z, .int .i64 x2, .int .i64 y2, .int .i64 z2], blk g22 28 [.int .i64 B.a, .int .i64 B.b, .int .i64 B.c, .int .i64 B.d, .int .i64 B.e, .int .i64 B.f, .slice A n c], blk g14 23 [.int .i64 x2, .int .i64 y2, .int .i64 z2], blk g9 23 [.int .i64 x, .int .i64 y, .int .i64 z], blk g4 28 [.int .i64 B.a, .int .i64 B.b, .int .i64 B.c, .int .i64 B.d, .int .i64 B.e, .int .i64 B.f, .slice A n c]] U37) := Lib.hid hS_
    clear S24
    clear hg_ hu_ hS_ hg35
    refine @wpG_tk _ _ _ _ _ (some 21) (.bool (Gm.nears [(x, y, z), (x2, y2, z2)])) _ _ rfl (.call (f := 20) (args := #[.slice (some ⟨g36, 0, none⟩) 2 2]) (by rfl) (fun W => by go_simp) (fun W hg => near_any _ _ _ [(x, y, z), (x2, y2, z2)] W (SL.ofBlk (S38.out.gr hg) 0 rfl 3 2 (pcs [(x, y, z), (x2, y2, z2)]) rfl rfl (by decide)))) ?_
    simp only [n1, n3, n4]
    refine @wpG_p _ _ _ _ _ (some 22) (.bool (!(Gm.nears [(x, y, z), (x2, y2, z2)]))) _ _ rfl (by rfl) (fun W => by go_simp) ?_
    simp only [n1, n3, n4]
    refine @wpG_p _ _ _ _ _ (some 23) (.bool (!(Gm.nears [(x, y, z), (x2, y2, z2)]))) _ _ rfl (by rfl) (fun W => by go_simp) ?_
    simp only [n1, n3, n4]
    refine @wpG_p _ _ _ _ _ (some 24) (.bool (!(Gm.nears [(x, y, z), (x2, y2, z2)]))) _ _ rfl (by rfl) (fun _ => rfl) ?_
    simp only [n1, n3, n4]
    obtain ⟨c39, hc39⟩ : ∃ q_, q_ = (!(Gm.nears [(x, y, z), (x2, y2, z2)])) := ⟨_, rfl⟩
    rw [← hc39]
    have Hc39 := Lib.hid hc39
    clear hc39
    cases c39 with
    | true =>
      have f40 := Lib.hid ((bnt Hc39.out))
      refine @wpG_no _ _ _ _ _ (some 25) _ _ rfl (by rfl) ?_
      simp only [n1, n3, n4]
      refine @wpG_no _ _ _ _ _ (some 26) _ _ rfl (by rfl) ?_
      simp only [n1, n3, n4]
      refine @wpG_p _ _ _ _ _ (some 27) (.bool true) _ _ rfl (by rfl) (fun W => by go_simp) ?_
      simp only [n1, n3, n4]
      refine @wpG_p _ _ _ _ _ (some 28) (.bool true) _ _ rfl (by rfl) (fun _ => rfl) ?_
      simp only [n1, n3, n4]
      refine @wpG_no _ _ _ _ _ (some 29) _ _ rfl (by rfl) ?_
      simp only [n1, n3, n4]
      refine @wpG_no _ _ _ _ _ (some 30) _ _ rfl (by rfl) ?_
      simp only [n1, n3, n4]
      refine @wpG_p _ _ _ _ _ (some 31) (.bool true) _ _ rfl (by rfl) (fun W => by go_simp) ?_
      simp only [n1, n3, n4]
      refine wpG_done (fun V41 hv42 => ?_)
      have S43 : Hid (St w noB [blk g36 23 [.int .i64 x, .int .i64 y, .int .i64 z, .int .i64 x2, .int .i64 y2, .int .i64 z2], blk g22 28 [.int .i64 B.a, .int .i64 B.b, .int .i64 B.c, .int .i64 B.d, .int .i64 B.e, .int .i64 B.f, .slice A n c], blk g14 23 [.int .i64 x2, .int .i64 y2, .int .i64 z2], blk g9 23 [.int .i64 x, .int .i64 y, .int .i64 z], blk g4 28 [.int .i64 B.a, .int .i64 B.b, .int .i64 B.c, .int .i64 B.d, .int .i64 B.e, .int .i64 B.f, .slice A n c]] V41) := Lib.hid (S38.out.gr hv42)
      clear S38
      clear hv42
      refine ⟨rfl, hK _ _ ?_⟩
      clear hK
      go_upto_region 2 with fail
      refine wpG_region_k (fun K hK => ?_)
      refine @wpG_tk _ _ _ _ _ (some 32) (.bool true) _ _ rfl (.call (f := 11) (args := #[]) (by rfl) (fun W => by go_simp) (fun W hg => (HSAN.out W (S43.out.gr hg).bel))) ?_
      simp only [n1, n3, n4]
      refine @wpG_p _ _ _ _ _ (some 8) (.bool true) _ _ rfl (by rfl) (fun _ => rfl) ?_
      simp only [n1, n3, n4]
      refine wpG_done (fun V44 hv45 => ?_)
      have S46 : Hid (St w noB [blk g36 23 [.int .i64 x, .int .i64 y, .int .i64 z, .int .i64 x2, .int .i64 y2, .int .i64 z2], blk g22 28 [.int .i64 B.a, .int .i64 B.b, .int .i64 B.c, .int .i64 B.d, .int .i64 B.e, .int .i64 B.f, .slice A n c], blk g14 23 [.int .i64 x2, .int .i64 y2, .int .i64 z2], blk g9 23 [.int .i64 x, .int .i64 y, .int .i64 z], blk g4 28 [.int .i64 B.a, .int .i64 B.b, .int .i64 B.c, .int .i64 B.d, .int .i64 B.e, .int .i64 B.f, .slice A n c]] V44) := Lib.hid (S43.out.gr hv45)
      clear S43
      clear hv45
      refine ⟨rfl, hK _ _ ?_⟩
      clear hK
      go_wp2_with fail
      go_ret
      refine ⟨?_, S46.out.bel⟩
      show Ending.returned (.bool true) = _
      (first | rfl | (have e_f33 := f33.out; have e_f40 := f40.out; rfl))
    | false =>
      have f47 := Lib.hid ((bnf Hc39.out))
      refine @wpG_p _ _ _ _ _ (some 25) (.int .i64 m) _ _ rfl (by rfl) (fun _ => rfl) ?_
      simp only [n1, n3, n4]
      refine @wpG_p _ _ _ _ _ (some 26) (.bool (decide (m < 0))) _ _ rfl (by rfl) (fun W => op_int_lss W m 0 rfl rfl rfl Tryd.underlying3) ?_
      simp only [n1, n3, n4]
      refine @wpG_p _ _ _ _ _ (some 27) (.bool (decide (m < 0))) _ _ rfl (by rfl) (fun W => by go_simp) ?_
      simp only [n1, n3, n4]
      refine @wpG_p _ _ _ _ _ (some 28) (.bool (decide (m < 0))) _ _ rfl (by rfl) (fun _ => rfl) ?_
      simp only [n1, n3, n4]
      obtain ⟨c48, hc48⟩ : ∃ q_, q_ = (decide (m < 0)) := ⟨_, rfl⟩
      rw [← hc48]
      have Hc48 := Lib.hid hc48
      clear hc48
      cases c48 with
      | true =>
        have f49 := of_decide_eq_true Hc48.out.symm
        refine @wpG_no _ _ _ _ _ (some 29) _ _ rfl (by rfl) ?_
        simp only [n1, n3, n4]
        refine @wpG_no _ _ _ _ _ (some 30) _ _ rfl (by rfl) ?_
        simp only [n1, n3, n4]
        refine @wpG_p _ _ _ _ _ (some 31) (.bool true) _ _ rfl (by rfl) (fun W => by go_simp) ?_
        simp only [n1, n3, n4]
        refine wpG_done (fun V50 hv51 => ?_)
        have S52 : Hid (St w noB [blk g36 23 [.int .i64 x, .int .i64 y, .int .i64 z, .int .i64 x2, .int .i64 y2, .int .i64 z2], blk g22 28 [.int .i64 B.a, .int .i64 B.b, .int .i64 B.c, .int .i64 B.d, .int .i64 B.e, .int .i64 B.f, .slice A n c], blk g14 23 [.int .i64 x2, .int .i64 y2, .int .i64 z2], blk g9 23 [.int .i64 x, .int .i64 y, .int .i64 z], blk g4 28 [.int .i64 B.a, .int .i64 B.b, .int .i64 B.c, .int .i64 B.d, .int .i64 B.e, .int .i64 B.f, .slice A n c]] V50) := Lib.hid (S38.out.gr hv51)
        clear S38
        clear hv51
        refine ⟨rfl, hK _ _ ?_⟩
        clear hK
        go_upto_region 2 with fail
        refine wpG_region_k (fun K hK => ?_)
        refine @wpG_tk _ _ _ _ _ (some 32) (.bool true) _ _ rfl (.call (f := 11) (args := #[]) (by rfl) (fun W => by go_simp) (fun W hg => (HSAN.out W (S52.out.gr hg).bel))) ?_
        simp only [n1, n3, n4]
        refine @wpG_p _ _ _ _ _ (some 8) (.bool true) _ _ rfl (by rfl) (fun _ => rfl) ?_
        simp only [n1, n3, n4]
        refine wpG_done (fun V53 hv54 => ?_)
        have S55 : Hid (St w noB [blk g36 23 [.int .i64 x, .int .i64 y, .int .i64 z, .int .i64 x2, .int .i64 y2, .int .i64 z2], blk g22 28 [.int .i64 B.a, .int .i64 B.b, .int .i64 B.c, .int .i64 B.d, .int .i64 B.e, .int .i64 B.f, .slice A n c], blk g14 23 [.int .i64 x2, .int .i64 y2, .int .i64 z2], blk g9 23 [.int .i64 x, .int .i64 y, .int .i64 z], blk g4 28 [.int .i64 B.a, .int .i64 B.b, .int .i64 B.c, .int .i64 B.d, .int .i64 B.e, .int .i64 B.f, .slice A n c]] V53) := Lib.hid (S52.out.gr hv54)
        clear S52
        clear hv54
        refine ⟨rfl, hK _ _ ?_⟩
        clear hK
        go_wp2_with fail
        go_ret
        refine ⟨?_, S55.out.bel⟩
        show Ending.returned (.bool true) = _
        (first | rfl | (have e_f33 := f33.out; have e_f47 := f47.out; rfl))
      | false =>
        have f56 := of_decide_eq_false Hc48.out.symm
        refine @wpG_p _ _ _ _ _ (some 29) (.int .i64 m) _ _ rfl (by rfl) (fun _ => rfl) ?_
        simp only [n1, n3, n4]
        refine @wpG_p _ _ _ _ _ (some 30) (.bool (decide (m > 255))) _ _ rfl (by rfl) (fun W => op_int_gtr W m 255 rfl rfl rfl Tryd.underlying3) ?_
        simp only [n1, n3, n4]
        refine @wpG_p _ _ _ _ _ (some 31) (.bool (decide (m > 255))) _ _ rfl (by rfl) (fun W => by go_simp) ?_
        simp only [n1, n3, n4]
        refine wpG_done (fun V57 hv58 => ?_)
        have S59 : Hid (St w noB [blk g36 23 [.int .i64 x, .int .i64 y, .int .i64 z, .int .i64 x2, .int .i64 y2, .int .i64 z2], blk g22 28 [.int .i64 B.a, .int .i64 B.b, .int .i64 B.c, .int .i64 B.d, .int .i64 B.e, .int .i64 B.f, .slice A n c], blk g14 23 [.int .i64 x2, .int .i64 y2, .int .i64 z2], blk g9 23 [.int .i64 x, .int .i64 y, .int .i64 z], blk g4 28 [.int .i64 B.a, .int .i64 B.b, .int .i64 B.c, .int .i64 B.d, .int .i64 B.e, .int .i64 B.f, .slice A n c]] V57) := Lib.hid (S38.out.gr hv58)
        clear S38
        clear hv58
        refine ⟨rfl, hK _ _ ?_⟩
        clear hK
        obtain ⟨c60, hc60⟩ : ∃ q_, q_ = (decide (m > 255)) := ⟨_, rfl⟩
        rw [← hc60]
        have Hc60 := Lib.hid hc60
        clear hc60
        cases c60 with
        | true =>
          have f61 := of_decide_eq_true Hc60.out.symm
          go_upto_region 2 with fail
          refine wpG_region_k (fun K hK => ?_)
          refine @wpG_tk _ _ _ _ _ (some 32) (.bool true) _ _ rfl (.call (f := 11) (args := #[]) (by rfl) (fun W => by go_simp) (fun W hg => (HSAN.out W (S59.out.gr hg).bel))) ?_
          simp only [n1, n3, n4]
          refine @wpG_p _ _ _ _ _ (some 8) (.bool true) _ _ rfl (by rfl) (fun _ => rfl) ?_
          simp only [n1, n3, n4]
          refine wpG_done (fun V62 hv63 => ?_)
          have S64 : Hid (St w noB [blk g36 23 [.int .i64 x, .int .i64 y, .int .i64 z, .int .i64 x2, .int .i64 y2, .int .i64 z2], blk g22 28 [.int .i64 B.a, .int .i64 B.b, .int .i64 B.c, .int .i64 B.d, .int .i64 B.e, .int .i64 B.f, .slice A n c], blk g14 23 [.int .i64 x2, .int .i64 y2, .int .i64 z2], blk g9 23 [.int .i64 x, .int .i64 y, .int .i64 z], blk g4 28 [.int .i64 B.a, .int .i64 B.b, .int .i64 B.c, .int .i64 B.d, .int .i64 B.e, .int .i64 B.f, .slice A n c]] V62) := Lib.hid (S59.out.gr hv63)
          clear S59
          clear hv63
          refine ⟨rfl, hK _ _ ?_⟩
          clear hK
          go_wp2_with fail
          go_ret
          refine ⟨?_, S64.out.bel⟩
          show Ending.returned (.bool true) = _
          (first | rfl | (have e_f33 := f33.out; have e_f47 := f47.out; rfl))
        | false =>
          have f65 := of_decide_eq_false Hc60.out.symm
          go_upto_region 3 with fail
          refine wpK_region_k (by kernel_rfl) (fun K hK => ?_)
          refine wpK_tk (i := 0) (some 33) (v := .agg #[.int .i64 B.a, .int .i64 B.b, .int .i64 B.c, .int .i64 B.d, .int .i64 B.e, .int .i64 B.f, .slice A n c]) rfl rfl (by kernel_rfl) (fun _ _ _ h => onN_panic h) (.load_mid (by rfl) 28 (.tmp 4) rfl g4 0 rfl [.int .i64 B.a, .int .i64 B.b, .int .i64 B.c, .int .i64 B.d, .int .i64 B.e, .int .i64 B.f, .slice A n c] _ (fun W hg => (S59.out.gr (Gr.un hg)).range 4 rfl 0 7 rfl) Tryd.underlying28 rfl (by kernel_rfl)) ?_
          simp only [n1, n3, n4]
          refine wpK_tk (i := 1) (some 34) (v := .agg #[.int .i64 x2, .int .i64 y2, .int .i64 z2]) rfl rfl (by kernel_rfl) (fun _ _ _ h => onN_panic h) (.load_mid (by rfl) 23 (.tmp 6) rfl g14 0 rfl [.int .i64 x2, .int .i64 y2, .int .i64 z2] _ (fun W hg => (S59.out.gr (Gr.un hg)).range 2 rfl 0 3 rfl) Tryd.underlying23 rfl (by kernel_rfl)) ?_
          simp only [n1, n3, n4]
          refine wpK_tk (i := 2) (some 35) (v := .int .i64 (Gm.get B l x2 y2 z2)) rfl rfl (by kernel_rfl) (fun _ _ _ h => onN_panic h) (.call (f := 21) (args := #[.agg #[.int .i64 B.a, .int .i64 B.b, .int .i64 B.c, .int .i64 B.d, .int .i64 B.e, .int .i64 B.f, .slice A n c], .agg #[.int .i64 x2, .int .i64 y2, .int .i64 z2]]) (by rfl) (fun W => by go_simp) (fun W hg => get_any B _ _ _ l x2 y2 z2 W (HGA.out.gr (S59.out.gr (Gr.un hg)).bel) (by have e_f33 := f33.out; have e_f47 := f47.out; exact (Gm.fw_of e_f33).2.1.ok) (by have e_f33 := f33.out; have e_f47 := f47.out; exact Gm.near1_rp (Gm.nears_iff.1 e_f47 _ (by simp))))) ?_
          simp only [n1, n3, n4]
          refine wpK_tk (i := 3) (some 36) (v := .agg #[.int .i64 B.a, .int .i64 B.b, .int .i64 B.c, .int .i64 B.d, .int .i64 B.e, .int .i64 B.f, .slice A n c]) rfl rfl (by kernel_rfl) (fun _ _ _ h => onN_panic h) (.load_mid (by rfl) 28 (.tmp 4) rfl g4 0 rfl [.int .i64 B.a, .int .i64 B.b, .int .i64 B.c, .int .i64 B.d, .int .i64 B.e, .int .i64 B.f, .slice A n c] _ (fun W hg => (S59.out.gr (Gr.un hg)).range 4 rfl 0 7 rfl) Tryd.underlying28 rfl (by kernel_rfl)) ?_
          simp only [n1, n3, n4]
          refine wpK_tk (i := 4) (some 37) (v := .agg #[.int .i64 x, .int .i64 y, .int .i64 z]) rfl rfl (by kernel_rfl) (fun _ _ _ h => onN_panic h) (.load_mid (by rfl) 23 (.tmp 5) rfl g9 0 rfl [.int .i64 x, .int .i64 y, .int .i64 z] _ (fun W hg => (S59.out.gr (Gr.un hg)).range 3 rfl 0 3 rfl) Tryd.underlying23 rfl (by kernel_rfl)) ?_
          simp only [n1, n3, n4]
          refine wpK_tk (i := 5) (some 38) (v := .int .i64 (Gm.get B l x y z)) rfl rfl (by kernel_rfl) (fun _ _ _ h => onN_panic h) (.call (f := 21) (args := #[.agg #[.int .i64 B.a, .int .i64 B.b, .int .i64 B.c, .int .i64 B.d, .int .i64 B.e, .int .i64 B.f, .slice A n c], .agg #[.int .i64 x, .int .i64 y, .int .i64 z]]) (by rfl) (fun W => by go_simp) (fun W hg => get_any B _ _ _ l x y z W (HGA.out.gr (S59.out.gr (Gr.un hg)).bel) (by have e_f33 := f33.out; have e_f47 := f47.out; exact (Gm.fw_of e_f33).2.1.ok) (by have e_f33 := f33.out; have e_f47 := f47.out; exact Gm.near1_rp (Gm.nears_iff.1 e_f47 _ (by simp))))) ?_
          simp only [n1, n3, n4]
          refine wpK_ta (i := 6) (some 9) (v := .int .i64 (Gm.get B l x2 y2 z2)) rfl rfl (by kernel_rfl) (fun _ _ _ h => onN_panic h) (Or.inl ⟨rfl, fun _ => rfl⟩) ?_
          simp only [n1, n3, n4]
          refine wpK_ta (i := 7) (some 10) (v := .int .i64 (Gm.get B l x y z)) rfl rfl (by kernel_rfl) (fun _ _ _ h => onN_panic h) (Or.inl ⟨rfl, fun _ => rfl⟩) ?_
          simp only [n1, n3, n4]
          refine wpK_done (by kernel_rfl) (fun V66 hv67 => ?_) _
          have S68 : Hid (St w noB [blk g36 23 [.int .i64 x, .int .i64 y, .int .i64 z, .int .i64 x2, .int .i64 y2, .int .i64 z2], blk g22 28 [.int .i64 B.a, .int .i64 B.b, .int .i64 B.c, .int .i64 B.d, .int .i64 B.e, .int .i64 B.f, .slice A n c], blk g14 23 [.int .i64 x2, .int .i64 y2, .int .i64 z2], blk g9 23 [.int .i64 x, .int .i64 y, .int .i64 z], blk g4 28 [.int .i64 B.a, .int .i64 B.b, .int .i64 B.c, .int .i64 B.d, .int .i64 B.e, .int .i64 B.f, .slice A n c]] V66) := Lib.hid (S59.out.gr (Gr.un hv67))
          clear S59
          clear hv67
          refine ⟨rfl, hK _ _ ?_⟩
          clear hK
          go_upto_region 4 with fail
          refine wpG_region_k (fun K hK => ?_)
          refine @wpG_tk _ _ _ _ _ (some 39) (.agg #[.int .i64 B.a, .int .i64 B.b, .int .i64 B.c, .int .i64 B.d, .int .i64 B.e, .int .i64 B.f, .slice A n c]) _ _ rfl (.load_mid (by rfl) 28 (.tmp 4) rfl g4 0 rfl [.int .i64 B.a, .int .i64 B.b, .int .i64 B.c, .int .i64 B.d, .int .i64 B.e, .int .i64 B.f, .slice A n c] _ (fun W hg => (S68.out.gr hg).range 4 rfl 0 7 rfl) Tryd.underlying28 rfl (by kernel_rfl)) ?_
          simp only [n1, n3, n4]
          refine @wpG_tk _ _ _ _ _ (some 40) (.agg #[.int .i64 x, .int .i64 y, .int .i64 z]) _ _ rfl (.load_mid (by rfl) 23 (.tmp 5) rfl g9 0 rfl [.int .i64 x, .int .i64 y, .int .i64 z] _ (fun W hg => (S68.out.gr hg).range 3 rfl 0 3 rfl) Tryd.underlying23 rfl (by kernel_rfl)) ?_
          simp only [n1, n3, n4]
          refine @wpG_p _ _ _ _ _ (some 41) (.int .i64 m) _ _ rfl (by rfl) (fun _ => rfl) ?_
          simp only [n1, n3, n4]
          refine wpG_call (some 42) 22 #[.agg #[.int .i64 B.a, .int .i64 B.b, .int .i64 B.c, .int .i64 B.d, .int .i64 B.e, .int .i64 B.f, .slice A n c], .agg #[.int .i64 x, .int .i64 y, .int .i64 z], .int .i64 m] rfl (by rfl) (fun W => by go_simp) (fun W72 hg73 => ?_)
          refine (set_any B _ _ _ l x y z m W72 (HGA.out.gr (S68.out.gr hg73).bel) (by have e_f33 := f33.out; have e_f47 := f47.out; exact (Gm.fw_of e_f33).2.1.ok) (by have e_f33 := f33.out; have e_f47 := f47.out; exact Gm.near1_rp (Gm.nears_iff.1 e_f47 _ (by simp)))).mono ?_
          rintro e w74 ⟨A69, n70, c71, rfl, hS_⟩
          refine ⟨_, rfl, ?_⟩
          have hT_ := (S68.out.gr hg73).got hS_
          simp only [n1, n3, n4]
          have S75 : Hid (St w noB [own (.slice A69 n70 c71) 3 1 n70 (ic (Gm.wr1 B l ⟨x, y, z, 0, m⟩)), blk g36 23 [.int .i64 x, .int .i64 y, .int .i64 z, .int .i64 x2, .int .i64 y2, .int .i64 z2], blk g22 28 [.int .i64 B.a, .int .i64 B.b, .int .i64 B.c, .int .i64 B.d, .int .i64 B.e, .int .i64 B.f, .slice A n c], blk g14 23 [.int .i64 x2, .int .i64 y2, .int .i64 z2], blk g9 23 [.int .i64 x, .int .i64 y, .int .i64 z], blk g4 28 [.int .i64 B.a, .int .i64 B.b, .int .i64 B.c, .int .i64 B.d, .int .i64 B.e, .int .i64 B.f, .slice A n c]] w74) := Lib.hid hT_
          clear S68
          clear hT_ hS_ hg73
          have hnn70 : n70 ≤ (Gm.wr1 B l ⟨x, y, z, 0, m⟩).length ∧ (Gm.wr1 B l ⟨x, y, z, 0, m⟩).length ≤ n70 := by have h_ := own_icl (S75.out.ownr 0 rfl); omega
          refine wpG_val (some 11) rfl (by rfl) (fun W76 hg77 => ⟨.pointer (some ⟨W76.heap.size, 0, none⟩), W76.alloc (.cells #[.int .i64 0, .int .i64 0, .int .i64 0, .int .i64 0, .int .i64 0, .int .i64 0, .slice none 0 0] 28), by (first | (go_simp; done) | (go_simp <;> rfl)), ?_⟩)
          simp only [n1, n3, n4]
          obtain ⟨g78, U79, hg_, hu_, hS_⟩ := (S75.out.gr hg77).made [.int .i64 0, .int .i64 0, .int .i64 0, .int .i64 0, .int .i64 0, .int .i64 0, .slice none 0 0] 28
          rw [← hu_, ← hg_]
          have S80 : Hid (St w noB [blk g78 28 [.int .i64 0, .int .i64 0, .int .i64 0, .int .i64 0, .int .i64 0, .int .i64 0, .slice none 0 0], own (.slice A69 n70 c71) 3 1 n70 (ic (Gm.wr1 B l ⟨x, y, z, 0, m⟩)), blk g36 23 [.int .i64 x, .int .i64 y, .int .i64 z, .int .i64 x2, .int .i64 y2, .int .i64 z2], blk g22 28 [.int .i64 B.a, .int .i64 B.b, .int .i64 B.c, .int .i64 B.d, .int .i64 B.e, .int .i64 B.f, .slice A n c], blk g14 23 [.int .i64 x2, .int .i64 y2, .int .i64 z2], blk g9 23 [.int .i64 x, .int .i64 y, .int .i64 z], blk g4 28 [.int .i64 B.a, .int .i64 B.b, .int .i64 B.c, .int .i64 B.d, .int .i64 B.e, .int .i64 B.f, .slice A n c]] U79) := Lib.hid hS_
          clear S75
          clear hg_ hu_ hS_ hg77
          refine wpG_store (none) rfl (by rfl) (fun W81 hg82 => ⟨_, run_store_mid 28 (.tmp 11) (.tmp 42) rfl g78 0 #[.int .i64 B.a, .int .i64 B.b, .int .i64 B.c, .int .i64 B.d, .int .i64 B.e, .int .i64 B.f, .slice A69 n70 c71] rfl rfl ((S80.out.gr hg82).room 0 rfl 0 7 (by simp)) (by kernel_rfl) (by kernel_rfl), ?_⟩)
          simp only [n2]
          obtain ⟨U83, hu_, hS_⟩ := ((S80.out.gr hg82).put 0 rfl 0 (#[.int .i64 B.a, .int .i64 B.b, .int .i64 B.c, .int .i64 B.d, .int .i64 B.e, .int .i64 B.f, .slice A69 n70 c71] : Array Value).toList (ds := [.int .i64 B.a, .int .i64 B.b, .int .i64 B.c, .int .i64 B.d, .int .i64 B.e, .int .i64 B.f, .slice A69 n70 c71]) rfl).named
          rw [← hu_]
          have S84 : Hid (St w noB [blk g78 28 [.int .i64 B.a, .int .i64 B.b, .int .i64 B.c, .int .i64 B.d, .int .i64 B.e, .int .i64 B.f, .slice A69 n70 c71], own (.slice A69 n70 c71) 3 1 n70 (ic (Gm.wr1 B l ⟨x, y, z, 0, m⟩)), blk g36 23 [.int .i64 x, .int .i64 y, .int .i64 z, .int .i64 x2, .int .i64 y2, .int .i64 z2], blk g22 28 [.int .i64 B.a, .int .i64 B.b, .int .i64 B.c, .int .i64 B.d, .int .i64 B.e, .int .i64 B.f, .slice A n c], blk g14 23 [.int .i64 x2, .int .i64 y2, .int .i64 z2], blk g9 23 [.int .i64 x, .int .i64 y, .int .i64 z], blk g4 28 [.int .i64 B.a, .int .i64 B.b, .int .i64 B.c, .int .i64 B.d, .int .i64 B.e, .int .i64 B.f, .slice A n c]] U83) := Lib.hid hS_
          clear S80
          clear hu_ hS_ hg82
          refine wpG_done (fun V85 hv86 => ?_)
          have S87 : Hid (St w noB [blk g78 28 [.int .i64 B.a, .int .i64 B.b, .int .i64 B.c, .int .i64 B.d, .int .i64 B.e, .int .i64 B.f, .slice A69 n70 c71], own (.slice A69 n70 c71) 3 1 n70 (ic (Gm.wr1 B l ⟨x, y, z, 0, m⟩)), blk g36 23 [.int .i64 x, .int .i64 y, .int .i64 z, .int .i64 x2, .int .i64 y2, .int .i64 z2], blk g22 28 [.int .i64 B.a, .int .i64 B.b, .int .i64 B.c, .int .i64 B.d, .int .i64 B.e, .int .i64 B.f, .slice A n c], blk g14 23 [.int .i64 x2, .int .i64 y2, .int .i64 z2], blk g9 23 [.int .i64 x, .int .i64 y, .int .i64 z], blk g4 28 [.int .i64 B.a, .int .i64 B.b, .int .i64 B.c, .int .i64 B.d, .int .i64 B.e, .int .i64 B.f, .slice A n c]] V85) := Lib.hid (S84.out.gr hv86)
          clear S84
          clear hv86
          refine ⟨rfl, hK _ _ ?_⟩
          clear hK
          go_upto_region 5 with fail
          refine wpG_region_k (fun K hK => ?_)
          refine @wpG_p _ _ _ _ _ (some 12) (.int .i64 0) _ _ rfl (by rfl) (fun _ => rfl) ?_
          simp only [n1, n3, n4]
          refine wpG_done (fun V88 hv89 => ?_)
          have S90 : Hid (St w noB [blk g78 28 [.int .i64 B.a, .int .i64 B.b, .int .i64 B.c, .int .i64 B.d, .int .i64 B.e, .int .i64 B.f, .slice A69 n70 c71], own (.slice A69 n70 c71) 3 1 n70 (ic (Gm.wr1 B l ⟨x, y, z, 0, m⟩)), blk g36 23 [.int .i64 x, .int .i64 y, .int .i64 z, .int .i64 x2, .int .i64 y2, .int .i64 z2], blk g22 28 [.int .i64 B.a, .int .i64 B.b, .int .i64 B.c, .int .i64 B.d, .int .i64 B.e, .int .i64 B.f, .slice A n c], blk g14 23 [.int .i64 x2, .int .i64 y2, .int .i64 z2], blk g9 23 [.int .i64 x, .int .i64 y, .int .i64 z], blk g4 28 [.int .i64 B.a, .int .i64 B.b, .int .i64 B.c, .int .i64 B.d, .int .i64 B.e, .int .i64 B.f, .slice A n c]] V88) := Lib.hid (S87.out.gr hv89)
          clear S87
          clear hv89
          refine ⟨rfl, hK _ _ ?_⟩
          clear hK
          go_upto_region 6 with fail
          refine wpG_region_k (fun K hK => ?_)
          refine @wpG_tk _ _ _ _ _ (some 43) (.agg #[.int .i64 x, .int .i64 y, .int .i64 z]) _ _ rfl (.load_mid (by rfl) 23 (.tmp 5) rfl g9 0 rfl [.int .i64 x, .int .i64 y, .int .i64 z] _ (fun W hg => (S90.out.gr hg).range 5 rfl 0 3 rfl) Tryd.underlying23 rfl (by kernel_rfl)) ?_
          simp only [n1, n3, n4]
          refine @wpG_p _ _ _ _ _ (some 44) (.pointer (some ⟨g4, 0, none⟩)) _ _ rfl (by rfl) (fun W => by go_simp) ?_
          simp only [n1, n3, n4]
          refine @wpG_tk _ _ _ _ _ (some 45) (.agg #[.int .i64 B.a, .int .i64 B.b, .int .i64 B.c, .int .i64 B.d, .int .i64 B.e, .int .i64 B.f]) _ _ rfl (.load_mid (by rfl) 25 (.tmp 44) rfl g4 0 rfl [.int .i64 B.a, .int .i64 B.b, .int .i64 B.c, .int .i64 B.d, .int .i64 B.e, .int .i64 B.f] _ (fun W hg => (S90.out.gr hg).range 6 rfl 0 6 rfl) Tryd.underlying25 rfl (by kernel_rfl)) ?_
          simp only [n1, n3, n4]
          refine @wpG_tk _ _ _ _ _ (some 46) (.bool (B.inb x y z)) _ _ rfl (.call (f := 23) (args := #[.agg #[.int .i64 x, .int .i64 y, .int .i64 z], .agg #[.int .i64 B.a, .int .i64 B.b, .int .i64 B.c, .int .i64 B.d, .int .i64 B.e, .int .i64 B.f]]) (by rfl) (fun W => by go_simp) (fun W hg => in_b W x y z B)) ?_
          simp only [n1, n3, n4]
          refine wpG_done (fun V91 hv92 => ?_)
          have S93 : Hid (St w noB [blk g78 28 [.int .i64 B.a, .int .i64 B.b, .int .i64 B.c, .int .i64 B.d, .int .i64 B.e, .int .i64 B.f, .slice A69 n70 c71], own (.slice A69 n70 c71) 3 1 n70 (ic (Gm.wr1 B l ⟨x, y, z, 0, m⟩)), blk g36 23 [.int .i64 x, .int .i64 y, .int .i64 z, .int .i64 x2, .int .i64 y2, .int .i64 z2], blk g22 28 [.int .i64 B.a, .int .i64 B.b, .int .i64 B.c, .int .i64 B.d, .int .i64 B.e, .int .i64 B.f, .slice A n c], blk g14 23 [.int .i64 x2, .int .i64 y2, .int .i64 z2], blk g9 23 [.int .i64 x, .int .i64 y, .int .i64 z], blk g4 28 [.int .i64 B.a, .int .i64 B.b, .int .i64 B.c, .int .i64 B.d, .int .i64 B.e, .int .i64 B.f, .slice A n c]] V91) := Lib.hid (S90.out.gr hv92)
          clear S90
          clear hv92
          refine ⟨rfl, hK _ _ ?_⟩
          clear hK
          obtain ⟨c94, hc94⟩ : ∃ q_, q_ = (B.inb x y z) := ⟨_, rfl⟩
          rw [← hc94]
          have Hc94 := Lib.hid hc94
          clear hc94
          cases c94 with
          | true =>
            have f95 := Lib.hid (Hc94.out.symm)
            go_upto_region 7 with fail
            refine wpG_region_k (fun K hK => ?_)
            refine @wpG_p _ _ _ _ _ (some 47) (.int .i64 m) _ _ rfl (by rfl) (fun _ => rfl) ?_
            simp only [n1, n3, n4]
            refine @wpG_p _ _ _ _ _ (some 12) (.int .i64 m) _ _ rfl (by rfl) (fun _ => rfl) ?_
            simp only [n1, n3, n4]
            refine wpG_done (fun V96 hv97 => ?_)
            have S98 : Hid (St w noB [blk g78 28 [.int .i64 B.a, .int .i64 B.b, .int .i64 B.c, .int .i64 B.d, .int .i64 B.e, .int .i64 B.f, .slice A69 n70 c71], own (.slice A69 n70 c71) 3 1 n70 (ic (Gm.wr1 B l ⟨x, y, z, 0, m⟩)), blk g36 23 [.int .i64 x, .int .i64 y, .int .i64 z, .int .i64 x2, .int .i64 y2, .int .i64 z2], blk g22 28 [.int .i64 B.a, .int .i64 B.b, .int .i64 B.c, .int .i64 B.d, .int .i64 B.e, .int .i64 B.f, .slice A n c], blk g14 23 [.int .i64 x2, .int .i64 y2, .int .i64 z2], blk g9 23 [.int .i64 x, .int .i64 y, .int .i64 z], blk g4 28 [.int .i64 B.a, .int .i64 B.b, .int .i64 B.c, .int .i64 B.d, .int .i64 B.e, .int .i64 B.f, .slice A n c]] V96) := Lib.hid (S93.out.gr hv97)
            clear S93
            clear hv97
            refine ⟨rfl, hK _ _ ?_⟩
            clear hK
            go_upto_region 8 with fail
            refine wpG_region_k (fun K hK => ?_)
            refine @wpG_tk _ _ _ _ _ (some 48) (.bool true) _ _ rfl (.call (f := 11) (args := #[]) (by rfl) (fun W => by go_simp) (fun W hg => (HSAN.out W (S98.out.gr hg).bel))) ?_
            simp only [n1, n3, n4]
            refine @wpG_p _ _ _ _ _ (some 49) (.bool true) _ _ rfl (by rfl) (fun _ => rfl) ?_
            simp only [n1, n3, n4]
            refine @wpG_tk _ _ _ _ _ (some 50) (.agg #[.int .i64 B.a, .int .i64 B.b, .int .i64 B.c, .int .i64 B.d, .int .i64 B.e, .int .i64 B.f, .slice A69 n70 c71]) _ _ rfl (.load_mid (by rfl) 28 (.tmp 11) rfl g78 0 rfl [.int .i64 B.a, .int .i64 B.b, .int .i64 B.c, .int .i64 B.d, .int .i64 B.e, .int .i64 B.f, .slice A69 n70 c71] _ (fun W hg => (S98.out.gr hg).range 0 rfl 0 7 rfl) Tryd.underlying28 rfl (by kernel_rfl)) ?_
            simp only [n1, n3, n4]
            refine @wpG_tk _ _ _ _ _ (some 51) (.agg #[.int .i64 x, .int .i64 y, .int .i64 z]) _ _ rfl (.load_mid (by rfl) 23 (.tmp 5) rfl g9 0 rfl [.int .i64 x, .int .i64 y, .int .i64 z] _ (fun W hg => (S98.out.gr hg).range 5 rfl 0 3 rfl) Tryd.underlying23 rfl (by kernel_rfl)) ?_
            simp only [n1, n3, n4]
            refine @wpG_tk _ _ _ _ _ (some 52) (.int .i64 m) _ _ rfl (.call (f := 21) (args := #[.agg #[.int .i64 B.a, .int .i64 B.b, .int .i64 B.c, .int .i64 B.d, .int .i64 B.e, .int .i64 B.f, .slice A69 n70 c71], .agg #[.int .i64 x, .int .i64 y, .int .i64 z]]) (by rfl) (fun W => by go_simp) (fun W hg => ((get_any B _ _ _ (Gm.wr1 B l ⟨x, y, z, 0, m⟩) x y z W (SL.ofOwn ((S98.out.gr hg).ownr 1 rfl)) (by have e_f33 := f33.out; have e_f47 := f47.out; have e_f95 := f95.out; exact (Gm.vld_wr1 (Gm.fw_of e_f33).2.1 ⟨by omega, by omega⟩).ok) (by have e_f33 := f33.out; have e_f47 := f47.out; have e_f95 := f95.out; exact Gm.near1_rp (Gm.nears_iff.1 e_f47 _ (by simp)))).mono (fun e w' h => ⟨h.1.trans (by have e_f33 := f33.out; have e_f47 := f47.out; have e_f95 := f95.out; rw [Gm.get_wr1_self (Gm.fw_of e_f33).2.1.ok, e_f95]; rfl), h.2⟩)))) ?_
            simp only [n1, n3, n4]
            refine @wpG_p _ _ _ _ _ (some 53) (.int .i64 m) _ _ rfl (by rfl) (fun _ => rfl) ?_
            simp only [n1, n3, n4]
            refine @wpG_p _ _ _ _ _ (some 54) (.bool true) _ _ rfl (by rfl) (fun W => by go_simp) ?_
            simp only [n1, n3, n4]
            refine @wpG_p _ _ _ _ _ (some 55) (.bool true) _ _ rfl (by rfl) (fun W => by go_simp) ?_
            simp only [n1, n3, n4]
            refine @wpG_p _ _ _ _ _ (some 56) (.bool true) _ _ rfl (by rfl) (fun _ => rfl) ?_
            simp only [n1, n3, n4]
            refine @wpG_tk _ _ _ _ _ (some 57) (.agg #[.int .i64 x, .int .i64 y, .int .i64 z]) _ _ rfl (.load_mid (by rfl) 23 (.tmp 5) rfl g9 0 rfl [.int .i64 x, .int .i64 y, .int .i64 z] _ (fun W hg => (S98.out.gr hg).range 5 rfl 0 3 rfl) Tryd.underlying23 rfl (by kernel_rfl)) ?_
            simp only [n1, n3, n4]
            refine @wpG_tk _ _ _ _ _ (some 58) (.agg #[.int .i64 x2, .int .i64 y2, .int .i64 z2]) _ _ rfl (.load_mid (by rfl) 23 (.tmp 6) rfl g14 0 rfl [.int .i64 x2, .int .i64 y2, .int .i64 z2] _ (fun W hg => (S98.out.gr hg).range 4 rfl 0 3 rfl) Tryd.underlying23 rfl (by kernel_rfl)) ?_
            simp only [n1, n3, n4]
            refine @wpG_p _ _ _ _ _ (some 59) (.bool (decide (x = x2 ∧ y = y2 ∧ z = z2))) _ _ rfl (by rfl) (fun W => op_pt_eql W x y z x2 y2 z2 rfl rfl rfl) ?_
            simp only [n1, n3, n4]
            refine @wpG_p _ _ _ _ _ (some 60) (.bool (decide (x = x2 ∧ y = y2 ∧ z = z2))) _ _ rfl (by rfl) (fun _ => rfl) ?_
            simp only [n1, n3, n4]
            obtain ⟨c99, hc99⟩ : ∃ q_, q_ = (decide (x = x2 ∧ y = y2 ∧ z = z2)) := ⟨_, rfl⟩
            rw [← hc99]
            have Hc99 := Lib.hid hc99
            clear hc99
            cases c99 with
            | true =>
              have f100 := Lib.hid (of_decide_eq_true Hc99.out.symm)
              refine @wpG_no _ _ _ _ _ (some 61) _ _ rfl (by rfl) ?_
              simp only [n1, n3, n4]
              refine @wpG_no _ _ _ _ _ (some 62) _ _ rfl (by rfl) ?_
              simp only [n1, n3, n4]
              refine @wpG_no _ _ _ _ _ (some 63) _ _ rfl (by rfl) ?_
              simp only [n1, n3, n4]
              refine @wpG_no _ _ _ _ _ (some 64) _ _ rfl (by rfl) ?_
              simp only [n1, n3, n4]
              refine @wpG_no _ _ _ _ _ (some 65) _ _ rfl (by rfl) ?_
              simp only [n1, n3, n4]
              refine @wpG_p _ _ _ _ _ (some 66) (.bool true) _ _ rfl (by rfl) (fun W => by go_simp) ?_
              simp only [n1, n3, n4]
              refine @wpG_p _ _ _ _ _ (some 67) (.bool true) _ _ rfl (by rfl) (fun W => by go_simp) ?_
              simp only [n1, n3, n4]
              refine @wpG_p _ _ _ _ _ (some 68) (.bool true) _ _ rfl (by rfl) (fun _ => rfl) ?_
              simp only [n1, n3, n4]
              refine @wpG_tk _ _ _ _ _ (some 69) (.agg #[.int .i64 B.a, .int .i64 B.b, .int .i64 B.c, .int .i64 B.d, .int .i64 B.e, .int .i64 B.f, .slice A n c]) _ _ rfl (.load_mid (by rfl) 28 (.tmp 4) rfl g4 0 rfl [.int .i64 B.a, .int .i64 B.b, .int .i64 B.c, .int .i64 B.d, .int .i64 B.e, .int .i64 B.f, .slice A n c] _ (fun W hg => (S98.out.gr hg).range 6 rfl 0 7 rfl) Tryd.underlying28 rfl (by kernel_rfl)) ?_
              simp only [n1, n3, n4]
              refine @wpG_tk _ _ _ _ _ (some 70) (.agg #[.int .i64 x, .int .i64 y, .int .i64 z]) _ _ rfl (.load_mid (by rfl) 23 (.tmp 5) rfl g9 0 rfl [.int .i64 x, .int .i64 y, .int .i64 z] _ (fun W hg => (S98.out.gr hg).range 5 rfl 0 3 rfl) Tryd.underlying23 rfl (by kernel_rfl)) ?_
              simp only [n1, n3, n4]
              refine @wpG_tk _ _ _ _ _ (some 71) (.int .i64 (Gm.get B l x y z)) _ _ rfl (.call (f := 21) (args := #[.agg #[.int .i64 B.a, .int .i64 B.b, .int .i64 B.c, .int .i64 B.d, .int .i64 B.e, .int .i64 B.f, .slice A n c], .agg #[.int .i64 x, .int .i64 y, .int .i64 z]]) (by rfl) (fun W => by go_simp) (fun W hg => get_any B _ _ _ l x y z W (HGA.out.gr (S98.out.gr hg).bel) (by have e_f33 := f33.out; have e_f47 := f47.out; have e_f95 := f95.out; have e_f100 := f100.out; exact (Gm.fw_of e_f33).2.1.ok) (by have e_f33 := f33.out; have e_f47 := f47.out; have e_f95 := f95.out; have e_f100 := f100.out; exact Gm.near1_rp (Gm.nears_iff.1 e_f47 _ (by simp))))) ?_
              simp only [n1, n3, n4]
              refine @wpG_p _ _ _ _ _ (some 72) (.int .i64 (Gm.get B l x y z)) _ _ rfl (by rfl) (fun _ => rfl) ?_
              simp only [n1, n3, n4]
              refine @wpG_p _ _ _ _ _ (some 73) (.bool true) _ _ rfl (by rfl) (fun W => by go_simp) ?_
              simp only [n1, n3, n4]
              refine @wpG_p _ _ _ _ _ (some 74) (.bool true) _ _ rfl (by rfl) (fun W => by go_simp) ?_
              simp only [n1, n3, n4]
              refine @wpG_p _ _ _ _ _ (some 75) (.bool true) _ _ rfl (by rfl) (fun _ => rfl) ?_
              simp only [n1, n3, n4]
              refine @wpG_tk _ _ _ _ _ (some 76) (.agg #[.int .i64 B.a, .int .i64 B.b, .int .i64 B.c, .int .i64 B.d, .int .i64 B.e, .int .i64 B.f, .slice A69 n70 c71]) _ _ rfl (.load_mid (by rfl) 28 (.tmp 11) rfl g78 0 rfl [.int .i64 B.a, .int .i64 B.b, .int .i64 B.c, .int .i64 B.d, .int .i64 B.e, .int .i64 B.f, .slice A69 n70 c71] _ (fun W hg => (S98.out.gr hg).range 0 rfl 0 7 rfl) Tryd.underlying28 rfl (by kernel_rfl)) ?_
              simp only [n1, n3, n4]
              refine @wpG_tk _ _ _ _ _ (some 77) (.bool true) _ _ rfl (.call (f := 12) (args := #[.agg #[.int .i64 B.a, .int .i64 B.b, .int .i64 B.c, .int .i64 B.d, .int .i64 B.e, .int .i64 B.f, .slice A69 n70 c71]]) (by rfl) (fun W => by go_simp) (fun W hg => ((valid_any B _ _ _ (Gm.wr1 B l ⟨x, y, z, 0, m⟩) W (SL.ofOwn ((S98.out.gr hg).ownr 1 rfl))).mono (fun e w' h => ⟨h.1.trans (by have e_f33 := f33.out; have e_f47 := f47.out; have e_f95 := f95.out; have e_f100 := f100.out; rw [decide_eq_true (Gm.vld_wr1 (Gm.fw_of e_f33).2.1 ⟨by omega, by omega⟩)]), h.2⟩)))) ?_
              simp only [n1, n3, n4]
              refine @wpG_p _ _ _ _ _ (some 78) (.bool true) _ _ rfl (by rfl) (fun W => by go_simp) ?_
              simp only [n1, n3, n4]
              refine @wpG_p _ _ _ _ _ (some 79) (.bool true) _ _ rfl (by rfl) (fun _ => rfl) ?_
              simp only [n1, n3, n4]
              refine @wpG_p _ _ _ _ _ (some 80) (.pointer (some ⟨g78, 0, none⟩)) _ _ rfl (by rfl) (fun W => by go_simp) ?_
              simp only [n1, n3, n4]
              refine @wpG_tk _ _ _ _ _ (some 81) (.agg #[.int .i64 B.a, .int .i64 B.b, .int .i64 B.c, .int .i64 B.d, .int .i64 B.e, .int .i64 B.f]) _ _ rfl (.load_mid (by rfl) 25 (.tmp 80) rfl g78 0 rfl [.int .i64 B.a, .int .i64 B.b, .int .i64 B.c, .int .i64 B.d, .int .i64 B.e, .int .i64 B.f] _ (fun W hg => (S98.out.gr hg).range 0 rfl 0 6 rfl) Tryd.underlying25 rfl (by kernel_rfl)) ?_
              simp only [n1, n3, n4]
              refine @wpG_p _ _ _ _ _ (some 82) (.pointer (some ⟨g4, 0, none⟩)) _ _ rfl (by rfl) (fun W => by go_simp) ?_
              simp only [n1, n3, n4]
              refine @wpG_tk _ _ _ _ _ (some 83) (.agg #[.int .i64 B.a, .int .i64 B.b, .int .i64 B.c, .int .i64 B.d, .int .i64 B.e, .int .i64 B.f]) _ _ rfl (.load_mid (by rfl) 25 (.tmp 82) rfl g4 0 rfl [.int .i64 B.a, .int .i64 B.b, .int .i64 B.c, .int .i64 B.d, .int .i64 B.e, .int .i64 B.f] _ (fun W hg => (S98.out.gr hg).range 6 rfl 0 6 rfl) Tryd.underlying25 rfl (by kernel_rfl)) ?_
              simp only [n1, n3, n4]
              refine @wpG_p _ _ _ _ _ (some 84) (.bool true) _ _ rfl (by rfl) (fun W => (op_bx_eql W B.a B.b B.c B.d B.e B.f B.a B.b B.c B.d B.e B.f rfl rfl rfl).trans (by simp)) ?_
              simp only [n1, n3, n4]
              refine @wpG_p _ _ _ _ _ (some 85) (.bool true) _ _ rfl (by rfl) (fun W => by go_simp) ?_
              simp only [n1, n3, n4]
              refine @wpG_p _ _ _ _ _ (some 8) (.bool true) _ _ rfl (by rfl) (fun _ => rfl) ?_
              simp only [n1, n3, n4]
              refine wpG_done (fun V101 hv102 => ?_)
              have S103 : Hid (St w noB [blk g78 28 [.int .i64 B.a, .int .i64 B.b, .int .i64 B.c, .int .i64 B.d, .int .i64 B.e, .int .i64 B.f, .slice A69 n70 c71], own (.slice A69 n70 c71) 3 1 n70 (ic (Gm.wr1 B l ⟨x, y, z, 0, m⟩)), blk g36 23 [.int .i64 x, .int .i64 y, .int .i64 z, .int .i64 x2, .int .i64 y2, .int .i64 z2], blk g22 28 [.int .i64 B.a, .int .i64 B.b, .int .i64 B.c, .int .i64 B.d, .int .i64 B.e, .int .i64 B.f, .slice A n c], blk g14 23 [.int .i64 x2, .int .i64 y2, .int .i64 z2], blk g9 23 [.int .i64 x, .int .i64 y, .int .i64 z], blk g4 28 [.int .i64 B.a, .int .i64 B.b, .int .i64 B.c, .int .i64 B.d, .int .i64 B.e, .int .i64 B.f, .slice A n c]] V101) := Lib.hid (S98.out.gr hv102)
              clear S98
              clear hv102
              refine ⟨rfl, hK _ _ ?_⟩
              clear hK
              go_wp2_with fail
              go_ret
              refine ⟨?_, S103.out.bel⟩
              show Ending.returned (.bool true) = _
              (first | rfl | (have e_f33 := f33.out; have e_f47 := f47.out; have e_f95 := f95.out; have e_f100 := f100.out; rfl))
            | false =>
              have f104 := of_decide_eq_false Hc99.out.symm
              refine @wpG_tk _ _ _ _ _ (some 61) (.agg #[.int .i64 B.a, .int .i64 B.b, .int .i64 B.c, .int .i64 B.d, .int .i64 B.e, .int .i64 B.f, .slice A69 n70 c71]) _ _ rfl (.load_mid (by rfl) 28 (.tmp 11) rfl g78 0 rfl [.int .i64 B.a, .int .i64 B.b, .int .i64 B.c, .int .i64 B.d, .int .i64 B.e, .int .i64 B.f, .slice A69 n70 c71] _ (fun W hg => (S98.out.gr hg).range 0 rfl 0 7 rfl) Tryd.underlying28 rfl (by kernel_rfl)) ?_
              simp only [n1, n3, n4]
              refine @wpG_tk _ _ _ _ _ (some 62) (.agg #[.int .i64 x2, .int .i64 y2, .int .i64 z2]) _ _ rfl (.load_mid (by rfl) 23 (.tmp 6) rfl g14 0 rfl [.int .i64 x2, .int .i64 y2, .int .i64 z2] _ (fun W hg => (S98.out.gr hg).range 4 rfl 0 3 rfl) Tryd.underlying23 rfl (by kernel_rfl)) ?_
              simp only [n1, n3, n4]
              refine @wpG_tk _ _ _ _ _ (some 63) (.int .i64 (Gm.get B l x2 y2 z2)) _ _ rfl (.call (f := 21) (args := #[.agg #[.int .i64 B.a, .int .i64 B.b, .int .i64 B.c, .int .i64 B.d, .int .i64 B.e, .int .i64 B.f, .slice A69 n70 c71], .agg #[.int .i64 x2, .int .i64 y2, .int .i64 z2]]) (by rfl) (fun W => by go_simp) (fun W hg => ((get_any B _ _ _ (Gm.wr1 B l ⟨x, y, z, 0, m⟩) x2 y2 z2 W (SL.ofOwn ((S98.out.gr hg).ownr 1 rfl)) (by have e_f33 := f33.out; have e_f47 := f47.out; have e_f95 := f95.out; exact (Gm.vld_wr1 (Gm.fw_of e_f33).2.1 ⟨by omega, by omega⟩).ok) (by have e_f33 := f33.out; have e_f47 := f47.out; have e_f95 := f95.out; exact Gm.near1_rp (Gm.nears_iff.1 e_f47 _ (by simp)))).mono (fun e w' h => ⟨h.1.trans (by have e_f33 := f33.out; have e_f47 := f47.out; have e_f95 := f95.out; rw [Gm.get_wr1_other (Gm.fw_of e_f33).2.1.ok f104]), h.2⟩)))) ?_
              simp only [n1, n3, n4]
              refine @wpG_p _ _ _ _ _ (some 64) (.int .i64 (Gm.get B l x2 y2 z2)) _ _ rfl (by rfl) (fun _ => rfl) ?_
              simp only [n1, n3, n4]
              refine @wpG_p _ _ _ _ _ (some 65) (.bool true) _ _ rfl (by rfl) (fun W => by go_simp) ?_
              simp only [n1, n3, n4]
              refine @wpG_p _ _ _ _ _ (some 66) (.bool true) _ _ rfl (by rfl) (fun W => by go_simp) ?_
              simp only [n1, n3, n4]
              refine @wpG_p _ _ _ _ _ (some 67) (.bool true) _ _ rfl (by rfl) (fun W => by go_simp) ?_
              simp only [n1, n3, n4]
              refine @wpG_p _ _ _ _ _ (some 68) (.bool true) _ _ rfl (by rfl) (fun _ => rfl) ?_
              simp only [n1, n3, n4]
              refine @wpG_tk _ _ _ _ _ (some 69) (.agg #[.int .i64 B.a, .int .i64 B.b, .int .i64 B.c, .int .i64 B.d, .int .i64 B.e, .int .i64 B.f, .slice A n c]) _ _ rfl (.load_mid (by rfl) 28 (.tmp 4) rfl g4 0 rfl [.int .i64 B.a, .int .i64 B.b, .int .i64 B.c, .int .i64 B.d, .int .i64 B.e, .int .i64 B.f, .slice A n c] _ (fun W hg => (S98.out.gr hg).range 6 rfl 0 7 rfl) Tryd.underlying28 rfl (by kernel_rfl)) ?_
              simp only [n1, n3, n4]
              refine @wpG_tk _ _ _ _ _ (some 70) (.agg #[.int .i64 x, .int .i64 y, .int .i64 z]) _ _ rfl (.load_mid (by rfl) 23 (.tmp 5) rfl g9 0 rfl [.int .i64 x, .int .i64 y, .int .i64 z] _ (fun W hg => (S98.out.gr hg).range 5 rfl 0 3 rfl) Tryd.underlying23 rfl (by kernel_rfl)) ?_
              simp only [n1, n3, n4]
              refine @wpG_tk _ _ _ _ _ (some 71) (.int .i64 (Gm.get B l x y z)) _ _ rfl (.call (f := 21) (args := #[.agg #[.int .i64 B.a, .int .i64 B.b, .int .i64 B.c, .int .i64 B.d, .int .i64 B.e, .int .i64 B.f, .slice A n c], .agg #[.int .i64 x, .int .i64 y, .int .i64 z]]) (by rfl) (fun W => by go_simp) (fun W hg => get_any B _ _ _ l x y z W (HGA.out.gr (S98.out.gr hg).bel) (by have e_f33 := f33.out; have e_f47 := f47.out; have e_f95 := f95.out; exact (Gm.fw_of e_f33).2.1.ok) (by have e_f33 := f33.out; have e_f47 := f47.out; have e_f95 := f95.out; exact Gm.near1_rp (Gm.nears_iff.1 e_f47 _ (by simp))))) ?_
              simp only [n1, n3, n4]
              refine @wpG_p _ _ _ _ _ (some 72) (.int .i64 (Gm.get B l x y z)) _ _ rfl (by rfl) (fun _ => rfl) ?_
              simp only [n1, n3, n4]
              refine @wpG_p _ _ _ _ _ (some 73) (.bool true) _ _ rfl (by rfl) (fun W => by go_simp) ?_
              simp only [n1, n3, n4]
              refine @wpG_p _ _ _ _ _ (some 74) (.bool true) _ _ rfl (by rfl) (fun W => by go_simp) ?_
              simp only [n1, n3, n4]
              refine @wpG_p _ _ _ _ _ (some 75) (.bool true) _ _ rfl (by rfl) (fun _ => rfl) ?_
              simp only [n1, n3, n4]
              refine @wpG_tk _ _ _ _ _ (some 76) (.agg #[.int .i64 B.a, .int .i64 B.b, .int .i64 B.c, .int .i64 B.d, .int .i64 B.e, .int .i64 B.f, .slice A69 n70 c71]) _ _ rfl (.load_mid (by rfl) 28 (.tmp 11) rfl g78 0 rfl [.int .i64 B.a, .int .i64 B.b, .int .i64 B.c, .int .i64 B.d, .int .i64 B.e, .int .i64 B.f, .slice A69 n70 c71] _ (fun W hg => (S98.out.gr hg).range 0 rfl 0 7 rfl) Tryd.underlying28 rfl (by kernel_rfl)) ?_
              simp only [n1, n3, n4]
              refine @wpG_tk _ _ _ _ _ (some 77) (.bool true) _ _ rfl (.call (f := 12) (args := #[.agg #[.int .i64 B.a, .int .i64 B.b, .int .i64 B.c, .int .i64 B.d, .int .i64 B.e, .int .i64 B.f, .slice A69 n70 c71]]) (by rfl) (fun W => by go_simp) (fun W hg => ((valid_any B _ _ _ (Gm.wr1 B l ⟨x, y, z, 0, m⟩) W (SL.ofOwn ((S98.out.gr hg).ownr 1 rfl))).mono (fun e w' h => ⟨h.1.trans (by have e_f33 := f33.out; have e_f47 := f47.out; have e_f95 := f95.out; rw [decide_eq_true (Gm.vld_wr1 (Gm.fw_of e_f33).2.1 ⟨by omega, by omega⟩)]), h.2⟩)))) ?_
              simp only [n1, n3, n4]
              refine @wpG_p _ _ _ _ _ (some 78) (.bool true) _ _ rfl (by rfl) (fun W => by go_simp) ?_
              simp only [n1, n3, n4]
              refine @wpG_p _ _ _ _ _ (some 79) (.bool true) _ _ rfl (by rfl) (fun _ => rfl) ?_
              simp only [n1, n3, n4]
              refine @wpG_p _ _ _ _ _ (some 80) (.pointer (some ⟨g78, 0, none⟩)) _ _ rfl (by rfl) (fun W => by go_simp) ?_
              simp only [n1, n3, n4]
              refine @wpG_tk _ _ _ _ _ (some 81) (.agg #[.int .i64 B.a, .int .i64 B.b, .int .i64 B.c, .int .i64 B.d, .int .i64 B.e, .int .i64 B.f]) _ _ rfl (.load_mid (by rfl) 25 (.tmp 80) rfl g78 0 rfl [.int .i64 B.a, .int .i64 B.b, .int .i64 B.c, .int .i64 B.d, .int .i64 B.e, .int .i64 B.f] _ (fun W hg => (S98.out.gr hg).range 0 rfl 0 6 rfl) Tryd.underlying25 rfl (by kernel_rfl)) ?_
              simp only [n1, n3, n4]
              refine @wpG_p _ _ _ _ _ (some 82) (.pointer (some ⟨g4, 0, none⟩)) _ _ rfl (by rfl) (fun W => by go_simp) ?_
              simp only [n1, n3, n4]
              refine @wpG_tk _ _ _ _ _ (some 83) (.agg #[.int .i64 B.a, .int .i64 B.b, .int .i64 B.c, .int .i64 B.d, .int .i64 B.e, .int .i64 B.f]) _ _ rfl (.load_mid (by rfl) 25 (.tmp 82) rfl g4 0 rfl [.int .i64 B.a, .int .i64 B.b, .int .i64 B.c, .int .i64 B.d, .int .i64 B.e, .int .i64 B.f] _ (fun W hg => (S98.out.gr hg).range 6 rfl 0 6 rfl) Tryd.underlying25 rfl (by kernel_rfl)) ?_
              simp only [n1, n3, n4]
              refine @wpG_p _ _ _ _ _ (some 84) (.bool true) _ _ rfl (by rfl) (fun W => (op_bx_eql W B.a B.b B.c B.d B.e B.f B.a B.b B.c B.d B.e B.f rfl rfl rfl).trans (by simp)) ?_
              simp only [n1, n3, n4]
              refine @wpG_p _ _ _ _ _ (some 85) (.bool true) _ _ rfl (by rfl) (fun W => by go_simp) ?_
              simp only [n1, n3, n4]
              refine @wpG_p _ _ _ _ _ (some 8) (.bool true) _ _ rfl (by rfl) (fun _ => rfl) ?_
              simp only [n1, n3, n4]
              refine wpG_done (fun V105 hv106 => ?_)
              have S107 : Hid (St w noB [blk g78 28 [.int .i64 B.a, .int .i64 B.b, .int .i64 B.c, .int .i64 B.d, .int .i64 B.e, .int .i64 B.f, .slice A69 n70 c71], own (.slice A69 n70 c71) 3 1 n70 (ic (Gm.wr1 B l ⟨x, y, z, 0, m⟩)), blk g36 23 [.int .i64 x, .int .i64 y, .int .i64 z, .int .i64 x2, .int .i64 y2, .int .i64 z2], blk g22 28 [.int .i64 B.a, .int .i64 B.b, .int .i64 B.c, .int .i64 B.d, .int .i64 B.e, .int .i64 B.f, .slice A n c], blk g14 23 [.int .i64 x2, .int .i64 y2, .int .i64 z2], blk g9 23 [.int .i64 x, .int .i64 y, .int .i64 z], blk g4 28 [.int .i64 B.a, .int .i64 B.b, .int .i64 B.c, .int .i64 B.d, .int .i64 B.e, .int .i64 B.f, .slice A n c]] V105) := Lib.hid (S98.out.gr hv106)
              clear S98
              clear hv106
              refine ⟨rfl, hK _ _ ?_⟩
              clear hK
              go_wp2_with fail
              go_ret
              refine ⟨?_, S107.out.bel⟩
              show Ending.returned (.bool true) = _
              (first | rfl | (have e_f33 := f33.out; have e_f47 := f47.out; have e_f95 := f95.out; rfl))
          | false =>
            have f108 := Lib.hid (Hc94.out.symm)
            go_upto_region 8 with fail
            refine wpG_region_k (fun K hK => ?_)
            refine @wpG_tk _ _ _ _ _ (some 48) (.bool true) _ _ rfl (.call (f := 11) (args := #[]) (by rfl) (fun W => by go_simp) (fun W hg => (HSAN.out W (S93.out.gr hg).bel))) ?_
            simp only [n1, n3, n4]
            refine @wpG_p _ _ _ _ _ (some 49) (.bool true) _ _ rfl (by rfl) (fun _ => rfl) ?_
            simp only [n1, n3, n4]
            refine @wpG_tk _ _ _ _ _ (some 50) (.agg #[.int .i64 B.a, .int .i64 B.b, .int .i64 B.c, .int .i64 B.d, .int .i64 B.e, .int .i64 B.f, .slice A69 n70 c71]) _ _ rfl (.load_mid (by rfl) 28 (.tmp 11) rfl g78 0 rfl [.int .i64 B.a, .int .i64 B.b, .int .i64 B.c, .int .i64 B.d, .int .i64 B.e, .int .i64 B.f, .slice A69 n70 c71] _ (fun W hg => (S93.out.gr hg).range 0 rfl 0 7 rfl) Tryd.underlying28 rfl (by kernel_rfl)) ?_
            simp only [n1, n3, n4]
            refine @wpG_tk _ _ _ _ _ (some 51) (.agg #[.int .i64 x, .int .i64 y, .int .i64 z]) _ _ rfl (.load_mid (by rfl) 23 (.tmp 5) rfl g9 0 rfl [.int .i64 x, .int .i64 y, .int .i64 z] _ (fun W hg => (S93.out.gr hg).range 5 rfl 0 3 rfl) Tryd.underlying23 rfl (by kernel_rfl)) ?_
            simp only [n1, n3, n4]
            refine @wpG_tk _ _ _ _ _ (some 52) (.int .i64 0) _ _ rfl (.call (f := 21) (args := #[.agg #[.int .i64 B.a, .int .i64 B.b, .int .i64 B.c, .int .i64 B.d, .int .i64 B.e, .int .i64 B.f, .slice A69 n70 c71], .agg #[.int .i64 x, .int .i64 y, .int .i64 z]]) (by rfl) (fun W => by go_simp) (fun W hg => ((get_any B _ _ _ (Gm.wr1 B l ⟨x, y, z, 0, m⟩) x y z W (SL.ofOwn ((S93.out.gr hg).ownr 1 rfl)) (by have e_f33 := f33.out; have e_f47 := f47.out; have e_f108 := f108.out; exact (Gm.vld_wr1 (Gm.fw_of e_f33).2.1 ⟨by omega, by omega⟩).ok) (by have e_f33 := f33.out; have e_f47 := f47.out; have e_f108 := f108.out; exact Gm.near1_rp (Gm.nears_iff.1 e_f47 _ (by simp)))).mono (fun e w' h => ⟨h.1.trans (by have e_f33 := f33.out; have e_f47 := f47.out; have e_f108 := f108.out; rw [Gm.get_wr1_self (Gm.fw_of e_f33).2.1.ok, e_f108]; rfl), h.2⟩)))) ?_
            simp only [n1, n3, n4]
            refine @wpG_p _ _ _ _ _ (some 53) (.int .i64 0) _ _ rfl (by rfl) (fun _ => rfl) ?_
            simp only [n1, n3, n4]
            refine @wpG_p _ _ _ _ _ (some 54) (.bool true) _ _ rfl (by rfl) (fun W => by go_simp) ?_
            simp only [n1, n3, n4]
            refine @wpG_p _ _ _ _ _ (some 55) (.bool true) _ _ rfl (by rfl) (fun W => by go_simp) ?_
            simp only [n1, n3, n4]
            refine @wpG_p _ _ _ _ _ (some 56) (.bool true) _ _ rfl (by rfl) (fun _ => rfl) ?_
            simp only [n1, n3, n4]
            refine @wpG_tk _ _ _ _ _ (some 57) (.agg #[.int .i64 x, .int .i64 y, .int .i64 z]) _ _ rfl (.load_mid (by rfl) 23 (.tmp 5) rfl g9 0 rfl [.int .i64 x, .int .i64 y, .int .i64 z] _ (fun W hg => (S93.out.gr hg).range 5 rfl 0 3 rfl) Tryd.underlying23 rfl (by kernel_rfl)) ?_
            simp only [n1, n3, n4]
            refine @wpG_tk _ _ _ _ _ (some 58) (.agg #[.int .i64 x2, .int .i64 y2, .int .i64 z2]) _ _ rfl (.load_mid (by rfl) 23 (.tmp 6) rfl g14 0 rfl [.int .i64 x2, .int .i64 y2, .int .i64 z2] _ (fun W hg => (S93.out.gr hg).range 4 rfl 0 3 rfl) Tryd.underlying23 rfl (by kernel_rfl)) ?_
            simp only [n1, n3, n4]
            refine @wpG_p _ _ _ _ _ (some 59) (.bool (decide (x = x2 ∧ y = y2 ∧ z = z2))) _ _ rfl (by rfl) (fun W => op_pt_eql W x y z x2 y2 z2 rfl rfl rfl) ?_
            simp only [n1, n3, n4]
            refine @wpG_p _ _ _ _ _ (some 60) (.bool (decide (x = x2 ∧ y = y2 ∧ z = z2))) _ _ rfl (by rfl) (fun _ => rfl) ?_
            simp only [n1, n3, n4]
            obtain ⟨c109, hc109⟩ : ∃ q_, q_ = (decide (x = x2 ∧ y = y2 ∧ z = z2)) := ⟨_, rfl⟩
            rw [← hc109]
            have Hc109 := Lib.hid hc109
            clear hc109
            cases c109 with
            | true =>
              have f110 := Lib.hid (of_decide_eq_true Hc109.out.symm)
              refine @wpG_no _ _ _ _ _ (some 61) _ _ rfl (by rfl) ?_
              simp only [n1, n3, n4]
              refine @wpG_no _ _ _ _ _ (some 62) _ _ rfl (by rfl) ?_
              simp only [n1, n3, n4]
              refine @wpG_no _ _ _ _ _ (some 63) _ _ rfl (by rfl) ?_
              simp only [n1, n3, n4]
              refine @wpG_no _ _ _ _ _ (some 64) _ _ rfl (by rfl) ?_
              simp only [n1, n3, n4]
              refine @wpG_no _ _ _ _ _ (some 65) _ _ rfl (by rfl) ?_
              simp only [n1, n3, n4]
              refine @wpG_p _ _ _ _ _ (some 66) (.bool true) _ _ rfl (by rfl) (fun W => by go_simp) ?_
              simp only [n1, n3, n4]
              refine @wpG_p _ _ _ _ _ (some 67) (.bool true) _ _ rfl (by rfl) (fun W => by go_simp) ?_
              simp only [n1, n3, n4]
              refine @wpG_p _ _ _ _ _ (some 68) (.bool true) _ _ rfl (by rfl) (fun _ => rfl) ?_
              simp only [n1, n3, n4]
              refine @wpG_tk _ _ _ _ _ (some 69) (.agg #[.int .i64 B.a, .int .i64 B.b, .int .i64 B.c, .int .i64 B.d, .int .i64 B.e, .int .i64 B.f, .slice A n c]) _ _ rfl (.load_mid (by rfl) 28 (.tmp 4) rfl g4 0 rfl [.int .i64 B.a, .int .i64 B.b, .int .i64 B.c, .int .i64 B.d, .int .i64 B.e, .int .i64 B.f, .slice A n c] _ (fun W hg => (S93.out.gr hg).range 6 rfl 0 7 rfl) Tryd.underlying28 rfl (by kernel_rfl)) ?_
              simp only [n1, n3, n4]
              refine @wpG_tk _ _ _ _ _ (some 70) (.agg #[.int .i64 x, .int .i64 y, .int .i64 z]) _ _ rfl (.load_mid (by rfl) 23 (.tmp 5) rfl g9 0 rfl [.int .i64 x, .int .i64 y, .int .i64 z] _ (fun W hg => (S93.out.gr hg).range 5 rfl 0 3 rfl) Tryd.underlying23 rfl (by kernel_rfl)) ?_
              simp only [n1, n3, n4]
              refine @wpG_tk _ _ _ _ _ (some 71) (.int .i64 (Gm.get B l x y z)) _ _ rfl (.call (f := 21) (args := #[.agg #[.int .i64 B.a, .int .i64 B.b, .int .i64 B.c, .int .i64 B.d, .int .i64 B.e, .int .i64 B.f, .slice A n c], .agg #[.int .i64 x, .int .i64 y, .int .i64 z]]) (by rfl) (fun W => by go_simp) (fun W hg => get_any B _ _ _ l x y z W (HGA.out.gr (S93.out.gr hg).bel) (by have e_f33 := f33.out; have e_f47 := f47.out; have e_f108 := f108.out; have e_f110 := f110.out; exact (Gm.fw_of e_f33).2.1.ok) (by have e_f33 := f33.out; have e_f47 := f47.out; have e_f108 := f108.out; have e_f110 := f110.out; exact Gm.near1_rp (Gm.nears_iff.1 e_f47 _ (by simp))))) ?_
              simp only [n1, n3, n4]
              refine @wpG_p _ _ _ _ _ (some 72) (.int .i64 (Gm.get B l x y z)) _ _ rfl (by rfl) (fun _ => rfl) ?_
              simp only [n1, n3, n4]
              refine @wpG_p _ _ _ _ _ (some 73) (.bool true) _ _ rfl (by rfl) (fun W => by go_simp) ?_
              simp only [n1, n3, n4]
              refine @wpG_p _ _ _ _ _ (some 74) (.bool true) _ _ rfl (by rfl) (fun W => by go_simp) ?_
              simp only [n1, n3, n4]
              refine @wpG_p _ _ _ _ _ (some 75) (.bool true) _ _ rfl (by rfl) (fun _ => rfl) ?_
              simp only [n1, n3, n4]
              refine @wpG_tk _ _ _ _ _ (some 76) (.agg #[.int .i64 B.a, .int .i64 B.b, .int .i64 B.c, .int .i64 B.d, .int .i64 B.e, .int .i64 B.f, .slice A69 n70 c71]) _ _ rfl (.load_mid (by rfl) 28 (.tmp 11) rfl g78 0 rfl [.int .i64 B.a, .int .i64 B.b, .int .i64 B.c, .int .i64 B.d, .int .i64 B.e, .int .i64 B.f, .slice A69 n70 c71] _ (fun W hg => (S93.out.gr hg).range 0 rfl 0 7 rfl) Tryd.underlying28 rfl (by kernel_rfl)) ?_
              simp only [n1, n3, n4]
              refine @wpG_tk _ _ _ _ _ (some 77) (.bool true) _ _ rfl (.call (f := 12) (args := #[.agg #[.int .i64 B.a, .int .i64 B.b, .int .i64 B.c, .int .i64 B.d, .int .i64 B.e, .int .i64 B.f, .slice A69 n70 c71]]) (by rfl) (fun W => by go_simp) (fun W hg => ((valid_any B _ _ _ (Gm.wr1 B l ⟨x, y, z, 0, m⟩) W (SL.ofOwn ((S93.out.gr hg).ownr 1 rfl))).mono (fun e w' h => ⟨h.1.trans (by have e_f33 := f33.out; have e_f47 := f47.out; have e_f108 := f108.out; have e_f110 := f110.out; rw [decide_eq_true (Gm.vld_wr1 (Gm.fw_of e_f33).2.1 ⟨by omega, by omega⟩)]), h.2⟩)))) ?_
              simp only [n1, n3, n4]
              refine @wpG_p _ _ _ _ _ (some 78) (.bool true) _ _ rfl (by rfl) (fun W => by go_simp) ?_
              simp only [n1, n3, n4]
              refine @wpG_p _ _ _ _ _ (some 79) (.bool true) _ _ rfl (by rfl) (fun _ => rfl) ?_
              simp only [n1, n3, n4]
              refine @wpG_p _ _ _ _ _ (some 80) (.pointer (some ⟨g78, 0, none⟩)) _ _ rfl (by rfl) (fun W => by go_simp) ?_
              simp only [n1, n3, n4]
              refine @wpG_tk _ _ _ _ _ (some 81) (.agg #[.int .i64 B.a, .int .i64 B.b, .int .i64 B.c, .int .i64 B.d, .int .i64 B.e, .int .i64 B.f]) _ _ rfl (.load_mid (by rfl) 25 (.tmp 80) rfl g78 0 rfl [.int .i64 B.a, .int .i64 B.b, .int .i64 B.c, .int .i64 B.d, .int .i64 B.e, .int .i64 B.f] _ (fun W hg => (S93.out.gr hg).range 0 rfl 0 6 rfl) Tryd.underlying25 rfl (by kernel_rfl)) ?_
              simp only [n1, n3, n4]
              refine @wpG_p _ _ _ _ _ (some 82) (.pointer (some ⟨g4, 0, none⟩)) _ _ rfl (by rfl) (fun W => by go_simp) ?_
              simp only [n1, n3, n4]
              refine @wpG_tk _ _ _ _ _ (some 83) (.agg #[.int .i64 B.a, .int .i64 B.b, .int .i64 B.c, .int .i64 B.d, .int .i64 B.e, .int .i64 B.f]) _ _ rfl (.load_mid (by rfl) 25 (.tmp 82) rfl g4 0 rfl [.int .i64 B.a, .int .i64 B.b, .int .i64 B.c, .int .i64 B.d, .int .i64 B.e, .int .i64 B.f] _ (fun W hg => (S93.out.gr hg).range 6 rfl 0 6 rfl) Tryd.underlying25 rfl (by kernel_rfl)) ?_
              simp only [n1, n3, n4]
              refine @wpG_p _ _ _ _ _ (some 84) (.bool true) _ _ rfl (by rfl) (fun W => (op_bx_eql W B.a B.b B.c B.d B.e B.f B.a B.b B.c B.d B.e B.f rfl rfl rfl).trans (by simp)) ?_
              simp only [n1, n3, n4]
              refine @wpG_p _ _ _ _ _ (some 85) (.bool true) _ _ rfl (by rfl) (fun W => by go_simp) ?_
              simp only [n1, n3, n4]
              refine @wpG_p _ _ _ _ _ (some 8) (.bool true) _ _ rfl (by rfl) (fun _ => rfl) ?_
              simp only [n1, n3, n4]
              refine wpG_done (fun V111 hv112 => ?_)
              have S113 : Hid (St w noB [blk g78 28 [.int .i64 B.a, .int .i64 B.b, .int .i64 B.c, .int .i64 B.d, .int .i64 B.e, .int .i64 B.f, .slice A69 n70 c71], own (.slice A69 n70 c71) 3 1 n70 (ic (Gm.wr1 B l ⟨x, y, z, 0, m⟩)), blk g36 23 [.int .i64 x, .int .i64 y, .int .i64 z, .int .i64 x2, .int .i64 y2, .int .i64 z2], blk g22 28 [.int .i64 B.a, .int .i64 B.b, .int .i64 B.c, .int .i64 B.d, .int .i64 B.e, .int .i64 B.f, .slice A n c], blk g14 23 [.int .i64 x2, .int .i64 y2, .int .i64 z2], blk g9 23 [.int .i64 x, .int .i64 y, .int .i64 z], blk g4 28 [.int .i64 B.a, .int .i64 B.b, .int .i64 B.c, .int .i64 B.d, .int .i64 B.e, .int .i64 B.f, .slice A n c]] V111) := Lib.hid (S93.out.gr hv112)
              clear S93
              clear hv112
              refine ⟨rfl, hK _ _ ?_⟩
              clear hK
              go_wp2_with fail
              go_ret
              refine ⟨?_, S113.out.bel⟩
              show Ending.returned (.bool true) = _
              (first | rfl | (have e_f33 := f33.out; have e_f47 := f47.out; have e_f108 := f108.out; have e_f110 := f110.out; rfl))
            | false =>
              have f114 := of_decide_eq_false Hc109.out.symm
              refine @wpG_tk _ _ _ _ _ (some 61) (.agg #[.int .i64 B.a, .int .i64 B.b, .int .i64 B.c, .int .i64 B.d, .int .i64 B.e, .int .i64 B.f, .slice A69 n70 c71]) _ _ rfl (.load_mid (by rfl) 28 (.tmp 11) rfl g78 0 rfl [.int .i64 B.a, .int .i64 B.b, .int .i64 B.c, .int .i64 B.d, .int .i64 B.e, .int .i64 B.f, .slice A69 n70 c71] _ (fun W hg => (S93.out.gr hg).range 0 rfl 0 7 rfl) Tryd.underlying28 rfl (by kernel_rfl)) ?_
              simp only [n1, n3, n4]
              refine @wpG_tk _ _ _ _ _ (some 62) (.agg #[.int .i64 x2, .int .i64 y2, .int .i64 z2]) _ _ rfl (.load_mid (by rfl) 23 (.tmp 6) rfl g14 0 rfl [.int .i64 x2, .int .i64 y2, .int .i64 z2] _ (fun W hg => (S93.out.gr hg).range 4 rfl 0 3 rfl) Tryd.underlying23 rfl (by kernel_rfl)) ?_
              simp only [n1, n3, n4]
              refine @wpG_tk _ _ _ _ _ (some 63) (.int .i64 (Gm.get B l x2 y2 z2)) _ _ rfl (.call (f := 21) (args := #[.agg #[.int .i64 B.a, .int .i64 B.b, .int .i64 B.c, .int .i64 B.d, .int .i64 B.e, .int .i64 B.f, .slice A69 n70 c71], .agg #[.int .i64 x2, .int .i64 y2, .int .i64 z2]]) (by rfl) (fun W => by go_simp) (fun W hg => ((get_any B _ _ _ (Gm.wr1 B l ⟨x, y, z, 0, m⟩) x2 y2 z2 W (SL.ofOwn ((S93.out.gr hg).ownr 1 rfl)) (by have e_f33 := f33.out; have e_f47 := f47.out; have e_f108 := f108.out; exact (Gm.vld_wr1 (Gm.fw_of e_f33).2.1 ⟨by omega, by omega⟩).ok) (by have e_f33 := f33.out; have e_f47 := f47.out; have e_f108 := f108.out; exact Gm.near1_rp (Gm.nears_iff.1 e_f47 _ (by simp)))).mono (fun e w' h => ⟨h.1.trans (by have e_f33 := f33.out; have e_f47 := f47.out; have e_f108 := f108.out; rw [Gm.get_wr1_other (Gm.fw_of e_f33).2.1.ok f114]), h.2⟩)))) ?_
              simp only [n1, n3, n4]
              refine @wpG_p _ _ _ _ _ (some 64) (.int .i64 (Gm.get B l x2 y2 z2)) _ _ rfl (by rfl) (fun _ => rfl) ?_
              simp only [n1, n3, n4]
              refine @wpG_p _ _ _ _ _ (some 65) (.bool true) _ _ rfl (by rfl) (fun W => by go_simp) ?_
              simp only [n1, n3, n4]
              refine @wpG_p _ _ _ _ _ (some 66) (.bool true) _ _ rfl (by rfl) (fun W => by go_simp) ?_
              simp only [n1, n3, n4]
              refine @wpG_p _ _ _ _ _ (some 67) (.bool true) _ _ rfl (by rfl) (fun W => by go_simp) ?_
              simp only [n1, n3, n4]
              refine @wpG_p _ _ _ _ _ (some 68) (.bool true) _ _ rfl (by rfl) (fun _ => rfl) ?_
              simp only [n1, n3, n4]
              refine @wpG_tk _ _ _ _ _ (some 69) (.agg #[.int .i64 B.a, .int .i64 B.b, .int .i64 B.c, .int .i64 B.d, .int .i64 B.e, .int .i64 B.f, .slice A n c]) _ _ rfl (.load_mid (by rfl) 28 (.tmp 4) rfl g4 0 rfl [.int .i64 B.a, .int .i64 B.b, .int .i64 B.c, .int .i64 B.d, .int .i64 B.e, .int .i64 B.f, .slice A n c] _ (fun W hg => (S93.out.gr hg).range 6 rfl 0 7 rfl) Tryd.underlying28 rfl (by kernel_rfl)) ?_
              simp only [n1, n3, n4]
              refine @wpG_tk _ _ _ _ _ (some 70) (.agg #[.int .i64 x, .int .i64 y, .int .i64 z]) _ _ rfl (.load_mid (by rfl) 23 (.tmp 5) rfl g9 0 rfl [.int .i64 x, .int .i64 y, .int .i64 z] _ (fun W hg => (S93.out.gr hg).range 5 rfl 0 3 rfl) Tryd.underlying23 rfl (by kernel_rfl)) ?_
              simp only [n1, n3, n4]
              refine @wpG_tk _ _ _ _ _ (some 71) (.int .i64 (Gm.get B l x y z)) _ _ rfl (.call (f := 21) (args := #[.agg #[.int .i64 B.a, .int .i64 B.b, .int .i64 B.c, .int .i64 B.d, .int .i64 B.e, .int .i64 B.f, .slice A n c], .agg #[.int .i64 x, .int .i64 y, .int .i64 z]]) (by rfl) (fun W => by go_simp) (fun W hg => get_any B _ _ _ l x y z W (HGA.out.gr (S93.out.gr hg).bel) (by have e_f33 := f33.out; have e_f47 := f47.out; have e_f108 := f108.out; exact (Gm.fw_of e_f33).2.1.ok) (by have e_f33 := f33.out; have e_f47 := f47.out; have e_f108 := f108.out; exact Gm.near1_rp (Gm.nears_iff.1 e_f47 _ (by simp))))) ?_
              simp only [n1, n3, n4]
              refine @wpG_p _ _ _ _ _ (some 72) (.int .i64 (Gm.get B l x y z)) _ _ rfl (by rfl) (fun _ => rfl) ?_
              simp only [n1, n3, n4]
              refine @wpG_p _ _ _ _ _ (some 73) (.bool true) _ _ rfl (by rfl) (fun W => by go_simp) ?_
              simp only [n1, n3, n4]
              refine @wpG_p _ _ _ _ _ (some 74) (.bool true) _ _ rfl (by rfl) (fun W => by go_simp) ?_
              simp only [n1, n3, n4]
              refine @wpG_p _ _ _ _ _ (some 75) (.bool true) _ _ rfl (by rfl) (fun _ => rfl) ?_
              simp only [n1, n3, n4]
              refine @wpG_tk _ _ _ _ _ (some 76) (.agg #[.int .i64 B.a, .int .i64 B.b, .int .i64 B.c, .int .i64 B.d, .int .i64 B.e, .int .i64 B.f, .slice A69 n70 c71]) _ _ rfl (.load_mid (by rfl) 28 (.tmp 11) rfl g78 0 rfl [.int .i64 B.a, .int .i64 B.b, .int .i64 B.c, .int .i64 B.d, .int .i64 B.e, .int .i64 B.f, .slice A69 n70 c71] _ (fun W hg => (S93.out.gr hg).range 0 rfl 0 7 rfl) Tryd.underlying28 rfl (by kernel_rfl)) ?_
              simp only [n1, n3, n4]
              refine @wpG_tk _ _ _ _ _ (some 77) (.bool true) _ _ rfl (.call (f := 12) (args := #[.agg #[.int .i64 B.a, .int .i64 B.b, .int .i64 B.c, .int .i64 B.d, .int .i64 B.e, .int .i64 B.f, .slice A69 n70 c71]]) (by rfl) (fun W => by go_simp) (fun W hg => ((valid_any B _ _ _ (Gm.wr1 B l ⟨x, y, z, 0, m⟩) W (SL.ofOwn ((S93.out.gr hg).ownr 1 rfl))).mono (fun e w' h => ⟨h.1.trans (by have e_f33 := f33.out; have e_f47 := f47.out; have e_f108 := f108.out; rw [decide_eq_true (Gm.vld_wr1 (Gm.fw_of e_f33).2.1 ⟨by omega, by omega⟩)]), h.2⟩)))) ?_
              simp only [n1, n3, n4]
              refine @wpG_p _ _ _ _ _ (some 78) (.bool true) _ _ rfl (by rfl) (fun W => by go_simp) ?_
              simp only [n1, n3, n4]
              refine @wpG_p _ _ _ _ _ (some 79) (.bool true) _ _ rfl (by rfl) (fun _ => rfl) ?_
              simp only [n1, n3, n4]
              refine @wpG_p _ _ _ _ _ (some 80) (.pointer (some ⟨g78, 0, none⟩)) _ _ rfl (by rfl) (fun W => by go_simp) ?_
              simp only [n1, n3, n4]
              refine @wpG_tk _ _ _ _ _ (some 81) (.agg #[.int .i64 B.a, .int .i64 B.b, .int .i64 B.c, .int .i64 B.d, .int .i64 B.e, .int .i64 B.f]) _ _ rfl (.load_mid (by rfl) 25 (.tmp 80) rfl g78 0 rfl [.int .i64 B.a, .int .i64 B.b, .int .i64 B.c, .int .i64 B.d, .int .i64 B.e, .int .i64 B.f] _ (fun W hg => (S93.out.gr hg).range 0 rfl 0 6 rfl) Tryd.underlying25 rfl (by kernel_rfl)) ?_
              simp only [n1, n3, n4]
              refine @wpG_p _ _ _ _ _ (some 82) (.pointer (some ⟨g4, 0, none⟩)) _ _ rfl (by rfl) (fun W => by go_simp) ?_
              simp only [n1, n3, n4]
              refine @wpG_tk _ _ _ _ _ (some 83) (.agg #[.int .i64 B.a, .int .i64 B.b, .int .i64 B.c, .int .i64 B.d, .int .i64 B.e, .int .i64 B.f]) _ _ rfl (.load_mid (by rfl) 25 (.tmp 82) rfl g4 0 rfl [.int .i64 B.a, .int .i64 B.b, .int .i64 B.c, .int .i64 B.d, .int .i64 B.e, .int .i64 B.f] _ (fun W hg => (S93.out.gr hg).range 6 rfl 0 6 rfl) Tryd.underlying25 rfl (by kernel_rfl)) ?_
              simp only [n1, n3, n4]
              refine @wpG_p _ _ _ _ _ (some 84) (.bool true) _ _ rfl (by rfl) (fun W => (op_bx_eql W B.a B.b B.c B.d B.e B.f B.a B.b B.c B.d B.e B.f rfl rfl rfl).trans (by simp)) ?_
              simp only [n1, n3, n4]
              refine @wpG_p _ _ _ _ _ (some 85) (.bool true) _ _ rfl (by rfl) (fun W => by go_simp) ?_
              simp only [n1, n3, n4]
              refine @wpG_p _ _ _ _ _ (some 8) (.bool true) _ _ rfl (by rfl) (fun _ => rfl) ?_
              simp only [n1, n3, n4]
              refine wpG_done (fun V115 hv116 => ?_)
              have S117 : Hid (St w noB [blk g78 28 [.int .i64 B.a, .int .i64 B.b, .int .i64 B.c, .int .i64 B.d, .int .i64 B.e, .int .i64 B.f, .slice A69 n70 c71], own (.slice A69 n70 c71) 3 1 n70 (ic (Gm.wr1 B l ⟨x, y, z, 0, m⟩)), blk g36 23 [.int .i64 x, .int .i64 y, .int .i64 z, .int .i64 x2, .int .i64 y2, .int .i64 z2], blk g22 28 [.int .i64 B.a, .int .i64 B.b, .int .i64 B.c, .int .i64 B.d, .int .i64 B.e, .int .i64 B.f, .slice A n c], blk g14 23 [.int .i64 x2, .int .i64 y2, .int .i64 z2], blk g9 23 [.int .i64 x, .int .i64 y, .int .i64 z], blk g4 28 [.int .i64 B.a, .int .i64 B.b, .int .i64 B.c, .int .i64 B.d, .int .i64 B.e, .int .i64 B.f, .slice A n c]] V115) := Lib.hid (S93.out.gr hv116)
              clear S93
              clear hv116
              refine ⟨rfl, hK _ _ ?_⟩
              clear hK
              go_wp2_with fail
              go_ret
              refine ⟨?_, S117.out.bel⟩
              show Ending.returned (.bool true) = _
              (first | rfl | (have e_f33 := f33.out; have e_f47 := f47.out; have e_f108 := f108.out; rfl))

end Go.Proofs.YtjdeaopdbenamaaDoor
