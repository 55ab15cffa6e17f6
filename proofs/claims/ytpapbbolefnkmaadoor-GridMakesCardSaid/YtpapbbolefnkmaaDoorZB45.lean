/-
  Package grid: a cell set, a list of changes written.
-/
import Derived.Test.YtpapbbolefnkmaaDoorZB00
import Derived.Test.YtpapbbolefnkmaaDoorZB42
import Derived.Handy
namespace Go.Proofs.YtpapbbolefnkmaaDoor
open Go Go.RowKit
set_option linter.unusedVariables false
set_option linter.unusedSimpArgs false
set_option maxRecDepth 1000000 in
set_option maxHeartbeats 4000000 in
theorem set_any (B : Gm.Bx) (A : Option Addr) (n c : Nat) (l : List Int) (x y z m : Int) (w : World) (hG : SL w 1 A n c (ic l)) (hok : Gm.ok B l) (hp : Gm.rp3 x y z) :
    Calls Tryd.prog 22 #[.agg #[B.a, B.b, B.c, B.d, B.e, B.f, .slice A n c], .agg #[x, y, z], m] w fun e w'=>∃ A n c,e = .returned (.agg #[B.a, B.b, B.c, B.d, B.e, B.f, .slice A n c]) ∧ St w noB [own (.slice A n c) 3 1 n (ic (Gm.wr1 B l ⟨x,y,z,0,m⟩))] w':=by
  have HGA:=Lib.hid hG
  have HLEN : Hid (l.length = n):=Lib.hid (by have h_:=hG.len;rw [ic_len] at h_;omega)
  have hnbHGA : n ≤ 9223372036854775807:=Nat.le_trans hG.cap hG.bnd
  clear hG
  have HOK:=Lib.hid hok
  clear hok
  have S1 : Hid (St w noB [] w):=Lib.hid (St.start w)
  go_enter Tryd.func22,Tryd.ntmps22
  go_upto_region 0 with fail
  refine wpG_region_k (fun K hK=>?_)
  refine wpG_val (some 3) rfl (by rfl) (fun W2 hg3=>⟨.pointer (some ⟨W2.heap.size,0,none⟩),W2.alloc (.cells #[B.a, B.b, B.c, B.d, B.e, B.f, .slice A n c] 28),by (first | (go_simp;done) | (go_simp <;> rfl)), ?_⟩)
  simp only [n1,n3,n4]
  obtain ⟨g4,U5,hg_,hu_,hS_⟩:=(S1.out.gr hg3).made [B.a, B.b, B.c, B.d, B.e, B.f, .slice A n c] 28
  rw [← hu_,← hg_]
  have S6 : Hid (St w noB [blk g4 28 [B.a, B.b, B.c, B.d, B.e, B.f, .slice A n c]] U5):=Lib.hid hS_
  clear S1
  clear hg_ hu_ hS_ hg3
  refine wpG_val (some 4) rfl (by rfl) (fun W7 hg8=>⟨.pointer (some ⟨W7.heap.size,0,none⟩),W7.alloc (.cells #[x, y, z] 23),by (first | (go_simp;done) | (go_simp <;> rfl)), ?_⟩)
  simp only [n1,n3,n4]
  obtain ⟨g9,U10,hg_,hu_,hS_⟩:=(S6.out.gr hg8).made [x, y, z] 23
  rw [← hu_,← hg_]
  have S11 : Hid (St w noB [blk g9 23 [x, y, z],blk g4 28 [B.a, B.b, B.c, B.d, B.e, B.f, .slice A n c]] U10):=Lib.hid hS_
  clear S6
  clear hg_ hu_ hS_ hg8
  refine wpG_val (some 5) rfl (by rfl) (fun W12 hg13=>⟨.pointer (some ⟨W12.heap.size,0,none⟩),W12.alloc (.cells #[m] 3),by (first | (go_simp;done) | (go_simp <;> rfl)), ?_⟩)
  simp only [n1,n3,n4]
  obtain ⟨g14,U15,hg_,hu_,hS_⟩:=(S11.out.gr hg13).made [m] 3
  rw [← hu_,← hg_]
  have S16 : Hid (St w noB [blk g14 3 [m],blk g9 23 [x, y, z],blk g4 28 [B.a, B.b, B.c, B.d, B.e, B.f, .slice A n c]] U15):=Lib.hid hS_
  clear S11
  clear hg_ hu_ hS_ hg13
  refine wpG_val (some 6) rfl (by rfl) (fun W17 hg18=>⟨.pointer (some ⟨W17.heap.size,0,none⟩),W17.alloc (.cells #[(), (), (), (), (), (), .slice none 0 0] 28),by (first | (go_simp;done) | (go_simp <;> rfl)), ?_⟩)
  simp only [n1,n3,n4]
  obtain ⟨g19,U20,hg_,hu_,hS_⟩:=(S16.out.gr hg18).made [(), (), (), (), (), (), .slice none 0 0] 28
  rw [← hu_,← hg_]
  have S21 : Hid (St w noB [blk g19 28 [(), (), (), (), (), (), .slice none 0 0],blk g14 3 [m],blk g9 23 [x, y, z],blk g4 28 [B.a, B.b, B.c, B.d, B.e, B.f, .slice A n c]] U20):=Lib.hid hS_
  clear S16
  clear hg_ hu_ hS_ hg18
  refine wpG_done (fun V22 hv23=>?_)
  have S24 : Hid (St w noB [blk g19 28 [(), (), (), (), (), (), .slice none 0 0],blk g14 3 [m],blk g9 23 [x, y, z],blk g4 28 [B.a, B.b, B.c, B.d, B.e, B.f, .slice A n c]] V22):=Lib.hid (S21.out.gr hv23)
  clear S21
  clear hv23
  refine ⟨rfl,hK _ _ ?_⟩
  clear hK
  go_upto_region 1 with fail
  refine wpG_region_k (fun K hK=>?_)
  refine @wpG_tk _ _ _ _ _ (some 7) (.agg #[B.a, B.b, B.c, B.d, B.e, B.f, .slice A n c]) _ _ rfl (.load_mid (by rfl) 28 (.tmp 3) rfl g4 0 rfl [B.a, B.b, B.c, B.d, B.e, B.f, .slice A n c] _ (fun W hg=>(S24.out.gr hg).range 3 rfl 0 7 rfl) Tryd.underlying28 rfl (by kernel_rfl)) ?_
  simp only [n1,n3,n4]
  refine @wpG_p _ _ _ _ _ (some 8) (.func (.func 58) #[] #[.pointer (some ⟨g9,0,none⟩), .pointer (some ⟨g14,0,none⟩)]) _ _ rfl (by rfl) (fun W=>by go_simp) ?_
  simp only [n1,n3,n4]
  refine wpG_call (some 9) 57 #[.agg #[B.a, B.b, B.c, B.d, B.e, B.f, .slice A n c], .func (.func 58) #[] #[.pointer (some ⟨g9,0,none⟩), .pointer (some ⟨g14,0,none⟩)]] rfl (by rfl) (fun W=>by go_simp) (fun W28 hg29=>?_)
  refine (changed_set B _ _ _ l x y z m g9 g14 W28 (HGA.out.gr (S24.out.gr hg29).bel) HOK.out ((S24.out.gr hg29).row 2 rfl) ((S24.out.gr hg29).row 1 rfl) hp).mono ?_
  rintro e w30 ⟨A25,n26,c27,rfl,hS_⟩
  refine ⟨_,rfl, ?_⟩
  have hT_:=(S24.out.gr hg29).got hS_
  simp only [n1,n3,n4]
  have S31 : Hid (St w noB [own (.slice A25 n26 c27) 3 1 n26 (ic (Gm.wr1 B l ⟨x,y,z,0,m⟩)),blk g19 28 [(), (), (), (), (), (), .slice none 0 0],blk g14 3 [m],blk g9 23 [x, y, z],blk g4 28 [B.a, B.b, B.c, B.d, B.e, B.f, .slice A n c]] w30):=Lib.hid hT_
  clear S24
  clear hT_ hS_ hg29
  refine wpG_store (none) rfl (by rfl) (fun W32 hg33=>⟨_,run_store_mid 28 (.tmp 6) (.tmp 9) rfl g19 0 #[B.a, B.b, B.c, B.d, B.e, B.f, .slice A25 n26 c27] rfl rfl ((S31.out.gr hg33).room 1 rfl 0 7 (by simp)) (by kernel_rfl) (by kernel_rfl), ?_⟩)
  simp only [n2]
  obtain ⟨U34,hu_,hS_⟩:=((S31.out.gr hg33).put 1 rfl 0 (#[B.a, B.b, B.c, B.d, B.e, B.f, .slice A25 n26 c27] : Array Value).toList (ds:=[B.a, B.b, B.c, B.d, B.e, B.f, .slice A25 n26 c27]) rfl).named
  rw [← hu_]
  have S35 : Hid (St w noB [own (.slice A25 n26 c27) 3 1 n26 (ic (Gm.wr1 B l ⟨x,y,z,0,m⟩)),blk g19 28 [B.a, B.b, B.c, B.d, B.e, B.f, .slice A25 n26 c27],blk g14 3 [m],blk g9 23 [x, y, z],blk g4 28 [B.a, B.b, B.c, B.d, B.e, B.f, .slice A n c]] U34):=Lib.hid hS_
  clear S31
  clear hu_ hS_ hg33
  refine wpG_done (fun V36 hv37=>?_)
  have S38 : Hid (St w noB [own (.slice A25 n26 c27) 3 1 n26 (ic (Gm.wr1 B l ⟨x,y,z,0,m⟩)),blk g19 28 [B.a, B.b, B.c, B.d, B.e, B.f, .slice A25 n26 c27],blk g14 3 [m],blk g9 23 [x, y, z],blk g4 28 [B.a, B.b, B.c, B.d, B.e, B.f, .slice A n c]] V36):=Lib.hid (S35.out.gr hv37)
  clear S35
  clear hv37
  refine ⟨rfl,hK _ _ ?_⟩
  clear hK
  go_wp2_with fail
  (try simp only [Exit.inBlock,Exit.then])
  refine bodyPost_ret (results_cell_mid rfl _ _ _ g19 0 [B.a, B.b, B.c, B.d, B.e, B.f, .slice A25 n26 c27] _ rfl (S38.out.range 1 rfl 0 7 rfl) Tryd.underlying28 rfl (by kernel_rfl)) rfl ?_
  exact ⟨A25,n26,c27,rfl,S38.out.sub (.cons_cons _ (.cons _ (.cons _ (.cons _ (.cons _ .slnil)))))⟩
end Go.Proofs.YtpapbbolefnkmaaDoor
