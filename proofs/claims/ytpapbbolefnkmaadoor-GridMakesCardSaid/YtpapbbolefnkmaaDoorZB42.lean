/-
  Package grid: the setter of a cell, and the changes of one cell and of a list.
-/
import Derived.Test.YtpapbbolefnkmaaDoorZB00
import Derived.Test.YtpapbbolefnkmaaDoorZB37
import Derived.Test.YtpapbbolefnkmaaDoorZB40
import Derived.Test.YtpapbbolefnkmaaDoorZB41
import Derived.Handy
namespace Go.Proofs.YtpapbbolefnkmaaDoor
open Go Go.RowKit
set_option linter.unusedVariables false
set_option linter.unusedSimpArgs false
theorem Gm.wr1_yes {B : Gm.Bx} {l : List Int} {x y z m : Int} {q : Nat} (h : Gm.ixr B x y z = (q : Int)) : Gm.wr1 B l ⟨x,y,z,0,m⟩ = l.set q m:=by
  obtain ⟨h1,h2,_,_⟩:=Gm.ixr_pos (B:=B) (x:=x) (y:=y) (z:=z) (by omega)
  have e : B.ix x y z = (q : Int):=h2.symm.trans h
  show (if B.inb x y z then l.set (B.ix x y z).toNat m else l) = _
  rw [h1,if_pos rfl,e];rfl
theorem Gm.wr1_no {B : Gm.Bx} {l : List Int} {x y z m : Int} (h : Gm.ixr B x y z < 0) : Gm.wr1 B l ⟨x,y,z,0,m⟩ = l:=by
  show (if B.inb x y z then l.set (B.ix x y z).toNat m else l) = _
  cases hi : B.inb x y z
  · rfl
  · unfold Gm.ixr at h;rw [hi,if_pos rfl] at h
    have:=Gm.ix_bd hi;omega
set_option maxRecDepth 1000000 in
set_option maxHeartbeats 4000000 in
theorem places_any (B : Gm.Bx) (w : World) :
    Calls Tryd.prog 60 #[.agg #[B.a, B.b, B.c, B.d, B.e, B.f]] w fun e w'=>∃ bb,e = .returned (.func (.func 87) #[] #[.pointer (some ⟨bb,0,none⟩)]) ∧ St w noB [blk bb 25 [B.a, B.b, B.c, B.d, B.e, B.f]] w':=by
  have S1 : Hid (St w noB [] w):=Lib.hid (St.start w)
  go_enter Tryd.func60,Tryd.ntmps60
  go_upto_region 0 with fail
  refine wpG_region_k (fun K hK=>?_)
  refine wpG_val (some 1) rfl (by rfl) (fun W2 hg3=>⟨.pointer (some ⟨W2.heap.size,0,none⟩),W2.alloc (.cells #[B.a, B.b, B.c, B.d, B.e, B.f] 25),by (first | (go_simp;done) | (go_simp <;> rfl)), ?_⟩)
  simp only [n1,n3,n4]
  obtain ⟨g4,U5,hg_,hu_,hS_⟩:=(S1.out.gr hg3).made [B.a, B.b, B.c, B.d, B.e, B.f] 25
  rw [← hu_,← hg_]
  have S6 : Hid (St w noB [blk g4 25 [B.a, B.b, B.c, B.d, B.e, B.f]] U5):=Lib.hid hS_
  clear S1
  clear hg_ hu_ hS_ hg3
  refine @wpG_p _ _ _ _ _ (some 2) (.nilFunc) _ _ rfl (by rfl) (fun _=>rfl) ?_
  simp only [n1,n3,n4]
  refine wpG_done (fun V7 hv8=>?_)
  have S9 : Hid (St w noB [blk g4 25 [B.a, B.b, B.c, B.d, B.e, B.f]] V7):=Lib.hid (S6.out.gr hv8)
  clear S6
  clear hv8
  refine ⟨rfl,hK _ _ ?_⟩
  clear hK
  go_upto_region 1 with fail
  refine wpG_region_k (fun K hK=>?_)
  refine @wpG_p _ _ _ _ _ (some 3) (.func (.func 87) #[] #[.pointer (some ⟨g4,0,none⟩)]) _ _ rfl (by rfl) (fun W=>by go_simp) ?_
  simp only [n1,n3,n4]
  refine @wpG_p _ _ _ _ _ (some 2) (.func (.func 87) #[] #[.pointer (some ⟨g4,0,none⟩)]) _ _ rfl (by rfl) (fun _=>rfl) ?_
  simp only [n1,n3,n4]
  refine wpG_done (fun V10 hv11=>?_)
  have S12 : Hid (St w noB [blk g4 25 [B.a, B.b, B.c, B.d, B.e, B.f]] V10):=Lib.hid (S9.out.gr hv11)
  clear S9
  clear hv11
  refine ⟨rfl,hK _ _ ?_⟩
  clear hK
  go_wp2_with fail
  go_ret
  exact ⟨g4,rfl,S12.out.sub (.cons_cons _ .slnil)⟩
set_option maxRecDepth 1000000 in
set_option maxHeartbeats 4000000 in
theorem visit_any (B : Gm.Bx) (A : Option Addr) (n c : Nat) (w : World) :
    Calls Tryd.prog 66 #[.agg #[B.a, B.b, B.c, B.d, B.e, B.f, .slice A n c]] w fun e w'=>∃ gb,e = .returned (.func (.func 92) #[] #[.pointer (some ⟨gb,0,none⟩)]) ∧ St w noB [blk gb 28 [B.a, B.b, B.c, B.d, B.e, B.f, .slice A n c]] w':=by
  have S1 : Hid (St w noB [] w):=Lib.hid (St.start w)
  go_enter Tryd.func66,Tryd.ntmps66
  go_upto_region 0 with fail
  refine wpG_region_k (fun K hK=>?_)
  refine wpG_val (some 1) rfl (by rfl) (fun W2 hg3=>⟨.pointer (some ⟨W2.heap.size,0,none⟩),W2.alloc (.cells #[B.a, B.b, B.c, B.d, B.e, B.f, .slice A n c] 28),by (first | (go_simp;done) | (go_simp <;> rfl)), ?_⟩)
  simp only [n1,n3,n4]
  obtain ⟨g4,U5,hg_,hu_,hS_⟩:=(S1.out.gr hg3).made [B.a, B.b, B.c, B.d, B.e, B.f, .slice A n c] 28
  rw [← hu_,← hg_]
  have S6 : Hid (St w noB [blk g4 28 [B.a, B.b, B.c, B.d, B.e, B.f, .slice A n c]] U5):=Lib.hid hS_
  clear S1
  clear hg_ hu_ hS_ hg3
  refine @wpG_p _ _ _ _ _ (some 2) (.nilFunc) _ _ rfl (by rfl) (fun _=>rfl) ?_
  simp only [n1,n3,n4]
  refine wpG_done (fun V7 hv8=>?_)
  have S9 : Hid (St w noB [blk g4 28 [B.a, B.b, B.c, B.d, B.e, B.f, .slice A n c]] V7):=Lib.hid (S6.out.gr hv8)
  clear S6
  clear hv8
  refine ⟨rfl,hK _ _ ?_⟩
  clear hK
  go_upto_region 1 with fail
  refine wpG_region_k (fun K hK=>?_)
  refine @wpG_p _ _ _ _ _ (some 3) (.func (.func 92) #[] #[.pointer (some ⟨g4,0,none⟩)]) _ _ rfl (by rfl) (fun W=>by go_simp) ?_
  simp only [n1,n3,n4]
  refine @wpG_p _ _ _ _ _ (some 2) (.func (.func 92) #[] #[.pointer (some ⟨g4,0,none⟩)]) _ _ rfl (by rfl) (fun _=>rfl) ?_
  simp only [n1,n3,n4]
  refine wpG_done (fun V10 hv11=>?_)
  have S12 : Hid (St w noB [blk g4 28 [B.a, B.b, B.c, B.d, B.e, B.f, .slice A n c]] V10):=Lib.hid (S9.out.gr hv11)
  clear S9
  clear hv11
  refine ⟨rfl,hK _ _ ?_⟩
  clear hK
  go_wp2_with fail
  go_ret
  exact ⟨g4,rfl,S12.out.sub (.cons_cons _ .slnil)⟩
set_option maxRecDepth 1000000 in
set_option maxHeartbeats 4000000 in
theorem changed1_any (B : Gm.Bx) (A : Option Addr) (n c hb : Nat) (l : List Int) (x y z m : Int) (F : Nat → Prop) (w : World) (hS : Sts [blk hb 28 [B.a, B.b, B.c, B.d, B.e, B.f, .slice A n c],own (.slice A n c) 3 1 n (ic l)] w F) (hok : Gm.ok B l) (hp : Gm.rp3 x y z) :
    Calls Tryd.prog 86 #[.agg #[x, y, z], m, .pointer (some ⟨hb,0,none⟩)] w fun e w'=>(∃ v,e = .returned v ∧ St w F [blk hb 28 [B.a, B.b, B.c, B.d, B.e, B.f, .slice A n c],own (.slice A n c) 3 1 n (ic (Gm.wr1 B l ⟨x,y,z,0,m⟩))] w'):=by
  have HOK:=Lib.hid hok
  clear hok
  have HLEN : Hid (l.length = n):=Lib.hid (by have h_:=own_icl ((St.borrow hS).ownr 1 rfl);omega)
  have S1 : Hid (St w F [blk hb 28 [B.a, B.b, B.c, B.d, B.e, B.f, .slice A n c],own (.slice A n c) 3 1 n (ic l)] w):=Lib.hid (St.borrow hS)
  go_enter Tryd.func86,Tryd.ntmps86
  go_upto_region 0 with fail
  refine wpG_region_k (fun K hK=>?_)
  refine wpG_val (some 3) rfl (by rfl) (fun W2 hg3=>⟨.pointer (some ⟨W2.heap.size,0,none⟩),W2.alloc (.cells #[x, y, z] 23),by (first | (go_simp;done) | (go_simp <;> rfl)), ?_⟩)
  simp only [n1,n3,n4]
  obtain ⟨g4,U5,hg_,hu_,hS_⟩:=(S1.out.gr hg3).made [x, y, z] 23
  rw [← hu_,← hg_]
  have S6 : Hid (St w F [blk g4 23 [x, y, z],blk hb 28 [B.a, B.b, B.c, B.d, B.e, B.f, .slice A n c],own (.slice A n c) 3 1 n (ic l)] U5):=Lib.hid hS_
  clear S1
  clear hg_ hu_ hS_ hg3
  refine wpG_done (fun V7 hv8=>?_)
  have S9 : Hid (St w F [blk g4 23 [x, y, z],blk hb 28 [B.a, B.b, B.c, B.d, B.e, B.f, .slice A n c],own (.slice A n c) 3 1 n (ic l)] V7):=Lib.hid (S6.out.gr hv8)
  clear S6
  clear hv8
  refine ⟨rfl,hK _ _ ?_⟩
  clear hK
  go_upto_region 1 with fail
  refine wpG_region_k (fun K hK=>?_)
  refine @wpG_tk _ _ _ _ _ (some 8) (.agg #[B.a, B.b, B.c, B.d, B.e, B.f, .slice A n c]) _ _ rfl (.load_mid (by rfl) 28 (.tmp 2) rfl hb 0 rfl [B.a, B.b, B.c, B.d, B.e, B.f, .slice A n c] _ (fun W hg=>(S9.out.gr hg).range 1 rfl 0 7 rfl) Tryd.underlying28 rfl (by kernel_rfl)) ?_
  simp only [n1,n3,n4]
  refine @wpG_tk _ _ _ _ _ (some 9) (.agg #[x, y, z]) _ _ rfl (.load_mid (by rfl) 23 (.tmp 3) rfl g4 0 rfl [x, y, z] _ (fun W hg=>(S9.out.gr hg).range 0 rfl 0 3 rfl) Tryd.underlying23 rfl (by kernel_rfl)) ?_
  simp only [n1,n3,n4]
  refine @wpG_tk _ _ _ _ _ (some 10) (.tuple #[(Gm.ixr B x y z), .bool (decide (0 ≤ Gm.ixr B x y z))]) _ _ rfl (.call (f:=56) (args:=#[.agg #[B.a, B.b, B.c, B.d, B.e, B.f, .slice A n c], .agg #[x, y, z]]) (by rfl) (fun W=>by go_simp) (fun W hg=>index_any B _ _ _ l x y z W (SL.ofOwn ((S9.out.gr hg).ownr 2 rfl)) HOK.out hp)) ?_
  simp only [n1,n3,n4]
  refine @wpG_p _ _ _ _ _ (some 7) (.tuple #[(Gm.ixr B x y z), .bool (decide (0 ≤ Gm.ixr B x y z))]) _ _ rfl (by rfl) (fun _=>rfl) ?_
  simp only [n1,n3,n4]
  refine @wpG_p _ _ _ _ _ (some 11) (Gm.ixr B x y z) _ _ rfl (by rfl) (fun W=>by go_simp) ?_
  simp only [n1,n3,n4]
  refine @wpG_p _ _ _ _ _ (some 12) (.bool (decide (0 ≤ Gm.ixr B x y z))) _ _ rfl (by rfl) (fun W=>by go_simp) ?_
  simp only [n1,n3,n4]
  refine @wpG_p _ _ _ _ _ (some 5) (Gm.ixr B x y z) _ _ rfl (by rfl) (fun _=>rfl) ?_
  simp only [n1,n3,n4]
  refine @wpG_p _ _ _ _ _ (some 6) (.bool (decide (0 ≤ Gm.ixr B x y z))) _ _ rfl (by rfl) (fun _=>rfl) ?_
  simp only [n1,n3,n4]
  refine wpG_done (fun V10 hv11=>?_)
  have S12 : Hid (St w F [blk g4 23 [x, y, z],blk hb 28 [B.a, B.b, B.c, B.d, B.e, B.f, .slice A n c],own (.slice A n c) 3 1 n (ic l)] V10):=Lib.hid (S9.out.gr hv11)
  clear S9
  clear hv11
  refine ⟨rfl,hK _ _ ?_⟩
  clear hK
  go_upto_region 2 with fail
  refine wpG_region_k (fun K hK=>?_)
  refine @wpG_p _ _ _ _ _ (some 13) (.bool (decide (0 ≤ Gm.ixr B x y z))) _ _ rfl (by rfl) (fun _=>rfl) ?_
  simp only [n1,n3,n4]
  refine wpG_done (fun V13 hv14=>?_)
  have S15 : Hid (St w F [blk g4 23 [x, y, z],blk hb 28 [B.a, B.b, B.c, B.d, B.e, B.f, .slice A n c],own (.slice A n c) 3 1 n (ic l)] V13):=Lib.hid (S12.out.gr hv14)
  clear S12
  clear hv14
  refine ⟨rfl,hK _ _ ?_⟩
  clear hK
  obtain ⟨c16,hc16⟩ : ∃ q_,q_ = (decide (0 ≤ Gm.ixr B x y z)):=⟨_,rfl⟩
  rw [← hc16]
  have Hc16:=Lib.hid hc16
  clear hc16
  cases c16 with
  | true =>
    have f17:=of_decide_eq_true Hc16.out.symm
    go_upto_region 3 with fail
    refine wpG_region_k (fun K hK=>?_)
    refine @wpG_p _ _ _ _ _ (some 14) (.pointer (some ⟨hb,6,none⟩)) _ _ rfl (by rfl) (fun W=>by go_simp) ?_
    simp only [n1,n3,n4]
    refine @wpG_r _ _ _ _ _ (some 15) (.slice A n c) _ _ rfl (by rfl) (fun W hg=>by have c:=(S15.out.gr hg).cell 1 rfl 6 rfl;go_simp) ?_
    simp only [n1,n3,n4]
    refine @wpG_p _ _ _ _ _ (some 16) (Gm.ixr B x y z) _ _ rfl (by rfl) (fun _=>rfl) ?_
    simp only [n1,n3,n4]
    refine @wpG_p _ _ _ _ _ (some 17) m _ _ rfl (by rfl) (fun _=>rfl) ?_
    simp only [n1,n3,n4]
    obtain ⟨q18,hq_⟩ : ∃ q_ : Nat,Gm.ixr B x y z = (q_ : Int):=⟨(Gm.ixr B x y z).toNat,by omega⟩
    rw [hq_]
    have HQq18:=Lib.hid hq_
    clear hq_
    have hqn_ : q18 < n:=by have a2:=HQq18.out;have a1:=Gm.ixr_pos (B:=B) (x:=x) (y:=y) (z:=z) (by omega);have a3:=HOK.out.vol;have a4:=HLEN.out;omega
    obtain ⟨og19,rfl⟩:=ownAdr (S15.out.ownr 2 rfl) (by (have a3:=HLEN.out;have a1:=HOK.out.vol;omega))
    have hix_ : q18 < n:=by (have a3:=HLEN.out;have a1:=HOK.out.vol;omega)
    refine @wpG_p _ _ _ _ _ (some 18) (.pointer (some ⟨og19,q18,none⟩)) _ _ rfl (by rfl) (fun W=>by (go_simp <;> first | rfl | omega | (simp;omega))) ?_
    simp only [n1,n3,n4]
    refine wpG_store (none) rfl (by rfl) (fun W20 hg21=>⟨W20.setCell ⟨og19,q18,none⟩ m,by obtain ⟨⟨_,c⟩,c2⟩:=own_cell (k:=q18) ((S15.out.gr hg21).ownr 2 rfl) (by (have a3:=HLEN.out;have a1:=HOK.out.vol;omega));go_simp, ?_⟩)
    simp only [n2]
    obtain ⟨U22,hu_,hS_⟩:=((S15.out.gr hg21).ownPutAt 2 rfl (k:=q18) (by (have a3:=HLEN.out;have a1:=HOK.out.vol;omega)) m).named
    rw [← hu_]
    have hS2_ : St w F [blk g4 23 [.int .i64 x, .int .i64 y, .int .i64 z],blk hb 28 [.int .i64 B.a, .int .i64 B.b, .int .i64 B.c, .int .i64 B.d, .int .i64 B.e, .int .i64 B.f, .slice (some ⟨og19,0,none⟩) n c],own (.slice (some ⟨og19,0,none⟩) n c) 3 1 n (ic (l.set q18 m))] U22:=by have h_:=hS_;rw [show (ic l).set q18 (.int .i64 m) = ic (l.set q18 m) from ic_set _ _ _] at h_;exact h_
    clear hS_
    have hS_:=hS2_
    clear hS2_
    have S23 : Hid (St w F [blk g4 23 [x, y, z],blk hb 28 [B.a, B.b, B.c, B.d, B.e, B.f, .slice (some ⟨og19,0,none⟩) n c],own (.slice (some ⟨og19,0,none⟩) n c) 3 1 n (ic (l.set q18 m))] U22):=Lib.hid hS_
    clear S15
    clear hu_ hS_ hg21
    refine wpG_done (fun V24 hv25=>?_)
    have S26 : Hid (St w F [blk g4 23 [x, y, z],blk hb 28 [B.a, B.b, B.c, B.d, B.e, B.f, .slice (some ⟨og19,0,none⟩) n c],own (.slice (some ⟨og19,0,none⟩) n c) 3 1 n (ic (l.set q18 m))] V24):=Lib.hid (S23.out.gr hv25)
    clear S23
    clear hv25
    refine ⟨rfl,hK _ _ ?_⟩
    clear hK
    go_wp2_with fail
    go_end0
    (first | refine ⟨_,rfl, ?_⟩ | refine ⟨⟨_,rfl⟩, ?_⟩ | skip)
    rw [Gm.wr1_yes HQq18.out];exact S26.out.sub (.cons _ (.cons_cons _ (.cons_cons _ .slnil)))
  | false =>
    have f27:=of_decide_eq_false Hc16.out.symm
    go_wp2_with fail
    go_end0
    (first | refine ⟨_,rfl, ?_⟩ | refine ⟨⟨_,rfl⟩, ?_⟩ | skip)
    rw [Gm.wr1_no (by omega)];exact S15.out.sub (.cons _ (.cons_cons _ (.cons_cons _ .slnil)))
set_option maxRecDepth 1000000 in
set_option maxHeartbeats 4000000 in
theorem set1_any (B : Gm.Bx) (A : Option Addr) (n c hb pb cb : Nat) (l : List Int) (x y z m : Int) (F : Nat → Prop) (w00 : World) (w : World) (hW0 : Gr w00 w) (hF : ∀ k,F k → w00.heap.size ≤ k) (r1 : Row pb [x, y, z] w00) (r2 : Row cb [m] w00) (hS : Sts [blk hb 28 [B.a, B.b, B.c, B.d, B.e, B.f, .slice A n c],own (.slice A n c) 3 1 n (ic l)] w F) (hok : Gm.ok B l) (hp : Gm.rp3 x y z) :
    Calls Tryd.prog 58 #[.func (.func 86) #[] #[.pointer (some ⟨hb,0,none⟩)], .pointer (some ⟨pb,0,none⟩), .pointer (some ⟨cb,0,none⟩)] w fun e w'=>(∃ v,e = .returned v ∧ St w F [blk hb 28 [B.a, B.b, B.c, B.d, B.e, B.f, .slice A n c],own (.slice A n c) 3 1 n (ic (Gm.wr1 B l ⟨x,y,z,0,m⟩))] w'):=by
  have HOK:=Lib.hid hok
  clear hok
  have HLEN : Hid (l.length = n):=Lib.hid (by have h_:=own_icl ((St.borrow hS).ownr 1 rfl);omega)
  have HW00:=Lib.hid hW0
  have HF00:=Lib.hid hF
  clear hW0 hF
  have HP1:=Lib.hid r1
  have HP2:=Lib.hid r2
  clear r1 r2
  have S1 : Hid (St w F [blk hb 28 [B.a, B.b, B.c, B.d, B.e, B.f, .slice A n c],own (.slice A n c) 3 1 n (ic l)] w):=Lib.hid (St.borrow hS)
  go_enter Tryd.func58,Tryd.ntmps58
  go_upto_region 0 with fail
  refine wpG_region_k (fun K hK=>?_)
  refine @wpG_p _ _ _ _ _ (some 4) (.func (.func 86) #[] #[.pointer (some ⟨hb,0,none⟩)]) _ _ rfl (by rfl) (fun _=>rfl) ?_
  simp only [n1,n3,n4]
  refine @wpG_tk _ _ _ _ _ (some 5) (.agg #[x, y, z]) _ _ rfl (.load_mid (by rfl) 23 (.tmp 1) rfl pb 0 rfl [x, y, z] _ (fun W hg=>(HP1.out.below ((S1.out.gr hg).belo HW00.out HF00.out)).range) Tryd.underlying23 rfl (by kernel_rfl)) ?_
  simp only [n1,n3,n4]
  refine @wpG_r _ _ _ _ _ (some 6) m _ _ rfl (by rfl) (fun W hg=>by have c:=((HP2.out.below ((S1.out.gr hg).belo HW00.out HF00.out)).range) 0 _ rfl;(try simp only [Nat.add_zero,Nat.zero_add] at c);go_simp) ?_
  simp only [n1,n3,n4]
  refine wpG_call (some 7) 86 #[.agg #[x, y, z], m, .pointer (some ⟨hb,0,none⟩)] rfl (by rfl) (fun W=>by go_simp) (fun W3 hg4=>?_)
  obtain ⟨fp_,hA_,hfp_,back_⟩:=St.lend (L:=[blk hb 28 [B.a, B.b, B.c, B.d, B.e, B.f, .slice A n c],own (.slice A n c) 3 1 n (ic l)]) (M:=[]) (((S1.out.gr hg4).front 1 rfl).front 1 rfl)
  refine (changed1_any B _ _ _ hb l x y z m _ W3 hA_ HOK.out hp).mono ?_
  rintro e w5 ⟨v2,rfl,hS_⟩
  refine ⟨_,rfl, ?_⟩
  have hT_:=back_ hS_
  simp only [n1,n3,n4]
  have S6 : Hid (St w F [blk hb 28 [B.a, B.b, B.c, B.d, B.e, B.f, .slice A n c],own (.slice A n c) 3 1 n (ic (Gm.wr1 B l ⟨x,y,z,0,m⟩))] w5):=Lib.hid hT_
  clear S1
  clear hT_ hS_ hg4 hA_ hfp_ back_
  refine wpG_done (fun V7 hv8=>?_)
  have S9 : Hid (St w F [blk hb 28 [B.a, B.b, B.c, B.d, B.e, B.f, .slice A n c],own (.slice A n c) 3 1 n (ic (Gm.wr1 B l ⟨x,y,z,0,m⟩))] V7):=Lib.hid (S6.out.gr hv8)
  clear S6
  clear hv8
  refine ⟨rfl,hK _ _ ?_⟩
  clear hK
  go_wp2_with fail
  go_end0
  (first | refine ⟨_,rfl, ?_⟩ | refine ⟨⟨_,rfl⟩, ?_⟩ | skip)
  exact S9.out.sub (.cons_cons _ (.cons_cons _ .slnil))
set_option maxRecDepth 1000000 in
set_option maxHeartbeats 4000000 in
theorem changed_set (B : Gm.Bx) (A : Option Addr) (n c : Nat) (l : List Int) (x y z m : Int) (pb cb : Nat) (w : World) (hG : SL w 1 A n c (ic l)) (hok : Gm.ok B l) (r1 : Row pb [x, y, z] w) (r2 : Row cb [m] w) (hp : Gm.rp3 x y z) :
    Calls Tryd.prog 57 #[.agg #[B.a, B.b, B.c, B.d, B.e, B.f, .slice A n c], .func (.func 58) #[] #[.pointer (some ⟨pb,0,none⟩), .pointer (some ⟨cb,0,none⟩)]] w fun e w'=>∃ A n c,e = .returned (.agg #[B.a, B.b, B.c, B.d, B.e, B.f, .slice A n c]) ∧ St w noB [own (.slice A n c) 3 1 n (ic (Gm.wr1 B l ⟨x,y,z,0,m⟩))] w':=by
  have HGA:=Lib.hid hG
  have HLEN : Hid (l.length = n):=Lib.hid (by have h_:=hG.len;rw [ic_len] at h_;omega)
  have hnbHGA : n ≤ 9223372036854775807:=Nat.le_trans hG.cap hG.bnd
  clear hG
  have HOK:=Lib.hid hok
  clear hok
  have S1 : Hid (St w noB [] w):=Lib.hid (St.start w)
  go_enter Tryd.func57,Tryd.ntmps57
  go_upto_region 0 with fail
  refine wpG_region_k (fun K hK=>?_)
  refine wpG_val (some 2) rfl (by rfl) (fun W2 hg3=>⟨.pointer (some ⟨W2.heap.size,0,none⟩),W2.alloc (.cells #[B.a, B.b, B.c, B.d, B.e, B.f, .slice A n c] 28),by (first | (go_simp;done) | (go_simp <;> rfl)), ?_⟩)
  simp only [n1,n3,n4]
  obtain ⟨g4,U5,hg_,hu_,hS_⟩:=(S1.out.gr hg3).made [B.a, B.b, B.c, B.d, B.e, B.f, .slice A n c] 28
  rw [← hu_,← hg_]
  have S6 : Hid (St w noB [blk g4 28 [B.a, B.b, B.c, B.d, B.e, B.f, .slice A n c]] U5):=Lib.hid hS_
  clear S1
  clear hg_ hu_ hS_ hg3
  refine wpG_val (some 4) rfl (by rfl) (fun W7 hg8=>⟨.pointer (some ⟨W7.heap.size,0,none⟩),W7.alloc (.cells #[(), (), (), (), (), (), .slice none 0 0] 28),by (first | (go_simp;done) | (go_simp <;> rfl)), ?_⟩)
  simp only [n1,n3,n4]
  obtain ⟨g9,U10,hg_,hu_,hS_⟩:=(S6.out.gr hg8).made [(), (), (), (), (), (), .slice none 0 0] 28
  rw [← hu_,← hg_]
  have S11 : Hid (St w noB [blk g9 28 [(), (), (), (), (), (), .slice none 0 0],blk g4 28 [B.a, B.b, B.c, B.d, B.e, B.f, .slice A n c]] U10):=Lib.hid hS_
  clear S6
  clear hg_ hu_ hS_ hg8
  refine wpG_done (fun V12 hv13=>?_)
  have S14 : Hid (St w noB [blk g9 28 [(), (), (), (), (), (), .slice none 0 0],blk g4 28 [B.a, B.b, B.c, B.d, B.e, B.f, .slice A n c]] V12):=Lib.hid (S11.out.gr hv13)
  clear S11
  clear hv13
  refine ⟨rfl,hK _ _ ?_⟩
  clear hK
  go_upto_region 1 with fail
  refine wpG_region_k (fun K hK=>?_)
  refine @wpG_tk _ _ _ _ _ (some 6) (.agg #[B.a, B.b, B.c, B.d, B.e, B.f, .slice A n c]) _ _ rfl (.load_mid (by rfl) 28 (.tmp 2) rfl g4 0 rfl [B.a, B.b, B.c, B.d, B.e, B.f, .slice A n c] _ (fun W hg=>(S14.out.gr hg).range 1 rfl 0 7 rfl) Tryd.underlying28 rfl (by kernel_rfl)) ?_
  simp only [n1,n3,n4]
  refine wpG_call (some 7) 72 #[.agg #[B.a, B.b, B.c, B.d, B.e, B.f, .slice A n c]] rfl (by rfl) (fun W=>by go_simp) (fun W18 hg19=>?_)
  refine (gclone_any B _ _ _ l W18 (HGA.out.gr (S14.out.gr hg19).bel) (by (have a1:=HOK.out.vol;have a2:=HOK.out.max;have a3:=HLEN.out;omega))).mono ?_
  rintro e w20 ⟨A15,n16,c17,rfl,hS_⟩
  refine ⟨_,rfl, ?_⟩
  have hT_:=(S14.out.gr hg19).got hS_
  simp only [n1,n3,n4]
  have S21 : Hid (St w noB [own (.slice A15 n16 c17) 3 1 n16 (ic l),blk g9 28 [(), (), (), (), (), (), .slice none 0 0],blk g4 28 [B.a, B.b, B.c, B.d, B.e, B.f, .slice A n c]] w20):=Lib.hid hT_
  clear S14
  clear hT_ hS_ hg19
  have hnn16 : n16 ≤ l.length ∧ l.length ≤ n16:=by have h_:=own_icl (S21.out.ownr 0 rfl);omega
  refine wpG_val (some 5) rfl (by rfl) (fun W22 hg23=>⟨.pointer (some ⟨W22.heap.size,0,none⟩),W22.alloc (.cells #[(), (), (), (), (), (), .slice none 0 0] 28),by (first | (go_simp;done) | (go_simp <;> rfl)), ?_⟩)
  simp only [n1,n3,n4]
  obtain ⟨g24,U25,hg_,hu_,hS_⟩:=(S21.out.gr hg23).made [(), (), (), (), (), (), .slice none 0 0] 28
  rw [← hu_,← hg_]
  have S26 : Hid (St w noB [blk g24 28 [(), (), (), (), (), (), .slice none 0 0],own (.slice A15 n16 c17) 3 1 n16 (ic l),blk g9 28 [(), (), (), (), (), (), .slice none 0 0],blk g4 28 [B.a, B.b, B.c, B.d, B.e, B.f, .slice A n c]] U25):=Lib.hid hS_
  clear S21
  clear hg_ hu_ hS_ hg23
  refine wpG_store (none) rfl (by rfl) (fun W27 hg28=>⟨_,run_store_mid 28 (.tmp 5) (.tmp 7) rfl g24 0 #[B.a, B.b, B.c, B.d, B.e, B.f, .slice A15 n16 c17] rfl rfl ((S26.out.gr hg28).room 0 rfl 0 7 (by simp)) (by kernel_rfl) (by kernel_rfl), ?_⟩)
  simp only [n2]
  obtain ⟨U29,hu_,hS_⟩:=((S26.out.gr hg28).put 0 rfl 0 (#[B.a, B.b, B.c, B.d, B.e, B.f, .slice A15 n16 c17] : Array Value).toList (ds:=[B.a, B.b, B.c, B.d, B.e, B.f, .slice A15 n16 c17]) rfl).named
  rw [← hu_]
  have S30 : Hid (St w noB [blk g24 28 [B.a, B.b, B.c, B.d, B.e, B.f, .slice A15 n16 c17],own (.slice A15 n16 c17) 3 1 n16 (ic l),blk g9 28 [(), (), (), (), (), (), .slice none 0 0],blk g4 28 [B.a, B.b, B.c, B.d, B.e, B.f, .slice A n c]] U29):=Lib.hid hS_
  clear S26
  clear hu_ hS_ hg28
  refine wpG_done (fun V31 hv32=>?_)
  have S33 : Hid (St w noB [blk g24 28 [B.a, B.b, B.c, B.d, B.e, B.f, .slice A15 n16 c17],own (.slice A15 n16 c17) 3 1 n16 (ic l),blk g9 28 [(), (), (), (), (), (), .slice none 0 0],blk g4 28 [B.a, B.b, B.c, B.d, B.e, B.f, .slice A n c]] V31):=Lib.hid (S30.out.gr hv32)
  clear S30
  clear hv32
  refine ⟨rfl,hK _ _ ?_⟩
  clear hK
  go_upto_region 2 with fail
  refine wpG_region_k (fun K hK=>?_)
  refine @wpG_p _ _ _ _ _ (some 8) (.func (.func 58) #[] #[.pointer (some ⟨pb,0,none⟩), .pointer (some ⟨cb,0,none⟩)]) _ _ rfl (by rfl) (fun _=>rfl) ?_
  simp only [n1,n3,n4]
  refine @wpG_p _ _ _ _ _ (some 9) (.func (.func 86) #[] #[.pointer (some ⟨g24,0,none⟩)]) _ _ rfl (by rfl) (fun W=>by go_simp) ?_
  simp only [n1,n3,n4]
  refine wpG_call (some 10) 58 #[.func (.func 86) #[] #[.pointer (some ⟨g24,0,none⟩)], .pointer (some ⟨pb,0,none⟩), .pointer (some ⟨cb,0,none⟩)] rfl (by rfl) (fun W=>by go_simp) (fun W35 hg36=>?_)
  obtain ⟨fp_,hA_,hfp_,back_⟩:=St.lend (L:=[blk g24 28 [B.a, B.b, B.c, B.d, B.e, B.f, .slice A15 n16 c17],own (.slice A15 n16 c17) 3 1 n16 (ic l)]) (M:=[blk g9 28 [(), (), (), (), (), (), .slice none 0 0],blk g4 28 [B.a, B.b, B.c, B.d, B.e, B.f, .slice A n c]]) (((S33.out.gr hg36).front 1 rfl).front 1 rfl)
  refine (set1_any B _ _ _ g24 pb cb l x y z m _ w W35 (S33.out.gr hg36).bel (fun k hk=>(hfp_ k hk).resolve_left (fun h=>h)) r1 r2 hA_ HOK.out hp).mono ?_
  rintro e w37 ⟨v34,rfl,hS_⟩
  refine ⟨_,rfl, ?_⟩
  have hT_:=back_ hS_
  simp only [n1,n3,n4]
  have S38 : Hid (St w noB [blk g24 28 [B.a, B.b, B.c, B.d, B.e, B.f, .slice A15 n16 c17],own (.slice A15 n16 c17) 3 1 n16 (ic (Gm.wr1 B l ⟨x,y,z,0,m⟩)),blk g9 28 [(), (), (), (), (), (), .slice none 0 0],blk g4 28 [B.a, B.b, B.c, B.d, B.e, B.f, .slice A n c]] w37):=Lib.hid hT_
  clear S33
  clear hT_ hS_ hg36 hA_ hfp_ back_
  refine wpG_done (fun V39 hv40=>?_)
  have S41 : Hid (St w noB [blk g24 28 [B.a, B.b, B.c, B.d, B.e, B.f, .slice A15 n16 c17],own (.slice A15 n16 c17) 3 1 n16 (ic (Gm.wr1 B l ⟨x,y,z,0,m⟩)),blk g9 28 [(), (), (), (), (), (), .slice none 0 0],blk g4 28 [B.a, B.b, B.c, B.d, B.e, B.f, .slice A n c]] V39):=Lib.hid (S38.out.gr hv40)
  clear S38
  clear hv40
  refine ⟨rfl,hK _ _ ?_⟩
  clear hK
  go_upto_region 3 with fail
  refine wpG_region_k (fun K hK=>?_)
  refine @wpG_tk _ _ _ _ _ (some 11) (.agg #[B.a, B.b, B.c, B.d, B.e, B.f, .slice A15 n16 c17]) _ _ rfl (.load_mid (by rfl) 28 (.tmp 5) rfl g24 0 rfl [B.a, B.b, B.c, B.d, B.e, B.f, .slice A15 n16 c17] _ (fun W hg=>(S41.out.gr hg).range 0 rfl 0 7 rfl) Tryd.underlying28 rfl (by kernel_rfl)) ?_
  simp only [n1,n3,n4]
  refine wpG_store (none) rfl (by rfl) (fun W42 hg43=>⟨_,run_store_mid 28 (.tmp 4) (.tmp 11) rfl g9 0 #[B.a, B.b, B.c, B.d, B.e, B.f, .slice A15 n16 c17] rfl rfl ((S41.out.gr hg43).room 2 rfl 0 7 (by simp)) (by kernel_rfl) (by kernel_rfl), ?_⟩)
  simp only [n2]
  obtain ⟨U44,hu_,hS_⟩:=((S41.out.gr hg43).put 2 rfl 0 (#[B.a, B.b, B.c, B.d, B.e, B.f, .slice A15 n16 c17] : Array Value).toList (ds:=[B.a, B.b, B.c, B.d, B.e, B.f, .slice A15 n16 c17]) rfl).named
  rw [← hu_]
  have S45 : Hid (St w noB [blk g24 28 [B.a, B.b, B.c, B.d, B.e, B.f, .slice A15 n16 c17],own (.slice A15 n16 c17) 3 1 n16 (ic (Gm.wr1 B l ⟨x,y,z,0,m⟩)),blk g9 28 [B.a, B.b, B.c, B.d, B.e, B.f, .slice A15 n16 c17],blk g4 28 [B.a, B.b, B.c, B.d, B.e, B.f, .slice A n c]] U44):=Lib.hid hS_
  clear S41
  clear hu_ hS_ hg43
  refine wpG_done (fun V46 hv47=>?_)
  have S48 : Hid (St w noB [blk g24 28 [B.a, B.b, B.c, B.d, B.e, B.f, .slice A15 n16 c17],own (.slice A15 n16 c17) 3 1 n16 (ic (Gm.wr1 B l ⟨x,y,z,0,m⟩)),blk g9 28 [B.a, B.b, B.c, B.d, B.e, B.f, .slice A15 n16 c17],blk g4 28 [B.a, B.b, B.c, B.d, B.e, B.f, .slice A n c]] V46):=Lib.hid (S45.out.gr hv47)
  clear S45
  clear hv47
  refine ⟨rfl,hK _ _ ?_⟩
  clear hK
  go_wp2_with fail
  (try simp only [Exit.inBlock,Exit.then])
  refine bodyPost_ret (results_cell_mid rfl _ _ _ g9 0 [B.a, B.b, B.c, B.d, B.e, B.f, .slice A15 n16 c17] _ rfl (S48.out.range 2 rfl 0 7 rfl) Tryd.underlying28 rfl (by kernel_rfl)) rfl ?_
  exact ⟨A15,n16,c17,rfl,S48.out.sub (.cons _ (.cons_cons _ (.cons _ (.cons _ .slnil))))⟩

end Go.Proofs.YtpapbbolefnkmaaDoor
