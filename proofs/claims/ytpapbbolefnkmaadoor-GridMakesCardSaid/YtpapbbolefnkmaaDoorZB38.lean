/-
  Contracts of package grid: copies, repeated cells, new grids.
-/
import Derived.Test.YtpapbbolefnkmaaDoorZB00
import Derived.Test.YtpapbbolefnkmaaDoorZB36
import Derived.Test.YtpapbbolefnkmaaDoorZB23
import Derived.Test.YtpapbbolefnkmaaDoorShf
import Derived.Laws.Cover3
import Derived.Handy
namespace Go.Proofs.YtpapbbolefnkmaaDoor
open Go Go.RowKit
set_option linter.unusedVariables false
set_option linter.unusedSimpArgs false
set_option maxRecDepth 1000000 in
set_option maxHeartbeats 4000000 in
theorem clone_nil (n c : Nat) (l : List Int) (w : World) (hG : SL w 1 none n c (ic l)) :
    Calls Tryd.prog 99 #[.slice none n c] w fun e w'=>∃ A n c,e = .returned (.slice A n c) ∧ St w noB [own (.slice A n c) 3 1 n (ic l)] w':=by
  have HGA:=Lib.hid hG
  have HLEN : Hid (l.length = n):=Lib.hid (by have h_:=hG.len;rw [ic_len] at h_;omega)
  have hnbHGA : n ≤ 9223372036854775807:=Nat.le_trans hG.cap hG.bnd
  clear hG
  have HL0 : Hid (l = []):=Lib.hid (List.eq_nil_of_length_eq_zero (by have a1:=HLEN.out;have a2:=HGA.out.none0 rfl;omega))
  have S1 : Hid (St w noB [] w):=Lib.hid (St.start w)
  go_enter Tryd.func99,Tryd.ntmps99
  go_upto_region 0 with fail
  refine wpG_region_k (fun K hK=>?_)
  refine @wpG_p _ _ _ _ _ (some 2) (.slice none 0 0) _ _ rfl (by rfl) (fun _=>rfl) ?_
  simp only [n1,n3,n4]
  refine wpG_done (fun V2 hv3=>?_)
  have S4 : Hid (St w noB [] V2):=Lib.hid (S1.out.gr hv3)
  clear S1
  clear hv3
  refine ⟨rfl,hK _ _ ?_⟩
  clear hK
  go_upto_region 1 with fail
  refine wpG_region_k (fun K hK=>?_)
  refine @wpG_p _ _ _ _ _ (some 3) (.slice none n c) _ _ rfl (by rfl) (fun _=>rfl) ?_
  simp only [n1,n3,n4]
  refine @wpG_p _ _ _ _ _ (some 4) (.bool true) _ _ rfl (by rfl) (fun W=>by (have e1_:=run_equal_slice_nil (P:=Tryd.prog) W 26 3 none n c Tryd.underlying26;have e_ : (binOp .eql 26 (.slice none n c) (.slice none 0 0)).run Tryd.prog W = .ok (.bool true) W:=(by simp [binOp,e1_]);go_simp)) ?_
  simp only [n1,n3,n4]
  refine wpG_done (fun V5 hv6=>?_)
  have S7 : Hid (St w noB [] V5):=Lib.hid (S4.out.gr hv6)
  clear S4
  clear hv6
  refine ⟨rfl,hK _ _ ?_⟩
  clear hK
  go_upto_region 2 with fail
  refine wpG_region_k (fun K hK=>?_)
  refine @wpG_p _ _ _ _ _ (some 2) (.slice none 0 0) _ _ rfl (by rfl) (fun _=>rfl) ?_
  simp only [n1,n3,n4]
  refine wpG_done (fun V8 hv9=>?_)
  have S10 : Hid (St w noB [] V8):=Lib.hid (S7.out.gr hv9)
  clear S7
  clear hv9
  refine ⟨rfl,hK _ _ ?_⟩
  clear hK
  go_wp2_with fail
  go_ret
  exact ⟨none,0,0,rfl,by rw [HL0.out];exact S10.out.dropAll.nilOwn _ _⟩
set_option maxRecDepth 1000000 in
set_option maxHeartbeats 4000000 in
theorem clone_some (a : Addr) (n c : Nat) (l : List Int) (w : World) (hG : SL w 1 (some a) n c (ic l)) (hb : n ≤ 2097152) :
    Calls Tryd.prog 99 #[.slice (some a) n c] w fun e w'=>∃ A n c,e = .returned (.slice A n c) ∧ St w noB [own (.slice A n c) 3 1 n (ic l)] w':=by
  have HGA:=Lib.hid hG
  have HLEN : Hid (l.length = n):=Lib.hid (by have h_:=hG.len;rw [ic_len] at h_;omega)
  have hnbHGA : n ≤ 9223372036854775807:=Nat.le_trans hG.cap hG.bnd
  clear hG
  have HNB:=Lib.hid hb
  have S1 : Hid (St w noB [] w):=Lib.hid (St.start w)
  go_enter Tryd.func99,Tryd.ntmps99
  go_upto_region 0 with fail
  refine wpG_region_k (fun K hK=>?_)
  refine @wpG_p _ _ _ _ _ (some 2) (.slice none 0 0) _ _ rfl (by rfl) (fun _=>rfl) ?_
  simp only [n1,n3,n4]
  refine wpG_done (fun V2 hv3=>?_)
  have S4 : Hid (St w noB [] V2):=Lib.hid (S1.out.gr hv3)
  clear S1
  clear hv3
  refine ⟨rfl,hK _ _ ?_⟩
  clear hK
  go_upto_region 1 with fail
  refine wpG_region_k (fun K hK=>?_)
  refine @wpG_p _ _ _ _ _ (some 3) (.slice (some a) n c) _ _ rfl (by rfl) (fun _=>rfl) ?_
  simp only [n1,n3,n4]
  refine @wpG_p _ _ _ _ _ (some 4) (.bool false) _ _ rfl (by rfl) (fun W=>by (have e1_:=run_equal_slice_nil (P:=Tryd.prog) W 26 3 (some a) n c Tryd.underlying26;have e_ : (binOp .eql 26 (.slice (some a) n c) (.slice none 0 0)).run Tryd.prog W = .ok (.bool false) W:=(by simp [binOp,e1_]);go_simp)) ?_
  simp only [n1,n3,n4]
  refine wpG_done (fun V5 hv6=>?_)
  have S7 : Hid (St w noB [] V5):=Lib.hid (S4.out.gr hv6)
  clear S4
  clear hv6
  refine ⟨rfl,hK _ _ ?_⟩
  clear hK
  go_upto_region 3 with fail
  refine wpG_region_k (fun K hK=>?_)
  refine wpG_val (some 5) rfl (by rfl) (fun W8 hg9=>⟨.slice (some ⟨W8.heap.size,0,none⟩) 0 0,W8.alloc (.cells #[] 3),by (go_simp <;> rfl), ?_⟩)
  simp only [n1,n3,n4]
  obtain ⟨g10,U11,hg_,hu_,hS_⟩:=(S7.out.gr hg9).made [] 3
  rw [← hu_,← hg_]
  have S12 : Hid (St w noB [blk g10 3 []] U11):=Lib.hid hS_
  clear S7
  clear hg_ hu_ hS_ hg9
  refine @wpG_p _ _ _ _ _ (some 6) (.slice (some a) n c) _ _ rfl (by rfl) (fun _=>rfl) ?_
  simp only [n1,n3,n4]
  have S13 : Hid (St w noB [own (.slice (some ⟨g10,0,none⟩) 0 0) 3 1 0 []] U11):=Lib.hid ((S12.out.front 0 rfl).toOwn 1 0 (by rfl) (by simp [maxLen]))
  clear S12
  refine wpG_appS (some 7) rfl rfl (.tmp 5) (.tmp 6) 26 26 rfl 3 1 8 Tryd.underlying26 (by kernel_rfl) (.slice (some ⟨g10,0,none⟩) 0 0) 0 [] S13.out (.slice (some a) n c) n (ic l) (fun W hg=>src_lies Tryd.underlying26 c (by rw [ic_len];have:=HGA.out.len;rw [ic_len] at this;omega) HGA.out.none0 (ic_one _) ((HGA.out.gr ((S13.out.gr hg)).bel).lies)) rfl rfl (by simp only [maxLen];(have:=HNB.out;omega)) (by (have:=HNB.out;omega)) (fun v14 W15 hS_=>?_)
  simp only [n1,n3,n4]
  rw [Nat.zero_add] at hS_
  obtain ⟨A16,k17,rfl,hle_,hcap_,_⟩:=own_shape (hS_.ownr 0 rfl)
  have S18 : Hid (St w noB [own (.slice A16 n k17) 3 1 n (ic l)] W15):=Lib.hid hS_
  clear S13
  clear hS_
  refine @wpG_p _ _ _ _ _ (some 2) (.slice A16 n k17) _ _ rfl (by rfl) (fun _=>rfl) ?_
  simp only [n1,n3,n4]
  refine wpG_done (fun V19 hv20=>?_)
  have S21 : Hid (St w noB [own (.slice A16 n k17) 3 1 n (ic l)] V19):=Lib.hid (S18.out.gr hv20)
  clear S18
  clear hv20
  refine ⟨rfl,hK _ _ ?_⟩
  clear hK
  go_wp2_with fail
  go_ret
  exact ⟨A16,n,k17,rfl,S21.out.sub (.cons_cons _ .slnil)⟩
theorem slclone_any (A : Option Addr) (n c : Nat) (l : List Int) (w : World) (hG : SL w 1 A n c (ic l)) (hb : n ≤ 2097152) :
    Calls Tryd.prog 99 #[.slice A n c] w fun e w'=>∃ A n c,e = .returned (.slice A n c) ∧ St w noB [own (.slice A n c) 3 1 n (ic l)] w':=by
  cases A with
  | none=>exact clone_nil n c l w hG
  | some a=>exact clone_some a n c l w hG hb
set_option maxRecDepth 1000000 in
set_option maxHeartbeats 4000000 in
theorem gclone_any (B : Gm.Bx) (A : Option Addr) (n c : Nat) (l : List Int) (w : World) (hG : SL w 1 A n c (ic l)) (hb : n ≤ 2097152) :
    Calls Tryd.prog 72 #[.agg #[B.a, B.b, B.c, B.d, B.e, B.f, .slice A n c]] w fun e w'=>∃ A n c,e = .returned (.agg #[B.a, B.b, B.c, B.d, B.e, B.f, .slice A n c]) ∧ St w noB [own (.slice A n c) 3 1 n (ic l)] w':=by
  have HGA:=Lib.hid hG
  have HLEN : Hid (l.length = n):=Lib.hid (by have h_:=hG.len;rw [ic_len] at h_;omega)
  have hnbHGA : n ≤ 9223372036854775807:=Nat.le_trans hG.cap hG.bnd
  clear hG
  have S1 : Hid (St w noB [] w):=Lib.hid (St.start w)
  go_enter Tryd.func72,Tryd.ntmps72
  go_upto_region 0 with fail
  refine wpG_region_k (fun K hK=>?_)
  refine wpG_val (some 1) rfl (by rfl) (fun W2 hg3=>⟨.pointer (some ⟨W2.heap.size,0,none⟩),W2.alloc (.cells #[B.a, B.b, B.c, B.d, B.e, B.f, .slice A n c] 28),by (first | (go_simp;done) | (go_simp <;> rfl)), ?_⟩)
  simp only [n1,n3,n4]
  obtain ⟨g4,U5,hg_,hu_,hS_⟩:=(S1.out.gr hg3).made [B.a, B.b, B.c, B.d, B.e, B.f, .slice A n c] 28
  rw [← hu_,← hg_]
  have S6 : Hid (St w noB [blk g4 28 [B.a, B.b, B.c, B.d, B.e, B.f, .slice A n c]] U5):=Lib.hid hS_
  clear S1
  clear hg_ hu_ hS_ hg3
  refine wpG_val (some 2) rfl (by rfl) (fun W7 hg8=>⟨.pointer (some ⟨W7.heap.size,0,none⟩),W7.alloc (.cells #[(), (), (), (), (), (), .slice none 0 0] 28),by (first | (go_simp;done) | (go_simp <;> rfl)), ?_⟩)
  simp only [n1,n3,n4]
  obtain ⟨g9,U10,hg_,hu_,hS_⟩:=(S6.out.gr hg8).made [(), (), (), (), (), (), .slice none 0 0] 28
  rw [← hu_,← hg_]
  have S11 : Hid (St w noB [blk g9 28 [(), (), (), (), (), (), .slice none 0 0],blk g4 28 [B.a, B.b, B.c, B.d, B.e, B.f, .slice A n c]] U10):=Lib.hid hS_
  clear S6
  clear hg_ hu_ hS_ hg8
  refine wpG_done (fun V12 hv13=>?_)
  have S14 : Hid (St w noB [blk g9 28 [(), (), (), (), (), (), .slice none 0 0],blk g4 28 [B.a, B.b, B.c, B.d, B.e, B.f, .slice A n c]] V12):=Lib.hid (S11.out.gr hv13)
  clear S11
  clear hv13
  refine ⟨rfl,hK _ _ ?_⟩
  clear hK
  go_upto_region 1 with fail
  refine wpK_region_k (by kernel_rfl) (fun K hK=>?_)
  refine wpK_ta (i:=0) (some 3) (v:=.pointer (some ⟨g4,0,none⟩)) rfl rfl (by kernel_rfl) (fun _ _ _ h=>onN_panic h) (Or.inl ⟨by rfl,fun W=>by go_simp⟩) ?_
  simp only [n1,n3,n4]
  refine wpK_ta (i:=2) (some 5) (v:=.pointer (some ⟨g4,6,none⟩)) rfl rfl (by kernel_rfl) (fun _ _ _ h=>onN_panic h) (Or.inl ⟨by rfl,fun W=>by go_simp⟩) ?_
  simp only [n1,n3,n4]
  refine wpK_tk (i:=1) (some 4) (v:=.agg #[B.a, B.b, B.c, B.d, B.e, B.f]) rfl rfl (by kernel_rfl) (fun _ _ _ h=>onN_panic h) (.load_mid (by rfl) 25 (.tmp 3) rfl g4 0 rfl [B.a, B.b, B.c, B.d, B.e, B.f] _ (fun W hg=>(S14.out.gr (Gr.un hg)).range 1 rfl 0 6 rfl) Tryd.underlying25 rfl (by kernel_rfl)) ?_
  simp only [n1,n3,n4]
  refine wpK_tk (i:=3) (some 6) (v:=.slice A n c) rfl rfl (by kernel_rfl) (fun _ _ _ h=>onN_panic h) (.val (by rfl) (fun W hg=>by have c:=(S14.out.gr (Gr.un hg)).cell 1 rfl 6 rfl;go_simp)) ?_
  simp only [n1,n3,n4]
  refine wpK_call (i:=4) (some 7) 99 #[.slice A n c] rfl rfl (by kernel_rfl) (by rfl) (fun W=>by go_simp) (fun W18 hg19=>?_)
  refine (slclone_any _ _ _ l W18 (HGA.out.gr (S14.out.gr (Gr.un hg19)).bel) (by exact hb)).mono ?_
  rintro e w20 ⟨A15,n16,c17,rfl,hS_⟩
  refine ⟨_,rfl,hS_.bel, ?_⟩
  have hT_:=(S14.out.gr (Gr.un hg19)).got hS_
  simp only [n1,n3,n4]
  have S21 : Hid (St w noB [own (.slice A15 n16 c17) 3 1 n16 (ic l),blk g9 28 [(), (), (), (), (), (), .slice none 0 0],blk g4 28 [B.a, B.b, B.c, B.d, B.e, B.f, .slice A n c]] w20):=Lib.hid hT_
  clear S14
  clear hT_ hS_ hg19
  have hnn16 : n16 ≤ l.length ∧ l.length ≤ n16:=by have h_:=own_icl (S21.out.ownr 0 rfl);omega
  refine wpK_ta (i:=5) (some 8) (v:=.agg #[B.a, B.b, B.c, B.d, B.e, B.f, .slice A15 n16 c17]) rfl rfl (by kernel_rfl) (fun _ _ _ h=>onN_panic h) (Or.inl ⟨by rfl,fun W=>by go_simp⟩) ?_
  simp only [n1,n3,n4]
  refine wpK_store (i:=6) (none) rfl rfl (by kernel_rfl) (by rfl) (by rfl) (fun W22 hg23=>⟨_,run_store_mid 28 (.tmp 2) (.tmp 8) rfl g9 0 #[B.a, B.b, B.c, B.d, B.e, B.f, .slice A15 n16 c17] rfl rfl ((S21.out.gr hg23).room 1 rfl 0 7 (by simp)) (by kernel_rfl) (by kernel_rfl), ?_⟩)
  simp only [n2]
  obtain ⟨U24,hu_,hS_⟩:=((S21.out.gr hg23).put 1 rfl 0 (#[B.a, B.b, B.c, B.d, B.e, B.f, .slice A15 n16 c17] : Array Value).toList (ds:=[B.a, B.b, B.c, B.d, B.e, B.f, .slice A15 n16 c17]) rfl).named
  rw [← hu_]
  have S25 : Hid (St w noB [own (.slice A15 n16 c17) 3 1 n16 (ic l),blk g9 28 [B.a, B.b, B.c, B.d, B.e, B.f, .slice A15 n16 c17],blk g4 28 [B.a, B.b, B.c, B.d, B.e, B.f, .slice A n c]] U24):=Lib.hid hS_
  clear S21
  clear hu_ hS_ hg23
  refine wpK_done (by kernel_rfl) (fun V26 hv27=>?_) _
  have S28 : Hid (St w noB [own (.slice A15 n16 c17) 3 1 n16 (ic l),blk g9 28 [B.a, B.b, B.c, B.d, B.e, B.f, .slice A15 n16 c17],blk g4 28 [B.a, B.b, B.c, B.d, B.e, B.f, .slice A n c]] V26):=Lib.hid (S25.out.gr hv27)
  clear S25
  clear hv27
  refine ⟨rfl,hK _ _ ?_⟩
  clear hK
  go_wp2_with fail
  (try simp only [Exit.inBlock,Exit.then])
  refine bodyPost_ret (results_cell_mid rfl _ _ _ g9 0 [B.a, B.b, B.c, B.d, B.e, B.f, .slice A15 n16 c17] _ rfl (S28.out.range 1 rfl 0 7 rfl) Tryd.underlying28 rfl (by kernel_rfl)) rfl ?_
  exact ⟨A15,n16,c17,rfl,S28.out.sub (.cons_cons _ (.cons _ (.cons _ .slnil)))⟩

end Go.Proofs.YtpapbbolefnkmaaDoor
