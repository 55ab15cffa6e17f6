/-
  Contracts of the specification: new grids, grids written, filled, pasted.
-/
import Derived.Test.YtpapbbolefnkmaaDoorZB00
import Derived.Test.YtpapbbolefnkmaaDoorZB28
import Derived.Handy
namespace Go.Proofs.YtpapbbolefnkmaaDoor
open Go Go.RowKit
set_option linter.unusedVariables false
set_option linter.unusedSimpArgs false
set_option maxRecDepth 1000000 in
set_option maxHeartbeats 4000000 in
theorem rnew_any (B : Gm.Bx) (m : Int) (w : World) :
    Calls Tryd.prog 15 #[.agg #[B.a, B.b, B.c, B.d, B.e, B.f], m] w fun e w'=>∃ A n c,e = .returned (.tuple #[.agg #[((Gm.nB B m).a:Int), ((Gm.nB B m).b:Int), ((Gm.nB B m).c:Int), ((Gm.nB B m).d:Int), ((Gm.nB B m).e:Int), ((Gm.nB B m).f:Int), .slice A n c], (Gm.nE B m)]) ∧ St w noB [own (.slice A n c) 3 1 n (ic (Gm.nL B m))] w':=by
  have S1 : Hid (St w noB [] w):=Lib.hid (St.start w)
  go_enter Tryd.func15,Tryd.ntmps15
  go_upto_region 0 with fail
  refine wpG_region_k (fun K hK=>?_)
  refine wpG_val (some 2) rfl (by rfl) (fun W2 hg3=>⟨.pointer (some ⟨W2.heap.size,0,none⟩),W2.alloc (.cells #[B.a, B.b, B.c, B.d, B.e, B.f] 25),by (first | (go_simp;done) | (go_simp <;> rfl)), ?_⟩)
  simp only [n1,n3,n4]
  obtain ⟨g4,U5,hg_,hu_,hS_⟩:=(S1.out.gr hg3).made [B.a, B.b, B.c, B.d, B.e, B.f] 25
  rw [← hu_,← hg_]
  have S6 : Hid (St w noB [blk g4 25 [B.a, B.b, B.c, B.d, B.e, B.f]] U5):=Lib.hid hS_
  clear S1
  clear hg_ hu_ hS_ hg3
  refine wpG_val (some 4) rfl (by rfl) (fun W7 hg8=>⟨.pointer (some ⟨W7.heap.size,0,none⟩),W7.alloc (.cells #[(), (), (), (), (), (), .slice none 0 0] 28),by (first | (go_simp;done) | (go_simp <;> rfl)), ?_⟩)
  simp only [n1,n3,n4]
  obtain ⟨g9,U10,hg_,hu_,hS_⟩:=(S6.out.gr hg8).made [(), (), (), (), (), (), .slice none 0 0] 28
  rw [← hu_,← hg_]
  have S11 : Hid (St w noB [blk g9 28 [(), (), (), (), (), (), .slice none 0 0],blk g4 25 [B.a, B.b, B.c, B.d, B.e, B.f]] U10):=Lib.hid hS_
  clear S6
  clear hg_ hu_ hS_ hg8
  refine @wpG_p _ _ _ _ _ (some 5) () _ _ rfl (by rfl) (fun _=>rfl) ?_
  simp only [n1,n3,n4]
  refine wpG_done (fun V12 hv13=>?_)
  have S14 : Hid (St w noB [blk g9 28 [(), (), (), (), (), (), .slice none 0 0],blk g4 25 [B.a, B.b, B.c, B.d, B.e, B.f]] V12):=Lib.hid (S11.out.gr hv13)
  clear S11
  clear hv13
  refine ⟨rfl,hK _ _ ?_⟩
  clear hK
  go_upto_region 1 with fail
  refine wpG_region_k (fun K hK=>?_)
  refine @wpG_p _ _ _ _ _ (some 12) (.pointer (some ⟨g4,0,none⟩)) _ _ rfl (by rfl) (fun W=>by go_simp) ?_
  simp only [n1,n3,n4]
  refine @wpG_tk _ _ _ _ _ (some 13) (.agg #[B.a, B.b, B.c]) _ _ rfl (.load_mid (by rfl) 23 (.tmp 12) rfl g4 0 rfl [B.a, B.b, B.c] _ (fun W hg=>(S14.out.gr hg).range 1 rfl 0 3 rfl) Tryd.underlying23 rfl (by kernel_rfl)) ?_
  simp only [n1,n3,n4]
  refine @wpG_tk _ _ _ _ _ (some 14) (.bool (decide (Gm.rp3 B.a B.b B.c))) _ _ rfl (.call (f:=9) (args:=#[.agg #[B.a, B.b, B.c]]) (by rfl) (fun W=>by go_simp) (fun W hg=>ranged_any B.a B.b B.c W)) ?_
  simp only [n1,n3,n4]
  refine @wpG_p _ _ _ _ _ (some 6) (.bool (decide (Gm.rp3 B.a B.b B.c))) _ _ rfl (by rfl) (fun _=>rfl) ?_
  simp only [n1,n3,n4]
  refine wpG_done (fun V15 hv16=>?_)
  have S17 : Hid (St w noB [blk g9 28 [(), (), (), (), (), (), .slice none 0 0],blk g4 25 [B.a, B.b, B.c, B.d, B.e, B.f]] V15):=Lib.hid (S14.out.gr hv16)
  clear S14
  clear hv16
  refine ⟨rfl,hK _ _ ?_⟩
  clear hK
  go_upto_region 2 with fail
  refine wpG_region_k (fun K hK=>?_)
  refine @wpG_p _ _ _ _ _ (some 15) (.pointer (some ⟨g4,3,none⟩)) _ _ rfl (by rfl) (fun W=>by go_simp) ?_
  simp only [n1,n3,n4]
  refine @wpG_tk _ _ _ _ _ (some 16) (.agg #[B.d, B.e, B.f]) _ _ rfl (.load_mid (by rfl) 23 (.tmp 15) rfl g4 3 rfl [B.d, B.e, B.f] _ (fun W hg=>(S17.out.gr hg).range 1 rfl 3 3 rfl) Tryd.underlying23 rfl (by kernel_rfl)) ?_
  simp only [n1,n3,n4]
  refine @wpG_tk _ _ _ _ _ (some 17) (.bool (decide (Gm.rp3 B.d B.e B.f))) _ _ rfl (.call (f:=9) (args:=#[.agg #[B.d, B.e, B.f]]) (by rfl) (fun W=>by go_simp) (fun W hg=>ranged_any B.d B.e B.f W)) ?_
  simp only [n1,n3,n4]
  refine @wpG_p _ _ _ _ _ (some 7) (.bool (decide (Gm.rp3 B.d B.e B.f))) _ _ rfl (by rfl) (fun _=>rfl) ?_
  simp only [n1,n3,n4]
  refine wpG_done (fun V18 hv19=>?_)
  have S20 : Hid (St w noB [blk g9 28 [(), (), (), (), (), (), .slice none 0 0],blk g4 25 [B.a, B.b, B.c, B.d, B.e, B.f]] V18):=Lib.hid (S17.out.gr hv19)
  clear S17
  clear hv19
  refine ⟨rfl,hK _ _ ?_⟩
  clear hK
  go_upto_region 3 with fail
  refine wpG_region_k (fun K hK=>?_)
  refine @wpG_p _ _ _ _ _ (some 18) m _ _ rfl (by rfl) (fun _=>rfl) ?_
  simp only [n1,n3,n4]
  refine @wpG_tk _ _ _ _ _ (some 19) (.bool (decide (Gm.mtl m))) _ _ rfl (.call (f:=52) (args:=#[m]) (by rfl) (fun W=>by go_simp) (fun W hg=>rmat_any m W)) ?_
  simp only [n1,n3,n4]
  refine @wpG_p _ _ _ _ _ (some 8) (.bool (decide (Gm.mtl m))) _ _ rfl (by rfl) (fun _=>rfl) ?_
  simp only [n1,n3,n4]
  refine wpG_done (fun V21 hv22=>?_)
  have S23 : Hid (St w noB [blk g9 28 [(), (), (), (), (), (), .slice none 0 0],blk g4 25 [B.a, B.b, B.c, B.d, B.e, B.f]] V21):=Lib.hid (S20.out.gr hv22)
  clear S20
  clear hv22
  refine ⟨rfl,hK _ _ ?_⟩
  clear hK
  go_upto_region 4 with fail
  refine wpG_region_k (fun K hK=>?_)
  refine @wpG_p _ _ _ _ _ (some 20) (.bool (decide (Gm.rp3 B.a B.b B.c))) _ _ rfl (by rfl) (fun _=>rfl) ?_
  simp only [n1,n3,n4]
  refine @wpG_p _ _ _ _ _ (some 21) (.bool (!(decide (Gm.rp3 B.a B.b B.c)))) _ _ rfl (by rfl) (fun W=>by go_simp) ?_
  simp only [n1,n3,n4]
  refine @wpG_p _ _ _ _ _ (some 22) (.bool (!(decide (Gm.rp3 B.a B.b B.c)))) _ _ rfl (by rfl) (fun _=>rfl) ?_
  simp only [n1,n3,n4]
  obtain ⟨c24,hc24⟩ : ∃ q_,q_ = (!(decide (Gm.rp3 B.a B.b B.c))):=⟨_,rfl⟩
  rw [← hc24]
  have Hc24:=Lib.hid hc24
  clear hc24
  cases c24 with
  | true =>
    have f25:=Lib.hid (of_decide_eq_false (bnt Hc24.out))
    refine @wpG_no _ _ _ _ _ (some 23) _ _ rfl (by rfl) ?_
    simp only [n1,n3,n4]
    refine @wpG_no _ _ _ _ _ (some 24) _ _ rfl (by rfl) ?_
    simp only [n1,n3,n4]
    refine @wpG_p _ _ _ _ _ (some 25) (.bool true) _ _ rfl (by rfl) (fun W=>by go_simp) ?_
    simp only [n1,n3,n4]
    refine @wpG_p _ _ _ _ _ (some 26) (.bool true) _ _ rfl (by rfl) (fun _=>rfl) ?_
    simp only [n1,n3,n4]
    refine @wpG_no _ _ _ _ _ (some 27) _ _ rfl (by rfl) ?_
    simp only [n1,n3,n4]
    refine @wpG_no _ _ _ _ _ (some 28) _ _ rfl (by rfl) ?_
    simp only [n1,n3,n4]
    refine @wpG_p _ _ _ _ _ (some 29) (.bool true) _ _ rfl (by rfl) (fun W=>by go_simp) ?_
    simp only [n1,n3,n4]
    refine wpG_done (fun V26 hv27=>?_)
    have S28 : Hid (St w noB [blk g9 28 [(), (), (), (), (), (), .slice none 0 0],blk g4 25 [B.a, B.b, B.c, B.d, B.e, B.f]] V26):=Lib.hid (S23.out.gr hv27)
    clear S23
    clear hv27
    refine ⟨rfl,hK _ _ ?_⟩
    clear hK
    go_upto_region 5 with fail
    refine wpG_region_k (fun K hK=>?_)
    refine @wpG_p _ _ _ _ _ (some 30) (.agg #[(), (), (), (), (), (), .slice none 0 0]) _ _ rfl (by rfl) (fun W=>by go_simp) ?_
    simp only [n1,n3,n4]
    refine wpG_store (none) rfl (by rfl) (fun W29 hg30=>⟨_,run_store_mid 28 (.tmp 4) (.tmp 30) rfl g9 0 #[(), (), (), (), (), (), .slice none 0 0] rfl rfl ((S28.out.gr hg30).room 0 rfl 0 7 (by simp)) (by kernel_rfl) (by kernel_rfl), ?_⟩)
    simp only [n2]
    obtain ⟨U31,hu_,hS_⟩:=((S28.out.gr hg30).put 0 rfl 0 (#[(), (), (), (), (), (), .slice none 0 0] : Array Value).toList (ds:=[(), (), (), (), (), (), .slice none 0 0]) rfl).named
    rw [← hu_]
    have S32 : Hid (St w noB [blk g9 28 [(), (), (), (), (), (), .slice none 0 0],blk g4 25 [B.a, B.b, B.c, B.d, B.e, B.f]] U31):=Lib.hid hS_
    clear S28
    clear hu_ hS_ hg30
    refine @wpG_p _ _ _ _ _ (some 5) (.int .i64 1) _ _ rfl (by rfl) (fun _=>rfl) ?_
    simp only [n1,n3,n4]
    refine wpG_done (fun V33 hv34=>?_)
    have S35 : Hid (St w noB [blk g9 28 [(), (), (), (), (), (), .slice none 0 0],blk g4 25 [B.a, B.b, B.c, B.d, B.e, B.f]] V33):=Lib.hid (S32.out.gr hv34)
    clear S32
    clear hv34
    refine ⟨rfl,hK _ _ ?_⟩
    clear hK
    go_wp2_with fail
    (try simp only [Exit.inBlock,Exit.then])
    refine bodyPost_ret (results_cell_tmp rfl _ _ _ g9 0 [(), (), (), (), (), (), .slice none 0 0] _ rfl (S35.out.range 0 rfl 0 7 rfl) Tryd.underlying28 rfl (by kernel_rfl)) rfl ?_
    (have e_f25:=f25.out;obtain ⟨h1_,h2_,h3_⟩:=Gm.new_arg (B:=B) (m:=m) (fun hc=>e_f25 hc.1.1);exact ⟨none,0,0,by rw [h1_,h2_];try rfl,by rw [h3_];exact S35.out.dropAll.nilOwn _ _⟩)
  | false =>
    have f36:=Lib.hid (of_decide_eq_true (bnf Hc24.out))
    refine @wpG_p _ _ _ _ _ (some 23) (.bool (decide (Gm.rp3 B.d B.e B.f))) _ _ rfl (by rfl) (fun _=>rfl) ?_
    simp only [n1,n3,n4]
    refine @wpG_p _ _ _ _ _ (some 24) (.bool (!(decide (Gm.rp3 B.d B.e B.f)))) _ _ rfl (by rfl) (fun W=>by go_simp) ?_
    simp only [n1,n3,n4]
    refine @wpG_p _ _ _ _ _ (some 25) (.bool (!(decide (Gm.rp3 B.d B.e B.f)))) _ _ rfl (by rfl) (fun W=>by go_simp) ?_
    simp only [n1,n3,n4]
    refine @wpG_p _ _ _ _ _ (some 26) (.bool (!(decide (Gm.rp3 B.d B.e B.f)))) _ _ rfl (by rfl) (fun _=>rfl) ?_
    simp only [n1,n3,n4]
    obtain ⟨c37,hc37⟩ : ∃ q_,q_ = (!(decide (Gm.rp3 B.d B.e B.f))):=⟨_,rfl⟩
    rw [← hc37]
    have Hc37:=Lib.hid hc37
    clear hc37
    cases c37 with
    | true =>
      have f38:=Lib.hid (of_decide_eq_false (bnt Hc37.out))
      refine @wpG_no _ _ _ _ _ (some 27) _ _ rfl (by rfl) ?_
      simp only [n1,n3,n4]
      refine @wpG_no _ _ _ _ _ (some 28) _ _ rfl (by rfl) ?_
      simp only [n1,n3,n4]
      refine @wpG_p _ _ _ _ _ (some 29) (.bool true) _ _ rfl (by rfl) (fun W=>by go_simp) ?_
      simp only [n1,n3,n4]
      refine wpG_done (fun V39 hv40=>?_)
      have S41 : Hid (St w noB [blk g9 28 [(), (), (), (), (), (), .slice none 0 0],blk g4 25 [B.a, B.b, B.c, B.d, B.e, B.f]] V39):=Lib.hid (S23.out.gr hv40)
      clear S23
      clear hv40
      refine ⟨rfl,hK _ _ ?_⟩
      clear hK
      go_upto_region 5 with fail
      refine wpG_region_k (fun K hK=>?_)
      refine @wpG_p _ _ _ _ _ (some 30) (.agg #[(), (), (), (), (), (), .slice none 0 0]) _ _ rfl (by rfl) (fun W=>by go_simp) ?_
      simp only [n1,n3,n4]
      refine wpG_store (none) rfl (by rfl) (fun W42 hg43=>⟨_,run_store_mid 28 (.tmp 4) (.tmp 30) rfl g9 0 #[(), (), (), (), (), (), .slice none 0 0] rfl rfl ((S41.out.gr hg43).room 0 rfl 0 7 (by simp)) (by kernel_rfl) (by kernel_rfl), ?_⟩)
      simp only [n2]
      obtain ⟨U44,hu_,hS_⟩:=((S41.out.gr hg43).put 0 rfl 0 (#[(), (), (), (), (), (), .slice none 0 0] : Array Value).toList (ds:=[(), (), (), (), (), (), .slice none 0 0]) rfl).named
      rw [← hu_]
      have S45 : Hid (St w noB [blk g9 28 [(), (), (), (), (), (), .slice none 0 0],blk g4 25 [B.a, B.b, B.c, B.d, B.e, B.f]] U44):=Lib.hid hS_
      clear S41
      clear hu_ hS_ hg43
      refine @wpG_p _ _ _ _ _ (some 5) (.int .i64 1) _ _ rfl (by rfl) (fun _=>rfl) ?_
      simp only [n1,n3,n4]
      refine wpG_done (fun V46 hv47=>?_)
      have S48 : Hid (St w noB [blk g9 28 [(), (), (), (), (), (), .slice none 0 0],blk g4 25 [B.a, B.b, B.c, B.d, B.e, B.f]] V46):=Lib.hid (S45.out.gr hv47)
      clear S45
      clear hv47
      refine ⟨rfl,hK _ _ ?_⟩
      clear hK
      go_wp2_with fail
      (try simp only [Exit.inBlock,Exit.then])
      refine bodyPost_ret (results_cell_tmp rfl _ _ _ g9 0 [(), (), (), (), (), (), .slice none 0 0] _ rfl (S48.out.range 0 rfl 0 7 rfl) Tryd.underlying28 rfl (by kernel_rfl)) rfl ?_
      (have e_f36:=f36.out;have e_f38:=f38.out;obtain ⟨h1_,h2_,h3_⟩:=Gm.new_arg (B:=B) (m:=m) (fun hc=>e_f38 hc.1.2);exact ⟨none,0,0,by rw [h1_,h2_];try rfl,by rw [h3_];exact S48.out.dropAll.nilOwn _ _⟩)
    | false =>
      have f49:=Lib.hid (of_decide_eq_true (bnf Hc37.out))
      refine @wpG_p _ _ _ _ _ (some 27) (.bool (decide (Gm.mtl m))) _ _ rfl (by rfl) (fun _=>rfl) ?_
      simp only [n1,n3,n4]
      refine @wpG_p _ _ _ _ _ (some 28) (.bool (!(decide (Gm.mtl m)))) _ _ rfl (by rfl) (fun W=>by go_simp) ?_
      simp only [n1,n3,n4]
      refine @wpG_p _ _ _ _ _ (some 29) (.bool (!(decide (Gm.mtl m)))) _ _ rfl (by rfl) (fun W=>by go_simp) ?_
      simp only [n1,n3,n4]
      refine wpG_done (fun V50 hv51=>?_)
      have S52 : Hid (St w noB [blk g9 28 [(), (), (), (), (), (), .slice none 0 0],blk g4 25 [B.a, B.b, B.c, B.d, B.e, B.f]] V50):=Lib.hid (S23.out.gr hv51)
      clear S23
      clear hv51
      refine ⟨rfl,hK _ _ ?_⟩
      clear hK
      obtain ⟨c53,hc53⟩ : ∃ q_,q_ = (!(decide (Gm.mtl m))):=⟨_,rfl⟩
      rw [← hc53]
      have Hc53:=Lib.hid hc53
      clear hc53
      cases c53 with
      | true =>
        have f54:=Lib.hid (of_decide_eq_false (bnt Hc53.out))
        go_upto_region 5 with fail
        refine wpG_region_k (fun K hK=>?_)
        refine @wpG_p _ _ _ _ _ (some 30) (.agg #[(), (), (), (), (), (), .slice none 0 0]) _ _ rfl (by rfl) (fun W=>by go_simp) ?_
        simp only [n1,n3,n4]
        refine wpG_store (none) rfl (by rfl) (fun W55 hg56=>⟨_,run_store_mid 28 (.tmp 4) (.tmp 30) rfl g9 0 #[(), (), (), (), (), (), .slice none 0 0] rfl rfl ((S52.out.gr hg56).room 0 rfl 0 7 (by simp)) (by kernel_rfl) (by kernel_rfl), ?_⟩)
        simp only [n2]
        obtain ⟨U57,hu_,hS_⟩:=((S52.out.gr hg56).put 0 rfl 0 (#[(), (), (), (), (), (), .slice none 0 0] : Array Value).toList (ds:=[(), (), (), (), (), (), .slice none 0 0]) rfl).named
        rw [← hu_]
        have S58 : Hid (St w noB [blk g9 28 [(), (), (), (), (), (), .slice none 0 0],blk g4 25 [B.a, B.b, B.c, B.d, B.e, B.f]] U57):=Lib.hid hS_
        clear S52
        clear hu_ hS_ hg56
        refine @wpG_p _ _ _ _ _ (some 5) (.int .i64 1) _ _ rfl (by rfl) (fun _=>rfl) ?_
        simp only [n1,n3,n4]
        refine wpG_done (fun V59 hv60=>?_)
        have S61 : Hid (St w noB [blk g9 28 [(), (), (), (), (), (), .slice none 0 0],blk g4 25 [B.a, B.b, B.c, B.d, B.e, B.f]] V59):=Lib.hid (S58.out.gr hv60)
        clear S58
        clear hv60
        refine ⟨rfl,hK _ _ ?_⟩
        clear hK
        go_wp2_with fail
        (try simp only [Exit.inBlock,Exit.then])
        refine bodyPost_ret (results_cell_tmp rfl _ _ _ g9 0 [(), (), (), (), (), (), .slice none 0 0] _ rfl (S61.out.range 0 rfl 0 7 rfl) Tryd.underlying28 rfl (by kernel_rfl)) rfl ?_
        (have e_f36:=f36.out;have e_f49:=f49.out;have e_f54:=f54.out;obtain ⟨h1_,h2_,h3_⟩:=Gm.new_arg (B:=B) (m:=m) (fun hc=>e_f54 hc.2);exact ⟨none,0,0,by rw [h1_,h2_];try rfl,by rw [h3_];exact S61.out.dropAll.nilOwn _ _⟩)
      | false =>
        have f62:=Lib.hid (of_decide_eq_true (bnf Hc53.out))
        go_upto_region 6 with fail
        refine wpG_region_k (fun K hK=>?_)
        refine @wpG_tk _ _ _ _ _ (some 31) (.agg #[B.a, B.b, B.c, B.d, B.e, B.f]) _ _ rfl (.load_mid (by rfl) 25 (.tmp 2) rfl g4 0 rfl [B.a, B.b, B.c, B.d, B.e, B.f] _ (fun W hg=>(S52.out.gr hg).range 1 rfl 0 6 rfl) Tryd.underlying25 rfl (by kernel_rfl)) ?_
        simp only [n1,n3,n4]
        refine @wpG_tk _ _ _ _ _ (some 32) B.vol _ _ rfl (.call (f:=10) (args:=#[.agg #[B.a, B.b, B.c, B.d, B.e, B.f]]) (by rfl) (fun W=>by go_simp) (fun W hg=>vol_b W B (by have e_f36:=f36.out;have e_f49:=f49.out;have e_f62:=f62.out;exact ⟨e_f36,e_f49⟩))) ?_
        simp only [n1,n3,n4]
        refine @wpG_p _ _ _ _ _ (some 9) B.vol _ _ rfl (by rfl) (fun _=>rfl) ?_
        simp only [n1,n3,n4]
        refine wpG_done (fun V63 hv64=>?_)
        have S65 : Hid (St w noB [blk g9 28 [(), (), (), (), (), (), .slice none 0 0],blk g4 25 [B.a, B.b, B.c, B.d, B.e, B.f]] V63):=Lib.hid (S52.out.gr hv64)
        clear S52
        clear hv64
        refine ⟨rfl,hK _ _ ?_⟩
        clear hK
        go_upto_region 7 with fail
        refine wpG_region_k (fun K hK=>?_)
        refine @wpG_p _ _ _ _ _ (some 33) B.vol _ _ rfl (by rfl) (fun _=>rfl) ?_
        simp only [n1,n3,n4]
        refine @wpG_p _ _ _ _ _ (some 34) (.bool (decide (B.vol = 0))) _ _ rfl (by rfl) (fun W=>op_int_eql W B.vol 0 rfl rfl rfl Tryd.underlying3) ?_
        simp only [n1,n3,n4]
        refine wpG_done (fun V66 hv67=>?_)
        have S68 : Hid (St w noB [blk g9 28 [(), (), (), (), (), (), .slice none 0 0],blk g4 25 [B.a, B.b, B.c, B.d, B.e, B.f]] V66):=Lib.hid (S65.out.gr hv67)
        clear S65
        clear hv67
        refine ⟨rfl,hK _ _ ?_⟩
        clear hK
        obtain ⟨c69,hc69⟩ : ∃ q_,q_ = (decide (B.vol = 0)):=⟨_,rfl⟩
        rw [← hc69]
        have Hc69:=Lib.hid hc69
        clear hc69
        cases c69 with
        | true =>
          have f70:=Lib.hid (of_decide_eq_true Hc69.out.symm)
          have f70a:=Int.le_of_eq f70.out
          have f70b:=Int.le_of_eq f70.out.symm
          go_upto_region 8 with fail
          refine wpG_region_k (fun K hK=>?_)
          refine @wpG_p _ _ _ _ _ (some 35) (.agg #[(), (), (), (), (), (), .slice none 0 0]) _ _ rfl (by rfl) (fun W=>by go_simp) ?_
          simp only [n1,n3,n4]
          refine wpG_store (none) rfl (by rfl) (fun W71 hg72=>⟨_,run_store_mid 28 (.tmp 4) (.tmp 35) rfl g9 0 #[(), (), (), (), (), (), .slice none 0 0] rfl rfl ((S68.out.gr hg72).room 0 rfl 0 7 (by simp)) (by kernel_rfl) (by kernel_rfl), ?_⟩)
          simp only [n2]
          obtain ⟨U73,hu_,hS_⟩:=((S68.out.gr hg72).put 0 rfl 0 (#[(), (), (), (), (), (), .slice none 0 0] : Array Value).toList (ds:=[(), (), (), (), (), (), .slice none 0 0]) rfl).named
          rw [← hu_]
          have S74 : Hid (St w noB [blk g9 28 [(), (), (), (), (), (), .slice none 0 0],blk g4 25 [B.a, B.b, B.c, B.d, B.e, B.f]] U73):=Lib.hid hS_
          clear S68
          clear hu_ hS_ hg72
          refine @wpG_p _ _ _ _ _ (some 5) () _ _ rfl (by rfl) (fun _=>rfl) ?_
          simp only [n1,n3,n4]
          refine wpG_done (fun V75 hv76=>?_)
          have S77 : Hid (St w noB [blk g9 28 [(), (), (), (), (), (), .slice none 0 0],blk g4 25 [B.a, B.b, B.c, B.d, B.e, B.f]] V75):=Lib.hid (S74.out.gr hv76)
          clear S74
          clear hv76
          refine ⟨rfl,hK _ _ ?_⟩
          clear hK
          go_wp2_with fail
          (try simp only [Exit.inBlock,Exit.then])
          refine bodyPost_ret (results_cell_tmp rfl _ _ _ g9 0 [(), (), (), (), (), (), .slice none 0 0] _ rfl (S77.out.range 0 rfl 0 7 rfl) Tryd.underlying28 rfl (by kernel_rfl)) rfl ?_
          (have e_f36:=f36.out;have e_f49:=f49.out;have e_f62:=f62.out;have e_f70:=f70.out;obtain ⟨h1_,h2_,h3_⟩:=Gm.new_emp ⟨⟨e_f36,e_f49⟩,e_f62⟩ (by omega);exact ⟨none,0,0,by rw [h1_,h2_];try rfl,by rw [h3_];exact S77.out.dropAll.nilOwn _ _⟩)
        | false =>
          have f78:=of_decide_eq_false Hc69.out.symm
          go_upto_region 9 with fail
          refine wpG_region_k (fun K hK=>?_)
          refine @wpG_p _ _ _ _ _ (some 36) B.vol _ _ rfl (by rfl) (fun _=>rfl) ?_
          simp only [n1,n3,n4]
          refine @wpG_p _ _ _ _ _ (some 37) (.bool (decide (B.vol > 2097152))) _ _ rfl (by rfl) (fun W=>op_int_gtr W B.vol 2097152 rfl rfl rfl Tryd.underlying3) ?_
          simp only [n1,n3,n4]
          refine wpG_done (fun V79 hv80=>?_)
          have S81 : Hid (St w noB [blk g9 28 [(), (), (), (), (), (), .slice none 0 0],blk g4 25 [B.a, B.b, B.c, B.d, B.e, B.f]] V79):=Lib.hid (S68.out.gr hv80)
          clear S68
          clear hv80
          refine ⟨rfl,hK _ _ ?_⟩
          clear hK
          obtain ⟨c82,hc82⟩ : ∃ q_,q_ = (decide (B.vol > 2097152)):=⟨_,rfl⟩
          rw [← hc82]
          have Hc82:=Lib.hid hc82
          clear hc82
          cases c82 with
          | true =>
            have f83:=of_decide_eq_true Hc82.out.symm
            go_upto_region 10 with fail
            refine wpG_region_k (fun K hK=>?_)
            refine @wpG_p _ _ _ _ _ (some 38) (.agg #[(), (), (), (), (), (), .slice none 0 0]) _ _ rfl (by rfl) (fun W=>by go_simp) ?_
            simp only [n1,n3,n4]
            refine wpG_store (none) rfl (by rfl) (fun W84 hg85=>⟨_,run_store_mid 28 (.tmp 4) (.tmp 38) rfl g9 0 #[(), (), (), (), (), (), .slice none 0 0] rfl rfl ((S81.out.gr hg85).room 0 rfl 0 7 (by simp)) (by kernel_rfl) (by kernel_rfl), ?_⟩)
            simp only [n2]
            obtain ⟨U86,hu_,hS_⟩:=((S81.out.gr hg85).put 0 rfl 0 (#[(), (), (), (), (), (), .slice none 0 0] : Array Value).toList (ds:=[(), (), (), (), (), (), .slice none 0 0]) rfl).named
            rw [← hu_]
            have S87 : Hid (St w noB [blk g9 28 [(), (), (), (), (), (), .slice none 0 0],blk g4 25 [B.a, B.b, B.c, B.d, B.e, B.f]] U86):=Lib.hid hS_
            clear S81
            clear hu_ hS_ hg85
            refine @wpG_p _ _ _ _ _ (some 5) (.int .i64 2) _ _ rfl (by rfl) (fun _=>rfl) ?_
            simp only [n1,n3,n4]
            refine wpG_done (fun V88 hv89=>?_)
            have S90 : Hid (St w noB [blk g9 28 [(), (), (), (), (), (), .slice none 0 0],blk g4 25 [B.a, B.b, B.c, B.d, B.e, B.f]] V88):=Lib.hid (S87.out.gr hv89)
            clear S87
            clear hv89
            refine ⟨rfl,hK _ _ ?_⟩
            clear hK
            go_wp2_with fail
            (try simp only [Exit.inBlock,Exit.then])
            refine bodyPost_ret (results_cell_tmp rfl _ _ _ g9 0 [(), (), (), (), (), (), .slice none 0 0] _ rfl (S90.out.range 0 rfl 0 7 rfl) Tryd.underlying28 rfl (by kernel_rfl)) rfl ?_
            (have e_f36:=f36.out;have e_f49:=f49.out;have e_f62:=f62.out;obtain ⟨h1_,h2_,h3_⟩:=Gm.new_max ⟨⟨e_f36,e_f49⟩,e_f62⟩ (by omega);exact ⟨none,0,0,by rw [h1_,h2_];try rfl,by rw [h3_];exact S90.out.dropAll.nilOwn _ _⟩)
          | false =>
            have f91:=of_decide_eq_false Hc82.out.symm
            go_upto_region 11 with fail
            refine wpG_region_k (fun K hK=>?_)
            refine @wpG_tk _ _ _ _ _ (some 39) (.agg #[B.a, B.b, B.c, B.d, B.e, B.f]) _ _ rfl (.load_mid (by rfl) 25 (.tmp 2) rfl g4 0 rfl [B.a, B.b, B.c, B.d, B.e, B.f] _ (fun W hg=>(S81.out.gr hg).range 1 rfl 0 6 rfl) Tryd.underlying25 rfl (by kernel_rfl)) ?_
            simp only [n1,n3,n4]
            refine @wpG_p _ _ _ _ _ (some 40) (.agg #[B.a, B.b, B.c, B.d, B.e, B.f, .slice none 0 0]) _ _ rfl (by rfl) (fun W=>by go_simp) ?_
            simp only [n1,n3,n4]
            refine wpG_val (some 10) rfl (by rfl) (fun W92 hg93=>⟨.pointer (some ⟨W92.heap.size,0,none⟩),W92.alloc (.cells #[(), (), (), (), (), (), .slice none 0 0] 28),by (first | (go_simp;done) | (go_simp <;> rfl)), ?_⟩)
            simp only [n1,n3,n4]
            obtain ⟨g94,U95,hg_,hu_,hS_⟩:=(S81.out.gr hg93).made [(), (), (), (), (), (), .slice none 0 0] 28
            rw [← hu_,← hg_]
            have S96 : Hid (St w noB [blk g94 28 [(), (), (), (), (), (), .slice none 0 0],blk g9 28 [(), (), (), (), (), (), .slice none 0 0],blk g4 25 [B.a, B.b, B.c, B.d, B.e, B.f]] U95):=Lib.hid hS_
            clear S81
            clear hg_ hu_ hS_ hg93
            refine wpG_store (none) rfl (by rfl) (fun W97 hg98=>⟨_,run_store_mid 28 (.tmp 10) (.tmp 40) rfl g94 0 #[B.a, B.b, B.c, B.d, B.e, B.f, .slice none 0 0] rfl rfl ((S96.out.gr hg98).room 0 rfl 0 7 (by simp)) (by kernel_rfl) (by kernel_rfl), ?_⟩)
            simp only [n2]
            obtain ⟨U99,hu_,hS_⟩:=((S96.out.gr hg98).put 0 rfl 0 (#[B.a, B.b, B.c, B.d, B.e, B.f, .slice none 0 0] : Array Value).toList (ds:=[B.a, B.b, B.c, B.d, B.e, B.f, .slice none 0 0]) rfl).named
            rw [← hu_]
            have S100 : Hid (St w noB [blk g94 28 [B.a, B.b, B.c, B.d, B.e, B.f, .slice none 0 0],blk g9 28 [(), (), (), (), (), (), .slice none 0 0],blk g4 25 [B.a, B.b, B.c, B.d, B.e, B.f]] U99):=Lib.hid hS_
            clear S96
            clear hu_ hS_ hg98
            refine wpG_done (fun V101 hv102=>?_)
            have S103 : Hid (St w noB [blk g94 28 [B.a, B.b, B.c, B.d, B.e, B.f, .slice none 0 0],blk g9 28 [(), (), (), (), (), (), .slice none 0 0],blk g4 25 [B.a, B.b, B.c, B.d, B.e, B.f]] V101):=Lib.hid (S100.out.gr hv102)
            clear S100
            clear hv102
            refine ⟨rfl,hK _ _ ?_⟩
            clear hK
            go_upto_region 12 with fail
            refine wpG_region_k (fun K hK=>?_)
            refine @wpG_p _ _ _ _ _ (some 11) () _ _ rfl (by rfl) (fun _=>rfl) ?_
            simp only [n1,n3,n4]
            refine wpG_done (fun V104 hv105=>?_)
            have S106 : Hid (St w noB [blk g94 28 [B.a, B.b, B.c, B.d, B.e, B.f, .slice none 0 0],blk g9 28 [(), (), (), (), (), (), .slice none 0 0],blk g4 25 [B.a, B.b, B.c, B.d, B.e, B.f]] V104):=Lib.hid (S103.out.gr hv105)
            clear S103
            clear hv105
            refine ⟨rfl,hK _ _ ?_⟩
            clear hK
            have S107 : Hid (St w noB [own (.slice none 0 0) 3 1 0 (ic []),blk g94 28 [B.a, B.b, B.c, B.d, B.e, B.f, .slice none 0 0],blk g9 28 [(), (), (), (), (), (), .slice none 0 0],blk g4 25 [B.a, B.b, B.c, B.d, B.e, B.f]] V104):=Lib.hid (S106.out.nilOwn 3 1)
            clear S106
            go_wp2_with fail
            go_loopw [11] (fun v11 wr=>∃ (A : Option Addr) (c k : Nat),v11 = .int .i64 (k : Int) ∧ (k : Int) ≤ B.vol ∧ St w noB [own (.slice A k c) 3 1 k (ic (List.replicate k m)),blk g94 28 [B.a, B.b, B.c, B.d, B.e, B.f, .slice A k c],blk g9 28 [(), (), (), (), (), (), .slice none 0 0],blk g4 25 [B.a, B.b, B.c, B.d, B.e, B.f]] wr) (fun i _=>B.vol.toNat - (intOf i).toNat)
            case atStart=>exact ⟨none,0,0,rfl,Gm.vol_nn B,S107.out⟩
            case round =>
              obtain ⟨A,c,k,rfl,hkv,hS⟩:=hrel
              have SL:=Lib.hid hS
              clear S107 hS
              have S108:=SL
              clear SL
              go_upto_region 13 with fail
              refine wpG_region_k (fun K hK=>?_)
              refine @wpG_p _ _ _ _ _ (some 41) (k : Int) _ _ rfl (by rfl) (fun _=>rfl) ?_
              simp only [n1,n3,n4]
              refine @wpG_p _ _ _ _ _ (some 42) B.vol _ _ rfl (by rfl) (fun _=>rfl) ?_
              simp only [n1,n3,n4]
              refine @wpG_p _ _ _ _ _ (some 43) (.bool (decide ((k : Int) < B.vol))) _ _ rfl (by rfl) (fun W=>op_int_lss W (k : Int) B.vol rfl rfl rfl Tryd.underlying3) ?_
              simp only [n1,n3,n4]
              refine wpG_done (fun V109 hv110=>?_)
              have S111 : Hid (St w noB [own (.slice A k c) 3 1 k (ic (List.replicate k m)),blk g94 28 [B.a, B.b, B.c, B.d, B.e, B.f, .slice A k c],blk g9 28 [(), (), (), (), (), (), .slice none 0 0],blk g4 25 [B.a, B.b, B.c, B.d, B.e, B.f]] V109):=Lib.hid (S108.out.gr hv110)
              clear S108
              clear hv110
              refine ⟨rfl,hK _ _ ?_⟩
              clear hK
              obtain ⟨c112,hc112⟩ : ∃ q_,q_ = (decide ((k : Int) < B.vol)):=⟨_,rfl⟩
              rw [← hc112]
              have Hc112:=Lib.hid hc112
              clear hc112
              cases c112 with
              | true =>
                have f113:=of_decide_eq_true Hc112.out.symm
                go_upto_region 15 with fail
                refine wpG_region_k (fun K hK=>?_)
                refine @wpG_p _ _ _ _ _ (some 46) (.pointer (some ⟨g94,6,none⟩)) _ _ rfl (by rfl) (fun W=>by go_simp) ?_
                simp only [n1,n3,n4]
                refine @wpG_r _ _ _ _ _ (some 47) (.slice A k c) _ _ rfl (by rfl) (fun W hg=>by have c:=(S111.out.gr hg).cell 1 rfl 6 rfl;go_simp) ?_
                simp only [n1,n3,n4]
                refine @wpG_p _ _ _ _ _ (some 48) m _ _ rfl (by rfl) (fun _=>rfl) ?_
                simp only [n1,n3,n4]
                refine wpG_val (some 49) rfl (by rfl) (fun W114 hg115=>⟨.slice (some ⟨W114.heap.size,0,none⟩) 1 1,W114.alloc (.cells #[m] 3),by (go_simp <;> rfl), ?_⟩)
                simp only [n1,n3,n4]
                obtain ⟨g116,U117,hg_,hu_,hS_⟩:=(S111.out.gr hg115).made [m] 3
                rw [← hu_,← hg_]
                have S118 : Hid (St w noB [blk g116 3 [m],own (.slice A k c) 3 1 k (ic (List.replicate k m)),blk g94 28 [B.a, B.b, B.c, B.d, B.e, B.f, .slice A k c],blk g9 28 [(), (), (), (), (), (), .slice none 0 0],blk g4 25 [B.a, B.b, B.c, B.d, B.e, B.f]] U117):=Lib.hid hS_
                clear S111
                clear hg_ hu_ hS_ hg115
                have S119 : Hid (St w noB [own (.slice A k c) 3 1 k (ic (List.replicate k m)),blk g116 3 [m],blk g94 28 [B.a, B.b, B.c, B.d, B.e, B.f, .slice A k c],blk g9 28 [(), (), (), (), (), (), .slice none 0 0],blk g4 25 [B.a, B.b, B.c, B.d, B.e, B.f]] U117):=Lib.hid (S118.out.front 1 rfl)
                clear S118
                refine wpG_appS (some 50) rfl rfl (.tmp 47) (.tmp 49) 26 26 rfl 3 1 8 Tryd.underlying26 (by kernel_rfl) (.slice A k c) k (ic (List.replicate k m)) S119.out (.slice (some ⟨g116,0,none⟩) 1 1) 1 [m] (fun W hg=>src_lies Tryd.underlying26 1 rfl (fun h=>by cases h) (by intro u hu;simp at hu;rcases hu with rfl <;> rfl) ((S119.out.gr hg).liesBlk 1 rfl)) rfl rfl (by simp only [maxLen];omega) (by omega) (fun v120 W121 hS_=>?_)
                simp only [n1,n3,n4]
                rw [show ic (List.replicate k m) ++ [.int .i64 m] = ic ((List.replicate k m) ++ [m]) by simp [ic]] at hS_
                obtain ⟨A122,k123,rfl,hle_,hcap_,_⟩:=own_shape (hS_.ownr 0 rfl)
                have S124 : Hid (St w noB [own (.slice A122 (k + 1) k123) 3 1 (k + 1) (ic ((List.replicate k m) ++ [m])),blk g116 3 [m],blk g94 28 [B.a, B.b, B.c, B.d, B.e, B.f, .slice A k c],blk g9 28 [(), (), (), (), (), (), .slice none 0 0],blk g4 25 [B.a, B.b, B.c, B.d, B.e, B.f]] W121):=Lib.hid hS_
                clear S119
                clear hS_
                refine @wpG_p _ _ _ _ _ (some 51) (.pointer (some ⟨g94,6,none⟩)) _ _ rfl (by rfl) (fun W=>by go_simp) ?_
                simp only [n1,n3,n4]
                refine wpG_store (none) rfl (by rfl) (fun W125 hg126=>⟨W125.setCell ⟨g94,6,none⟩ (.slice A122 (k + 1) k123),by have c:=(S124.out.gr hg126).cell 2 rfl 6 rfl;have c2:=(S124.out.gr hg126).soft 2 rfl 6 rfl;go_simp, ?_⟩)
                simp only [n2]
                obtain ⟨U127,hu_,hS_⟩:=((S124.out.gr hg126).put1 2 rfl 6 (.slice A122 (k + 1) k123)).named
                rw [← hu_]
                have S128 : Hid (St w noB [own (.slice A122 (k + 1) k123) 3 1 (k + 1) (ic ((List.replicate k m) ++ [m])),blk g116 3 [m],blk g94 28 [B.a, B.b, B.c, B.d, B.e, B.f, .slice A122 (k + 1) k123],blk g9 28 [(), (), (), (), (), (), .slice none 0 0],blk g4 25 [B.a, B.b, B.c, B.d, B.e, B.f]] U127):=Lib.hid hS_
                clear S124
                clear hu_ hS_ hg126
                refine wpG_done (fun V129 hv130=>?_)
                have S131 : Hid (St w noB [own (.slice A122 (k + 1) k123) 3 1 (k + 1) (ic ((List.replicate k m) ++ [m])),blk g116 3 [m],blk g94 28 [B.a, B.b, B.c, B.d, B.e, B.f, .slice A122 (k + 1) k123],blk g9 28 [(), (), (), (), (), (), .slice none 0 0],blk g4 25 [B.a, B.b, B.c, B.d, B.e, B.f]] V129):=Lib.hid (S128.out.gr hv130)
                clear S128
                clear hv130
                refine ⟨rfl,hK _ _ ?_⟩
                clear hK
                go_upto_region 14 with fail
                refine wpG_region_k (fun K hK=>?_)
                refine @wpG_p _ _ _ _ _ (some 44) (k : Int) _ _ rfl (by rfl) (fun _=>rfl) ?_
                simp only [n1,n3,n4]
                refine @wpG_p _ _ _ _ _ (some 45) ((k : Int) + 1:Int) _ _ rfl (by rfl) (fun W=>op_i_add W (k : Int) 1 (by omega) rfl rfl rfl Tryd.underlying3) ?_
                simp only [n1,n3,n4]
                refine @wpG_p _ _ _ _ _ (some 11) ((k : Int) + 1:Int) _ _ rfl (by rfl) (fun _=>rfl) ?_
                simp only [n1,n3,n4]
                refine wpG_done (fun V132 hv133=>?_)
                have S134 : Hid (St w noB [own (.slice A122 (k + 1) k123) 3 1 (k + 1) (ic ((List.replicate k m) ++ [m])),blk g116 3 [m],blk g94 28 [B.a, B.b, B.c, B.d, B.e, B.f, .slice A122 (k + 1) k123],blk g9 28 [(), (), (), (), (), (), .slice none 0 0],blk g4 25 [B.a, B.b, B.c, B.d, B.e, B.f]] V132):=Lib.hid (S131.out.gr hv133)
                clear S131
                clear hv133
                refine ⟨rfl,hK _ _ ?_⟩
                clear hK
                go_wp2_with fail
                go_roundw
                have S135 : Hid (St w noB [own (.slice A122 (k + 1) k123) 3 1 (k + 1) (ic ((List.replicate k m) ++ [m])),blk g94 28 [B.a, B.b, B.c, B.d, B.e, B.f, .slice A122 (k + 1) k123],blk g9 28 [(), (), (), (), (), (), .slice none 0 0],blk g4 25 [B.a, B.b, B.c, B.d, B.e, B.f]] V132):=Lib.hid (S134.out.sub (.cons_cons _ (.cons _ (.cons_cons _ (.cons_cons _ (.cons_cons _ .slnil))))))
                clear S134
                case rel=>exact ⟨A122,k123,k + 1,(by first | rfl | go_num),(by omega),(by rw [List.replicate_succ'];exact S135.out)⟩
                case measure=>first | (simp only [intOf];omega) | (simp [intOf];done) | (simp [intOf];omega) | omega
              | false =>
                have f136:=of_decide_eq_false Hc112.out.symm
                go_upto_region 16 with fail
                refine wpG_region_k (fun K hK=>?_)
                refine @wpG_tk _ _ _ _ _ (some 52) (.agg #[B.a, B.b, B.c, B.d, B.e, B.f, .slice A k c]) _ _ rfl (.load_mid (by rfl) 28 (.tmp 10) rfl g94 0 rfl [B.a, B.b, B.c, B.d, B.e, B.f, .slice A k c] _ (fun W hg=>(S111.out.gr hg).range 1 rfl 0 7 rfl) Tryd.underlying28 rfl (by kernel_rfl)) ?_
                simp only [n1,n3,n4]
                refine wpG_store (none) rfl (by rfl) (fun W137 hg138=>⟨_,run_store_mid 28 (.tmp 4) (.tmp 52) rfl g9 0 #[B.a, B.b, B.c, B.d, B.e, B.f, .slice A k c] rfl rfl ((S111.out.gr hg138).room 2 rfl 0 7 (by simp)) (by kernel_rfl) (by kernel_rfl), ?_⟩)
                simp only [n2]
                obtain ⟨U139,hu_,hS_⟩:=((S111.out.gr hg138).put 2 rfl 0 (#[B.a, B.b, B.c, B.d, B.e, B.f, .slice A k c] : Array Value).toList (ds:=[B.a, B.b, B.c, B.d, B.e, B.f, .slice A k c]) rfl).named
                rw [← hu_]
                have S140 : Hid (St w noB [own (.slice A k c) 3 1 k (ic (List.replicate k m)),blk g94 28 [B.a, B.b, B.c, B.d, B.e, B.f, .slice A k c],blk g9 28 [B.a, B.b, B.c, B.d, B.e, B.f, .slice A k c],blk g4 25 [B.a, B.b, B.c, B.d, B.e, B.f]] U139):=Lib.hid hS_
                clear S111
                clear hu_ hS_ hg138
                refine @wpG_p _ _ _ _ _ (some 5) () _ _ rfl (by rfl) (fun _=>rfl) ?_
                simp only [n1,n3,n4]
                refine wpG_done (fun V141 hv142=>?_)
                have S143 : Hid (St w noB [own (.slice A k c) 3 1 k (ic (List.replicate k m)),blk g94 28 [B.a, B.b, B.c, B.d, B.e, B.f, .slice A k c],blk g9 28 [B.a, B.b, B.c, B.d, B.e, B.f, .slice A k c],blk g4 25 [B.a, B.b, B.c, B.d, B.e, B.f]] V141):=Lib.hid (S140.out.gr hv142)
                clear S140
                clear hv142
                refine ⟨rfl,hK _ _ ?_⟩
                clear hK
                go_wp2_with fail
                (try simp only [Exit.inBlock,Exit.then])
                refine bodyPost_ret (results_cell_tmp rfl _ _ _ g9 0 [B.a, B.b, B.c, B.d, B.e, B.f, .slice A k c] _ rfl (S143.out.range 2 rfl 0 7 rfl) Tryd.underlying28 rfl (by kernel_rfl)) rfl ?_
                (have e_f36:=f36.out;have e_f49:=f49.out;have e_f62:=f62.out;obtain ⟨h1_,h2_,h3_⟩:=Gm.new_ok ⟨⟨e_f36,e_f49⟩,e_f62⟩ (by omega) (by omega);exact ⟨A,k,c,by rw [h1_,h2_];try rfl,by rw [h3_];have e_ : B.vol.toNat = k:=(by omega);rw [e_];exact S143.out.sub (.cons_cons _ (.cons _ (.cons _ (.cons _ .slnil))))⟩)
set_option maxRecDepth 1000000 in
set_option maxHeartbeats 4000000 in
theorem rpaste_any (B : Gm.Bx) (A : Option Addr) (n c : Nat) (l : List Int) (C : Gm.Bx) (E : Option Addr) (ne ce : Nat) (m : List Int) (w : World) (hG : SL w 1 A n c (ic l)) (hG2 : SL w 1 E ne ce (ic m)) (hok : Gm.ok B l) (hok2 : Gm.ok C m) :
    Calls Tryd.prog 55 #[.agg #[B.a, B.b, B.c, B.d, B.e, B.f, .slice A n c], .agg #[C.a, C.b, C.c, C.d, C.e, C.f, .slice E ne ce]] w fun e w'=>∃ A n c,e = .returned (.agg #[B.a, B.b, B.c, B.d, B.e, B.f, .slice A n c]) ∧ St w noB [own (.slice A n c) 3 1 n (ic (Gm.paste B l C m))] w':=by
  have HGA:=Lib.hid hG
  have HLEN : Hid (l.length = n):=Lib.hid (by have h_:=hG.len;rw [ic_len] at h_;omega)
  have hnbHGA : n ≤ 9223372036854775807:=Nat.le_trans hG.cap hG.bnd
  clear hG
  have HGB:=Lib.hid hG2
  have HLEN2 : Hid (m.length = ne):=Lib.hid (by have h_:=hG2.len;rw [ic_len] at h_;omega)
  have hnbHGB : ne ≤ 9223372036854775807:=Nat.le_trans hG2.cap hG2.bnd
  clear hG2
  have HOK:=Lib.hid hok
  clear hok
  have HOK2:=Lib.hid hok2
  clear hok2
  have S1 : Hid (St w noB [] w):=Lib.hid (St.start w)
  go_enter Tryd.func55,Tryd.ntmps55
  go_upto_region 0 with fail
  refine wpG_region_k (fun K hK=>?_)
  refine wpG_val (some 2) rfl (by rfl) (fun W2 hg3=>⟨.pointer (some ⟨W2.heap.size,0,none⟩),W2.alloc (.cells #[B.a, B.b, B.c, B.d, B.e, B.f, .slice A n c] 28),by (first | (go_simp;done) | (go_simp <;> rfl)), ?_⟩)
  simp only [n1,n3,n4]
  obtain ⟨g4,U5,hg_,hu_,hS_⟩:=(S1.out.gr hg3).made [B.a, B.b, B.c, B.d, B.e, B.f, .slice A n c] 28
  rw [← hu_,← hg_]
  have S6 : Hid (St w noB [blk g4 28 [B.a, B.b, B.c, B.d, B.e, B.f, .slice A n c]] U5):=Lib.hid hS_
  clear S1
  clear hg_ hu_ hS_ hg3
  refine wpG_val (some 3) rfl (by rfl) (fun W7 hg8=>⟨.pointer (some ⟨W7.heap.size,0,none⟩),W7.alloc (.cells #[C.a, C.b, C.c, C.d, C.e, C.f, .slice E ne ce] 28),by (first | (go_simp;done) | (go_simp <;> rfl)), ?_⟩)
  simp only [n1,n3,n4]
  obtain ⟨g9,U10,hg_,hu_,hS_⟩:=(S6.out.gr hg8).made [C.a, C.b, C.c, C.d, C.e, C.f, .slice E ne ce] 28
  rw [← hu_,← hg_]
  have S11 : Hid (St w noB [blk g9 28 [C.a, C.b, C.c, C.d, C.e, C.f, .slice E ne ce],blk g4 28 [B.a, B.b, B.c, B.d, B.e, B.f, .slice A n c]] U10):=Lib.hid hS_
  clear S6
  clear hg_ hu_ hS_ hg8
  refine wpG_val (some 4) rfl (by rfl) (fun W12 hg13=>⟨.pointer (some ⟨W12.heap.size,0,none⟩),W12.alloc (.cells #[(), (), (), (), (), (), .slice none 0 0] 28),by (first | (go_simp;done) | (go_simp <;> rfl)), ?_⟩)
  simp only [n1,n3,n4]
  obtain ⟨g14,U15,hg_,hu_,hS_⟩:=(S11.out.gr hg13).made [(), (), (), (), (), (), .slice none 0 0] 28
  rw [← hu_,← hg_]
  have S16 : Hid (St w noB [blk g14 28 [(), (), (), (), (), (), .slice none 0 0],blk g9 28 [C.a, C.b, C.c, C.d, C.e, C.f, .slice E ne ce],blk g4 28 [B.a, B.b, B.c, B.d, B.e, B.f, .slice A n c]] U15):=Lib.hid hS_
  clear S11
  clear hg_ hu_ hS_ hg13
  refine wpG_done (fun V17 hv18=>?_)
  have S19 : Hid (St w noB [blk g14 28 [(), (), (), (), (), (), .slice none 0 0],blk g9 28 [C.a, C.b, C.c, C.d, C.e, C.f, .slice E ne ce],blk g4 28 [B.a, B.b, B.c, B.d, B.e, B.f, .slice A n c]] V17):=Lib.hid (S16.out.gr hv18)
  clear S16
  clear hv18
  refine ⟨rfl,hK _ _ ?_⟩
  clear hK
  go_upto_region 1 with fail
  refine wpG_region_k (fun K hK=>?_)
  refine @wpG_tk _ _ _ _ _ (some 10) (.agg #[B.a, B.b, B.c, B.d, B.e, B.f, .slice A n c]) _ _ rfl (.load_mid (by rfl) 28 (.tmp 2) rfl g4 0 rfl [B.a, B.b, B.c, B.d, B.e, B.f, .slice A n c] _ (fun W hg=>(S19.out.gr hg).range 2 rfl 0 7 rfl) Tryd.underlying28 rfl (by kernel_rfl)) ?_
  simp only [n1,n3,n4]
  refine wpG_call (some 11) 82 #[.agg #[B.a, B.b, B.c, B.d, B.e, B.f, .slice A n c]] rfl (by rfl) (fun W=>by go_simp) (fun W23 hg24=>?_)
  refine (copied_any B _ _ _ l W23 (HGA.out.gr (S19.out.gr hg24).bel) (by (have a1:=HOK.out.vol;have a2:=HOK.out.max;have a3:=HLEN.out;omega))).mono ?_
  rintro e w25 ⟨A20,n21,c22,rfl,hS_⟩
  refine ⟨_,rfl, ?_⟩
  have hT_:=(S19.out.gr hg24).got hS_
  simp only [n1,n3,n4]
  have S26 : Hid (St w noB [own (.slice A20 n21 c22) 3 1 n21 (ic l),blk g14 28 [(), (), (), (), (), (), .slice none 0 0],blk g9 28 [C.a, C.b, C.c, C.d, C.e, C.f, .slice E ne ce],blk g4 28 [B.a, B.b, B.c, B.d, B.e, B.f, .slice A n c]] w25):=Lib.hid hT_
  clear S19
  clear hT_ hS_ hg24
  have hnn21 : n21 ≤ l.length ∧ l.length ≤ n21:=by have h_:=own_icl (S26.out.ownr 0 rfl);omega
  refine wpG_val (some 5) rfl (by rfl) (fun W27 hg28=>⟨.pointer (some ⟨W27.heap.size,0,none⟩),W27.alloc (.cells #[(), (), (), (), (), (), .slice none 0 0] 28),by (first | (go_simp;done) | (go_simp <;> rfl)), ?_⟩)
  simp only [n1,n3,n4]
  obtain ⟨g29,U30,hg_,hu_,hS_⟩:=(S26.out.gr hg28).made [(), (), (), (), (), (), .slice none 0 0] 28
  rw [← hu_,← hg_]
  have S31 : Hid (St w noB [blk g29 28 [(), (), (), (), (), (), .slice none 0 0],own (.slice A20 n21 c22) 3 1 n21 (ic l),blk g14 28 [(), (), (), (), (), (), .slice none 0 0],blk g9 28 [C.a, C.b, C.c, C.d, C.e, C.f, .slice E ne ce],blk g4 28 [B.a, B.b, B.c, B.d, B.e, B.f, .slice A n c]] U30):=Lib.hid hS_
  clear S26
  clear hg_ hu_ hS_ hg28
  refine wpG_store (none) rfl (by rfl) (fun W32 hg33=>⟨_,run_store_mid 28 (.tmp 5) (.tmp 11) rfl g29 0 #[B.a, B.b, B.c, B.d, B.e, B.f, .slice A20 n21 c22] rfl rfl ((S31.out.gr hg33).room 0 rfl 0 7 (by simp)) (by kernel_rfl) (by kernel_rfl), ?_⟩)
  simp only [n2]
  obtain ⟨U34,hu_,hS_⟩:=((S31.out.gr hg33).put 0 rfl 0 (#[B.a, B.b, B.c, B.d, B.e, B.f, .slice A20 n21 c22] : Array Value).toList (ds:=[B.a, B.b, B.c, B.d, B.e, B.f, .slice A20 n21 c22]) rfl).named
  rw [← hu_]
  have S35 : Hid (St w noB [blk g29 28 [B.a, B.b, B.c, B.d, B.e, B.f, .slice A20 n21 c22],own (.slice A20 n21 c22) 3 1 n21 (ic l),blk g14 28 [(), (), (), (), (), (), .slice none 0 0],blk g9 28 [C.a, C.b, C.c, C.d, C.e, C.f, .slice E ne ce],blk g4 28 [B.a, B.b, B.c, B.d, B.e, B.f, .slice A n c]] U34):=Lib.hid hS_
  clear S31
  clear hu_ hS_ hg33
  refine wpG_done (fun V36 hv37=>?_)
  have S38 : Hid (St w noB [blk g29 28 [B.a, B.b, B.c, B.d, B.e, B.f, .slice A20 n21 c22],own (.slice A20 n21 c22) 3 1 n21 (ic l),blk g14 28 [(), (), (), (), (), (), .slice none 0 0],blk g9 28 [C.a, C.b, C.c, C.d, C.e, C.f, .slice E ne ce],blk g4 28 [B.a, B.b, B.c, B.d, B.e, B.f, .slice A n c]] V36):=Lib.hid (S35.out.gr hv37)
  clear S35
  clear hv37
  refine ⟨rfl,hK _ _ ?_⟩
  clear hK
  go_upto_region 2 with fail
  refine wpG_region_k (fun K hK=>?_)
  refine @wpG_p _ _ _ _ _ (some 6) () _ _ rfl (by rfl) (fun _=>rfl) ?_
  simp only [n1,n3,n4]
  refine wpG_done (fun V39 hv40=>?_)
  have S41 : Hid (St w noB [blk g29 28 [B.a, B.b, B.c, B.d, B.e, B.f, .slice A20 n21 c22],own (.slice A20 n21 c22) 3 1 n21 (ic l),blk g14 28 [(), (), (), (), (), (), .slice none 0 0],blk g9 28 [C.a, C.b, C.c, C.d, C.e, C.f, .slice E ne ce],blk g4 28 [B.a, B.b, B.c, B.d, B.e, B.f, .slice A n c]] V39):=Lib.hid (S38.out.gr hv40)
  clear S38
  clear hv40
  refine ⟨rfl,hK _ _ ?_⟩
  clear hK
  have S42 : Hid (St w noB [blk g29 28 [B.a, B.b, B.c, B.d, B.e, B.f, .slice A20 n21 c22],own (.slice A20 n21 c22) 3 1 n21 (ic (Gm.upd B (fun x y z=>C.inb x y z) (fun x y z=>Gm.get C m x y z) l 0)),blk g14 28 [(), (), (), (), (), (), .slice none 0 0],blk g9 28 [C.a, C.b, C.c, C.d, C.e, C.f, .slice E ne ce],blk g4 28 [B.a, B.b, B.c, B.d, B.e, B.f, .slice A n c]] V39):=Lib.hid (by rw [Gm.upd_zero];exact S41.out)
  clear S41
  go_wp2_with fail
  go_loopw [6] (fun v6 wr=>∃ (k : Nat),v6 = .int .i64 (k : Int) ∧ k ≤ n ∧ St w noB [blk g29 28 [B.a, B.b, B.c, B.d, B.e, B.f, .slice A20 n21 c22],own (.slice A20 n21 c22) 3 1 n21 (ic (Gm.upd B (fun x y z=>C.inb x y z) (fun x y z=>Gm.get C m x y z) l k)),blk g14 28 [(), (), (), (), (), (), .slice none 0 0],blk g9 28 [C.a, C.b, C.c, C.d, C.e, C.f, .slice E ne ce],blk g4 28 [B.a, B.b, B.c, B.d, B.e, B.f, .slice A n c]] wr) (fun i _=>n - (intOf i).toNat)
  case atStart=>exact ⟨0,rfl,Nat.zero_le _,S42.out⟩
  case round =>
    obtain ⟨k,rfl,hkn,hS⟩:=hrel
    have SL:=Lib.hid hS
    clear S42 hS
    have S43:=SL
    clear SL
    go_upto_region 3 with fail
    refine wpG_region_k (fun K hK=>?_)
    refine @wpG_p _ _ _ _ _ (some 12) (k : Int) _ _ rfl (by rfl) (fun _=>rfl) ?_
    simp only [n1,n3,n4]
    refine @wpG_p _ _ _ _ _ (some 13) (.pointer (some ⟨g4,6,none⟩)) _ _ rfl (by rfl) (fun W=>by go_simp) ?_
    simp only [n1,n3,n4]
    refine @wpG_r _ _ _ _ _ (some 14) (.slice A n c) _ _ rfl (by rfl) (fun W hg=>by have c:=(S43.out.gr hg).cell 4 rfl 6 rfl;go_simp) ?_
    simp only [n1,n3,n4]
    refine @wpG_p _ _ _ _ _ (some 15) (n : Int) _ _ rfl (by rfl) (fun W=>by go_simp) ?_
    simp only [n1,n3,n4]
    refine @wpG_p _ _ _ _ _ (some 16) (.bool (decide ((k : Int) < (n : Int)))) _ _ rfl (by rfl) (fun W=>op_int_lss W (k : Int) (n : Int) rfl rfl rfl Tryd.underlying3) ?_
    simp only [n1,n3,n4]
    refine wpG_done (fun V44 hv45=>?_)
    have S46 : Hid (St w noB [blk g29 28 [B.a, B.b, B.c, B.d, B.e, B.f, .slice A20 n21 c22],own (.slice A20 n21 c22) 3 1 n21 (ic (Gm.upd B (fun x y z=>C.inb x y z) (fun x y z=>Gm.get C m x y z) l k)),blk g14 28 [(), (), (), (), (), (), .slice none 0 0],blk g9 28 [C.a, C.b, C.c, C.d, C.e, C.f, .slice E ne ce],blk g4 28 [B.a, B.b, B.c, B.d, B.e, B.f, .slice A n c]] V44):=Lib.hid (S43.out.gr hv45)
    clear S43
    clear hv45
    refine ⟨rfl,hK _ _ ?_⟩
    clear hK
    obtain ⟨c47,hc47⟩ : ∃ q_,q_ = (decide ((k : Int) < (n : Int))):=⟨_,rfl⟩
    rw [← hc47]
    have Hc47:=Lib.hid hc47
    clear hc47
    cases c47 with
    | true =>
      have f48:=of_decide_eq_true Hc47.out.symm
      go_upto_region 5 with fail
      refine wpG_region_k (fun K hK=>?_)
      refine @wpG_p _ _ _ _ _ (some 20) (.pointer (some ⟨g4,0,none⟩)) _ _ rfl (by rfl) (fun W=>by go_simp) ?_
      simp only [n1,n3,n4]
      refine @wpG_tk _ _ _ _ _ (some 21) (.agg #[B.a, B.b, B.c, B.d, B.e, B.f]) _ _ rfl (.load_mid (by rfl) 25 (.tmp 20) rfl g4 0 rfl [B.a, B.b, B.c, B.d, B.e, B.f] _ (fun W hg=>(S46.out.gr hg).range 4 rfl 0 6 rfl) Tryd.underlying25 rfl (by kernel_rfl)) ?_
      simp only [n1,n3,n4]
      refine @wpG_p _ _ _ _ _ (some 22) (k : Int) _ _ rfl (by rfl) (fun _=>rfl) ?_
      simp only [n1,n3,n4]
      refine @wpG_tk _ _ _ _ _ (some 23) (.tuple #[.agg #[(B.ax (k : Int):Int), (B.ay (k : Int):Int), (B.az (k : Int):Int)], .bool true]) _ _ rfl (.call (f:=83) (args:=#[.agg #[B.a, B.b, B.c, B.d, B.e, B.f], (k : Int)]) (by rfl) (fun W=>by go_simp) (fun W hg=>at_b W B (k : Int) HOK.out.rg (by omega) (by (have a1:=HOK.out.vol;have a3:=HLEN.out;omega)))) ?_
      simp only [n1,n3,n4]
      refine @wpG_p _ _ _ _ _ (some 19) (.tuple #[.agg #[(B.ax (k : Int):Int), (B.ay (k : Int):Int), (B.az (k : Int):Int)], .bool true]) _ _ rfl (by rfl) (fun _=>rfl) ?_
      simp only [n1,n3,n4]
      refine @wpG_p _ _ _ _ _ (some 24) (.agg #[(B.ax (k : Int):Int), (B.ay (k : Int):Int), (B.az (k : Int):Int)]) _ _ rfl (by rfl) (fun W=>by go_simp) ?_
      simp only [n1,n3,n4]
      refine @wpG_p _ _ _ _ _ (some 25) (.bool true) _ _ rfl (by rfl) (fun W=>by go_simp) ?_
      simp only [n1,n3,n4]
      refine wpG_val (some 7) rfl (by rfl) (fun W49 hg50=>⟨.pointer (some ⟨W49.heap.size,0,none⟩),W49.alloc (.cells #[(), (), ()] 23),by (first | (go_simp;done) | (go_simp <;> rfl)), ?_⟩)
      simp only [n1,n3,n4]
      obtain ⟨g51,U52,hg_,hu_,hS_⟩:=(S46.out.gr hg50).made [(), (), ()] 23
      rw [← hu_,← hg_]
      have S53 : Hid (St w noB [blk g51 23 [(), (), ()],blk g29 28 [B.a, B.b, B.c, B.d, B.e, B.f, .slice A20 n21 c22],own (.slice A20 n21 c22) 3 1 n21 (ic (Gm.upd B (fun x y z=>C.inb x y z) (fun x y z=>Gm.get C m x y z) l k)),blk g14 28 [(), (), (), (), (), (), .slice none 0 0],blk g9 28 [C.a, C.b, C.c, C.d, C.e, C.f, .slice E ne ce],blk g4 28 [B.a, B.b, B.c, B.d, B.e, B.f, .slice A n c]] U52):=Lib.hid hS_
      clear S46
      clear hg_ hu_ hS_ hg50
      refine wpG_store (none) rfl (by rfl) (fun W54 hg55=>⟨_,run_store_mid 23 (.tmp 7) (.tmp 24) rfl g51 0 #[(B.ax (k : Int):Int), (B.ay (k : Int):Int), (B.az (k : Int):Int)] rfl rfl ((S53.out.gr hg55).room 0 rfl 0 3 (by simp)) (by kernel_rfl) (by kernel_rfl), ?_⟩)
      simp only [n2]
      obtain ⟨U56,hu_,hS_⟩:=((S53.out.gr hg55).put 0 rfl 0 (#[(B.ax (k : Int):Int), (B.ay (k : Int):Int), (B.az (k : Int):Int)] : Array Value).toList (ds:=[(B.ax (k : Int):Int), (B.ay (k : Int):Int), (B.az (k : Int):Int)]) rfl).named
      rw [← hu_]
      have S57 : Hid (St w noB [blk g51 23 [(B.ax (k : Int):Int), (B.ay (k : Int):Int), (B.az (k : Int):Int)],blk g29 28 [B.a, B.b, B.c, B.d, B.e, B.f, .slice A20 n21 c22],own (.slice A20 n21 c22) 3 1 n21 (ic (Gm.upd B (fun x y z=>C.inb x y z) (fun x y z=>Gm.get C m x y z) l k)),blk g14 28 [(), (), (), (), (), (), .slice none 0 0],blk g9 28 [C.a, C.b, C.c, C.d, C.e, C.f, .slice E ne ce],blk g4 28 [B.a, B.b, B.c, B.d, B.e, B.f, .slice A n c]] U56):=Lib.hid hS_
      clear S53
      clear hu_ hS_ hg55
      refine @wpG_p _ _ _ _ _ (some 8) (.bool true) _ _ rfl (by rfl) (fun _=>rfl) ?_
      simp only [n1,n3,n4]
      refine wpG_done (fun V58 hv59=>?_)
      have S60 : Hid (St w noB [blk g51 23 [(B.ax (k : Int):Int), (B.ay (k : Int):Int), (B.az (k : Int):Int)],blk g29 28 [B.a, B.b, B.c, B.d, B.e, B.f, .slice A20 n21 c22],own (.slice A20 n21 c22) 3 1 n21 (ic (Gm.upd B (fun x y z=>C.inb x y z) (fun x y z=>Gm.get C m x y z) l k)),blk g14 28 [(), (), (), (), (), (), .slice none 0 0],blk g9 28 [C.a, C.b, C.c, C.d, C.e, C.f, .slice E ne ce],blk g4 28 [B.a, B.b, B.c, B.d, B.e, B.f, .slice A n c]] V58):=Lib.hid (S57.out.gr hv59)
      clear S57
      clear hv59
      refine ⟨rfl,hK _ _ ?_⟩
      clear hK
      go_upto_region 6 with fail
      refine wpG_region_k (fun K hK=>?_)
      refine @wpG_tk _ _ _ _ _ (some 26) (.agg #[(B.ax (k : Int):Int), (B.ay (k : Int):Int), (B.az (k : Int):Int)]) _ _ rfl (.load_mid (by rfl) 23 (.tmp 7) rfl g51 0 rfl [(B.ax (k : Int):Int), (B.ay (k : Int):Int), (B.az (k : Int):Int)] _ (fun W hg=>(S60.out.gr hg).range 0 rfl 0 3 rfl) Tryd.underlying23 rfl (by kernel_rfl)) ?_
      simp only [n1,n3,n4]
      refine @wpG_p _ _ _ _ _ (some 27) (.pointer (some ⟨g9,0,none⟩)) _ _ rfl (by rfl) (fun W=>by go_simp) ?_
      simp only [n1,n3,n4]
      refine @wpG_tk _ _ _ _ _ (some 28) (.agg #[C.a, C.b, C.c, C.d, C.e, C.f]) _ _ rfl (.load_mid (by rfl) 25 (.tmp 27) rfl g9 0 rfl [C.a, C.b, C.c, C.d, C.e, C.f] _ (fun W hg=>(S60.out.gr hg).range 4 rfl 0 6 rfl) Tryd.underlying25 rfl (by kernel_rfl)) ?_
      simp only [n1,n3,n4]
      refine @wpG_tk _ _ _ _ _ (some 29) (.bool (C.inb (B.ax (k : Int)) (B.ay (k : Int)) (B.az (k : Int)))) _ _ rfl (.call (f:=23) (args:=#[.agg #[(B.ax (k : Int):Int), (B.ay (k : Int):Int), (B.az (k : Int):Int)], .agg #[C.a, C.b, C.c, C.d, C.e, C.f]]) (by rfl) (fun W=>by go_simp) (fun W hg=>in_b W (B.ax (k : Int)) (B.ay (k : Int)) (B.az (k : Int)) C)) ?_
      simp only [n1,n3,n4]
      refine @wpG_p _ _ _ _ _ (some 9) (.bool (C.inb (B.ax (k : Int)) (B.ay (k : Int)) (B.az (k : Int)))) _ _ rfl (by rfl) (fun _=>rfl) ?_
      simp only [n1,n3,n4]
      refine wpG_done (fun V61 hv62=>?_)
      have S63 : Hid (St w noB [blk g51 23 [(B.ax (k : Int):Int), (B.ay (k : Int):Int), (B.az (k : Int):Int)],blk g29 28 [B.a, B.b, B.c, B.d, B.e, B.f, .slice A20 n21 c22],own (.slice A20 n21 c22) 3 1 n21 (ic (Gm.upd B (fun x y z=>C.inb x y z) (fun x y z=>Gm.get C m x y z) l k)),blk g14 28 [(), (), (), (), (), (), .slice none 0 0],blk g9 28 [C.a, C.b, C.c, C.d, C.e, C.f, .slice E ne ce],blk g4 28 [B.a, B.b, B.c, B.d, B.e, B.f, .slice A n c]] V61):=Lib.hid (S60.out.gr hv62)
      clear S60
      clear hv62
      refine ⟨rfl,hK _ _ ?_⟩
      clear hK
      go_upto_region 7 with fail
      refine wpG_region_k (fun K hK=>?_)
      refine @wpG_p _ _ _ _ _ (some 30) (.bool (C.inb (B.ax (k : Int)) (B.ay (k : Int)) (B.az (k : Int)))) _ _ rfl (by rfl) (fun _=>rfl) ?_
      simp only [n1,n3,n4]
      refine wpG_done (fun V64 hv65=>?_)
      have S66 : Hid (St w noB [blk g51 23 [(B.ax (k : Int):Int), (B.ay (k : Int):Int), (B.az (k : Int):Int)],blk g29 28 [B.a, B.b, B.c, B.d, B.e, B.f, .slice A20 n21 c22],own (.slice A20 n21 c22) 3 1 n21 (ic (Gm.upd B (fun x y z=>C.inb x y z) (fun x y z=>Gm.get C m x y z) l k)),blk g14 28 [(), (), (), (), (), (), .slice none 0 0],blk g9 28 [C.a, C.b, C.c, C.d, C.e, C.f, .slice E ne ce],blk g4 28 [B.a, B.b, B.c, B.d, B.e, B.f, .slice A n c]] V64):=Lib.hid (S63.out.gr hv65)
      clear S63
      clear hv65
      refine ⟨rfl,hK _ _ ?_⟩
      clear hK
      obtain ⟨c67,hc67⟩ : ∃ q_,q_ = (C.inb (B.ax (k : Int)) (B.ay (k : Int)) (B.az (k : Int))):=⟨_,rfl⟩
      rw [← hc67]
      have Hc67:=Lib.hid hc67
      clear hc67
      cases c67 with
      | true =>
        have f68:=Lib.hid (Hc67.out.symm)
        go_upto_region 8 with fail
        refine wpK_region_k (by kernel_rfl) (fun K hK=>?_)
        refine wpK_ta (i:=0) (some 31) (v:=.pointer (some ⟨g29,6,none⟩)) rfl rfl (by kernel_rfl) (fun _ _ _ h=>onN_panic h) (Or.inl ⟨by rfl,fun W=>by go_simp⟩) ?_
        simp only [n1,n3,n4]
        refine wpK_ta (i:=2) (some 33) (v:=(k : Int)) rfl rfl (by kernel_rfl) (fun _ _ _ h=>onN_panic h) (Or.inl ⟨rfl,fun _=>rfl⟩) ?_
        simp only [n1,n3,n4]
        refine wpK_tk (i:=1) (some 32) (v:=.slice A20 n21 c22) rfl rfl (by kernel_rfl) (fun _ _ _ h=>onN_panic h) (.val (by rfl) (fun W hg=>by have c:=(S66.out.gr (Gr.un hg)).cell 1 rfl 6 rfl;go_simp)) ?_
        simp only [n1,n3,n4]
        refine wpK_tk (i:=3) (some 34) (v:=.agg #[C.a, C.b, C.c, C.d, C.e, C.f, .slice E ne ce]) rfl rfl (by kernel_rfl) (fun _ _ _ h=>onN_panic h) (.load_mid (by rfl) 28 (.tmp 3) rfl g9 0 rfl [C.a, C.b, C.c, C.d, C.e, C.f, .slice E ne ce] _ (fun W hg=>(S66.out.gr (Gr.un hg)).range 4 rfl 0 7 rfl) Tryd.underlying28 rfl (by kernel_rfl)) ?_
        simp only [n1,n3,n4]
        refine wpK_tk (i:=4) (some 35) (v:=.agg #[(B.ax (k : Int):Int), (B.ay (k : Int):Int), (B.az (k : Int):Int)]) rfl rfl (by kernel_rfl) (fun _ _ _ h=>onN_panic h) (.load_mid (by rfl) 23 (.tmp 7) rfl g51 0 rfl [(B.ax (k : Int):Int), (B.ay (k : Int):Int), (B.az (k : Int):Int)] _ (fun W hg=>(S66.out.gr (Gr.un hg)).range 0 rfl 0 3 rfl) Tryd.underlying23 rfl (by kernel_rfl)) ?_
        simp only [n1,n3,n4]
        refine wpK_tk (i:=5) (some 36) (v:=(Gm.get C m (B.ax (k : Int)) (B.ay (k : Int)) (B.az (k : Int)))) rfl rfl (by kernel_rfl) (fun _ _ _ h=>onN_panic h) (.call (f:=84) (args:=#[.agg #[C.a, C.b, C.c, C.d, C.e, C.f, .slice E ne ce], .agg #[(B.ax (k : Int):Int), (B.ay (k : Int):Int), (B.az (k : Int):Int)]]) (by rfl) (fun W=>by go_simp) (fun W hg=>rget_any C _ _ _ m (B.ax (k : Int)) (B.ay (k : Int)) (B.az (k : Int)) W (HGB.out.gr (S66.out.gr (Gr.un hg)).bel) HOK2.out (Gm.at_rp HOK.out.rg (by omega) (by (have a1:=HOK.out.vol;have a3:=HLEN.out;omega))))) ?_
        simp only [n1,n3,n4]
        obtain ⟨og69,rfl⟩:=ownAdr (S66.out.ownr 2 rfl) (by (have a3:=HLEN.out;omega))
        have hix_ : k < n21:=by (have a3:=HLEN.out;omega)
        refine wpK_ta (i:=6) (some 37) (v:=.pointer (some ⟨og69,k,none⟩)) rfl rfl (by kernel_rfl) (fun _ _ _ h=>onN_panic h) (Or.inl ⟨by rfl,fun W=>by (go_simp <;> first | rfl | omega | (simp;omega))⟩) ?_
        simp only [n1,n3,n4]
        refine wpK_store (i:=7) (none) rfl rfl (by kernel_rfl) (by rfl) (by rfl) (fun W70 hg71=>⟨W70.setCell ⟨og69,k,none⟩ (Gm.get C m (B.ax (k : Int)) (B.ay (k : Int)) (B.az (k : Int))),by obtain ⟨⟨_,c⟩,c2⟩:=own_cell (k:=k) ((S66.out.gr (Gr.un hg71)).ownr 2 rfl) (by (have a3:=HLEN.out;omega));go_simp, ?_⟩)
        simp only [n2]
        obtain ⟨U72,hu_,hS_⟩:=((S66.out.gr (Gr.un hg71)).ownPutAt 2 rfl (k:=k) (by (have a3:=HLEN.out;omega)) (Gm.get C m (B.ax (k : Int)) (B.ay (k : Int)) (B.az (k : Int)))).named
        rw [← hu_]
        have hS2_ : St w noB [blk g51 23 [.int .i64 (B.ax (k : Int)), .int .i64 (B.ay (k : Int)), .int .i64 (B.az (k : Int))],blk g29 28 [.int .i64 B.a, .int .i64 B.b, .int .i64 B.c, .int .i64 B.d, .int .i64 B.e, .int .i64 B.f, .slice (some ⟨og69,0,none⟩) n21 c22],own (.slice (some ⟨og69,0,none⟩) n21 c22) 3 1 n21 (ic ((Gm.upd B (fun x y z=>C.inb x y z) (fun x y z=>Gm.get C m x y z) l k).set k (Gm.get C m (B.ax (k : Int)) (B.ay (k : Int)) (B.az (k : Int))))),blk g14 28 [.int .i64 0, .int .i64 0, .int .i64 0, .int .i64 0, .int .i64 0, .int .i64 0, .slice none 0 0],blk g9 28 [.int .i64 C.a, .int .i64 C.b, .int .i64 C.c, .int .i64 C.d, .int .i64 C.e, .int .i64 C.f, .slice E ne ce],blk g4 28 [.int .i64 B.a, .int .i64 B.b, .int .i64 B.c, .int .i64 B.d, .int .i64 B.e, .int .i64 B.f, .slice A n c]] U72:=by have h_:=hS_;rw [show (ic (Gm.upd B (fun x y z=>C.inb x y z) (fun x y z=>Gm.get C m x y z) l k)).set k (.int .i64 (Gm.get C m (B.ax (k : Int)) (B.ay (k : Int)) (B.az (k : Int)))) = ic ((Gm.upd B (fun x y z=>C.inb x y z) (fun x y z=>Gm.get C m x y z) l k).set k (Gm.get C m (B.ax (k : Int)) (B.ay (k : Int)) (B.az (k : Int)))) from ic_set _ _ _] at h_;exact h_
        clear hS_
        have hS_:=hS2_
        clear hS2_
        have S73 : Hid (St w noB [blk g51 23 [(B.ax (k : Int):Int), (B.ay (k : Int):Int), (B.az (k : Int):Int)],blk g29 28 [B.a, B.b, B.c, B.d, B.e, B.f, .slice (some ⟨og69,0,none⟩) n21 c22],own (.slice (some ⟨og69,0,none⟩) n21 c22) 3 1 n21 (ic ((Gm.upd B (fun x y z=>C.inb x y z) (fun x y z=>Gm.get C m x y z) l k).set k (Gm.get C m (B.ax (k : Int)) (B.ay (k : Int)) (B.az (k : Int))))),blk g14 28 [(), (), (), (), (), (), .slice none 0 0],blk g9 28 [C.a, C.b, C.c, C.d, C.e, C.f, .slice E ne ce],blk g4 28 [B.a, B.b, B.c, B.d, B.e, B.f, .slice A n c]] U72):=Lib.hid hS_
        clear S66
        clear hu_ hS_ hg71
        refine wpK_done (by kernel_rfl) (fun V74 hv75=>?_) _
        have S76 : Hid (St w noB [blk g51 23 [(B.ax (k : Int):Int), (B.ay (k : Int):Int), (B.az (k : Int):Int)],blk g29 28 [B.a, B.b, B.c, B.d, B.e, B.f, .slice (some ⟨og69,0,none⟩) n21 c22],own (.slice (some ⟨og69,0,none⟩) n21 c22) 3 1 n21 (ic ((Gm.upd B (fun x y z=>C.inb x y z) (fun x y z=>Gm.get C m x y z) l k).set k (Gm.get C m (B.ax (k : Int)) (B.ay (k : Int)) (B.az (k : Int))))),blk g14 28 [(), (), (), (), (), (), .slice none 0 0],blk g9 28 [C.a, C.b, C.c, C.d, C.e, C.f, .slice E ne ce],blk g4 28 [B.a, B.b, B.c, B.d, B.e, B.f, .slice A n c]] V74):=Lib.hid (S73.out.gr hv75)
        clear S73
        clear hv75
        refine ⟨rfl,hK _ _ ?_⟩
        clear hK
        go_upto_region 4 with fail
        refine wpG_region_k (fun K hK=>?_)
        refine @wpG_p _ _ _ _ _ (some 17) (k : Int) _ _ rfl (by rfl) (fun _=>rfl) ?_
        simp only [n1,n3,n4]
        refine @wpG_p _ _ _ _ _ (some 18) ((k : Int) + 1:Int) _ _ rfl (by rfl) (fun W=>op_i_add W (k : Int) 1 (by omega) rfl rfl rfl Tryd.underlying3) ?_
        simp only [n1,n3,n4]
        refine @wpG_p _ _ _ _ _ (some 6) ((k : Int) + 1:Int) _ _ rfl (by rfl) (fun _=>rfl) ?_
        simp only [n1,n3,n4]
        refine wpG_done (fun V77 hv78=>?_)
        have S79 : Hid (St w noB [blk g51 23 [(B.ax (k : Int):Int), (B.ay (k : Int):Int), (B.az (k : Int):Int)],blk g29 28 [B.a, B.b, B.c, B.d, B.e, B.f, .slice (some ⟨og69,0,none⟩) n21 c22],own (.slice (some ⟨og69,0,none⟩) n21 c22) 3 1 n21 (ic ((Gm.upd B (fun x y z=>C.inb x y z) (fun x y z=>Gm.get C m x y z) l k).set k (Gm.get C m (B.ax (k : Int)) (B.ay (k : Int)) (B.az (k : Int))))),blk g14 28 [(), (), (), (), (), (), .slice none 0 0],blk g9 28 [C.a, C.b, C.c, C.d, C.e, C.f, .slice E ne ce],blk g4 28 [B.a, B.b, B.c, B.d, B.e, B.f, .slice A n c]] V77):=Lib.hid (S76.out.gr hv78)
        clear S76
        clear hv78
        refine ⟨rfl,hK _ _ ?_⟩
        clear hK
        go_wp2_with fail
        go_roundw
        have S80 : Hid (St w noB [blk g29 28 [B.a, B.b, B.c, B.d, B.e, B.f, .slice (some ⟨og69,0,none⟩) n21 c22],own (.slice (some ⟨og69,0,none⟩) n21 c22) 3 1 n21 (ic ((Gm.upd B (fun x y z=>C.inb x y z) (fun x y z=>Gm.get C m x y z) l k).set k (Gm.get C m (B.ax (k : Int)) (B.ay (k : Int)) (B.az (k : Int))))),blk g14 28 [(), (), (), (), (), (), .slice none 0 0],blk g9 28 [C.a, C.b, C.c, C.d, C.e, C.f, .slice E ne ce],blk g4 28 [B.a, B.b, B.c, B.d, B.e, B.f, .slice A n c]] V77):=Lib.hid (S79.out.sub (.cons _ (.cons_cons _ (.cons_cons _ (.cons_cons _ (.cons_cons _ (.cons_cons _ .slnil)))))))
        clear S79
        case rel=>exact ⟨k + 1,(by first | rfl | go_num),(by omega),(by have e_f68:=f68.out;rw [Gm.upd_yes (by have:=HLEN.out;omega) e_f68];exact S80.out)⟩
        case measure=>first | (simp only [intOf];omega) | (simp [intOf];done) | (simp [intOf];omega) | omega
      | false =>
        have f81:=Lib.hid (Hc67.out.symm)
        go_upto_region 4 with fail
        refine wpG_region_k (fun K hK=>?_)
        refine @wpG_p _ _ _ _ _ (some 17) (k : Int) _ _ rfl (by rfl) (fun _=>rfl) ?_
        simp only [n1,n3,n4]
        refine @wpG_p _ _ _ _ _ (some 18) ((k : Int) + 1:Int) _ _ rfl (by rfl) (fun W=>op_i_add W (k : Int) 1 (by omega) rfl rfl rfl Tryd.underlying3) ?_
        simp only [n1,n3,n4]
        refine @wpG_p _ _ _ _ _ (some 6) ((k : Int) + 1:Int) _ _ rfl (by rfl) (fun _=>rfl) ?_
        simp only [n1,n3,n4]
        refine wpG_done (fun V82 hv83=>?_)
        have S84 : Hid (St w noB [blk g51 23 [(B.ax (k : Int):Int), (B.ay (k : Int):Int), (B.az (k : Int):Int)],blk g29 28 [B.a, B.b, B.c, B.d, B.e, B.f, .slice A20 n21 c22],own (.slice A20 n21 c22) 3 1 n21 (ic (Gm.upd B (fun x y z=>C.inb x y z) (fun x y z=>Gm.get C m x y z) l k)),blk g14 28 [(), (), (), (), (), (), .slice none 0 0],blk g9 28 [C.a, C.b, C.c, C.d, C.e, C.f, .slice E ne ce],blk g4 28 [B.a, B.b, B.c, B.d, B.e, B.f, .slice A n c]] V82):=Lib.hid (S66.out.gr hv83)
        clear S66
        clear hv83
        refine ⟨rfl,hK _ _ ?_⟩
        clear hK
        go_wp2_with fail
        go_roundw
        have S85 : Hid (St w noB [blk g29 28 [B.a, B.b, B.c, B.d, B.e, B.f, .slice A20 n21 c22],own (.slice A20 n21 c22) 3 1 n21 (ic (Gm.upd B (fun x y z=>C.inb x y z) (fun x y z=>Gm.get C m x y z) l k)),blk g14 28 [(), (), (), (), (), (), .slice none 0 0],blk g9 28 [C.a, C.b, C.c, C.d, C.e, C.f, .slice E ne ce],blk g4 28 [B.a, B.b, B.c, B.d, B.e, B.f, .slice A n c]] V82):=Lib.hid (S84.out.sub (.cons _ (.cons_cons _ (.cons_cons _ (.cons_cons _ (.cons_cons _ (.cons_cons _ .slnil)))))))
        clear S84
        case rel=>exact ⟨k + 1,(by first | rfl | go_num),(by omega),(by have e_f81:=f81.out;rw [Gm.upd_no (by have:=HLEN.out;omega) e_f81];exact S85.out)⟩
        case measure=>first | (simp only [intOf];omega) | (simp [intOf];done) | (simp [intOf];omega) | omega
    | false =>
      have f86:=of_decide_eq_false Hc47.out.symm
      go_upto_region 9 with fail
      refine wpG_region_k (fun K hK=>?_)
      refine @wpG_tk _ _ _ _ _ (some 38) (.agg #[B.a, B.b, B.c, B.d, B.e, B.f, .slice A20 n21 c22]) _ _ rfl (.load_mid (by rfl) 28 (.tmp 5) rfl g29 0 rfl [B.a, B.b, B.c, B.d, B.e, B.f, .slice A20 n21 c22] _ (fun W hg=>(S46.out.gr hg).range 0 rfl 0 7 rfl) Tryd.underlying28 rfl (by kernel_rfl)) ?_
      simp only [n1,n3,n4]
      refine wpG_store (none) rfl (by rfl) (fun W87 hg88=>⟨_,run_store_mid 28 (.tmp 4) (.tmp 38) rfl g14 0 #[B.a, B.b, B.c, B.d, B.e, B.f, .slice A20 n21 c22] rfl rfl ((S46.out.gr hg88).room 2 rfl 0 7 (by simp)) (by kernel_rfl) (by kernel_rfl), ?_⟩)
      simp only [n2]
      obtain ⟨U89,hu_,hS_⟩:=((S46.out.gr hg88).put 2 rfl 0 (#[B.a, B.b, B.c, B.d, B.e, B.f, .slice A20 n21 c22] : Array Value).toList (ds:=[B.a, B.b, B.c, B.d, B.e, B.f, .slice A20 n21 c22]) rfl).named
      rw [← hu_]
      have S90 : Hid (St w noB [blk g29 28 [B.a, B.b, B.c, B.d, B.e, B.f, .slice A20 n21 c22],own (.slice A20 n21 c22) 3 1 n21 (ic (Gm.upd B (fun x y z=>C.inb x y z) (fun x y z=>Gm.get C m x y z) l k)),blk g14 28 [B.a, B.b, B.c, B.d, B.e, B.f, .slice A20 n21 c22],blk g9 28 [C.a, C.b, C.c, C.d, C.e, C.f, .slice E ne ce],blk g4 28 [B.a, B.b, B.c, B.d, B.e, B.f, .slice A n c]] U89):=Lib.hid hS_
      clear S46
      clear hu_ hS_ hg88
      refine wpG_done (fun V91 hv92=>?_)
      have S93 : Hid (St w noB [blk g29 28 [B.a, B.b, B.c, B.d, B.e, B.f, .slice A20 n21 c22],own (.slice A20 n21 c22) 3 1 n21 (ic (Gm.upd B (fun x y z=>C.inb x y z) (fun x y z=>Gm.get C m x y z) l k)),blk g14 28 [B.a, B.b, B.c, B.d, B.e, B.f, .slice A20 n21 c22],blk g9 28 [C.a, C.b, C.c, C.d, C.e, C.f, .slice E ne ce],blk g4 28 [B.a, B.b, B.c, B.d, B.e, B.f, .slice A n c]] V91):=Lib.hid (S90.out.gr hv92)
      clear S90
      clear hv92
      refine ⟨rfl,hK _ _ ?_⟩
      clear hK
      go_wp2_with fail
      (try simp only [Exit.inBlock,Exit.then])
      refine bodyPost_ret (results_cell_mid rfl _ _ _ g14 0 [B.a, B.b, B.c, B.d, B.e, B.f, .slice A20 n21 c22] _ rfl (S93.out.range 2 rfl 0 7 rfl) Tryd.underlying28 rfl (by kernel_rfl)) rfl ?_
      (exact ⟨A20,n21,c22,rfl,by rw [← Gm.paste_upd HOK.out,show l.length = k by have:=HLEN.out;omega];exact S93.out.sub (.cons _ (.cons_cons _ (.cons _ (.cons _ (.cons _ .slnil)))))⟩)

end Go.Proofs.YtpapbbolefnkmaaDoor
