/-
  Contracts of package grid: repeated cells, new grids.
-/
import Derived.Test.YtpapbbolefnkmaaDoorZB00
import Derived.Test.YtpapbbolefnkmaaDoorZB38
import Derived.Test.YtpapbbolefnkmaaDoorZB39
import Derived.Handy
namespace Go.Proofs.YtpapbbolefnkmaaDoor
open Go Go.RowKit
set_option linter.unusedVariables false
set_option linter.unusedSimpArgs false
set_option maxRecDepth 1000000 in
set_option maxHeartbeats 4000000 in
theorem repeat_any (A : Option Addr) (c N : Nat) (x : Int) (w : World) (hG : SL w 1 A 1 c (ic [x])) (hN : 1 ≤ N ∧ N ≤ 2097152) :
    Calls Tryd.prog 54 #[.slice A 1 c, (N : Int)] w fun e w'=>∃ A n c,e = .returned (.slice A n c) ∧ St w noB [own (.slice A n c) 3 1 n (ic (List.replicate N x))] w':=by
  have HGA:=Lib.hid hG
  clear hG
  have S1 : Hid (St w noB [] w):=Lib.hid (St.start w)
  go_enter Tryd.func54,Tryd.ntmps54
  go_upto_region 0 with fail
  refine wpG_region_k (fun K hK=>?_)
  refine @wpG_p _ _ _ _ _ (some 4) (.slice none 0 0) _ _ rfl (by rfl) (fun _=>rfl) ?_
  simp only [n1,n3,n4]
  refine wpG_done (fun V2 hv3=>?_)
  have S4 : Hid (St w noB [] V2):=Lib.hid (S1.out.gr hv3)
  clear S1
  clear hv3
  refine ⟨rfl,hK _ _ ?_⟩
  clear hK
  go_upto_region 1 with fail
  refine wpG_region_k (fun K hK=>?_)
  refine @wpG_p _ _ _ _ _ (some 9) (N : Int) _ _ rfl (by rfl) (fun _=>rfl) ?_
  simp only [n1,n3,n4]
  refine @wpG_p _ _ _ _ _ (some 10) (.bool false) _ _ rfl (by rfl) (fun W=>by have hq : ¬ ((N : Int) < 0):=(by omega);first | (go_simp;done) | (go_simp <;> omega)) ?_
  simp only [n1,n3,n4]
  refine wpG_done (fun V5 hv6=>?_)
  have S7 : Hid (St w noB [] V5):=Lib.hid (S4.out.gr hv6)
  clear S4
  clear hv6
  refine ⟨rfl,hK _ _ ?_⟩
  clear hK
  go_upto_region 3 with fail
  refine wpG_region_k (fun K hK=>?_)
  refine @wpG_p _ _ _ _ _ (some 13) (.slice A 1 c) _ _ rfl (by rfl) (fun _=>rfl) ?_
  simp only [n1,n3,n4]
  refine @wpG_p _ _ _ _ _ (some 14) (.int .i64 1) _ _ rfl (by rfl) (fun W=>by go_simp) ?_
  simp only [n1,n3,n4]
  refine @wpG_p _ _ _ _ _ (some 15) (.int .u64 1) _ _ rfl (by rfl) (fun W=>by (go_simp <;> (rw [IntKind.wrap_u64];omega))) ?_
  simp only [n1,n3,n4]
  refine @wpG_p _ _ _ _ _ (some 16) (N : Int) _ _ rfl (by rfl) (fun _=>rfl) ?_
  simp only [n1,n3,n4]
  refine @wpG_p _ _ _ _ _ (some 17) (.int .u64 (N : Int)) _ _ rfl (by rfl) (fun W=>by (go_simp <;> (rw [IntKind.wrap_u64];omega))) ?_
  simp only [n1,n3,n4]
  refine @wpG_tk _ _ _ _ _ (some 18) (.tuple #[.int .u64 0, .int .u64 (N : Int)]) _ _ rfl (.call (f:=81) (args:=#[.int .u64 1, .int .u64 (N : Int)]) (by rfl) (fun W=>by go_simp) (fun W hg=>((Tryd.bits_Mul 1 N (by decide) (by omega) W).mono (fun e w' h=>⟨h.1.trans (by rw [Nat.one_mul,Nat.div_eq_of_lt (by omega),Nat.mod_eq_of_lt (by omega)];rfl),by rw [h.2];exact Below.refl _ _⟩)))) ?_
  simp only [n1,n3,n4]
  refine @wpG_p _ _ _ _ _ (some 12) (.tuple #[.int .u64 0, .int .u64 (N : Int)]) _ _ rfl (by rfl) (fun _=>rfl) ?_
  simp only [n1,n3,n4]
  refine @wpG_p _ _ _ _ _ (some 19) (.int .u64 0) _ _ rfl (by rfl) (fun W=>by go_simp) ?_
  simp only [n1,n3,n4]
  refine @wpG_p _ _ _ _ _ (some 20) (.int .u64 (N : Int)) _ _ rfl (by rfl) (fun W=>by go_simp) ?_
  simp only [n1,n3,n4]
  refine @wpG_p _ _ _ _ _ (some 5) (.int .u64 0) _ _ rfl (by rfl) (fun _=>rfl) ?_
  simp only [n1,n3,n4]
  refine @wpG_p _ _ _ _ _ (some 6) (.int .u64 (N : Int)) _ _ rfl (by rfl) (fun _=>rfl) ?_
  simp only [n1,n3,n4]
  refine wpG_done (fun V8 hv9=>?_)
  have S10 : Hid (St w noB [] V8):=Lib.hid (S7.out.gr hv9)
  clear S7
  clear hv9
  refine ⟨rfl,hK _ _ ?_⟩
  clear hK
  go_upto_region 4 with fail
  refine wpG_region_k (fun K hK=>?_)
  refine @wpG_p _ _ _ _ _ (some 21) (.int .u64 0) _ _ rfl (by rfl) (fun _=>rfl) ?_
  simp only [n1,n3,n4]
  refine @wpG_p _ _ _ _ _ (some 22) (.bool false) _ _ rfl (by rfl) (fun W=>by go_simp) ?_
  simp only [n1,n3,n4]
  refine @wpG_p _ _ _ _ _ (some 23) (.bool false) _ _ rfl (by rfl) (fun _=>rfl) ?_
  simp only [n1,n3,n4]
  refine @wpG_p _ _ _ _ _ (some 24) (.int .u64 (N : Int)) _ _ rfl (by rfl) (fun _=>rfl) ?_
  simp only [n1,n3,n4]
  refine @wpG_p _ _ _ _ _ (some 25) (.bool false) _ _ rfl (by rfl) (fun W=>by have hq : ¬ ((N : Int) > 9223372036854775807):=(by omega);first | (go_simp;done) | (go_simp <;> omega)) ?_
  simp only [n1,n3,n4]
  refine @wpG_p _ _ _ _ _ (some 26) (.bool false) _ _ rfl (by rfl) (fun W=>by go_simp) ?_
  simp only [n1,n3,n4]
  refine wpG_done (fun V11 hv12=>?_)
  have S13 : Hid (St w noB [] V11):=Lib.hid (S10.out.gr hv12)
  clear S10
  clear hv12
  refine ⟨rfl,hK _ _ ?_⟩
  clear hK
  go_upto_region 6 with fail
  refine wpG_region_k (fun K hK=>?_)
  refine @wpG_p _ _ _ _ _ (some 28) (.int .u64 (N : Int)) _ _ rfl (by rfl) (fun _=>rfl) ?_
  simp only [n1,n3,n4]
  refine @wpG_p _ _ _ _ _ (some 29) (N : Int) _ _ rfl (by rfl) (fun W=>op_conv_i64 W (N : Int) (by omega) rfl rfl Tryd.underlying99 Tryd.underlying3) ?_
  simp only [n1,n3,n4]
  refine wpG_val (some 30) rfl (by rfl) (fun W14 hg15=>?_)
  refine make_ex 26 3 (.tmp 29) (.tmp 29) rfl Tryd.underlying26 (by kernel_rfl) x N rfl rfl (by omega) W14 (S13.out.gr hg15) (fun g17 U16 hS_=>?_)
  clear hg15
  simp only [n1,n3,n4]
  have S18 : Hid (St w noB [blk g17 3 (ic (rp 0 x N))] U16):=Lib.hid hS_
  clear S13
  clear hS_
  refine @wpG_p _ _ _ _ _ (some 7) (.slice (some ⟨g17,0,none⟩) N N) _ _ rfl (by rfl) (fun _=>rfl) ?_
  simp only [n1,n3,n4]
  refine wpG_done (fun V19 hv20=>?_)
  have S21 : Hid (St w noB [blk g17 3 (ic (rp 0 x N))] V19):=Lib.hid (S18.out.gr hv20)
  clear S18
  clear hv20
  refine ⟨rfl,hK _ _ ?_⟩
  clear hK
  go_upto_region 7 with fail
  refine wpG_region_k (fun K hK=>?_)
  refine @wpG_p _ _ _ _ _ (some 31) (.slice (some ⟨g17,0,none⟩) N N) _ _ rfl (by rfl) (fun _=>rfl) ?_
  simp only [n1,n3,n4]
  refine @wpG_p _ _ _ _ _ (some 32) (.slice A 1 c) _ _ rfl (by rfl) (fun _=>rfl) ?_
  simp only [n1,n3,n4]
  obtain ⟨bx,ox,rfl⟩:=HGA.out.addr (by decide) (by decide)
  refine wpG_val (some 33) rfl (by rfl) (fun W22 hg23=>?_)
  refine copy_ex (.tmp 31) (.tmp 32) 26 26 rfl 3 Tryd.underlying26 (by kernel_rfl) g17 0 N N ⟨bx,ox,none⟩ 1 c rfl rfl W22 (S21.out.gr hg23) 0 0 N 1 x rfl rfl (by show 1 = min 1 N;omega) (by omega) (fun j hj=>?_) (fun U24 hS_=>?_)
  · have h_:=(HGA.out.gr (S21.out.gr hg23).bel).int (l:=[x]) 0 (by simp) j;obtain rfl : j = 0:=(by omega);exact h_ _ rfl
  clear hg23
  simp only [n1,n3,n4]
  have S25 : Hid (St w noB [blk g17 3 (ic (rp (0 + 1) x N))] U24):=Lib.hid hS_
  clear S21
  clear hS_
  refine @wpG_p _ _ _ _ _ (some 8) ((1 : Nat) : Int) _ _ rfl (by rfl) (fun _=>rfl) ?_
  simp only [n1,n3,n4]
  refine wpG_done (fun V26 hv27=>?_)
  have S28 : Hid (St w noB [blk g17 3 (ic (rp (0 + 1) x N))] V26):=Lib.hid (S25.out.gr hv27)
  clear S25
  clear hv27
  refine ⟨rfl,hK _ _ ?_⟩
  clear hK
  go_wp2_with fail
  go_loopw [8] (fun v8 wr=>∃ (m : Nat),v8 = .int .i64 (m : Int) ∧ (1 ≤ m ∧ m ≤ N) ∧ St w noB [blk g17 3 (ic (rp m x N))] wr) (fun i _=>N - (intOf i).toNat)
  case atStart=>exact ⟨1,rfl,(by omega),S28.out⟩
  case round =>
    obtain ⟨m,rfl,hmb,hS⟩:=hrel
    have SL:=Lib.hid hS
    clear S28 hS
    have S29:=SL
    clear SL
    go_upto_region 8 with fail
    refine wpG_region_k (fun K hK=>?_)
    refine @wpG_p _ _ _ _ _ (some 34) (m : Int) _ _ rfl (by rfl) (fun _=>rfl) ?_
    simp only [n1,n3,n4]
    refine @wpG_p _ _ _ _ _ (some 35) (.slice (some ⟨g17,0,none⟩) N N) _ _ rfl (by rfl) (fun _=>rfl) ?_
    simp only [n1,n3,n4]
    refine @wpG_p _ _ _ _ _ (some 36) (N : Int) _ _ rfl (by rfl) (fun W=>by go_simp) ?_
    simp only [n1,n3,n4]
    refine @wpG_p _ _ _ _ _ (some 37) (.bool (decide ((m : Int) < (N : Int)))) _ _ rfl (by rfl) (fun W=>op_int_lss W (m : Int) (N : Int) rfl rfl rfl Tryd.underlying3) ?_
    simp only [n1,n3,n4]
    refine wpG_done (fun V30 hv31=>?_)
    have S32 : Hid (St w noB [blk g17 3 (ic (rp m x N))] V30):=Lib.hid (S29.out.gr hv31)
    clear S29
    clear hv31
    refine ⟨rfl,hK _ _ ?_⟩
    clear hK
    obtain ⟨c33,hc33⟩ : ∃ q_,q_ = (decide ((m : Int) < (N : Int))):=⟨_,rfl⟩
    rw [← hc33]
    have Hc33:=Lib.hid hc33
    clear hc33
    cases c33 with
    | true =>
      have f34:=of_decide_eq_true Hc33.out.symm
      have HMN : Hid (m < N):=Lib.hid (by omega)
      go_upto_region 9 with fail
      refine wpJ_region_k (st:=fun i=>i == 7) (by kernel_rfl) (fun K hK=>?_)
      refine J.wpK_ta (i:=0) (some 38) (v:=(m : Int)) rfl rfl (by kernel_rfl) (fun _ _ _ h=>onN_panic h) (Or.inl ⟨rfl,fun _=>rfl⟩) ?_
      simp only [n1,n3,n4]
      refine J.wpK_ta (i:=1) (some 39) (v:=.slice (some ⟨g17,0,none⟩) N N) rfl rfl (by kernel_rfl) (fun _ _ _ h=>onN_panic h) (Or.inl ⟨rfl,fun _=>rfl⟩) ?_
      simp only [n1,n3,n4]
      refine J.wpK_ta (i:=2) (some 40) (v:=(m : Int)) rfl rfl (by kernel_rfl) (fun _ _ _ h=>onN_panic h) (Or.inl ⟨rfl,fun _=>rfl⟩) ?_
      simp only [n1,n3,n4]
      refine J.wpK_ta (i:=3) (some 41) (v:=.slice (some ⟨g17,m,none⟩) (N - m) (N - m)) rfl rfl (by kernel_rfl) (fun _ _ _ h=>onN_panic h) (Or.inl ⟨by rfl,fun W=>by (have a1 : m < N:=HMN.out;go_simp;try (first | rfl | omega | (simp;omega)))⟩) ?_
      simp only [n1,n3,n4]
      refine J.wpK_ta (i:=4) (some 42) (v:=.slice (some ⟨g17,0,none⟩) N N) rfl rfl (by kernel_rfl) (fun _ _ _ h=>onN_panic h) (Or.inl ⟨rfl,fun _=>rfl⟩) ?_
      simp only [n1,n3,n4]
      refine J.wpK_ta (i:=5) (some 43) (v:=(m : Int)) rfl rfl (by kernel_rfl) (fun _ _ _ h=>onN_panic h) (Or.inl ⟨rfl,fun _=>rfl⟩) ?_
      simp only [n1,n3,n4]
      refine J.wpK_ta (i:=6) (some 44) (v:=.slice (some ⟨g17,0,none⟩) m N) rfl rfl (by kernel_rfl) (fun _ _ _ h=>onN_panic h) (Or.inl ⟨by rfl,fun W=>by (have a1 : m < N:=HMN.out;go_simp;try (first | rfl | (simp;omega)))⟩) ?_
      simp only [n1,n3,n4]
      have hmn_:=HMN.out
      obtain ⟨q,hq_⟩ : ∃ q_,q_ = Nat.min m (N - m):=⟨_,rfl⟩
      have hqb : m + q ≤ N ∧ q ≤ m ∧ 0 < q:=by have e_ : q = min m (N - m):=hq_;omega
      refine J.wpK_app (i:=7) (some 45) rfl rfl (by kernel_rfl) (by rfl) (by rfl) (fun W35 hg36=>?_)
      refine copy_ex (.tmp 41) (.tmp 44) 26 26 rfl 3 Tryd.underlying26 (by kernel_rfl) g17 m (N - m) (N - m) ⟨g17,0,none⟩ m N rfl rfl W35 (S32.out.gr (Gr.un hg36)) 0 m N q x rfl rfl hq_ hqb.1 (fun j hj=>?_) (fun U37 hS_=>?_)
      · have h_:=((S32.out.gr (Gr.un hg36)).row 0 rfl j x (by rw [ic_q,rp_at (by omega),if_pos (by omega)];rfl)).1;(simp only [Addr.add];split <;> first | exact h_ | (subst_vars;exact h_) | simpa using h_)
      clear hg36 hmn_
      simp only [n1,n3,n4]
      have S38 : Hid (St w noB [blk g17 3 (ic (rp (m + q) x N))] U37):=Lib.hid hS_
      clear S32
      clear hS_ hq_
      refine J.wpK_ta (i:=8) (some 46) (v:=((m : Int) + (q : Int):Int)) rfl rfl (by kernel_rfl) (fun _ _ _ h=>onN_panic h) (Or.inl ⟨by rfl,fun W=>by exact op_i_add W (m : Int) (q : Int) (by omega) rfl rfl rfl Tryd.underlying3⟩) ?_
      simp only [n1,n3,n4]
      refine J.wpK_ta (i:=9) (some 8) (v:=((m : Int) + (q : Int):Int)) rfl rfl (by kernel_rfl) (fun _ _ _ h=>onN_panic h) (Or.inl ⟨rfl,fun _=>rfl⟩) ?_
      simp only [n1,n3,n4]
      refine J.wpK_done (by kernel_rfl) (fun V39 hv40=>?_) _
      have S41 : Hid (St w noB [blk g17 3 (ic (rp (m + q) x N))] V39):=Lib.hid (S38.out.gr hv40)
      clear S38
      clear hv40
      refine ⟨rfl,hK _ _ ?_⟩
      clear hK
      go_wp2_with fail
      go_roundw
      case rel=>exact ⟨m + q,(by first | rfl | go_num),(by omega),S41.out⟩
      case measure=>first | (simp only [intOf];omega) | (simp [intOf];done) | (simp [intOf];omega) | omega
    | false =>
      have f42:=of_decide_eq_false Hc33.out.symm
      go_upto_region 10 with fail
      refine wpG_region_k (fun K hK=>?_)
      refine @wpG_p _ _ _ _ _ (some 47) (.slice (some ⟨g17,0,none⟩) N N) _ _ rfl (by rfl) (fun _=>rfl) ?_
      simp only [n1,n3,n4]
      refine @wpG_p _ _ _ _ _ (some 4) (.slice (some ⟨g17,0,none⟩) N N) _ _ rfl (by rfl) (fun _=>rfl) ?_
      simp only [n1,n3,n4]
      refine wpG_done (fun V43 hv44=>?_)
      have S45 : Hid (St w noB [blk g17 3 (ic (rp m x N))] V43):=Lib.hid (S32.out.gr hv44)
      clear S32
      clear hv44
      refine ⟨rfl,hK _ _ ?_⟩
      clear hK
      go_wp2_with fail
      go_ret
      obtain rfl : m = N:=(by omega)
      exact ⟨some ⟨g17,0,none⟩,m,m,rfl,(by have h_:=(S45.out.sub (.cons_cons _ .slnil)).toOwn 1 m (by rw [ic_len,rp_len (Nat.le_refl _)];omega) (by simp only [maxLen];omega);rw [rp_all] at h_;exact h_)⟩
set_option maxRecDepth 1000000 in
set_option maxHeartbeats 4000000 in
theorem new_any (B : Gm.Bx) (m : Int) (w : World) :
    Calls Tryd.prog 14 #[.agg #[B.a, B.b, B.c, B.d, B.e, B.f], m] w fun e w'=>∃ A n c,e = .returned (.tuple #[.agg #[((Gm.nB B m).a:Int), ((Gm.nB B m).b:Int), ((Gm.nB B m).c:Int), ((Gm.nB B m).d:Int), ((Gm.nB B m).e:Int), ((Gm.nB B m).f:Int), .slice A n c], (Gm.nE B m)]) ∧ St w noB [own (.slice A n c) 3 1 n (ic (Gm.nL B m))] w':=by
  have S1 : Hid (St w noB [] w):=Lib.hid (St.start w)
  go_enter Tryd.func14,Tryd.ntmps14
  go_upto_region 0 with fail
  refine wpG_region_k (fun K hK=>?_)
  refine wpG_val (some 2) rfl (by rfl) (fun W2 hg3=>⟨.pointer (some ⟨W2.heap.size,0,none⟩),W2.alloc (.cells #[B.a, B.b, B.c, B.d, B.e, B.f] 25),by (first | (go_simp;done) | (go_simp <;> rfl)), ?_⟩)
  simp only [n1,n3,n4]
  obtain ⟨g4,U5,hg_,hu_,hS_⟩:=(S1.out.gr hg3).made [B.a, B.b, B.c, B.d, B.e, B.f] 25
  rw [← hu_,← hg_]
  have S6 : Hid (St w noB [blk g4 25 [B.a, B.b, B.c, B.d, B.e, B.f]] U5):=Lib.hid hS_
  clear S1
  clear hg_ hu_ hS_ hg3
  refine wpG_val (some 4) rfl (by rfl) (fun W7 hg8=>⟨.pointer (some ⟨W7.heap.size,0,none⟩),W7.alloc (.cells #[(), (), (), (), (), (), .slice none 0 0] 28),by (first | (go_simp;done) | (go_simp <;> rfl)), ?_⟩)
  simp only [n1,n3,n4]
  obtain ⟨g9,U10,hg_,hu_,hS_⟩:=(S6.out.gr hg8).made [(), (), (), (), (), (), .slice none 0 0] 28
  rw [← hu_,← hg_]
  have S11 : Hid (St w noB [blk g9 28 [(), (), (), (), (), (), .slice none 0 0],blk g4 25 [B.a, B.b, B.c, B.d, B.e, B.f]] U10):=Lib.hid hS_
  clear S6
  clear hg_ hu_ hS_ hg8
  refine @wpG_p _ _ _ _ _ (some 5) () _ _ rfl (by rfl) (fun _=>rfl) ?_
  simp only [n1,n3,n4]
  refine wpG_done (fun V12 hv13=>?_)
  have S14 : Hid (St w noB [blk g9 28 [(), (), (), (), (), (), .slice none 0 0],blk g4 25 [B.a, B.b, B.c, B.d, B.e, B.f]] V12):=Lib.hid (S11.out.gr hv13)
  clear S11
  clear hv13
  refine ⟨rfl,hK _ _ ?_⟩
  clear hK
  go_upto_region 1 with fail
  refine wpG_region_k (fun K hK=>?_)
  refine @wpG_tk _ _ _ _ _ (some 7) (.agg #[B.a, B.b, B.c, B.d, B.e, B.f]) _ _ rfl (.load_mid (by rfl) 25 (.tmp 2) rfl g4 0 rfl [B.a, B.b, B.c, B.d, B.e, B.f] _ (fun W hg=>(S14.out.gr hg).range 1 rfl 0 6 rfl) Tryd.underlying25 rfl (by kernel_rfl)) ?_
  simp only [n1,n3,n4]
  refine @wpG_tk _ _ _ _ _ (some 8) (.bool (decide (B.rg))) _ _ rfl (.call (f:=53) (args:=#[.agg #[B.a, B.b, B.c, B.d, B.e, B.f]]) (by rfl) (fun W=>by go_simp) (fun W hg=>pnear_any B W)) ?_
  simp only [n1,n3,n4]
  refine @wpG_p _ _ _ _ _ (some 9) (.bool (!(decide (B.rg)))) _ _ rfl (by rfl) (fun W=>by go_simp) ?_
  simp only [n1,n3,n4]
  refine @wpG_p _ _ _ _ _ (some 10) (.bool (!(decide (B.rg)))) _ _ rfl (by rfl) (fun _=>rfl) ?_
  simp only [n1,n3,n4]
  obtain ⟨c15,hc15⟩ : ∃ q_,q_ = (!(decide (B.rg))):=⟨_,rfl⟩
  rw [← hc15]
  have Hc15:=Lib.hid hc15
  clear hc15
  cases c15 with
  | true =>
    have f16:=Lib.hid (of_decide_eq_false (bnt Hc15.out))
    refine @wpG_no _ _ _ _ _ (some 11) _ _ rfl (by rfl) ?_
    simp only [n1,n3,n4]
    refine @wpG_no _ _ _ _ _ (some 12) _ _ rfl (by rfl) ?_
    simp only [n1,n3,n4]
    refine @wpG_no _ _ _ _ _ (some 13) _ _ rfl (by rfl) ?_
    simp only [n1,n3,n4]
    refine @wpG_p _ _ _ _ _ (some 14) (.bool true) _ _ rfl (by rfl) (fun W=>by go_simp) ?_
    simp only [n1,n3,n4]
    refine @wpG_p _ _ _ _ _ (some 6) (.bool true) _ _ rfl (by rfl) (fun _=>rfl) ?_
    simp only [n1,n3,n4]
    refine wpG_done (fun V17 hv18=>?_)
    have S19 : Hid (St w noB [blk g9 28 [(), (), (), (), (), (), .slice none 0 0],blk g4 25 [B.a, B.b, B.c, B.d, B.e, B.f]] V17):=Lib.hid (S14.out.gr hv18)
    clear S14
    clear hv18
    refine ⟨rfl,hK _ _ ?_⟩
    clear hK
    go_upto_region 2 with fail
    refine wpG_region_k (fun K hK=>?_)
    refine @wpG_p _ _ _ _ _ (some 15) (.agg #[(), (), (), (), (), (), .slice none 0 0]) _ _ rfl (by rfl) (fun W=>by go_simp) ?_
    simp only [n1,n3,n4]
    refine wpG_store (none) rfl (by rfl) (fun W20 hg21=>⟨_,run_store_mid 28 (.tmp 4) (.tmp 15) rfl g9 0 #[(), (), (), (), (), (), .slice none 0 0] rfl rfl ((S19.out.gr hg21).room 0 rfl 0 7 (by simp)) (by kernel_rfl) (by kernel_rfl), ?_⟩)
    simp only [n2]
    obtain ⟨U22,hu_,hS_⟩:=((S19.out.gr hg21).put 0 rfl 0 (#[(), (), (), (), (), (), .slice none 0 0] : Array Value).toList (ds:=[(), (), (), (), (), (), .slice none 0 0]) rfl).named
    rw [← hu_]
    have S23 : Hid (St w noB [blk g9 28 [(), (), (), (), (), (), .slice none 0 0],blk g4 25 [B.a, B.b, B.c, B.d, B.e, B.f]] U22):=Lib.hid hS_
    clear S19
    clear hu_ hS_ hg21
    refine @wpG_p _ _ _ _ _ (some 5) (.int .i64 1) _ _ rfl (by rfl) (fun _=>rfl) ?_
    simp only [n1,n3,n4]
    refine wpG_done (fun V24 hv25=>?_)
    have S26 : Hid (St w noB [blk g9 28 [(), (), (), (), (), (), .slice none 0 0],blk g4 25 [B.a, B.b, B.c, B.d, B.e, B.f]] V24):=Lib.hid (S23.out.gr hv25)
    clear S23
    clear hv25
    refine ⟨rfl,hK _ _ ?_⟩
    clear hK
    go_wp2_with fail
    (try simp only [Exit.inBlock,Exit.then])
    refine bodyPost_ret (results_cell_tmp rfl _ _ _ g9 0 [(), (), (), (), (), (), .slice none 0 0] _ rfl (S26.out.range 0 rfl 0 7 rfl) Tryd.underlying28 rfl (by kernel_rfl)) rfl ?_
    (have e_f16:=f16.out;obtain ⟨h1_,h2_,h3_⟩:=Gm.new_arg (B:=B) (m:=m) (fun hc=>absurd hc.1 (by simpa using e_f16));exact ⟨none,0,0,by rw [h1_,h2_];try rfl,by rw [h3_];exact S26.out.dropAll.nilOwn _ _⟩)
  | false =>
    have f27:=Lib.hid (of_decide_eq_true (bnf Hc15.out))
    refine @wpG_p _ _ _ _ _ (some 11) m _ _ rfl (by rfl) (fun _=>rfl) ?_
    simp only [n1,n3,n4]
    refine @wpG_tk _ _ _ _ _ (some 12) (.bool (decide (Gm.mtl m))) _ _ rfl (.call (f:=51) (args:=#[m]) (by rfl) (fun W=>by go_simp) (fun W hg=>mat_any m W)) ?_
    simp only [n1,n3,n4]
    refine @wpG_p _ _ _ _ _ (some 13) (.bool (!(decide (Gm.mtl m)))) _ _ rfl (by rfl) (fun W=>by go_simp) ?_
    simp only [n1,n3,n4]
    refine @wpG_p _ _ _ _ _ (some 14) (.bool (!(decide (Gm.mtl m)))) _ _ rfl (by rfl) (fun W=>by go_simp) ?_
    simp only [n1,n3,n4]
    refine @wpG_p _ _ _ _ _ (some 6) (.bool (!(decide (Gm.mtl m)))) _ _ rfl (by rfl) (fun _=>rfl) ?_
    simp only [n1,n3,n4]
    refine wpG_done (fun V28 hv29=>?_)
    have S30 : Hid (St w noB [blk g9 28 [(), (), (), (), (), (), .slice none 0 0],blk g4 25 [B.a, B.b, B.c, B.d, B.e, B.f]] V28):=Lib.hid (S14.out.gr hv29)
    clear S14
    clear hv29
    refine ⟨rfl,hK _ _ ?_⟩
    clear hK
    obtain ⟨c31,hc31⟩ : ∃ q_,q_ = (!(decide (Gm.mtl m))):=⟨_,rfl⟩
    rw [← hc31]
    have Hc31:=Lib.hid hc31
    clear hc31
    cases c31 with
    | true =>
      have f32:=Lib.hid (of_decide_eq_false (bnt Hc31.out))
      go_upto_region 2 with fail
      refine wpG_region_k (fun K hK=>?_)
      refine @wpG_p _ _ _ _ _ (some 15) (.agg #[(), (), (), (), (), (), .slice none 0 0]) _ _ rfl (by rfl) (fun W=>by go_simp) ?_
      simp only [n1,n3,n4]
      refine wpG_store (none) rfl (by rfl) (fun W33 hg34=>⟨_,run_store_mid 28 (.tmp 4) (.tmp 15) rfl g9 0 #[(), (), (), (), (), (), .slice none 0 0] rfl rfl ((S30.out.gr hg34).room 0 rfl 0 7 (by simp)) (by kernel_rfl) (by kernel_rfl), ?_⟩)
      simp only [n2]
      obtain ⟨U35,hu_,hS_⟩:=((S30.out.gr hg34).put 0 rfl 0 (#[(), (), (), (), (), (), .slice none 0 0] : Array Value).toList (ds:=[(), (), (), (), (), (), .slice none 0 0]) rfl).named
      rw [← hu_]
      have S36 : Hid (St w noB [blk g9 28 [(), (), (), (), (), (), .slice none 0 0],blk g4 25 [B.a, B.b, B.c, B.d, B.e, B.f]] U35):=Lib.hid hS_
      clear S30
      clear hu_ hS_ hg34
      refine @wpG_p _ _ _ _ _ (some 5) (.int .i64 1) _ _ rfl (by rfl) (fun _=>rfl) ?_
      simp only [n1,n3,n4]
      refine wpG_done (fun V37 hv38=>?_)
      have S39 : Hid (St w noB [blk g9 28 [(), (), (), (), (), (), .slice none 0 0],blk g4 25 [B.a, B.b, B.c, B.d, B.e, B.f]] V37):=Lib.hid (S36.out.gr hv38)
      clear S36
      clear hv38
      refine ⟨rfl,hK _ _ ?_⟩
      clear hK
      go_wp2_with fail
      (try simp only [Exit.inBlock,Exit.then])
      refine bodyPost_ret (results_cell_tmp rfl _ _ _ g9 0 [(), (), (), (), (), (), .slice none 0 0] _ rfl (S39.out.range 0 rfl 0 7 rfl) Tryd.underlying28 rfl (by kernel_rfl)) rfl ?_
      (have e_f27:=f27.out;have e_f32:=f32.out;obtain ⟨h1_,h2_,h3_⟩:=Gm.new_arg (B:=B) (m:=m) (fun hc=>absurd hc.2 (by simpa using e_f32));exact ⟨none,0,0,by rw [h1_,h2_];try rfl,by rw [h3_];exact S39.out.dropAll.nilOwn _ _⟩)
    | false =>
      have f40:=Lib.hid (of_decide_eq_true (bnf Hc31.out))
      go_upto_region 3 with fail
      refine wpG_region_k (fun K hK=>?_)
      refine @wpG_tk _ _ _ _ _ (some 17) (.agg #[B.a, B.b, B.c, B.d, B.e, B.f]) _ _ rfl (.load_mid (by rfl) 25 (.tmp 2) rfl g4 0 rfl [B.a, B.b, B.c, B.d, B.e, B.f] _ (fun W hg=>(S30.out.gr hg).range 1 rfl 0 6 rfl) Tryd.underlying25 rfl (by kernel_rfl)) ?_
      simp only [n1,n3,n4]
      refine @wpG_tk _ _ _ _ _ (some 18) (.bool (decide (Gm.fits B))) _ _ rfl (.call (f:=46) (args:=#[.agg #[B.a, B.b, B.c, B.d, B.e, B.f]]) (by rfl) (fun W=>by go_simp) (fun W hg=>fits_any B W)) ?_
      simp only [n1,n3,n4]
      refine @wpG_p _ _ _ _ _ (some 19) (.bool (!(decide (Gm.fits B)))) _ _ rfl (by rfl) (fun W=>by go_simp) ?_
      simp only [n1,n3,n4]
      refine @wpG_p _ _ _ _ _ (some 16) (.bool (!(decide (Gm.fits B)))) _ _ rfl (by rfl) (fun _=>rfl) ?_
      simp only [n1,n3,n4]
      refine wpG_done (fun V41 hv42=>?_)
      have S43 : Hid (St w noB [blk g9 28 [(), (), (), (), (), (), .slice none 0 0],blk g4 25 [B.a, B.b, B.c, B.d, B.e, B.f]] V41):=Lib.hid (S30.out.gr hv42)
      clear S30
      clear hv42
      refine ⟨rfl,hK _ _ ?_⟩
      clear hK
      obtain ⟨c44,hc44⟩ : ∃ q_,q_ = (!(decide (Gm.fits B))):=⟨_,rfl⟩
      rw [← hc44]
      have Hc44:=Lib.hid hc44
      clear hc44
      cases c44 with
      | true =>
        have f45:=Lib.hid (of_decide_eq_false (bnt Hc44.out))
        go_upto_region 4 with fail
        refine wpG_region_k (fun K hK=>?_)
        refine @wpG_p _ _ _ _ _ (some 20) (.agg #[(), (), (), (), (), (), .slice none 0 0]) _ _ rfl (by rfl) (fun W=>by go_simp) ?_
        simp only [n1,n3,n4]
        refine wpG_store (none) rfl (by rfl) (fun W46 hg47=>⟨_,run_store_mid 28 (.tmp 4) (.tmp 20) rfl g9 0 #[(), (), (), (), (), (), .slice none 0 0] rfl rfl ((S43.out.gr hg47).room 0 rfl 0 7 (by simp)) (by kernel_rfl) (by kernel_rfl), ?_⟩)
        simp only [n2]
        obtain ⟨U48,hu_,hS_⟩:=((S43.out.gr hg47).put 0 rfl 0 (#[(), (), (), (), (), (), .slice none 0 0] : Array Value).toList (ds:=[(), (), (), (), (), (), .slice none 0 0]) rfl).named
        rw [← hu_]
        have S49 : Hid (St w noB [blk g9 28 [(), (), (), (), (), (), .slice none 0 0],blk g4 25 [B.a, B.b, B.c, B.d, B.e, B.f]] U48):=Lib.hid hS_
        clear S43
        clear hu_ hS_ hg47
        refine @wpG_p _ _ _ _ _ (some 5) (.int .i64 2) _ _ rfl (by rfl) (fun _=>rfl) ?_
        simp only [n1,n3,n4]
        refine wpG_done (fun V50 hv51=>?_)
        have S52 : Hid (St w noB [blk g9 28 [(), (), (), (), (), (), .slice none 0 0],blk g4 25 [B.a, B.b, B.c, B.d, B.e, B.f]] V50):=Lib.hid (S49.out.gr hv51)
        clear S49
        clear hv51
        refine ⟨rfl,hK _ _ ?_⟩
        clear hK
        go_wp2_with fail
        (try simp only [Exit.inBlock,Exit.then])
        refine bodyPost_ret (results_cell_tmp rfl _ _ _ g9 0 [(), (), (), (), (), (), .slice none 0 0] _ rfl (S52.out.range 0 rfl 0 7 rfl) Tryd.underlying28 rfl (by kernel_rfl)) rfl ?_
        (have e_f27:=f27.out;have e_f40:=f40.out;have e_f45:=f45.out;have rg_ : B.rg:=(by simpa using e_f27);have mt_ : Gm.mtl m:=(by simpa using e_f40);obtain ⟨h1_,h2_,h3_⟩:=Gm.new_max ⟨rg_,mt_⟩ (by have f_ : ¬ Gm.fits B:=(by simpa using e_f45);exact Int.not_le.1 (fun h_=>f_ ⟨rg_,h_⟩));exact ⟨none,0,0,by rw [h1_,h2_];try rfl,by rw [h3_];exact S52.out.dropAll.nilOwn _ _⟩)
      | false =>
        have f53:=Lib.hid (of_decide_eq_true (bnf Hc44.out))
        go_upto_region 5 with fail
        refine wpG_region_k (fun K hK=>?_)
        refine @wpG_tk _ _ _ _ _ (some 22) (.agg #[B.a, B.b, B.c, B.d, B.e, B.f]) _ _ rfl (.load_mid (by rfl) 25 (.tmp 2) rfl g4 0 rfl [B.a, B.b, B.c, B.d, B.e, B.f] _ (fun W hg=>(S43.out.gr hg).range 1 rfl 0 6 rfl) Tryd.underlying25 rfl (by kernel_rfl)) ?_
        simp only [n1,n3,n4]
        refine @wpG_tk _ _ _ _ _ (some 23) (.bool B.emp) _ _ rfl (.call (f:=47) (args:=#[.agg #[B.a, B.b, B.c, B.d, B.e, B.f]]) (by rfl) (fun W=>by go_simp) (fun W hg=>pemp_b W B)) ?_
        simp only [n1,n3,n4]
        refine @wpG_p _ _ _ _ _ (some 21) (.bool B.emp) _ _ rfl (by rfl) (fun _=>rfl) ?_
        simp only [n1,n3,n4]
        refine wpG_done (fun V54 hv55=>?_)
        have S56 : Hid (St w noB [blk g9 28 [(), (), (), (), (), (), .slice none 0 0],blk g4 25 [B.a, B.b, B.c, B.d, B.e, B.f]] V54):=Lib.hid (S43.out.gr hv55)
        clear S43
        clear hv55
        refine ⟨rfl,hK _ _ ?_⟩
        clear hK
        obtain ⟨c57,hc57⟩ : ∃ q_,q_ = (B.emp):=⟨_,rfl⟩
        rw [← hc57]
        have Hc57:=Lib.hid hc57
        clear hc57
        cases c57 with
        | true =>
          have f58:=Lib.hid (Hc57.out.symm)
          go_upto_region 6 with fail
          refine wpG_region_k (fun K hK=>?_)
          refine @wpG_p _ _ _ _ _ (some 24) (.agg #[(), (), (), (), (), (), .slice none 0 0]) _ _ rfl (by rfl) (fun W=>by go_simp) ?_
          simp only [n1,n3,n4]
          refine wpG_store (none) rfl (by rfl) (fun W59 hg60=>⟨_,run_store_mid 28 (.tmp 4) (.tmp 24) rfl g9 0 #[(), (), (), (), (), (), .slice none 0 0] rfl rfl ((S56.out.gr hg60).room 0 rfl 0 7 (by simp)) (by kernel_rfl) (by kernel_rfl), ?_⟩)
          simp only [n2]
          obtain ⟨U61,hu_,hS_⟩:=((S56.out.gr hg60).put 0 rfl 0 (#[(), (), (), (), (), (), .slice none 0 0] : Array Value).toList (ds:=[(), (), (), (), (), (), .slice none 0 0]) rfl).named
          rw [← hu_]
          have S62 : Hid (St w noB [blk g9 28 [(), (), (), (), (), (), .slice none 0 0],blk g4 25 [B.a, B.b, B.c, B.d, B.e, B.f]] U61):=Lib.hid hS_
          clear S56
          clear hu_ hS_ hg60
          refine @wpG_p _ _ _ _ _ (some 5) () _ _ rfl (by rfl) (fun _=>rfl) ?_
          simp only [n1,n3,n4]
          refine wpG_done (fun V63 hv64=>?_)
          have S65 : Hid (St w noB [blk g9 28 [(), (), (), (), (), (), .slice none 0 0],blk g4 25 [B.a, B.b, B.c, B.d, B.e, B.f]] V63):=Lib.hid (S62.out.gr hv64)
          clear S62
          clear hv64
          refine ⟨rfl,hK _ _ ?_⟩
          clear hK
          go_wp2_with fail
          (try simp only [Exit.inBlock,Exit.then])
          refine bodyPost_ret (results_cell_tmp rfl _ _ _ g9 0 [(), (), (), (), (), (), .slice none 0 0] _ rfl (S65.out.range 0 rfl 0 7 rfl) Tryd.underlying28 rfl (by kernel_rfl)) rfl ?_
          (have e_f27:=f27.out;have e_f40:=f40.out;have e_f53:=f53.out;have e_f58:=f58.out;have rg_ : B.rg:=(by simpa using e_f27);have mt_ : Gm.mtl m:=(by simpa using e_f40);obtain ⟨h1_,h2_,h3_⟩:=Gm.new_emp ⟨rg_,mt_⟩ (Gm.vol_e e_f58);exact ⟨none,0,0,by rw [h1_,h2_];try rfl,by rw [h3_];exact S65.out.dropAll.nilOwn _ _⟩)
        | false =>
          have f66:=Lib.hid (Hc57.out.symm)
          have hvol_ : 1 ≤ B.vol ∧ B.vol ≤ 2097152:=(by have e_f27:=f27.out;have e_f40:=f40.out;have e_f53:=f53.out;have e_f66:=f66.out;have f_ : Gm.fits B:=(by simpa using e_f53);have a1:=Gm.vol_ne e_f66;have a2:=Gm.vol_nn B;have a3:=f_.2;omega)
          go_upto_region 7 with fail
          refine wpK_region_k (by kernel_rfl) (fun K hK=>?_)
          refine wpK_ta (i:=1) (some 26) (v:=m) rfl rfl (by kernel_rfl) (fun _ _ _ h=>onN_panic h) (Or.inl ⟨rfl,fun _=>rfl⟩) ?_
          simp only [n1,n3,n4]
          refine wpK_tk (i:=0) (some 25) (v:=.agg #[B.a, B.b, B.c, B.d, B.e, B.f]) rfl rfl (by kernel_rfl) (fun _ _ _ h=>onN_panic h) (.load_mid (by rfl) 25 (.tmp 2) rfl g4 0 rfl [B.a, B.b, B.c, B.d, B.e, B.f] _ (fun W hg=>(S56.out.gr (Gr.un hg)).range 1 rfl 0 6 rfl) Tryd.underlying25 rfl (by kernel_rfl)) ?_
          simp only [n1,n3,n4]
          refine wpK_tk (i:=3) (some 28) (v:=.agg #[B.a, B.b, B.c, B.d, B.e, B.f]) rfl rfl (by kernel_rfl) (fun _ _ _ h=>onN_panic h) (.load_mid (by rfl) 25 (.tmp 2) rfl g4 0 rfl [B.a, B.b, B.c, B.d, B.e, B.f] _ (fun W hg=>(S56.out.gr (Gr.un hg)).range 1 rfl 0 6 rfl) Tryd.underlying25 rfl (by kernel_rfl)) ?_
          simp only [n1,n3,n4]
          refine wpK_tk (i:=4) (some 29) (v:=B.vol) rfl rfl (by kernel_rfl) (fun _ _ _ h=>onN_panic h) (.call (f:=48) (args:=#[.agg #[B.a, B.b, B.c, B.d, B.e, B.f]]) (by rfl) (fun W=>by go_simp) (fun W hg=>pvol_b W B (by have e_f27:=f27.out;have e_f40:=f40.out;have e_f53:=f53.out;have e_f66:=f66.out;exact (by simpa using e_f53 : Gm.fits B).1))) ?_
          simp only [n1,n3,n4]
          refine wpK_val (i:=2) (some 27) rfl rfl (by kernel_rfl) (by rfl) (fun W67 hg68=>⟨.slice (some ⟨W67.heap.size,0,none⟩) 1 1,W67.alloc (.cells #[m] 3),by (go_simp <;> rfl),Gr.al _ _, ?_⟩)
          simp only [n1,n3,n4]
          obtain ⟨g69,U70,hg_,hu_,hS_⟩:=(S56.out.gr (Gr.un hg68)).made [m] 3
          rw [← hu_,← hg_]
          have S71 : Hid (St w noB [blk g69 3 [m],blk g9 28 [(), (), (), (), (), (), .slice none 0 0],blk g4 25 [B.a, B.b, B.c, B.d, B.e, B.f]] U70):=Lib.hid hS_
          clear S56
          clear hg_ hu_ hS_ hg68
          refine wpK_call (i:=5) (some 30) 54 #[.slice (some ⟨g69,0,none⟩) 1 1, B.vol] rfl rfl (by kernel_rfl) (by rfl) (fun W=>by go_simp) (fun W75 hg76=>?_)
          refine ((show Calls Tryd.prog 54 #[.slice (some ⟨g69,0,none⟩) 1 1, .int .i64 B.vol] W75 _ by rw [show B.vol = (((Int.toNat B.vol) : Nat) : Int) by omega];exact repeat_any _ _ (Int.toNat B.vol) m W75 (SL.ofBlk (S71.out.gr hg76) 0 rfl 1 1 (ic [m]) rfl rfl (by decide)) (by omega))).mono ?_
          rintro e w77 ⟨A72,n73,c74,rfl,hS_⟩
          refine ⟨_,rfl,hS_.bel, ?_⟩
          have hT_:=(S71.out.gr hg76).got hS_
          simp only [n1,n3,n4]
          have S78 : Hid (St w noB [own (.slice A72 n73 c74) 3 1 n73 (ic (List.replicate (Int.toNat B.vol) m)),blk g69 3 [m],blk g9 28 [(), (), (), (), (), (), .slice none 0 0],blk g4 25 [B.a, B.b, B.c, B.d, B.e, B.f]] w77):=Lib.hid hT_
          clear S71
          clear hT_ hS_ hg76
          refine wpK_ta (i:=6) (some 31) (v:=.agg #[B.a, B.b, B.c, B.d, B.e, B.f, .slice A72 n73 c74]) rfl rfl (by kernel_rfl) (fun _ _ _ h=>onN_panic h) (Or.inl ⟨by rfl,fun W=>by go_simp⟩) ?_
          simp only [n1,n3,n4]
          refine wpK_store (i:=7) (none) rfl rfl (by kernel_rfl) (by rfl) (by rfl) (fun W79 hg80=>⟨_,run_store_mid 28 (.tmp 4) (.tmp 31) rfl g9 0 #[B.a, B.b, B.c, B.d, B.e, B.f, .slice A72 n73 c74] rfl rfl ((S78.out.gr hg80).room 2 rfl 0 7 (by simp)) (by kernel_rfl) (by kernel_rfl), ?_⟩)
          simp only [n2]
          obtain ⟨U81,hu_,hS_⟩:=((S78.out.gr hg80).put 2 rfl 0 (#[B.a, B.b, B.c, B.d, B.e, B.f, .slice A72 n73 c74] : Array Value).toList (ds:=[B.a, B.b, B.c, B.d, B.e, B.f, .slice A72 n73 c74]) rfl).named
          rw [← hu_]
          have S82 : Hid (St w noB [own (.slice A72 n73 c74) 3 1 n73 (ic (List.replicate (Int.toNat B.vol) m)),blk g69 3 [m],blk g9 28 [B.a, B.b, B.c, B.d, B.e, B.f, .slice A72 n73 c74],blk g4 25 [B.a, B.b, B.c, B.d, B.e, B.f]] U81):=Lib.hid hS_
          clear S78
          clear hu_ hS_ hg80
          refine wpK_ta (i:=8) (some 5) (v:=()) rfl rfl (by kernel_rfl) (fun _ _ _ h=>onN_panic h) (Or.inl ⟨rfl,fun _=>rfl⟩) ?_
          simp only [n1,n3,n4]
          refine wpK_done (by kernel_rfl) (fun V83 hv84=>?_) _
          have S85 : Hid (St w noB [own (.slice A72 n73 c74) 3 1 n73 (ic (List.replicate (Int.toNat B.vol) m)),blk g69 3 [m],blk g9 28 [B.a, B.b, B.c, B.d, B.e, B.f, .slice A72 n73 c74],blk g4 25 [B.a, B.b, B.c, B.d, B.e, B.f]] V83):=Lib.hid (S82.out.gr hv84)
          clear S82
          clear hv84
          refine ⟨rfl,hK _ _ ?_⟩
          clear hK
          go_wp2_with fail
          (try simp only [Exit.inBlock,Exit.then])
          refine bodyPost_ret (results_cell_tmp rfl _ _ _ g9 0 [B.a, B.b, B.c, B.d, B.e, B.f, .slice A72 n73 c74] _ rfl (S85.out.range 2 rfl 0 7 rfl) Tryd.underlying28 rfl (by kernel_rfl)) rfl ?_
          (have e_f27:=f27.out;have e_f40:=f40.out;have e_f53:=f53.out;have e_f66:=f66.out;have rg_ : B.rg:=(by simpa using e_f27);have mt_ : Gm.mtl m:=(by simpa using e_f40);obtain ⟨h1_,h2_,h3_⟩:=Gm.new_ok ⟨rg_,mt_⟩ (Gm.vol_ne e_f66) (by have f_ : Gm.fits B:=(by simpa using e_f53);have:=f_.2;omega);exact ⟨A72,n73,c74,by rw [h1_,h2_];try rfl,by rw [h3_];exact S85.out.sub (.cons_cons _ (.cons _ (.cons _ (.cons _ .slnil))))⟩)

end Go.Proofs.YtpapbbolefnkmaaDoor
