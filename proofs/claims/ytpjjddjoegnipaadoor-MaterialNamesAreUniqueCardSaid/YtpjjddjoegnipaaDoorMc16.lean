/-
  Contract: a text read by the specification.
-/
import Derived.Test.YtpjjddjoegnipaaDoorMc12
import Derived.Test.YtpjjddjoegnipaaDoorMc7
import Derived.Test.YtpjjddjoegnipaaDoorMag
import Derived.Handy
namespace Go.Proofs.YtpjjddjoegnipaaDoor
open Go Go.RowKit
set_option linter.unusedVariables false
set_option linter.unusedSimpArgs false
set_option maxRecDepth 1000000 in
set_option maxHeartbeats 4000000 in
theorem rparse_any (x : List UInt8) (w : World) (hx : x.length ≤ 1000000) :
    Calls Tryd.prog 28 #[.string (bstr x)] w fun e w' => ∃ A n c, e = .returned (.agg #[.slice A n c, .int .i64 (Ma.parse x).2.1, .int .i64 (Ma.parse x).2.2]) ∧ St w noB [own (.slice A n c) 35 8 n (mcs (Ma.parse x).1)] w' := by
  have S1 : Hid (St w noB [] w) := Lib.hid (St.start w)
  go_enter Tryd.func28, Tryd.ntmps28
  go_upto_region 0 with fail
  refine wpG_region_k (fun K hK => ?_)
  refine wpG_val (some 2) rfl (by rfl) (fun W2 hg3 => ⟨.pointer (some ⟨W2.heap.size, 0, none⟩), W2.alloc (.cells #[.slice none 0 0, .int .i64 0, .int .i64 0] 45), by (first | (go_simp; done) | (go_simp <;> rfl)), ?_⟩)
  simp only [n1, n3, n4]
  obtain ⟨g4, U5, hg_, hu_, hS_⟩ := (S1.out.gr hg3).made [.slice none 0 0, .int .i64 0, .int .i64 0] 45
  rw [← hu_, ← hg_]
  have S6 : Hid (St w noB [blk g4 45 [.slice none 0 0, .int .i64 0, .int .i64 0]] U5) := Lib.hid hS_
  clear S1
  clear hg_ hu_ hS_ hg3
  refine wpG_done (fun V7 hv8 => ?_)
  have S9 : Hid (St w noB [blk g4 45 [.slice none 0 0, .int .i64 0, .int .i64 0]] V7) := Lib.hid (S6.out.gr hv8)
  clear S6
  clear hv8
  refine ⟨rfl, hK _ _ ?_⟩
  clear hK
  go_upto_region 1 with fail
  refine wpG_region_k (fun K hK => ?_)
  refine @wpG_p _ _ _ _ _ (some 3) (.slice none 0 0) _ _ rfl (by rfl) (fun _ => rfl) ?_
  simp only [n1, n3, n4]
  refine wpG_done (fun V10 hv11 => ?_)
  have S12 : Hid (St w noB [blk g4 45 [.slice none 0 0, .int .i64 0, .int .i64 0]] V10) := Lib.hid (S9.out.gr hv11)
  clear S9
  clear hv11
  refine ⟨rfl, hK _ _ ?_⟩
  clear hK
  go_upto_region 2 with fail
  refine wpG_region_k (fun K hK => ?_)
  refine @wpG_p _ _ _ _ _ (some 4) (.int .i64 0) _ _ rfl (by rfl) (fun _ => rfl) ?_
  simp only [n1, n3, n4]
  refine wpG_done (fun V13 hv14 => ?_)
  have S15 : Hid (St w noB [blk g4 45 [.slice none 0 0, .int .i64 0, .int .i64 0]] V13) := Lib.hid (S12.out.gr hv14)
  clear S12
  clear hv14
  refine ⟨rfl, hK _ _ ?_⟩
  clear hK
  go_upto_region 3 with fail
  refine wpG_region_k (fun K hK => ?_)
  refine @wpG_p _ _ _ _ _ (some 5) (.int .i64 1) _ _ rfl (by rfl) (fun _ => rfl) ?_
  simp only [n1, n3, n4]
  refine wpG_done (fun V16 hv17 => ?_)
  have S18 : Hid (St w noB [blk g4 45 [.slice none 0 0, .int .i64 0, .int .i64 0]] V16) := Lib.hid (S15.out.gr hv17)
  clear S15
  clear hv17
  refine ⟨rfl, hK _ _ ?_⟩
  clear hK
  go_upto_region 4 with fail
  refine wpG_region_k (fun K hK => ?_)
  refine @wpG_p _ _ _ _ _ (some 6) (.int .i64 0) _ _ rfl (by rfl) (fun _ => rfl) ?_
  simp only [n1, n3, n4]
  refine wpG_done (fun V19 hv20 => ?_)
  have S21 : Hid (St w noB [blk g4 45 [.slice none 0 0, .int .i64 0, .int .i64 0]] V19) := Lib.hid (S18.out.gr hv20)
  clear S18
  clear hv20
  refine ⟨rfl, hK _ _ ?_⟩
  clear hK
  have S22 : Hid (St w noB [own (.slice none 0 0) 35 8 0 (mcs (Ma.mats [])), blk g4 45 [.slice none 0 0, .int .i64 0, .int .i64 0]] V19) := Lib.hid (S21.out.nilOwn 35 8)
  clear S21
  go_wp2_with fail
  go_loopw [3, 4, 5, 6] (fun v3 v4 v5 v6 wr => ∃ (A : Option Addr) (n c : Nat) (ls : List (List UInt8)) (f i : Nat), v3 = .slice A n c ∧ v4 = .int .i64 (f : Int) ∧ v5 = .int .i64 ((ls.length : Int) + 1) ∧ v6 = .int .i64 (i : Int) ∧ Ma.RInv x ls f i ∧ St w noB [own (.slice A n c) 35 8 n (mcs (Ma.mats ls)), blk g4 45 [.slice none 0 0, .int .i64 0, .int .i64 0]] wr) (fun _ _ _ i _ => x.length - (intOf i).toNat)
  case atStart => exact ⟨none, 0, 0, [], 0, 0, rfl, rfl, rfl, rfl, Ma.rinit x, S22.out⟩
  case round =>
    obtain ⟨A, n, c, ls, f, i, rfl, rfl, rfl, rfl, hr_, hS⟩ := hrel
    have HR_ := Lib.hid hr_
    clear hr_
    have SL := Lib.hid hS
    clear S22 hS
    have S23 := SL
    clear SL
    obtain ⟨hfi, hil, hlf⟩ := Ma.rle HR_.out
    have hnl : n ≤ ls.length := by rw [own_mcs (S23.out.ownr 0 rfl)]; exact Ma.mats_le ls
    have hxi : ((x.take i).drop f).length ≤ 1000000 := by simp; omega
    go_upto_region 5 with fail
    refine wpG_region_k (fun K hK => ?_)
    refine @wpG_p _ _ _ _ _ (some 11) (.int .i64 (i : Int)) _ _ rfl (by rfl) (fun _ => rfl) ?_
    simp only [n1, n3, n4]
    refine @wpG_p _ _ _ _ _ (some 12) (.string (bstr x)) _ _ rfl (by rfl) (fun _ => rfl) ?_
    simp only [n1, n3, n4]
    refine @wpG_p _ _ _ _ _ (some 13) (.int .i64 (x.length : Int)) _ _ rfl (by rfl) (fun W => op_str_len W x rfl rfl Tryd.underlying9) ?_
    simp only [n1, n3, n4]
    refine @wpG_p _ _ _ _ _ (some 14) (.bool (decide ((i : Int) < (x.length : Int)))) _ _ rfl (by rfl) (fun W => op_int_lss W (i : Int) (x.length : Int) rfl rfl rfl Tryd.underlying3) ?_
    simp only [n1, n3, n4]
    refine wpG_done (fun V24 hv25 => ?_)
    have S26 : Hid (St w noB [own (.slice A n c) 35 8 n (mcs (Ma.mats ls)), blk g4 45 [.slice none 0 0, .int .i64 0, .int .i64 0]] V24) := Lib.hid (S23.out.gr hv25)
    clear S23
    clear hv25
    refine ⟨rfl, hK _ _ ?_⟩
    clear hK
    obtain ⟨c27, hc27⟩ : ∃ q_, q_ = (decide ((i : Int) < (x.length : Int))) := ⟨_, rfl⟩
    rw [← hc27]
    have Hc27 := Lib.hid hc27
    clear hc27
    cases c27 with
    | true =>
      have f28 := of_decide_eq_true Hc27.out.symm
      go_upto_region 7 with fail
      refine wpG_region_k (fun K hK => ?_)
      refine @wpG_p _ _ _ _ _ (some 17) (.string (bstr x)) _ _ rfl (by rfl) (fun _ => rfl) ?_
      simp only [n1, n3, n4]
      refine @wpG_p _ _ _ _ _ (some 18) (.int .i64 (i : Int)) _ _ rfl (by rfl) (fun _ => rfl) ?_
      simp only [n1, n3, n4]
      refine @wpG_p _ _ _ _ _ (some 19) (.int .u8 ((Ma.byt x i).toNat : Int)) _ _ rfl (by rfl) (fun W => op_str_idx W x i (by omega) rfl rfl rfl Tryd.underlying9) ?_
      simp only [n1, n3, n4]
      refine @wpG_p _ _ _ _ _ (some 20) (.bool (decide (((Ma.byt x i).toNat : Int) ≠ 10))) _ _ rfl (by rfl) (fun W => op_int_neq W ((Ma.byt x i).toNat : Int) 10 rfl rfl rfl Tryd.underlying5) ?_
      simp only [n1, n3, n4]
      refine wpG_done (fun V29 hv30 => ?_)
      have S31 : Hid (St w noB [own (.slice A n c) 35 8 n (mcs (Ma.mats ls)), blk g4 45 [.slice none 0 0, .int .i64 0, .int .i64 0]] V29) := Lib.hid (S26.out.gr hv30)
      clear S26
      clear hv30
      refine ⟨rfl, hK _ _ ?_⟩
      clear hK
      obtain ⟨c32, hc32⟩ : ∃ q_, q_ = (decide (((Ma.byt x i).toNat : Int) ≠ 10)) := ⟨_, rfl⟩
      rw [← hc32]
      have Hc32 := Lib.hid hc32
      clear hc32
      cases c32 with
      | true =>
        have f33 := of_decide_eq_true Hc32.out.symm
        go_upto_region 6 with fail
        refine wpG_region_k (fun K hK => ?_)
        refine @wpG_p _ _ _ _ _ (some 15) (.int .i64 (i : Int)) _ _ rfl (by rfl) (fun _ => rfl) ?_
        simp only [n1, n3, n4]
        refine @wpG_p _ _ _ _ _ (some 16) (.int .i64 ((i : Int) + 1)) _ _ rfl (by rfl) (fun W => op_i_add W (i : Int) 1 (by first | omega | (have hr_ := Ma.check_rng (Ma.mats ls); omega)) rfl rfl rfl Tryd.underlying3) ?_
        simp only [n1, n3, n4]
        refine @wpG_p _ _ _ _ _ (some 6) (.int .i64 ((i : Int) + 1)) _ _ rfl (by rfl) (fun _ => rfl) ?_
        simp only [n1, n3, n4]
        refine wpG_done (fun V34 hv35 => ?_)
        have S36 : Hid (St w noB [own (.slice A n c) 35 8 n (mcs (Ma.mats ls)), blk g4 45 [.slice none 0 0, .int .i64 0, .int .i64 0]] V34) := Lib.hid (S31.out.gr hv35)
        clear S31
        clear hv35
        refine ⟨rfl, hK _ _ ?_⟩
        clear hK
        go_wp2_with fail
        go_roundw
        case rel => exact ⟨A, n, c, ls, f, i + 1, (by first | rfl | go_num), (by first | rfl | go_num), (by first | rfl | go_num), (by first | rfl | go_num), (by exact Ma.rstep_no HR_.out (by omega) (fun h => by have h1 := Ma.is10.2 h; omega)), S36.out⟩
        case measure => first | (simp only [intOf]; omega) | (simp [intOf]; done) | (simp [intOf]; omega) | omega
      | false =>
        have f37 := Lib.hid (Decidable.not_not.1 (of_decide_eq_false Hc32.out.symm))
        have f37a := Int.le_of_eq f37.out
        have f37b := Int.le_of_eq f37.out.symm
        go_upto_region 8 with fail
        refine wpG_region_k (fun K hK => ?_)
        refine @wpG_p _ _ _ _ _ (some 22) (.string (bstr x)) _ _ rfl (by rfl) (fun _ => rfl) ?_
        simp only [n1, n3, n4]
        refine @wpG_p _ _ _ _ _ (some 23) (.int .i64 (f : Int)) _ _ rfl (by rfl) (fun _ => rfl) ?_
        simp only [n1, n3, n4]
        refine @wpG_p _ _ _ _ _ (some 24) (.int .i64 (i : Int)) _ _ rfl (by rfl) (fun _ => rfl) ?_
        simp only [n1, n3, n4]
        refine @wpG_p _ _ _ _ _ (some 25) (.string (bstr ((x.take i).drop f))) _ _ rfl (by rfl) (fun W => op_str_slice W x f i (by omega) (by omega) rfl rfl rfl rfl Tryd.underlying9) ?_
        simp only [n1, n3, n4]
        refine wpG_call (some 26) 41 #[.string (bstr ((x.take i).drop f))] rfl (by rfl) (fun W => by go_simp) (fun W39 hg40 => ?_)
        refine (rmat_any ((x.take i).drop f) W39 hxi).mono ?_
        rintro e w41 ⟨m38, rfl, hm_, hb_⟩
        refine ⟨_, rfl, ?_⟩
        have hT_ := (S31.out.gr hg40).gr hb_
        simp only [n1, n3, n4]
        have S42 : Hid (St w noB [own (.slice A n c) 35 8 n (mcs (Ma.mats ls)), blk g4 45 [.slice none 0 0, .int .i64 0, .int .i64 0]] w41) := Lib.hid hT_
        clear S31
        clear hT_ hb_ hg40
        have HM := Lib.hid hm_
        clear hm_
        refine @wpG_p _ _ _ _ _ (some 21) (.tuple #[.agg #[.string (bstr m38.n), .bool m38.s, .bool m38.l, .bool m38.f, .int .i64 m38.fd, .int .i64 m38.a, .int .i64 m38.b, .int .i64 m38.c], .bool ((Ma.mat ((x.take i).drop f)).isSome)]) _ _ rfl (by rfl) (fun _ => rfl) ?_
        simp only [n1, n3, n4]
        refine @wpG_p _ _ _ _ _ (some 27) (.agg #[.string (bstr m38.n), .bool m38.s, .bool m38.l, .bool m38.f, .int .i64 m38.fd, .int .i64 m38.a, .int .i64 m38.b, .int .i64 m38.c]) _ _ rfl (by rfl) (fun W => by go_simp) ?_
        simp only [n1, n3, n4]
        refine @wpG_p _ _ _ _ _ (some 28) (.bool ((Ma.mat ((x.take i).drop f)).isSome)) _ _ rfl (by rfl) (fun W => by go_simp) ?_
        simp only [n1, n3, n4]
        refine wpG_val (some 7) rfl (by rfl) (fun W43 hg44 => ⟨.pointer (some ⟨W43.heap.size, 0, none⟩), W43.alloc (.cells #[.string ⟨#[]⟩, .bool false, .bool false, .bool false, .int .i64 0, .int .i64 0, .int .i64 0, .int .i64 0] 35), by (first | (go_simp; done) | (go_simp <;> rfl)), ?_⟩)
        simp only [n1, n3, n4]
        obtain ⟨g45, U46, hg_, hu_, hS_⟩ := (S42.out.gr hg44).made [.string ⟨#[]⟩, .bool false, .bool false, .bool false, .int .i64 0, .int .i64 0, .int .i64 0, .int .i64 0] 35
        rw [← hu_, ← hg_]
        have S47 : Hid (St w noB [blk g45 35 [.string ⟨#[]⟩, .bool false, .bool false, .bool false, .int .i64 0, .int .i64 0, .int .i64 0, .int .i64 0], own (.slice A n c) 35 8 n (mcs (Ma.mats ls)), blk g4 45 [.slice none 0 0, .int .i64 0, .int .i64 0]] U46) := Lib.hid hS_
        clear S42
        clear hg_ hu_ hS_ hg44
        refine wpG_store (none) rfl (by rfl) (fun W48 hg49 => ⟨_, run_store_mid 35 (.tmp 7) (.tmp 27) rfl g45 0 #[.string (bstr m38.n), .bool m38.s, .bool m38.l, .bool m38.f, .int .i64 m38.fd, .int .i64 m38.a, .int .i64 m38.b, .int .i64 m38.c] rfl rfl ((S47.out.gr hg49).room 0 rfl 0 8 (by simp)) (by kernel_rfl) (by kernel_rfl), ?_⟩)
        simp only [n2]
        obtain ⟨U50, hu_, hS_⟩ := ((S47.out.gr hg49).put 0 rfl 0 (#[.string (bstr m38.n), .bool m38.s, .bool m38.l, .bool m38.f, .int .i64 m38.fd, .int .i64 m38.a, .int .i64 m38.b, .int .i64 m38.c] : Array Value).toList (ds := [.string (bstr m38.n), .bool m38.s, .bool m38.l, .bool m38.f, .int .i64 m38.fd, .int .i64 m38.a, .int .i64 m38.b, .int .i64 m38.c]) rfl).named
        rw [← hu_]
        have S51 : Hid (St w noB [blk g45 35 [.string (bstr m38.n), .bool m38.s, .bool m38.l, .bool m38.f, .int .i64 m38.fd, .int .i64 m38.a, .int .i64 m38.b, .int .i64 m38.c], own (.slice A n c) 35 8 n (mcs (Ma.mats ls)), blk g4 45 [.slice none 0 0, .int .i64 0, .int .i64 0]] U50) := Lib.hid hS_
        clear S47
        clear hu_ hS_ hg49
        refine @wpG_p _ _ _ _ _ (some 8) (.bool ((Ma.mat ((x.take i).drop f)).isSome)) _ _ rfl (by rfl) (fun _ => rfl) ?_
        simp only [n1, n3, n4]
        refine wpG_done (fun V52 hv53 => ?_)
        have S54 : Hid (St w noB [blk g45 35 [.string (bstr m38.n), .bool m38.s, .bool m38.l, .bool m38.f, .int .i64 m38.fd, .int .i64 m38.a, .int .i64 m38.b, .int .i64 m38.c], own (.slice A n c) 35 8 n (mcs (Ma.mats ls)), blk g4 45 [.slice none 0 0, .int .i64 0, .int .i64 0]] V52) := Lib.hid (S51.out.gr hv53)
        clear S51
        clear hv53
        refine ⟨rfl, hK _ _ ?_⟩
        clear hK
        go_upto_region 9 with fail
        refine wpG_region_k (fun K hK => ?_)
        refine @wpG_p _ _ _ _ _ (some 29) (.bool ((Ma.mat ((x.take i).drop f)).isSome)) _ _ rfl (by rfl) (fun _ => rfl) ?_
        simp only [n1, n3, n4]
        refine @wpG_p _ _ _ _ _ (some 30) (.bool (!((Ma.mat ((x.take i).drop f)).isSome))) _ _ rfl (by rfl) (fun W => by go_simp) ?_
        simp only [n1, n3, n4]
        refine wpG_done (fun V55 hv56 => ?_)
        have S57 : Hid (St w noB [blk g45 35 [.string (bstr m38.n), .bool m38.s, .bool m38.l, .bool m38.f, .int .i64 m38.fd, .int .i64 m38.a, .int .i64 m38.b, .int .i64 m38.c], own (.slice A n c) 35 8 n (mcs (Ma.mats ls)), blk g4 45 [.slice none 0 0, .int .i64 0, .int .i64 0]] V55) := Lib.hid (S54.out.gr hv56)
        clear S54
        clear hv56
        refine ⟨rfl, hK _ _ ?_⟩
        clear hK
        obtain ⟨c58, hc58⟩ : ∃ q_, q_ = (!((Ma.mat ((x.take i).drop f)).isSome)) := ⟨_, rfl⟩
        rw [← hc58]
        have Hc58 := Lib.hid hc58
        clear hc58
        cases c58 with
        | true =>
          have f59 := Lib.hid ((bnt Hc58.out))
          go_upto_region 10 with fail
          refine wpG_region_k (fun K hK => ?_)
          refine @wpG_p _ _ _ _ _ (some 31) (.int .i64 ((ls.length : Int) + 1)) _ _ rfl (by rfl) (fun _ => rfl) ?_
          simp only [n1, n3, n4]
          refine @wpG_p _ _ _ _ _ (some 32) (.agg #[.slice none 0 0, .int .i64 ((ls.length : Int) + 1), .int .i64 3]) _ _ rfl (by rfl) (fun W => by go_simp) ?_
          simp only [n1, n3, n4]
          refine wpG_store (none) rfl (by rfl) (fun W60 hg61 => ⟨_, run_store_mid 45 (.tmp 2) (.tmp 32) rfl g4 0 #[.slice none 0 0, .int .i64 ((ls.length : Int) + 1), .int .i64 3] rfl rfl ((S57.out.gr hg61).room 2 rfl 0 3 (by simp)) (by kernel_rfl) (by kernel_rfl), ?_⟩)
          simp only [n2]
          obtain ⟨U62, hu_, hS_⟩ := ((S57.out.gr hg61).put 2 rfl 0 (#[.slice none 0 0, .int .i64 ((ls.length : Int) + 1), .int .i64 3] : Array Value).toList (ds := [.slice none 0 0, .int .i64 ((ls.length : Int) + 1), .int .i64 3]) rfl).named
          rw [← hu_]
          have S63 : Hid (St w noB [blk g45 35 [.string (bstr m38.n), .bool m38.s, .bool m38.l, .bool m38.f, .int .i64 m38.fd, .int .i64 m38.a, .int .i64 m38.b, .int .i64 m38.c], own (.slice A n c) 35 8 n (mcs (Ma.mats ls)), blk g4 45 [.slice none 0 0, .int .i64 ((ls.length : Int) + 1), .int .i64 3]] U62) := Lib.hid hS_
          clear S57
          clear hu_ hS_ hg61
          refine wpG_done (fun V64 hv65 => ?_)
          have S66 : Hid (St w noB [blk g45 35 [.string (bstr m38.n), .bool m38.s, .bool m38.l, .bool m38.f, .int .i64 m38.fd, .int .i64 m38.a, .int .i64 m38.b, .int .i64 m38.c], own (.slice A n c) 35 8 n (mcs (Ma.mats ls)), blk g4 45 [.slice none 0 0, .int .i64 ((ls.length : Int) + 1), .int .i64 3]] V64) := Lib.hid (S63.out.gr hv65)
          clear S63
          clear hv65
          refine ⟨rfl, hK _ _ ?_⟩
          clear hK
          go_wp2_with fail
          (try simp only [Exit.inBlock, Exit.then])
          refine bodyPost_ret (results_cell_mid rfl _ _ _ g4 0 [.slice none 0 0, .int .i64 ((ls.length : Int) + 1), .int .i64 3] _ rfl (S66.out.range 2 rfl 0 3 rfl) Tryd.underlying45 rfl (by kernel_rfl)) rfl ?_
          (have e_f37 := f37.out; have e_f59 := f59.out; have hq := Ma.rbad_line HR_.out (by omega) (Ma.is10.1 (by omega)) e_f59; exact ⟨none, 0, 0, by rw [hq]; try rfl, by rw [hq]; exact S66.out.dropAll.nilOwn _ _⟩)
        | false =>
          have f67 := Lib.hid ((bnf Hc58.out))
          go_upto_region 11 with fail
          refine wpG_region_k (fun K hK => ?_)
          refine @wpG_p _ _ _ _ _ (some 33) (.slice A n c) _ _ rfl (by rfl) (fun _ => rfl) ?_
          simp only [n1, n3, n4]
          refine @wpG_tk _ _ _ _ _ (some 34) (.agg #[.string (bstr m38.n), .bool m38.s, .bool m38.l, .bool m38.f, .int .i64 m38.fd, .int .i64 m38.a, .int .i64 m38.b, .int .i64 m38.c]) _ _ rfl (.load_mid (by rfl) 35 (.tmp 7) rfl g45 0 rfl [.string (bstr m38.n), .bool m38.s, .bool m38.l, .bool m38.f, .int .i64 m38.fd, .int .i64 m38.a, .int .i64 m38.b, .int .i64 m38.c] _ (fun W hg => (S57.out.gr hg).range 0 rfl 0 8 rfl) Tryd.underlying35 rfl (by kernel_rfl)) ?_
          simp only [n1, n3, n4]
          refine wpG_val (some 35) rfl (by rfl) (fun W68 hg69 => ⟨.slice (some ⟨W68.heap.size, 0, none⟩) 1 1, W68.alloc (.cells #[.string (bstr m38.n), .bool m38.s, .bool m38.l, .bool m38.f, .int .i64 m38.fd, .int .i64 m38.a, .int .i64 m38.b, .int .i64 m38.c] 35), by (go_simp <;> rfl), ?_⟩)
          simp only [n1, n3, n4]
          obtain ⟨g70, U71, hg_, hu_, hS_⟩ := (S57.out.gr hg69).made [.string (bstr m38.n), .bool m38.s, .bool m38.l, .bool m38.f, .int .i64 m38.fd, .int .i64 m38.a, .int .i64 m38.b, .int .i64 m38.c] 35
          rw [← hu_, ← hg_]
          have S72 : Hid (St w noB [blk g70 35 [.string (bstr m38.n), .bool m38.s, .bool m38.l, .bool m38.f, .int .i64 m38.fd, .int .i64 m38.a, .int .i64 m38.b, .int .i64 m38.c], blk g45 35 [.string (bstr m38.n), .bool m38.s, .bool m38.l, .bool m38.f, .int .i64 m38.fd, .int .i64 m38.a, .int .i64 m38.b, .int .i64 m38.c], own (.slice A n c) 35 8 n (mcs (Ma.mats ls)), blk g4 45 [.slice none 0 0, .int .i64 0, .int .i64 0]] U71) := Lib.hid hS_
          clear S57
          clear hg_ hu_ hS_ hg69
          have S73 : Hid (St w noB [own (.slice A n c) 35 8 n (mcs (Ma.mats ls)), blk g70 35 [.string (bstr m38.n), .bool m38.s, .bool m38.l, .bool m38.f, .int .i64 m38.fd, .int .i64 m38.a, .int .i64 m38.b, .int .i64 m38.c], blk g45 35 [.string (bstr m38.n), .bool m38.s, .bool m38.l, .bool m38.f, .int .i64 m38.fd, .int .i64 m38.a, .int .i64 m38.b, .int .i64 m38.c], blk g4 45 [.slice none 0 0, .int .i64 0, .int .i64 0]] U71) := Lib.hid (S72.out.front 2 rfl)
          clear S72
          refine wpG_appS (some 36) rfl rfl (.tmp 33) (.tmp 35) 22 22 rfl 35 8 56 Tryd.underlying22 (by kernel_rfl) (.slice A n c) n (mcs (Ma.mats ls)) S73.out (.slice (some ⟨g70, 0, none⟩) 1 1) 1 [.string (bstr m38.n), .bool m38.s, .bool m38.l, .bool m38.f, .int .i64 m38.fd, .int .i64 m38.a, .int .i64 m38.b, .int .i64 m38.c] (fun W hg => src_lies Tryd.underlying22 1 rfl (fun h => by cases h) (by intro u hu; simp at hu; rcases hu with rfl | rfl | rfl | rfl | rfl | rfl | rfl | rfl <;> rfl) ((S73.out.gr hg).liesBlk 1 rfl)) rfl rfl (by simp only [maxLen]; omega) (by omega) (fun v74 W75 hS_ => ?_)
          simp only [n1, n3, n4]
          obtain ⟨A76, k77, rfl, hle_, hcap_, _⟩ := own_shape (hS_.ownr 0 rfl)
          have S78 : Hid (St w noB [own (.slice A76 (n + 1) k77) 35 8 (n + 1) (mcs (Ma.mats ls) ++ [.string (bstr m38.n), .bool m38.s, .bool m38.l, .bool m38.f, .int .i64 m38.fd, .int .i64 m38.a, .int .i64 m38.b, .int .i64 m38.c]), blk g70 35 [.string (bstr m38.n), .bool m38.s, .bool m38.l, .bool m38.f, .int .i64 m38.fd, .int .i64 m38.a, .int .i64 m38.b, .int .i64 m38.c], blk g45 35 [.string (bstr m38.n), .bool m38.s, .bool m38.l, .bool m38.f, .int .i64 m38.fd, .int .i64 m38.a, .int .i64 m38.b, .int .i64 m38.c], blk g4 45 [.slice none 0 0, .int .i64 0, .int .i64 0]] W75) := Lib.hid hS_
          clear S73
          clear hS_
          refine @wpG_p _ _ _ _ _ (some 3) (.slice A76 (n + 1) k77) _ _ rfl (by rfl) (fun _ => rfl) ?_
          simp only [n1, n3, n4]
          refine wpG_done (fun V79 hv80 => ?_)
          have S81 : Hid (St w noB [own (.slice A76 (n + 1) k77) 35 8 (n + 1) (mcs (Ma.mats ls) ++ [.string (bstr m38.n), .bool m38.s, .bool m38.l, .bool m38.f, .int .i64 m38.fd, .int .i64 m38.a, .int .i64 m38.b, .int .i64 m38.c]), blk g70 35 [.string (bstr m38.n), .bool m38.s, .bool m38.l, .bool m38.f, .int .i64 m38.fd, .int .i64 m38.a, .int .i64 m38.b, .int .i64 m38.c], blk g45 35 [.string (bstr m38.n), .bool m38.s, .bool m38.l, .bool m38.f, .int .i64 m38.fd, .int .i64 m38.a, .int .i64 m38.b, .int .i64 m38.c], blk g4 45 [.slice none 0 0, .int .i64 0, .int .i64 0]] V79) := Lib.hid (S78.out.gr hv80)
          clear S78
          clear hv80
          refine ⟨rfl, hK _ _ ?_⟩
          clear hK
          go_upto_region 12 with fail
          refine wpG_region_k (fun K hK => ?_)
          refine @wpG_p _ _ _ _ _ (some 37) (.int .i64 (i : Int)) _ _ rfl (by rfl) (fun _ => rfl) ?_
          simp only [n1, n3, n4]
          refine @wpG_p _ _ _ _ _ (some 38) (.int .i64 ((i : Int) + 1)) _ _ rfl (by rfl) (fun W => op_i_add W (i : Int) 1 (by first | omega | (have hr_ := Ma.check_rng (Ma.mats ls); omega)) rfl rfl rfl Tryd.underlying3) ?_
          simp only [n1, n3, n4]
          refine @wpG_p _ _ _ _ _ (some 4) (.int .i64 ((i : Int) + 1)) _ _ rfl (by rfl) (fun _ => rfl) ?_
          simp only [n1, n3, n4]
          refine wpG_done (fun V82 hv83 => ?_)
          have S84 : Hid (St w noB [own (.slice A76 (n + 1) k77) 35 8 (n + 1) (mcs (Ma.mats ls) ++ [.string (bstr m38.n), .bool m38.s, .bool m38.l, .bool m38.f, .int .i64 m38.fd, .int .i64 m38.a, .int .i64 m38.b, .int .i64 m38.c]), blk g70 35 [.string (bstr m38.n), .bool m38.s, .bool m38.l, .bool m38.f, .int .i64 m38.fd, .int .i64 m38.a, .int .i64 m38.b, .int .i64 m38.c], blk g45 35 [.string (bstr m38.n), .bool m38.s, .bool m38.l, .bool m38.f, .int .i64 m38.fd, .int .i64 m38.a, .int .i64 m38.b, .int .i64 m38.c], blk g4 45 [.slice none 0 0, .int .i64 0, .int .i64 0]] V82) := Lib.hid (S81.out.gr hv83)
          clear S81
          clear hv83
          refine ⟨rfl, hK _ _ ?_⟩
          clear hK
          go_upto_region 13 with fail
          refine wpG_region_k (fun K hK => ?_)
          refine @wpG_p _ _ _ _ _ (some 39) (.int .i64 ((ls.length : Int) + 1)) _ _ rfl (by rfl) (fun _ => rfl) ?_
          simp only [n1, n3, n4]
          refine @wpG_p _ _ _ _ _ (some 40) (.int .i64 (((ls.length : Int) + 1) + 1)) _ _ rfl (by rfl) (fun W => op_i_add W ((ls.length : Int) + 1) 1 (by first | omega | (have hr_ := Ma.check_rng (Ma.mats ls); omega)) rfl rfl rfl Tryd.underlying3) ?_
          simp only [n1, n3, n4]
          refine @wpG_p _ _ _ _ _ (some 5) (.int .i64 (((ls.length : Int) + 1) + 1)) _ _ rfl (by rfl) (fun _ => rfl) ?_
          simp only [n1, n3, n4]
          refine wpG_done (fun V85 hv86 => ?_)
          have S87 : Hid (St w noB [own (.slice A76 (n + 1) k77) 35 8 (n + 1) (mcs (Ma.mats ls) ++ [.string (bstr m38.n), .bool m38.s, .bool m38.l, .bool m38.f, .int .i64 m38.fd, .int .i64 m38.a, .int .i64 m38.b, .int .i64 m38.c]), blk g70 35 [.string (bstr m38.n), .bool m38.s, .bool m38.l, .bool m38.f, .int .i64 m38.fd, .int .i64 m38.a, .int .i64 m38.b, .int .i64 m38.c], blk g45 35 [.string (bstr m38.n), .bool m38.s, .bool m38.l, .bool m38.f, .int .i64 m38.fd, .int .i64 m38.a, .int .i64 m38.b, .int .i64 m38.c], blk g4 45 [.slice none 0 0, .int .i64 0, .int .i64 0]] V85) := Lib.hid (S84.out.gr hv86)
          clear S84
          clear hv86
          refine ⟨rfl, hK _ _ ?_⟩
          clear hK
          go_upto_region 6 with fail
          refine wpG_region_k (fun K hK => ?_)
          refine @wpG_p _ _ _ _ _ (some 15) (.int .i64 (i : Int)) _ _ rfl (by rfl) (fun _ => rfl) ?_
          simp only [n1, n3, n4]
          refine @wpG_p _ _ _ _ _ (some 16) (.int .i64 ((i : Int) + 1)) _ _ rfl (by rfl) (fun W => op_i_add W (i : Int) 1 (by first | omega | (have hr_ := Ma.check_rng (Ma.mats ls); omega)) rfl rfl rfl Tryd.underlying3) ?_
          simp only [n1, n3, n4]
          refine @wpG_p _ _ _ _ _ (some 6) (.int .i64 ((i : Int) + 1)) _ _ rfl (by rfl) (fun _ => rfl) ?_
          simp only [n1, n3, n4]
          refine wpG_done (fun V88 hv89 => ?_)
          have S90 : Hid (St w noB [own (.slice A76 (n + 1) k77) 35 8 (n + 1) (mcs (Ma.mats ls) ++ [.string (bstr m38.n), .bool m38.s, .bool m38.l, .bool m38.f, .int .i64 m38.fd, .int .i64 m38.a, .int .i64 m38.b, .int .i64 m38.c]), blk g70 35 [.string (bstr m38.n), .bool m38.s, .bool m38.l, .bool m38.f, .int .i64 m38.fd, .int .i64 m38.a, .int .i64 m38.b, .int .i64 m38.c], blk g45 35 [.string (bstr m38.n), .bool m38.s, .bool m38.l, .bool m38.f, .int .i64 m38.fd, .int .i64 m38.a, .int .i64 m38.b, .int .i64 m38.c], blk g4 45 [.slice none 0 0, .int .i64 0, .int .i64 0]] V88) := Lib.hid (S87.out.gr hv89)
          clear S87
          clear hv89
          refine ⟨rfl, hK _ _ ?_⟩
          clear hK
          go_wp2_with fail
          go_roundw
          have hl2 : (ls ++ [((x.take i).drop f)]).length = ls.length + 1 := by simp
          have hl3 : ((ls.length : Int) + 1) + 1 = ((ls ++ [((x.take i).drop f)]).length : Int) + 1 := by rw [hl2]; rfl
          rw [hl3]
          clear hl3
          have S91 : Hid (St w noB [own (.slice A76 (n + 1) k77) 35 8 (n + 1) (mcs (Ma.mats ls) ++ [.string (bstr m38.n), .bool m38.s, .bool m38.l, .bool m38.f, .int .i64 m38.fd, .int .i64 m38.a, .int .i64 m38.b, .int .i64 m38.c]), blk g4 45 [.slice none 0 0, .int .i64 0, .int .i64 0]] V88) := Lib.hid (S90.out.sub (.cons_cons _ (.cons _ (.cons _ (.cons_cons _ .slnil)))))
          clear S90
          case rel => exact ⟨A76, n + 1, k77, ls ++ [((x.take i).drop f)], i + 1, i + 1, (by first | rfl | go_num), (by first | rfl | go_num), (by first | rfl | go_num), (by first | rfl | go_num), (by have e_f37 := f37.out; have e_f67 := f67.out; exact Ma.rstep_line HR_.out (by omega) (Ma.is10.1 (by omega)) e_f67), (by have e_f37 := f37.out; have e_f67 := f67.out; rw [Ma.mats_snoc (Ma.mat_is e_f67 HM.out), mcs_append, mcs_one]; exact S91.out)⟩
          case measure => first | (simp only [intOf]; omega) | (simp [intOf]; done) | (simp [intOf]; omega) | omega
    | false =>
      have f92 := of_decide_eq_false Hc27.out.symm
      go_upto_region 14 with fail
      refine wpG_region_k (fun K hK => ?_)
      refine @wpG_p _ _ _ _ _ (some 41) (.int .i64 (f : Int)) _ _ rfl (by rfl) (fun _ => rfl) ?_
      simp only [n1, n3, n4]
      refine @wpG_p _ _ _ _ _ (some 42) (.string (bstr x)) _ _ rfl (by rfl) (fun _ => rfl) ?_
      simp only [n1, n3, n4]
      refine @wpG_p _ _ _ _ _ (some 43) (.int .i64 (x.length : Int)) _ _ rfl (by rfl) (fun W => op_str_len W x rfl rfl Tryd.underlying9) ?_
      simp only [n1, n3, n4]
      refine @wpG_p _ _ _ _ _ (some 44) (.bool (decide ((f : Int) < (x.length : Int)))) _ _ rfl (by rfl) (fun W => op_int_lss W (f : Int) (x.length : Int) rfl rfl rfl Tryd.underlying3) ?_
      simp only [n1, n3, n4]
      refine wpG_done (fun V93 hv94 => ?_)
      have S95 : Hid (St w noB [own (.slice A n c) 35 8 n (mcs (Ma.mats ls)), blk g4 45 [.slice none 0 0, .int .i64 0, .int .i64 0]] V93) := Lib.hid (S26.out.gr hv94)
      clear S26
      clear hv94
      refine ⟨rfl, hK _ _ ?_⟩
      clear hK
      obtain ⟨c96, hc96⟩ : ∃ q_, q_ = (decide ((f : Int) < (x.length : Int))) := ⟨_, rfl⟩
      rw [← hc96]
      have Hc96 := Lib.hid hc96
      clear hc96
      cases c96 with
      | true =>
        have f97 := of_decide_eq_true Hc96.out.symm
        go_upto_region 15 with fail
        refine wpG_region_k (fun K hK => ?_)
        refine @wpG_p _ _ _ _ _ (some 45) (.int .i64 ((ls.length : Int) + 1)) _ _ rfl (by rfl) (fun _ => rfl) ?_
        simp only [n1, n3, n4]
        refine @wpG_p _ _ _ _ _ (some 46) (.agg #[.slice none 0 0, .int .i64 ((ls.length : Int) + 1), .int .i64 3]) _ _ rfl (by rfl) (fun W => by go_simp) ?_
        simp only [n1, n3, n4]
        refine wpG_store (none) rfl (by rfl) (fun W98 hg99 => ⟨_, run_store_mid 45 (.tmp 2) (.tmp 46) rfl g4 0 #[.slice none 0 0, .int .i64 ((ls.length : Int) + 1), .int .i64 3] rfl rfl ((S95.out.gr hg99).room 1 rfl 0 3 (by simp)) (by kernel_rfl) (by kernel_rfl), ?_⟩)
        simp only [n2]
        obtain ⟨U100, hu_, hS_⟩ := ((S95.out.gr hg99).put 1 rfl 0 (#[.slice none 0 0, .int .i64 ((ls.length : Int) + 1), .int .i64 3] : Array Value).toList (ds := [.slice none 0 0, .int .i64 ((ls.length : Int) + 1), .int .i64 3]) rfl).named
        rw [← hu_]
        have S101 : Hid (St w noB [own (.slice A n c) 35 8 n (mcs (Ma.mats ls)), blk g4 45 [.slice none 0 0, .int .i64 ((ls.length : Int) + 1), .int .i64 3]] U100) := Lib.hid hS_
        clear S95
        clear hu_ hS_ hg99
        refine wpG_done (fun V102 hv103 => ?_)
        have S104 : Hid (St w noB [own (.slice A n c) 35 8 n (mcs (Ma.mats ls)), blk g4 45 [.slice none 0 0, .int .i64 ((ls.length : Int) + 1), .int .i64 3]] V102) := Lib.hid (S101.out.gr hv103)
        clear S101
        clear hv103
        refine ⟨rfl, hK _ _ ?_⟩
        clear hK
        go_wp2_with fail
        (try simp only [Exit.inBlock, Exit.then])
        refine bodyPost_ret (results_cell_mid rfl _ _ _ g4 0 [.slice none 0 0, .int .i64 ((ls.length : Int) + 1), .int .i64 3] _ rfl (S104.out.range 1 rfl 0 3 rfl) Tryd.underlying45 rfl (by kernel_rfl)) rfl ?_
        (have hq := Ma.rbad_end HR_.out (by omega) (by omega); exact ⟨none, 0, 0, by rw [hq]; try rfl, by rw [hq]; exact S104.out.dropAll.nilOwn _ _⟩)
      | false =>
        have f105 := of_decide_eq_false Hc96.out.symm
        go_upto_region 16 with fail
        refine wpG_region_k (fun K hK => ?_)
        refine @wpG_p _ _ _ _ _ (some 48) (.slice A n c) _ _ rfl (by rfl) (fun _ => rfl) ?_
        simp only [n1, n3, n4]
        refine @wpG_tk _ _ _ _ _ (some 49) (.tuple #[.int .i64 ((Ma.check (Ma.mats ls)).1), .int .i64 ((Ma.check (Ma.mats ls)).2)]) _ _ rfl (.call (f := 12) (args := #[.slice A n c]) (by rfl) (fun W => by go_simp) (fun W hg => rcheck_any _ _ _ (Ma.mats ls) W (Tbl.ofOwn ((S95.out.gr hg).ownr 0 rfl)))) ?_
        simp only [n1, n3, n4]
        refine @wpG_p _ _ _ _ _ (some 47) (.tuple #[.int .i64 ((Ma.check (Ma.mats ls)).1), .int .i64 ((Ma.check (Ma.mats ls)).2)]) _ _ rfl (by rfl) (fun _ => rfl) ?_
        simp only [n1, n3, n4]
        refine @wpG_p _ _ _ _ _ (some 50) (.int .i64 ((Ma.check (Ma.mats ls)).1)) _ _ rfl (by rfl) (fun W => by go_simp) ?_
        simp only [n1, n3, n4]
        refine @wpG_p _ _ _ _ _ (some 51) (.int .i64 ((Ma.check (Ma.mats ls)).2)) _ _ rfl (by rfl) (fun W => by go_simp) ?_
        simp only [n1, n3, n4]
        refine @wpG_p _ _ _ _ _ (some 9) (.int .i64 ((Ma.check (Ma.mats ls)).1)) _ _ rfl (by rfl) (fun _ => rfl) ?_
        simp only [n1, n3, n4]
        refine @wpG_p _ _ _ _ _ (some 10) (.int .i64 ((Ma.check (Ma.mats ls)).2)) _ _ rfl (by rfl) (fun _ => rfl) ?_
        simp only [n1, n3, n4]
        refine wpG_done (fun V106 hv107 => ?_)
        have S108 : Hid (St w noB [own (.slice A n c) 35 8 n (mcs (Ma.mats ls)), blk g4 45 [.slice none 0 0, .int .i64 0, .int .i64 0]] V106) := Lib.hid (S95.out.gr hv107)
        clear S95
        clear hv107
        refine ⟨rfl, hK _ _ ?_⟩
        clear hK
        go_upto_region 17 with fail
        refine wpG_region_k (fun K hK => ?_)
        refine @wpG_p _ _ _ _ _ (some 52) (.int .i64 ((Ma.check (Ma.mats ls)).2)) _ _ rfl (by rfl) (fun _ => rfl) ?_
        simp only [n1, n3, n4]
        refine @wpG_p _ _ _ _ _ (some 53) (.bool (decide ((Ma.check (Ma.mats ls)).2 ≠ 0))) _ _ rfl (by rfl) (fun W => op_int_neq W ((Ma.check (Ma.mats ls)).2) 0 rfl rfl rfl Tryd.underlying25) ?_
        simp only [n1, n3, n4]
        refine wpG_done (fun V109 hv110 => ?_)
        have S111 : Hid (St w noB [own (.slice A n c) 35 8 n (mcs (Ma.mats ls)), blk g4 45 [.slice none 0 0, .int .i64 0, .int .i64 0]] V109) := Lib.hid (S108.out.gr hv110)
        clear S108
        clear hv110
        refine ⟨rfl, hK _ _ ?_⟩
        clear hK
        obtain ⟨c112, hc112⟩ : ∃ q_, q_ = (decide ((Ma.check (Ma.mats ls)).2 ≠ 0)) := ⟨_, rfl⟩
        rw [← hc112]
        have Hc112 := Lib.hid hc112
        clear hc112
        cases c112 with
        | true =>
          have f113 := of_decide_eq_true Hc112.out.symm
          go_upto_region 18 with fail
          refine wpG_region_k (fun K hK => ?_)
          refine @wpG_p _ _ _ _ _ (some 54) (.int .i64 ((Ma.check (Ma.mats ls)).1)) _ _ rfl (by rfl) (fun _ => rfl) ?_
          simp only [n1, n3, n4]
          refine @wpG_p _ _ _ _ _ (some 55) (.int .i64 (((Ma.check (Ma.mats ls)).1) + 1)) _ _ rfl (by rfl) (fun W => op_i_add W ((Ma.check (Ma.mats ls)).1) 1 (by first | omega | (have hr_ := Ma.check_rng (Ma.mats ls); omega)) rfl rfl rfl Tryd.underlying3) ?_
          simp only [n1, n3, n4]
          refine @wpG_p _ _ _ _ _ (some 56) (.int .i64 ((Ma.check (Ma.mats ls)).2)) _ _ rfl (by rfl) (fun _ => rfl) ?_
          simp only [n1, n3, n4]
          refine @wpG_p _ _ _ _ _ (some 57) (.agg #[.slice none 0 0, .int .i64 (((Ma.check (Ma.mats ls)).1) + 1), .int .i64 ((Ma.check (Ma.mats ls)).2)]) _ _ rfl (by rfl) (fun W => by go_simp) ?_
          simp only [n1, n3, n4]
          refine wpG_store (none) rfl (by rfl) (fun W114 hg115 => ⟨_, run_store_mid 45 (.tmp 2) (.tmp 57) rfl g4 0 #[.slice none 0 0, .int .i64 (((Ma.check (Ma.mats ls)).1) + 1), .int .i64 ((Ma.check (Ma.mats ls)).2)] rfl rfl ((S111.out.gr hg115).room 1 rfl 0 3 (by simp)) (by kernel_rfl) (by kernel_rfl), ?_⟩)
          simp only [n2]
          obtain ⟨U116, hu_, hS_⟩ := ((S111.out.gr hg115).put 1 rfl 0 (#[.slice none 0 0, .int .i64 (((Ma.check (Ma.mats ls)).1) + 1), .int .i64 ((Ma.check (Ma.mats ls)).2)] : Array Value).toList (ds := [.slice none 0 0, .int .i64 (((Ma.check (Ma.mats ls)).1) + 1), .int .i64 ((Ma.check (Ma.mats ls)).2)]) rfl).named
          rw [← hu_]
          have S117 : Hid (St w noB [own (.slice A n c) 35 8 n (mcs (Ma.mats ls)), blk g4 45 [.slice none 0 0, .int .i64 (((Ma.check (Ma.mats ls)).1) + 1), .int .i64 ((Ma.check (Ma.mats ls)).2)]] U116) := Lib.hid hS_
          clear S111
          clear hu_ hS_ hg115
          refine wpG_done (fun V118 hv119 => ?_)
          have S120 : Hid (St w noB [own (.slice A n c) 35 8 n (mcs (Ma.mats ls)), blk g4 45 [.slice none 0 0, .int .i64 (((Ma.check (Ma.mats ls)).1) + 1), .int .i64 ((Ma.check (Ma.mats ls)).2)]] V118) := Lib.hid (S117.out.gr hv119)
          clear S117
          clear hv119
          refine ⟨rfl, hK _ _ ?_⟩
          clear hK
          go_wp2_with fail
          (try simp only [Exit.inBlock, Exit.then])
          refine bodyPost_ret (results_cell_mid rfl _ _ _ g4 0 [.slice none 0 0, .int .i64 (((Ma.check (Ma.mats ls)).1) + 1), .int .i64 ((Ma.check (Ma.mats ls)).2)] _ rfl (S120.out.range 1 rfl 0 3 rfl) Tryd.underlying45 rfl (by kernel_rfl)) rfl ?_
          (have hq := Ma.pdone_bad (Ma.rend HR_.out (by omega)) f113; exact ⟨none, 0, 0, by rw [hq]; try rfl, by rw [hq]; exact S120.out.dropAll.nilOwn _ _⟩)
        | false =>
          have f121 := Lib.hid (Decidable.not_not.1 (of_decide_eq_false Hc112.out.symm))
          have f121a := Int.le_of_eq f121.out
          have f121b := Int.le_of_eq f121.out.symm
          go_upto_region 19 with fail
          refine wpG_region_k (fun K hK => ?_)
          refine @wpG_p _ _ _ _ _ (some 58) (.slice A n c) _ _ rfl (by rfl) (fun _ => rfl) ?_
          simp only [n1, n3, n4]
          refine @wpG_p _ _ _ _ _ (some 59) (.agg #[.slice A n c, .int .i64 0, .int .i64 0]) _ _ rfl (by rfl) (fun W => by go_simp) ?_
          simp only [n1, n3, n4]
          refine wpG_store (none) rfl (by rfl) (fun W122 hg123 => ⟨_, run_store_mid 45 (.tmp 2) (.tmp 59) rfl g4 0 #[.slice A n c, .int .i64 0, .int .i64 0] rfl rfl ((S111.out.gr hg123).room 1 rfl 0 3 (by simp)) (by kernel_rfl) (by kernel_rfl), ?_⟩)
          simp only [n2]
          obtain ⟨U124, hu_, hS_⟩ := ((S111.out.gr hg123).put 1 rfl 0 (#[.slice A n c, .int .i64 0, .int .i64 0] : Array Value).toList (ds := [.slice A n c, .int .i64 0, .int .i64 0]) rfl).named
          rw [← hu_]
          have S125 : Hid (St w noB [own (.slice A n c) 35 8 n (mcs (Ma.mats ls)), blk g4 45 [.slice A n c, .int .i64 0, .int .i64 0]] U124) := Lib.hid hS_
          clear S111
          clear hu_ hS_ hg123
          refine wpG_done (fun V126 hv127 => ?_)
          have S128 : Hid (St w noB [own (.slice A n c) 35 8 n (mcs (Ma.mats ls)), blk g4 45 [.slice A n c, .int .i64 0, .int .i64 0]] V126) := Lib.hid (S125.out.gr hv127)
          clear S125
          clear hv127
          refine ⟨rfl, hK _ _ ?_⟩
          clear hK
          go_wp2_with fail
          (try simp only [Exit.inBlock, Exit.then])
          refine bodyPost_ret (results_cell_mid rfl _ _ _ g4 0 [.slice A n c, .int .i64 0, .int .i64 0] _ rfl (S128.out.range 1 rfl 0 3 rfl) Tryd.underlying45 rfl (by kernel_rfl)) rfl ?_
          (have e_f121 := f121.out; have hq := Ma.pdone_good (Ma.rend HR_.out (by omega)) e_f121; exact ⟨A, n, c, by rw [hq]; try rfl, by rw [hq]; exact S128.out.sub (.cons_cons _ (.cons _ .slnil))⟩)

end Go.Proofs.YtpjjddjoegnipaaDoor
