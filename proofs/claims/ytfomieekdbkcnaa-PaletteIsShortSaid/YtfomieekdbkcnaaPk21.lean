/-
  Contracts of the specification of package palette: Unpack.
-/
import Derived.Test.YtfomieekdbkcnaaPk20
import Derived.Test.YtfomieekdbkcnaaPk8
import Derived.Handy
namespace Go.Proofs.Ytfomieekdbkcnaa
open Go Go.RowKit
set_option linter.unusedVariables false
set_option linter.unusedSimpArgs false
set_option maxRecDepth 1000000 in
set_option maxHeartbeats 4000000 in
theorem runpack_any (x : List UInt8) (w : World) (hx : x.length ≤ 1000) :
    Calls Try.prog 14 #[.string (bstr x)] w fun e w' => ∃ A q c, e = .returned (.agg #[.slice A q c, .int .i64 ((Pl.un x).2.1 : Int), .int .i64 ((Pl.un x).2.2 : Int)]) ∧ St w noB [own (.slice A q c) 3 1 q (ic (Pl.un x).1)] w' := by
  have S1 : Hid (St w noB [] w) := Lib.hid (St.start w)
  go_enter Try.func14, Try.ntmps14
  go_upto_region 0 with fail
  refine wpG_region_k (fun K hK => ?_)
  refine wpG_val (some 2) rfl (by rfl) (fun W2 hg3 => ⟨.pointer (some ⟨W2.heap.size, 0, none⟩), W2.alloc (.cells #[.slice none 0 0, .int .i64 0, .int .i64 0] 30), by (first | (go_simp; done) | (go_simp <;> rfl)), ?_⟩)
  simp only [n1, n3, n4]
  obtain ⟨g4, U5, hg_, hu_, hS_⟩ := (S1.out.gr hg3).made [.slice none 0 0, .int .i64 0, .int .i64 0] 30
  rw [← hu_, ← hg_]
  have S6 : Hid (St w noB [blk g4 30 [.slice none 0 0, .int .i64 0, .int .i64 0]] U5) := Lib.hid hS_
  clear S1
  clear hg_ hu_ hS_ hg3
  refine wpG_done (fun V7 hv8 => ?_)
  have S9 : Hid (St w noB [blk g4 30 [.slice none 0 0, .int .i64 0, .int .i64 0]] V7) := Lib.hid (S6.out.gr hv8)
  clear S6
  clear hv8
  refine ⟨rfl, hK _ _ ?_⟩
  clear hK
  go_upto_region 1 with fail
  refine wpG_region_k (fun K hK => ?_)
  refine @wpG_p _ _ _ _ _ (some 14) (.string (bstr x)) _ _ rfl (by rfl) (fun _ => rfl) ?_
  simp only [n1, n3, n4]
  refine @wpG_p _ _ _ _ _ (some 15) (.bool (decide (x = []))) _ _ rfl (by rfl) (fun W => op_str_eql W x [] rfl rfl rfl Try.underlying9) ?_
  simp only [n1, n3, n4]
  refine wpG_done (fun V10 hv11 => ?_)
  have S12 : Hid (St w noB [blk g4 30 [.slice none 0 0, .int .i64 0, .int .i64 0]] V10) := Lib.hid (S9.out.gr hv11)
  clear S9
  clear hv11
  refine ⟨rfl, hK _ _ ?_⟩
  clear hK
  obtain ⟨c13, hc13⟩ : ∃ q_, q_ = (decide (x = [])) := ⟨_, rfl⟩
  rw [← hc13]
  have Hc13 := Lib.hid hc13
  clear hc13
  cases c13 with
  | true =>
    have f14 := Lib.hid (of_decide_eq_true Hc13.out.symm)
    go_upto_region 2 with fail
    refine wpG_region_k (fun K hK => ?_)
    refine @wpG_p _ _ _ _ _ (some 16) (.agg #[.slice none 0 0, .int .i64 0, .int .i64 5]) _ _ rfl (by rfl) (fun W => by go_simp) ?_
    simp only [n1, n3, n4]
    refine wpG_store (none) rfl (by rfl) (fun W15 hg16 => ⟨_, run_store_mid 30 (.tmp 2) (.tmp 16) rfl g4 0 #[.slice none 0 0, .int .i64 0, .int .i64 5] rfl rfl ((S12.out.gr hg16).room 0 rfl 0 3 (by simp)) (by kernel_rfl) (by kernel_rfl), ?_⟩)
    simp only [n2]
    obtain ⟨U17, hu_, hS_⟩ := ((S12.out.gr hg16).put 0 rfl 0 (#[.slice none 0 0, .int .i64 0, .int .i64 5] : Array Value).toList (ds := [.slice none 0 0, .int .i64 0, .int .i64 5]) rfl).named
    rw [← hu_]
    have S18 : Hid (St w noB [blk g4 30 [.slice none 0 0, .int .i64 0, .int .i64 5]] U17) := Lib.hid hS_
    clear S12
    clear hu_ hS_ hg16
    refine wpG_done (fun V19 hv20 => ?_)
    have S21 : Hid (St w noB [blk g4 30 [.slice none 0 0, .int .i64 0, .int .i64 5]] V19) := Lib.hid (S18.out.gr hv20)
    clear S18
    clear hv20
    refine ⟨rfl, hK _ _ ?_⟩
    clear hK
    (repeat go_step)
    (try simp only [Exit.inBlock, Exit.then])
    refine bodyPost_ret (results_cell_mid rfl _ _ _ g4 0 [.slice none 0 0, .int .i64 0, .int .i64 5] _ rfl (S21.out.range 0 rfl 0 3 rfl) Try.underlying30 rfl (by kernel_rfl)) rfl ?_
    (have e_f14 := f14.out; have hx_ : x = [] := e_f14; have hu_ : Pl.un x = ([], 0, 5) := (by rw [hx_]; rfl); exact ⟨none, 0, 0, by rw [hu_]; rfl, by rw [hu_]; exact S21.out.dropAll.nilOwn _ _⟩)
  | false =>
    have f22 := of_decide_eq_false Hc13.out.symm
    go_upto_region 3 with fail
    refine wpG_region_k (fun K hK => ?_)
    refine @wpG_p _ _ _ _ _ (some 17) (.string (bstr x)) _ _ rfl (by rfl) (fun _ => rfl) ?_
    simp only [n1, n3, n4]
    have hx0_ : 0 < x.length := List.length_pos_iff.2 f22
    have hb0_ : Pl.uN x < 256 := (x.getD 0 0).toNat_lt
    refine @wpG_p _ _ _ _ _ (some 18) (.int .u8 (Pl.uN x : Int)) _ _ rfl (by rfl) (fun W => (op_str_idx W x 0 hx0_ rfl rfl rfl Try.underlying9).trans rfl) ?_
    simp only [n1, n3, n4]
    refine @wpG_p _ _ _ _ _ (some 19) (.int .i64 (Pl.uN x : Int)) _ _ rfl (by rfl) (fun W => op_conv_i64 W (Pl.uN x : Int) (by omega) rfl rfl Try.underlying5 Try.underlying3) ?_
    simp only [n1, n3, n4]
    refine @wpG_p _ _ _ _ _ (some 3) (.int .i64 (Pl.uN x : Int)) _ _ rfl (by rfl) (fun _ => rfl) ?_
    simp only [n1, n3, n4]
    refine wpG_done (fun V23 hv24 => ?_)
    have S25 : Hid (St w noB [blk g4 30 [.slice none 0 0, .int .i64 0, .int .i64 0]] V23) := Lib.hid (S12.out.gr hv24)
    clear S12
    clear hv24
    refine ⟨rfl, hK _ _ ?_⟩
    clear hK
    go_upto_region 4 with fail
    refine wpG_region_k (fun K hK => ?_)
    refine @wpG_p _ _ _ _ _ (some 20) (.int .i64 (Pl.uN x : Int)) _ _ rfl (by rfl) (fun _ => rfl) ?_
    simp only [n1, n3, n4]
    refine @wpG_p _ _ _ _ _ (some 21) (.bool (decide ((Pl.uN x : Int) > 64))) _ _ rfl (by rfl) (fun W => op_int_gtr W (Pl.uN x : Int) 64 rfl rfl rfl Try.underlying3) ?_
    simp only [n1, n3, n4]
    refine wpG_done (fun V26 hv27 => ?_)
    have S28 : Hid (St w noB [blk g4 30 [.slice none 0 0, .int .i64 0, .int .i64 0]] V26) := Lib.hid (S25.out.gr hv27)
    clear S25
    clear hv27
    refine ⟨rfl, hK _ _ ?_⟩
    clear hK
    obtain ⟨c29, hc29⟩ : ∃ q_, q_ = (decide ((Pl.uN x : Int) > 64)) := ⟨_, rfl⟩
    rw [← hc29]
    have Hc29 := Lib.hid hc29
    clear hc29
    cases c29 with
    | true =>
      have f30 := of_decide_eq_true Hc29.out.symm
      go_upto_region 5 with fail
      refine wpG_region_k (fun K hK => ?_)
      refine @wpG_p _ _ _ _ _ (some 22) (.agg #[.slice none 0 0, .int .i64 0, .int .i64 6]) _ _ rfl (by rfl) (fun W => by go_simp) ?_
      simp only [n1, n3, n4]
      refine wpG_store (none) rfl (by rfl) (fun W31 hg32 => ⟨_, run_store_mid 30 (.tmp 2) (.tmp 22) rfl g4 0 #[.slice none 0 0, .int .i64 0, .int .i64 6] rfl rfl ((S28.out.gr hg32).room 0 rfl 0 3 (by simp)) (by kernel_rfl) (by kernel_rfl), ?_⟩)
      simp only [n2]
      obtain ⟨U33, hu_, hS_⟩ := ((S28.out.gr hg32).put 0 rfl 0 (#[.slice none 0 0, .int .i64 0, .int .i64 6] : Array Value).toList (ds := [.slice none 0 0, .int .i64 0, .int .i64 6]) rfl).named
      rw [← hu_]
      have S34 : Hid (St w noB [blk g4 30 [.slice none 0 0, .int .i64 0, .int .i64 6]] U33) := Lib.hid hS_
      clear S28
      clear hu_ hS_ hg32
      refine wpG_done (fun V35 hv36 => ?_)
      have S37 : Hid (St w noB [blk g4 30 [.slice none 0 0, .int .i64 0, .int .i64 6]] V35) := Lib.hid (S34.out.gr hv36)
      clear S34
      clear hv36
      refine ⟨rfl, hK _ _ ?_⟩
      clear hK
      (repeat go_step)
      (try simp only [Exit.inBlock, Exit.then])
      refine bodyPost_ret (results_cell_mid rfl _ _ _ g4 0 [.slice none 0 0, .int .i64 0, .int .i64 6] _ rfl (S37.out.range 0 rfl 0 3 rfl) Try.underlying30 rfl (by kernel_rfl)) rfl ?_
      (have hE_ := Pl.hE_c1 f22 (by omega); have hu_ := Pl.un_head (t := x) (by omega) (show Pl.hE x ≠ 0 by omega); rw [hE_] at hu_; exact ⟨none, 0, 0, by rw [hu_]; rfl, by rw [hu_]; exact S37.out.dropAll.nilOwn _ _⟩)
    | false =>
      have f38 := of_decide_eq_false Hc29.out.symm
      go_upto_region 6 with fail
      refine wpG_region_k (fun K hK => ?_)
      refine @wpG_p _ _ _ _ _ (some 23) (.int .i64 (Pl.uN x : Int)) _ _ rfl (by rfl) (fun _ => rfl) ?_
      simp only [n1, n3, n4]
      refine @wpG_p _ _ _ _ _ (some 24) (.bool (decide ((Pl.uN x : Int) = 0))) _ _ rfl (by rfl) (fun W => op_int_eql W (Pl.uN x : Int) 0 rfl rfl rfl Try.underlying3) ?_
      simp only [n1, n3, n4]
      refine wpG_done (fun V39 hv40 => ?_)
      have S41 : Hid (St w noB [blk g4 30 [.slice none 0 0, .int .i64 0, .int .i64 0]] V39) := Lib.hid (S28.out.gr hv40)
      clear S28
      clear hv40
      refine ⟨rfl, hK _ _ ?_⟩
      clear hK
      obtain ⟨c42, hc42⟩ : ∃ q_, q_ = (decide ((Pl.uN x : Int) = 0)) := ⟨_, rfl⟩
      rw [← hc42]
      have Hc42 := Lib.hid hc42
      clear hc42
      cases c42 with
      | true =>
        have f43 := Lib.hid (of_decide_eq_true Hc42.out.symm)
        have f43a := Int.le_of_eq f43.out
        have f43b := Int.le_of_eq f43.out.symm
        go_upto_region 7 with fail
        refine wpG_region_k (fun K hK => ?_)
        refine @wpG_p _ _ _ _ _ (some 25) (.agg #[.slice none 0 0, .int .i64 1, .int .i64 0]) _ _ rfl (by rfl) (fun W => by go_simp) ?_
        simp only [n1, n3, n4]
        refine wpG_store (none) rfl (by rfl) (fun W44 hg45 => ⟨_, run_store_mid 30 (.tmp 2) (.tmp 25) rfl g4 0 #[.slice none 0 0, .int .i64 1, .int .i64 0] rfl rfl ((S41.out.gr hg45).room 0 rfl 0 3 (by simp)) (by kernel_rfl) (by kernel_rfl), ?_⟩)
        simp only [n2]
        obtain ⟨U46, hu_, hS_⟩ := ((S41.out.gr hg45).put 0 rfl 0 (#[.slice none 0 0, .int .i64 1, .int .i64 0] : Array Value).toList (ds := [.slice none 0 0, .int .i64 1, .int .i64 0]) rfl).named
        rw [← hu_]
        have S47 : Hid (St w noB [blk g4 30 [.slice none 0 0, .int .i64 1, .int .i64 0]] U46) := Lib.hid hS_
        clear S41
        clear hu_ hS_ hg45
        refine wpG_done (fun V48 hv49 => ?_)
        have S50 : Hid (St w noB [blk g4 30 [.slice none 0 0, .int .i64 1, .int .i64 0]] V48) := Lib.hid (S47.out.gr hv49)
        clear S47
        clear hv49
        refine ⟨rfl, hK _ _ ?_⟩
        clear hK
        (repeat go_step)
        (try simp only [Exit.inBlock, Exit.then])
        refine bodyPost_ret (results_cell_mid rfl _ _ _ g4 0 [.slice none 0 0, .int .i64 1, .int .i64 0] _ rfl (S50.out.range 0 rfl 0 3 rfl) Try.underlying30 rfl (by kernel_rfl)) rfl ?_
        (have e_f43 := f43.out; have hu_ := Pl.un_zero (t := x) (by omega) (by omega); exact ⟨none, 0, 0, by rw [hu_]; rfl, by rw [hu_]; exact S50.out.dropAll.nilOwn _ _⟩)
      | false =>
        have f51 := of_decide_eq_false Hc42.out.symm
        go_upto_region 8 with fail
        refine wpG_region_k (fun K hK => ?_)
        refine @wpG_p _ _ _ _ _ (some 26) (.string (bstr x)) _ _ rfl (by rfl) (fun _ => rfl) ?_
        simp only [n1, n3, n4]
        refine @wpG_p _ _ _ _ _ (some 27) (.int .i64 (x.length : Int)) _ _ rfl (by rfl) (fun W => op_str_len W x rfl rfl Try.underlying9) ?_
        simp only [n1, n3, n4]
        refine @wpG_p _ _ _ _ _ (some 28) (.bool (decide ((x.length : Int) < 2))) _ _ rfl (by rfl) (fun W => op_int_lss W (x.length : Int) 2 rfl rfl rfl Try.underlying3) ?_
        simp only [n1, n3, n4]
        refine wpG_done (fun V52 hv53 => ?_)
        have S54 : Hid (St w noB [blk g4 30 [.slice none 0 0, .int .i64 0, .int .i64 0]] V52) := Lib.hid (S41.out.gr hv53)
        clear S41
        clear hv53
        refine ⟨rfl, hK _ _ ?_⟩
        clear hK
        obtain ⟨c55, hc55⟩ : ∃ q_, q_ = (decide ((x.length : Int) < 2)) := ⟨_, rfl⟩
        rw [← hc55]
        have Hc55 := Lib.hid hc55
        clear hc55
        cases c55 with
        | true =>
          have f56 := of_decide_eq_true Hc55.out.symm
          go_upto_region 9 with fail
          refine wpG_region_k (fun K hK => ?_)
          refine @wpG_p _ _ _ _ _ (some 29) (.agg #[.slice none 0 0, .int .i64 0, .int .i64 5]) _ _ rfl (by rfl) (fun W => by go_simp) ?_
          simp only [n1, n3, n4]
          refine wpG_store (none) rfl (by rfl) (fun W57 hg58 => ⟨_, run_store_mid 30 (.tmp 2) (.tmp 29) rfl g4 0 #[.slice none 0 0, .int .i64 0, .int .i64 5] rfl rfl ((S54.out.gr hg58).room 0 rfl 0 3 (by simp)) (by kernel_rfl) (by kernel_rfl), ?_⟩)
          simp only [n2]
          obtain ⟨U59, hu_, hS_⟩ := ((S54.out.gr hg58).put 0 rfl 0 (#[.slice none 0 0, .int .i64 0, .int .i64 5] : Array Value).toList (ds := [.slice none 0 0, .int .i64 0, .int .i64 5]) rfl).named
          rw [← hu_]
          have S60 : Hid (St w noB [blk g4 30 [.slice none 0 0, .int .i64 0, .int .i64 5]] U59) := Lib.hid hS_
          clear S54
          clear hu_ hS_ hg58
          refine wpG_done (fun V61 hv62 => ?_)
          have S63 : Hid (St w noB [blk g4 30 [.slice none 0 0, .int .i64 0, .int .i64 5]] V61) := Lib.hid (S60.out.gr hv62)
          clear S60
          clear hv62
          refine ⟨rfl, hK _ _ ?_⟩
          clear hK
          (repeat go_step)
          (try simp only [Exit.inBlock, Exit.then])
          refine bodyPost_ret (results_cell_mid rfl _ _ _ g4 0 [.slice none 0 0, .int .i64 0, .int .i64 5] _ rfl (S63.out.range 0 rfl 0 3 rfl) Try.underlying30 rfl (by kernel_rfl)) rfl ?_
          (have hE_ := Pl.hE_c2 f22 (by omega) (by omega); have hu_ := Pl.un_head (t := x) (by omega) (show Pl.hE x ≠ 0 by omega); rw [hE_] at hu_; exact ⟨none, 0, 0, by rw [hu_]; rfl, by rw [hu_]; exact S63.out.dropAll.nilOwn _ _⟩)
        | false =>
          have f64 := of_decide_eq_false Hc55.out.symm
          go_upto_region 10 with fail
          refine wpG_region_k (fun K hK => ?_)
          refine @wpG_p _ _ _ _ _ (some 30) (.string (bstr x)) _ _ rfl (by rfl) (fun _ => rfl) ?_
          simp only [n1, n3, n4]
          have hx1_ : 1 < x.length := by omega
          have hb1_ : Pl.uM x < 256 := (x.getD 1 0).toNat_lt
          refine @wpG_p _ _ _ _ _ (some 31) (.int .u8 (Pl.uM x : Int)) _ _ rfl (by rfl) (fun W => (op_str_idx W x 1 hx1_ rfl rfl rfl Try.underlying9).trans rfl) ?_
          simp only [n1, n3, n4]
          refine @wpG_p _ _ _ _ _ (some 32) (.int .i64 (Pl.uM x : Int)) _ _ rfl (by rfl) (fun W => op_conv_i64 W (Pl.uM x : Int) (by omega) rfl rfl Try.underlying5 Try.underlying3) ?_
          simp only [n1, n3, n4]
          refine @wpG_p _ _ _ _ _ (some 4) (.int .i64 (Pl.uM x : Int)) _ _ rfl (by rfl) (fun _ => rfl) ?_
          simp only [n1, n3, n4]
          refine wpG_done (fun V65 hv66 => ?_)
          have S67 : Hid (St w noB [blk g4 30 [.slice none 0 0, .int .i64 0, .int .i64 0]] V65) := Lib.hid (S54.out.gr hv66)
          clear S54
          clear hv66
          refine ⟨rfl, hK _ _ ?_⟩
          clear hK
          go_upto_region 11 with fail
          refine wpG_region_k (fun K hK => ?_)
          refine @wpG_p _ _ _ _ _ (some 33) (.int .i64 (Pl.uM x : Int)) _ _ rfl (by rfl) (fun _ => rfl) ?_
          simp only [n1, n3, n4]
          refine @wpG_p _ _ _ _ _ (some 34) (.bool (decide ((Pl.uM x : Int) < 1))) _ _ rfl (by rfl) (fun W => op_int_lss W (Pl.uM x : Int) 1 rfl rfl rfl Try.underlying3) ?_
          simp only [n1, n3, n4]
          refine @wpG_p _ _ _ _ _ (some 35) (.bool (decide ((Pl.uM x : Int) < 1))) _ _ rfl (by rfl) (fun _ => rfl) ?_
          simp only [n1, n3, n4]
          obtain ⟨c68, hc68⟩ : ∃ q_, q_ = (decide ((Pl.uM x : Int) < 1)) := ⟨_, rfl⟩
          rw [← hc68]
          have Hc68 := Lib.hid hc68
          clear hc68
          cases c68 with
          | true =>
            have f69 := of_decide_eq_true Hc68.out.symm
            refine @wpG_no _ _ _ _ _ (some 36) _ _ rfl (by rfl) ?_
            simp only [n1, n3, n4]
            refine @wpG_no _ _ _ _ _ (some 37) _ _ rfl (by rfl) ?_
            simp only [n1, n3, n4]
            refine @wpG_no _ _ _ _ _ (some 38) _ _ rfl (by rfl) ?_
            simp only [n1, n3, n4]
            refine @wpG_p _ _ _ _ _ (some 39) (.bool true) _ _ rfl (by rfl) (fun W => by go_simp) ?_
            simp only [n1, n3, n4]
            refine wpG_done (fun V70 hv71 => ?_)
            have S72 : Hid (St w noB [blk g4 30 [.slice none 0 0, .int .i64 0, .int .i64 0]] V70) := Lib.hid (S67.out.gr hv71)
            clear S67
            clear hv71
            refine ⟨rfl, hK _ _ ?_⟩
            clear hK
            go_upto_region 12 with fail
            refine wpG_region_k (fun K hK => ?_)
            refine @wpG_p _ _ _ _ _ (some 40) (.agg #[.slice none 0 0, .int .i64 0, .int .i64 6]) _ _ rfl (by rfl) (fun W => by go_simp) ?_
            simp only [n1, n3, n4]
            refine wpG_store (none) rfl (by rfl) (fun W73 hg74 => ⟨_, run_store_mid 30 (.tmp 2) (.tmp 40) rfl g4 0 #[.slice none 0 0, .int .i64 0, .int .i64 6] rfl rfl ((S72.out.gr hg74).room 0 rfl 0 3 (by simp)) (by kernel_rfl) (by kernel_rfl), ?_⟩)
            simp only [n2]
            obtain ⟨U75, hu_, hS_⟩ := ((S72.out.gr hg74).put 0 rfl 0 (#[.slice none 0 0, .int .i64 0, .int .i64 6] : Array Value).toList (ds := [.slice none 0 0, .int .i64 0, .int .i64 6]) rfl).named
            rw [← hu_]
            have S76 : Hid (St w noB [blk g4 30 [.slice none 0 0, .int .i64 0, .int .i64 6]] U75) := Lib.hid hS_
            clear S72
            clear hu_ hS_ hg74
            refine wpG_done (fun V77 hv78 => ?_)
            have S79 : Hid (St w noB [blk g4 30 [.slice none 0 0, .int .i64 0, .int .i64 6]] V77) := Lib.hid (S76.out.gr hv78)
            clear S76
            clear hv78
            refine ⟨rfl, hK _ _ ?_⟩
            clear hK
            (repeat go_step)
            (try simp only [Exit.inBlock, Exit.then])
            refine bodyPost_ret (results_cell_mid rfl _ _ _ g4 0 [.slice none 0 0, .int .i64 0, .int .i64 6] _ rfl (S79.out.range 0 rfl 0 3 rfl) Try.underlying30 rfl (by kernel_rfl)) rfl ?_
            (have hE_ := Pl.hE_c3 f22 (by omega) (by omega) (by omega); have hu_ := Pl.un_head (t := x) (by omega) (show Pl.hE x ≠ 0 by omega); rw [hE_] at hu_; exact ⟨none, 0, 0, by rw [hu_]; rfl, by rw [hu_]; exact S79.out.dropAll.nilOwn _ _⟩)
          | false =>
            have f80 := of_decide_eq_false Hc68.out.symm
            refine @wpG_p _ _ _ _ _ (some 36) (.int .i64 (Pl.uM x : Int)) _ _ rfl (by rfl) (fun _ => rfl) ?_
            simp only [n1, n3, n4]
            refine @wpG_p _ _ _ _ _ (some 37) (.int .i64 (Pl.uN x : Int)) _ _ rfl (by rfl) (fun _ => rfl) ?_
            simp only [n1, n3, n4]
            refine @wpG_p _ _ _ _ _ (some 38) (.bool (decide ((Pl.uM x : Int) > (Pl.uN x : Int)))) _ _ rfl (by rfl) (fun W => op_int_gtr W (Pl.uM x : Int) (Pl.uN x : Int) rfl rfl rfl Try.underlying3) ?_
            simp only [n1, n3, n4]
            refine @wpG_p _ _ _ _ _ (some 39) (.bool (decide ((Pl.uM x : Int) > (Pl.uN x : Int)))) _ _ rfl (by rfl) (fun W => by go_simp) ?_
            simp only [n1, n3, n4]
            refine wpG_done (fun V81 hv82 => ?_)
            have S83 : Hid (St w noB [blk g4 30 [.slice none 0 0, .int .i64 0, .int .i64 0]] V81) := Lib.hid (S67.out.gr hv82)
            clear S67
            clear hv82
            refine ⟨rfl, hK _ _ ?_⟩
            clear hK
            obtain ⟨c84, hc84⟩ : ∃ q_, q_ = (decide ((Pl.uM x : Int) > (Pl.uN x : Int))) := ⟨_, rfl⟩
            rw [← hc84]
            have Hc84 := Lib.hid hc84
            clear hc84
            cases c84 with
            | true =>
              have f85 := of_decide_eq_true Hc84.out.symm
              go_upto_region 12 with fail
              refine wpG_region_k (fun K hK => ?_)
              refine @wpG_p _ _ _ _ _ (some 40) (.agg #[.slice none 0 0, .int .i64 0, .int .i64 6]) _ _ rfl (by rfl) (fun W => by go_simp) ?_
              simp only [n1, n3, n4]
              refine wpG_store (none) rfl (by rfl) (fun W86 hg87 => ⟨_, run_store_mid 30 (.tmp 2) (.tmp 40) rfl g4 0 #[.slice none 0 0, .int .i64 0, .int .i64 6] rfl rfl ((S83.out.gr hg87).room 0 rfl 0 3 (by simp)) (by kernel_rfl) (by kernel_rfl), ?_⟩)
              simp only [n2]
              obtain ⟨U88, hu_, hS_⟩ := ((S83.out.gr hg87).put 0 rfl 0 (#[.slice none 0 0, .int .i64 0, .int .i64 6] : Array Value).toList (ds := [.slice none 0 0, .int .i64 0, .int .i64 6]) rfl).named
              rw [← hu_]
              have S89 : Hid (St w noB [blk g4 30 [.slice none 0 0, .int .i64 0, .int .i64 6]] U88) := Lib.hid hS_
              clear S83
              clear hu_ hS_ hg87
              refine wpG_done (fun V90 hv91 => ?_)
              have S92 : Hid (St w noB [blk g4 30 [.slice none 0 0, .int .i64 0, .int .i64 6]] V90) := Lib.hid (S89.out.gr hv91)
              clear S89
              clear hv91
              refine ⟨rfl, hK _ _ ?_⟩
              clear hK
              (repeat go_step)
              (try simp only [Exit.inBlock, Exit.then])
              refine bodyPost_ret (results_cell_mid rfl _ _ _ g4 0 [.slice none 0 0, .int .i64 0, .int .i64 6] _ rfl (S92.out.range 0 rfl 0 3 rfl) Try.underlying30 rfl (by kernel_rfl)) rfl ?_
              (have hE_ := Pl.hE_c3 f22 (by omega) (by omega) (by omega); have hu_ := Pl.un_head (t := x) (by omega) (show Pl.hE x ≠ 0 by omega); rw [hE_] at hu_; exact ⟨none, 0, 0, by rw [hu_]; rfl, by rw [hu_]; exact S92.out.dropAll.nilOwn _ _⟩)
            | false =>
              have f93 := of_decide_eq_false Hc84.out.symm
              go_upto_region 13 with fail
              refine wpG_region_k (fun K hK => ?_)
              refine @wpG_p _ _ _ _ _ (some 5) (.slice none 0 0) _ _ rfl (by rfl) (fun _ => rfl) ?_
              simp only [n1, n3, n4]
              refine wpG_done (fun V94 hv95 => ?_)
              have S96 : Hid (St w noB [blk g4 30 [.slice none 0 0, .int .i64 0, .int .i64 0]] V94) := Lib.hid (S83.out.gr hv95)
              clear S83
              clear hv95
              refine ⟨rfl, hK _ _ ?_⟩
              clear hK
              go_upto_region 14 with fail
              refine wpG_region_k (fun K hK => ?_)
              refine @wpG_p _ _ _ _ _ (some 6) (.int .i64 0) _ _ rfl (by rfl) (fun _ => rfl) ?_
              simp only [n1, n3, n4]
              refine wpG_done (fun V97 hv98 => ?_)
              have S99 : Hid (St w noB [blk g4 30 [.slice none 0 0, .int .i64 0, .int .i64 0]] V97) := Lib.hid (S96.out.gr hv98)
              clear S96
              clear hv98
              refine ⟨rfl, hK _ _ ?_⟩
              clear hK
              have S100 : Hid (St w noB [own (.slice none 0 0) 3 1 0 (ic (Pl.uQ x 0)), blk g4 30 [.slice none 0 0, .int .i64 0, .int .i64 0]] V97) := Lib.hid (S99.out.nilOwn 3 1)
              clear S99
              go_wp2_with fail
              go_loopw [5, 6] (fun v5 v6 wr => ∃ (E : Option Addr) (d i : Nat), v5 = .slice E i d ∧ v6 = .int .i64 (i : Int) ∧ i ≤ Pl.uM x ∧ (Pl.uQ x i).Nodup ∧ 2 + i ≤ x.length ∧ St w noB [own (.slice E i d) 3 1 i (ic (Pl.uQ x i)), blk g4 30 [.slice none 0 0, .int .i64 0, .int .i64 0]] wr) (fun a i _ => Pl.uM x - (intOf i).toNat)
              case atStart => exact ⟨none, 0, 0, rfl, rfl, Nat.zero_le _, List.nodup_nil, (by omega), S100.out⟩
              case round =>
                obtain ⟨E, d, i, rfl, rfl, him, hnd, hil, hS⟩ := hrel
                have HND := Lib.hid hnd
                clear hnd
                have SL := Lib.hid hS
                clear S100 hS
                have S101 := SL
                clear SL
                go_upto_region 15 with fail
                refine wpG_region_k (fun K hK => ?_)
                refine @wpG_p _ _ _ _ _ (some 41) (.int .i64 (i : Int)) _ _ rfl (by rfl) (fun _ => rfl) ?_
                simp only [n1, n3, n4]
                refine @wpG_p _ _ _ _ _ (some 42) (.int .i64 (Pl.uM x : Int)) _ _ rfl (by rfl) (fun _ => rfl) ?_
                simp only [n1, n3, n4]
                refine @wpG_p _ _ _ _ _ (some 43) (.bool (decide ((i : Int) < (Pl.uM x : Int)))) _ _ rfl (by rfl) (fun W => op_int_lss W (i : Int) (Pl.uM x : Int) rfl rfl rfl Try.underlying3) ?_
                simp only [n1, n3, n4]
                refine wpG_done (fun V102 hv103 => ?_)
                have S104 : Hid (St w noB [own (.slice E i d) 3 1 i (ic (Pl.uQ x i)), blk g4 30 [.slice none 0 0, .int .i64 0, .int .i64 0]] V102) := Lib.hid (S101.out.gr hv103)
                clear S101
                clear hv103
                refine ⟨rfl, hK _ _ ?_⟩
                clear hK
                obtain ⟨c105, hc105⟩ : ∃ q_, q_ = (decide ((i : Int) < (Pl.uM x : Int))) := ⟨_, rfl⟩
                rw [← hc105]
                have Hc105 := Lib.hid hc105
                clear hc105
                cases c105 with
                | true =>
                  have f106 := of_decide_eq_true Hc105.out.symm
                  go_upto_region 17 with fail
                  refine wpG_region_k (fun K hK => ?_)
                  refine @wpG_p _ _ _ _ _ (some 46) (.string (bstr x)) _ _ rfl (by rfl) (fun _ => rfl) ?_
                  simp only [n1, n3, n4]
                  refine @wpG_p _ _ _ _ _ (some 47) (.int .i64 (x.length : Int)) _ _ rfl (by rfl) (fun W => op_str_len W x rfl rfl Try.underlying9) ?_
                  simp only [n1, n3, n4]
                  refine @wpG_p _ _ _ _ _ (some 48) (.int .i64 (i : Int)) _ _ rfl (by rfl) (fun _ => rfl) ?_
                  simp only [n1, n3, n4]
                  obtain ⟨i2, h_i2⟩ : ∃ q_ : Nat, q_ = 2 + i := ⟨_, rfl⟩
                  have hi2b : i2 ≤ 2 + i ∧ 2 + i ≤ i2 := by omega
                  have Hi2 := Lib.hid h_i2
                  clear h_i2
                  refine @wpG_p _ _ _ _ _ (some 49) (.int .i64 (i2 : Int)) _ _ rfl (by rfl) (fun W => op_n_add 2 i i2 Hi2.out.symm (by omega) rfl rfl rfl) ?_
                  simp only [n1, n3, n4]
                  refine @wpG_p _ _ _ _ _ (some 50) (.bool (decide ((x.length : Int) ≤ (i2 : Int)))) _ _ rfl (by rfl) (fun W => op_int_leq W (x.length : Int) (i2 : Int) rfl rfl rfl Try.underlying3) ?_
                  simp only [n1, n3, n4]
                  refine wpG_done (fun V107 hv108 => ?_)
                  have S109 : Hid (St w noB [own (.slice E i d) 3 1 i (ic (Pl.uQ x i)), blk g4 30 [.slice none 0 0, .int .i64 0, .int .i64 0]] V107) := Lib.hid (S104.out.gr hv108)
                  clear S104
                  clear hv108
                  refine ⟨rfl, hK _ _ ?_⟩
                  clear hK
                  obtain ⟨c110, hc110⟩ : ∃ q_, q_ = (decide ((x.length : Int) ≤ (i2 : Int))) := ⟨_, rfl⟩
                  rw [← hc110]
                  have Hc110 := Lib.hid hc110
                  clear hc110
                  cases c110 with
                  | true =>
                    have f111 := of_decide_eq_true Hc110.out.symm
                    go_upto_region 18 with fail
                    refine wpG_region_k (fun K hK => ?_)
                    refine @wpG_p _ _ _ _ _ (some 51) (.agg #[.slice none 0 0, .int .i64 0, .int .i64 5]) _ _ rfl (by rfl) (fun W => by go_simp) ?_
                    simp only [n1, n3, n4]
                    refine wpG_store (none) rfl (by rfl) (fun W112 hg113 => ⟨_, run_store_mid 30 (.tmp 2) (.tmp 51) rfl g4 0 #[.slice none 0 0, .int .i64 0, .int .i64 5] rfl rfl ((S109.out.gr hg113).room 1 rfl 0 3 (by simp)) (by kernel_rfl) (by kernel_rfl), ?_⟩)
                    simp only [n2]
                    obtain ⟨U114, hu_, hS_⟩ := ((S109.out.gr hg113).put 1 rfl 0 (#[.slice none 0 0, .int .i64 0, .int .i64 5] : Array Value).toList (ds := [.slice none 0 0, .int .i64 0, .int .i64 5]) rfl).named
                    rw [← hu_]
                    have S115 : Hid (St w noB [own (.slice E i d) 3 1 i (ic (Pl.uQ x i)), blk g4 30 [.slice none 0 0, .int .i64 0, .int .i64 5]] U114) := Lib.hid hS_
                    clear S109
                    clear hu_ hS_ hg113
                    refine wpG_done (fun V116 hv117 => ?_)
                    have S118 : Hid (St w noB [own (.slice E i d) 3 1 i (ic (Pl.uQ x i)), blk g4 30 [.slice none 0 0, .int .i64 0, .int .i64 5]] V116) := Lib.hid (S115.out.gr hv117)
                    clear S115
                    clear hv117
                    refine ⟨rfl, hK _ _ ?_⟩
                    clear hK
                    (repeat go_step)
                    (try simp only [Exit.inBlock, Exit.then])
                    refine bodyPost_ret (results_cell_mid rfl _ _ _ g4 0 [.slice none 0 0, .int .i64 0, .int .i64 5] _ rfl (S118.out.range 1 rfl 0 3 rfl) Try.underlying30 rfl (by kernel_rfl)) rfl ?_
                    (have hE_ := Pl.hE_short f22 (by omega) (by omega) (by omega) (by omega) (by omega) hil HND.out; have hu_ := Pl.un_head (t := x) (by omega) (show Pl.hE x ≠ 0 by omega); rw [hE_] at hu_; exact ⟨none, 0, 0, by rw [hu_]; rfl, by rw [hu_]; exact S118.out.dropAll.nilOwn _ _⟩)
                  | false =>
                    have f119 := of_decide_eq_false Hc110.out.symm
                    go_upto_region 19 with fail
                    refine wpG_region_k (fun K hK => ?_)
                    refine @wpG_p _ _ _ _ _ (some 52) (.string (bstr x)) _ _ rfl (by rfl) (fun _ => rfl) ?_
                    simp only [n1, n3, n4]
                    refine @wpG_p _ _ _ _ _ (some 53) (.int .i64 (i : Int)) _ _ rfl (by rfl) (fun _ => rfl) ?_
                    simp only [n1, n3, n4]
                    obtain ⟨i3, h_i3⟩ : ∃ q_ : Nat, q_ = 2 + i := ⟨_, rfl⟩
                    have hi3b : i3 ≤ 2 + i ∧ 2 + i ≤ i3 := by omega
                    have Hi3 := Lib.hid h_i3
                    clear h_i3
                    refine @wpG_p _ _ _ _ _ (some 54) (.int .i64 (i3 : Int)) _ _ rfl (by rfl) (fun W => op_n_add 2 i i3 Hi3.out.symm (by omega) rfl rfl rfl) ?_
                    simp only [n1, n3, n4]
                    obtain ⟨cc, h_cc⟩ : ∃ q_ : Nat, q_ = (x.getD i3 0).toNat := ⟨_, rfl⟩
                    have hccb : cc < 256 := by rw [h_cc]; exact (x.getD i3 0).toNat_lt
                    have Hcc := Lib.hid h_cc
                    clear h_cc
                    refine @wpG_p _ _ _ _ _ (some 55) (.int .u8 (cc : Int)) _ _ rfl (by rfl) (fun W => (op_str_idx W x i3 (by omega) rfl rfl rfl Try.underlying9).trans (by rw [Hcc.out]; rfl)) ?_
                    simp only [n1, n3, n4]
                    refine @wpG_p _ _ _ _ _ (some 56) (.int .i64 (cc : Int)) _ _ rfl (by rfl) (fun W => op_conv_i64 W (cc : Int) (by omega) rfl rfl Try.underlying5 Try.underlying3) ?_
                    simp only [n1, n3, n4]
                    refine @wpG_p _ _ _ _ _ (some 7) (.int .i64 (cc : Int)) _ _ rfl (by rfl) (fun _ => rfl) ?_
                    simp only [n1, n3, n4]
                    refine wpG_done (fun V120 hv121 => ?_)
                    have S122 : Hid (St w noB [own (.slice E i d) 3 1 i (ic (Pl.uQ x i)), blk g4 30 [.slice none 0 0, .int .i64 0, .int .i64 0]] V120) := Lib.hid (S109.out.gr hv121)
                    clear S109
                    clear hv121
                    refine ⟨rfl, hK _ _ ?_⟩
                    clear hK
                    go_upto_region 20 with fail
                    refine wpG_region_k (fun K hK => ?_)
                    refine @wpG_p _ _ _ _ _ (some 57) (.slice E i d) _ _ rfl (by rfl) (fun _ => rfl) ?_
                    simp only [n1, n3, n4]
                    refine @wpG_p _ _ _ _ _ (some 58) (.int .i64 (cc : Int)) _ _ rfl (by rfl) (fun _ => rfl) ?_
                    simp only [n1, n3, n4]
                    refine @wpG_tk _ _ _ _ _ (some 59) (.int .i64 (List.idxOf (cc : Int) (Pl.uQ x i) : Int)) _ _ rfl (.call (f := 35) (args := #[.slice E i d, .int .i64 (cc : Int)]) (by rfl) (fun W => by go_simp) (fun W hg => index_any _ _ _ (Pl.uQ x i) (cc : Int) W (SL.ofOwn ((S122.out.gr hg).ownr 0 rfl)))) ?_
                    simp only [n1, n3, n4]
                    refine @wpG_p _ _ _ _ _ (some 60) (.slice E i d) _ _ rfl (by rfl) (fun _ => rfl) ?_
                    simp only [n1, n3, n4]
                    refine @wpG_p _ _ _ _ _ (some 61) (.int .i64 (i : Int)) _ _ rfl (by rfl) (fun W => by go_simp) ?_
                    simp only [n1, n3, n4]
                    refine @wpG_p _ _ _ _ _ (some 62) (.bool (decide ((List.idxOf (cc : Int) (Pl.uQ x i) : Int) < (i : Int)))) _ _ rfl (by rfl) (fun W => op_int_lss W (List.idxOf (cc : Int) (Pl.uQ x i) : Int) (i : Int) rfl rfl rfl Try.underlying3) ?_
                    simp only [n1, n3, n4]
                    refine wpG_done (fun V123 hv124 => ?_)
                    have S125 : Hid (St w noB [own (.slice E i d) 3 1 i (ic (Pl.uQ x i)), blk g4 30 [.slice none 0 0, .int .i64 0, .int .i64 0]] V123) := Lib.hid (S122.out.gr hv124)
                    clear S122
                    clear hv124
                    refine ⟨rfl, hK _ _ ?_⟩
                    clear hK
                    obtain ⟨c126, hc126⟩ : ∃ q_, q_ = (decide ((List.idxOf (cc : Int) (Pl.uQ x i) : Int) < (i : Int))) := ⟨_, rfl⟩
                    rw [← hc126]
                    have Hc126 := Lib.hid hc126
                    clear hc126
                    cases c126 with
                    | true =>
                      have f127 := of_decide_eq_true Hc126.out.symm
                      go_upto_region 21 with fail
                      refine wpG_region_k (fun K hK => ?_)
                      refine @wpG_p _ _ _ _ _ (some 63) (.agg #[.slice none 0 0, .int .i64 0, .int .i64 6]) _ _ rfl (by rfl) (fun W => by go_simp) ?_
                      simp only [n1, n3, n4]
                      refine wpG_store (none) rfl (by rfl) (fun W128 hg129 => ⟨_, run_store_mid 30 (.tmp 2) (.tmp 63) rfl g4 0 #[.slice none 0 0, .int .i64 0, .int .i64 6] rfl rfl ((S125.out.gr hg129).room 1 rfl 0 3 (by simp)) (by kernel_rfl) (by kernel_rfl), ?_⟩)
                      simp only [n2]
                      obtain ⟨U130, hu_, hS_⟩ := ((S125.out.gr hg129).put 1 rfl 0 (#[.slice none 0 0, .int .i64 0, .int .i64 6] : Array Value).toList (ds := [.slice none 0 0, .int .i64 0, .int .i64 6]) rfl).named
                      rw [← hu_]
                      have S131 : Hid (St w noB [own (.slice E i d) 3 1 i (ic (Pl.uQ x i)), blk g4 30 [.slice none 0 0, .int .i64 0, .int .i64 6]] U130) := Lib.hid hS_
                      clear S125
                      clear hu_ hS_ hg129
                      refine wpG_done (fun V132 hv133 => ?_)
                      have S134 : Hid (St w noB [own (.slice E i d) 3 1 i (ic (Pl.uQ x i)), blk g4 30 [.slice none 0 0, .int .i64 0, .int .i64 6]] V132) := Lib.hid (S131.out.gr hv133)
                      clear S131
                      clear hv133
                      refine ⟨rfl, hK _ _ ?_⟩
                      clear hK
                      (repeat go_step)
                      (try simp only [Exit.inBlock, Exit.then])
                      refine bodyPost_ret (results_cell_mid rfl _ _ _ g4 0 [.slice none 0 0, .int .i64 0, .int .i64 6] _ rfl (S134.out.range 1 rfl 0 3 rfl) Try.underlying30 rfl (by kernel_rfl)) rfl ?_
                      (have hE_ := Pl.hE_c4 f22 (by omega) (by omega) (by omega) (Pl.uQ_dup (i := i) (by omega) (by omega) (by rw [show 2 + i = i3 by omega, ← Hcc.out]; omega)); have hu_ := Pl.un_head (t := x) (by omega) (show Pl.hE x ≠ 0 by omega); rw [hE_] at hu_; exact ⟨none, 0, 0, by rw [hu_]; rfl, by rw [hu_]; exact S134.out.dropAll.nilOwn _ _⟩)
                    | false =>
                      have f135 := of_decide_eq_false Hc126.out.symm
                      go_upto_region 22 with fail
                      refine wpG_region_k (fun K hK => ?_)
                      refine @wpG_p _ _ _ _ _ (some 64) (.slice E i d) _ _ rfl (by rfl) (fun _ => rfl) ?_
                      simp only [n1, n3, n4]
                      refine @wpG_p _ _ _ _ _ (some 65) (.int .i64 (cc : Int)) _ _ rfl (by rfl) (fun _ => rfl) ?_
                      simp only [n1, n3, n4]
                      refine wpG_val (some 66) rfl (by rfl) (fun W136 hg137 => ⟨.slice (some ⟨W136.heap.size, 0, none⟩) 1 1, W136.alloc (.cells #[.int .i64 (cc : Int)] 3), by (go_simp <;> rfl), ?_⟩)
                      simp only [n1, n3, n4]
                      obtain ⟨g138, U139, hg_, hu_, hS_⟩ := (S125.out.gr hg137).made [.int .i64 (cc : Int)] 3
                      rw [← hu_, ← hg_]
                      have S140 : Hid (St w noB [blk g138 3 [.int .i64 (cc : Int)], own (.slice E i d) 3 1 i (ic (Pl.uQ x i)), blk g4 30 [.slice none 0 0, .int .i64 0, .int .i64 0]] U139) := Lib.hid hS_
                      clear S125
                      clear hg_ hu_ hS_ hg137
                      have S141 : Hid (St w noB [own (.slice E i d) 3 1 i (ic (Pl.uQ x i)), blk g138 3 [.int .i64 (cc : Int)], blk g4 30 [.slice none 0 0, .int .i64 0, .int .i64 0]] U139) := Lib.hid (S140.out.front 1 rfl)
                      clear S140
                      refine wpG_appS (some 67) rfl rfl (.tmp 64) (.tmp 66) 22 22 rfl 3 1 8 Try.underlying22 (by kernel_rfl) (.slice E i d) i (ic (Pl.uQ x i)) S141.out (.slice (some ⟨g138, 0, none⟩) 1 1) 1 [.int .i64 (cc : Int)] (fun W hg => src_lies Try.underlying22 1 rfl (fun h => by cases h) (by intro u hu; simp at hu; rcases hu with rfl <;> rfl) ((S141.out.gr hg).liesBlk 1 rfl)) rfl rfl (by simp only [maxLen]; omega) (by omega) (fun v142 W143 hS_ => ?_)
                      simp only [n1, n3, n4]
                      rw [show ic (Pl.uQ x i) ++ [.int .i64 (cc : Int)] = ic ((Pl.uQ x i) ++ [(cc : Int)]) by simp [ic]] at hS_
                      obtain ⟨A144, k145, rfl, hle_, hcap_, _⟩ := own_shape (hS_.ownr 0 rfl)
                      have S146 : Hid (St w noB [own (.slice A144 (i + 1) k145) 3 1 (i + 1) (ic ((Pl.uQ x i) ++ [(cc : Int)])), blk g138 3 [.int .i64 (cc : Int)], blk g4 30 [.slice none 0 0, .int .i64 0, .int .i64 0]] W143) := Lib.hid hS_
                      clear S141
                      clear hS_
                      refine @wpG_p _ _ _ _ _ (some 5) (.slice A144 (i + 1) k145) _ _ rfl (by rfl) (fun _ => rfl) ?_
                      simp only [n1, n3, n4]
                      refine wpG_done (fun V147 hv148 => ?_)
                      have S149 : Hid (St w noB [own (.slice A144 (i + 1) k145) 3 1 (i + 1) (ic ((Pl.uQ x i) ++ [(cc : Int)])), blk g138 3 [.int .i64 (cc : Int)], blk g4 30 [.slice none 0 0, .int .i64 0, .int .i64 0]] V147) := Lib.hid (S146.out.gr hv148)
                      clear S146
                      clear hv148
                      refine ⟨rfl, hK _ _ ?_⟩
                      clear hK
                      go_upto_region 16 with fail
                      refine wpG_region_k (fun K hK => ?_)
                      refine @wpG_p _ _ _ _ _ (some 44) (.int .i64 (i : Int)) _ _ rfl (by rfl) (fun _ => rfl) ?_
                      simp only [n1, n3, n4]
                      refine @wpG_p _ _ _ _ _ (some 45) (.int .i64 ((i : Int) + 1)) _ _ rfl (by rfl) (fun W => op_i_add W (i : Int) 1 (by omega) rfl rfl rfl Try.underlying3) ?_
                      simp only [n1, n3, n4]
                      refine @wpG_p _ _ _ _ _ (some 6) (.int .i64 ((i : Int) + 1)) _ _ rfl (by rfl) (fun _ => rfl) ?_
                      simp only [n1, n3, n4]
                      refine wpG_done (fun V150 hv151 => ?_)
                      have S152 : Hid (St w noB [own (.slice A144 (i + 1) k145) 3 1 (i + 1) (ic ((Pl.uQ x i) ++ [(cc : Int)])), blk g138 3 [.int .i64 (cc : Int)], blk g4 30 [.slice none 0 0, .int .i64 0, .int .i64 0]] V150) := Lib.hid (S149.out.gr hv151)
                      clear S149
                      clear hv151
                      refine ⟨rfl, hK _ _ ?_⟩
                      clear hK
                      go_wp2_with fail
                      go_roundw
                      have S153 : Hid (St w noB [own (.slice A144 (i + 1) k145) 3 1 (i + 1) (ic ((Pl.uQ x i) ++ [(cc : Int)])), blk g4 30 [.slice none 0 0, .int .i64 0, .int .i64 0]] V150) := Lib.hid (S152.out.sub (.cons_cons _ (.cons _ (.cons_cons _ .slnil))))
                      clear S152
                      case rel => exact ⟨A144, k145, i + 1, (by first | rfl | go_num), (by first | rfl | go_num), (by omega), (by exact Pl.uQ_nodup (by omega) HND.out (by rw [show 2 + i = i3 by omega, ← Hcc.out]; omega)), (by omega), (by rw [Pl.uQ_succ (by omega), show 2 + i = i3 by omega, ← Hcc.out]; exact S153.out)⟩
                      case measure => first | (simp only [intOf]; omega) | (simp [intOf]; done) | (simp [intOf]; omega) | omega
                | false =>
                  have f154 := of_decide_eq_false Hc105.out.symm
                  go_upto_region 23 with fail
                  refine wpG_region_k (fun K hK => ?_)
                  have him_ : i = Pl.uM x := by omega
                  have hE0_ : Pl.hE x = 0 := Pl.hE_full f22 (by omega) (by omega) (by omega) him_ hil HND.out
                  have HE0 := Lib.hid hE0_
                  obtain ⟨hk1_, hk2_, hk3_, hk4_, hk5_, hk6_, hk7_⟩ := Pl.hE_ok hE0_
                  clear hk7_
                  have HPL := Lib.hid hk5_
                  have S155 : Hid (St w noB [own (.slice E i d) 3 1 i (ic (Pl.uP x)), blk g4 30 [.slice none 0 0, .int .i64 0, .int .i64 0]] V102) := Lib.hid (by have h_ := S104.out; rw [show ic (Pl.uQ x i) = ic (Pl.uP x) from (by rw [him_]; rfl)] at h_; exact h_)
                  clear S104
                  have hw8_ : (Pl.wd (Pl.uM x)) ≤ 8 := by rcases Pl.wd_cases (Pl.uM x) with e_ | e_ | e_ | e_ | e_ <;> omega
                  clear hE0_ hk5_ him_
                  refine @wpG_p _ _ _ _ _ (some 68) (.int .i64 (Pl.uM x : Int)) _ _ rfl (by rfl) (fun _ => rfl) ?_
                  simp only [n1, n3, n4]
                  refine @wpG_tk _ _ _ _ _ (some 69) (.int .i64 (Pl.wd (Pl.uM x) : Int)) _ _ rfl (.call (f := 34) (args := #[.int .i64 (Pl.uM x : Int)]) (by rfl) (fun W => by go_simp) (fun W hg => rwidth_any (Pl.uM x) W)) ?_
                  simp only [n1, n3, n4]
                  refine @wpG_p _ _ _ _ _ (some 8) (.int .i64 (Pl.wd (Pl.uM x) : Int)) _ _ rfl (by rfl) (fun _ => rfl) ?_
                  simp only [n1, n3, n4]
                  refine wpG_done (fun V156 hv157 => ?_)
                  have S158 : Hid (St w noB [own (.slice E i d) 3 1 i (ic (Pl.uP x)), blk g4 30 [.slice none 0 0, .int .i64 0, .int .i64 0]] V156) := Lib.hid (S155.out.gr hv157)
                  clear S155
                  clear hv157
                  refine ⟨rfl, hK _ _ ?_⟩
                  clear hK
                  go_upto_region 24 with fail
                  refine wpG_region_k (fun K hK => ?_)
                  refine @wpG_p _ _ _ _ _ (some 9) (.int .i64 0) _ _ rfl (by rfl) (fun _ => rfl) ?_
                  simp only [n1, n3, n4]
                  refine wpG_done (fun V159 hv160 => ?_)
                  have S161 : Hid (St w noB [own (.slice E i d) 3 1 i (ic (Pl.uP x)), blk g4 30 [.slice none 0 0, .int .i64 0, .int .i64 0]] V159) := Lib.hid (S158.out.gr hv160)
                  clear S158
                  clear hv160
                  refine ⟨rfl, hK _ _ ?_⟩
                  clear hK
                  go_upto_region 25 with fail
                  refine wpG_region_k (fun K hK => ?_)
                  refine @wpG_p _ _ _ _ _ (some 10) (.slice none 0 0) _ _ rfl (by rfl) (fun _ => rfl) ?_
                  simp only [n1, n3, n4]
                  refine wpG_done (fun V162 hv163 => ?_)
                  have S164 : Hid (St w noB [own (.slice E i d) 3 1 i (ic (Pl.uP x)), blk g4 30 [.slice none 0 0, .int .i64 0, .int .i64 0]] V162) := Lib.hid (S161.out.gr hv163)
                  clear S161
                  clear hv163
                  refine ⟨rfl, hK _ _ ?_⟩
                  clear hK
                  go_upto_region 26 with fail
                  refine wpG_region_k (fun K hK => ?_)
                  refine @wpG_p _ _ _ _ _ (some 11) (.int .i64 0) _ _ rfl (by rfl) (fun _ => rfl) ?_
                  simp only [n1, n3, n4]
                  refine wpG_done (fun V165 hv166 => ?_)
                  have S167 : Hid (St w noB [own (.slice E i d) 3 1 i (ic (Pl.uP x)), blk g4 30 [.slice none 0 0, .int .i64 0, .int .i64 0]] V165) := Lib.hid (S164.out.gr hv166)
                  clear S164
                  clear hv166
                  refine ⟨rfl, hK _ _ ?_⟩
                  clear hK
                  have S168 : Hid (St w noB [own (.slice none 0 0) 3 1 0 (ic (Pl.cellsOf (Pl.uP x) (Pl.fld (Pl.wd (Pl.uM x)) (Pl.V (Pl.uB x))) 0)), own (.slice E i d) 3 1 i (ic (Pl.uP x)), blk g4 30 [.slice none 0 0, .int .i64 0, .int .i64 0]] V165) := Lib.hid (S167.out.nilOwn 3 1)
                  clear S167
                  go_wp2_with fail
                  go_loopw [9, 10, 11] (fun v9 v10 v11 wr => ∃ (G : Option Addr) (gc j u : Nat), v9 = .int .i64 (u : Int) ∧ v10 = .slice G j gc ∧ v11 = .int .i64 (j : Int) ∧ j ≤ Pl.uN x ∧ u = Pl.sn (Pl.fld (Pl.wd (Pl.uM x)) (Pl.V (Pl.uB x))) j ∧ (∀ j2, j2 < j → Pl.okS (Pl.uM x) (Pl.uN x) (Pl.fld (Pl.wd (Pl.uM x)) (Pl.V (Pl.uB x))) j2 ∧ (j2 + 1) * (Pl.wd (Pl.uM x)) ≤ (Pl.uB x).length * 8) ∧ (j = Pl.uN x → Pl.V (Pl.uB x) < 2 ^ ((Pl.wd (Pl.uM x)) * (Pl.uN x))) ∧ St w noB [own (.slice G j gc) 3 1 j (ic (Pl.cellsOf (Pl.uP x) (Pl.fld (Pl.wd (Pl.uM x)) (Pl.V (Pl.uB x))) j)), own (.slice E i d) 3 1 i (ic (Pl.uP x)), blk g4 30 [.slice none 0 0, .int .i64 0, .int .i64 0]] wr) (fun a b i _ => Pl.uN x - (intOf i).toNat)
                  case atStart => exact ⟨none, 0, 0, 0, rfl, rfl, rfl, Nat.zero_le _, rfl, (fun j2 hj2 => absurd hj2 (Nat.not_lt_zero _)), (fun h_ => absurd h_ (by omega)), S168.out⟩
                  case round =>
                    obtain ⟨G, gc, j, u, rfl, rfl, rfl, hjn, hue, hok, htl, hS⟩ := hrel
                    have HUE := Lib.hid hue
                    clear hue
                    have HOK := Lib.hid hok
                    clear hok
                    have HTL := Lib.hid htl
                    clear htl
                    have SL := Lib.hid hS
                    clear S168 hS
                    have S169 := SL
                    clear SL
                    have hub_ : u ≤ 64 := by have h1_ := HUE.out; have h2_ := Pl.sn_le (Pl.fld (Pl.wd (Pl.uM x)) (Pl.V (Pl.uB x))) j; omega
                    go_upto_region 27 with fail
                    refine wpG_region_k (fun K hK => ?_)
                    refine @wpG_p _ _ _ _ _ (some 70) (.int .i64 (j : Int)) _ _ rfl (by rfl) (fun _ => rfl) ?_
                    simp only [n1, n3, n4]
                    refine @wpG_p _ _ _ _ _ (some 71) (.int .i64 (Pl.uN x : Int)) _ _ rfl (by rfl) (fun _ => rfl) ?_
                    simp only [n1, n3, n4]
                    refine @wpG_p _ _ _ _ _ (some 72) (.bool (decide ((j : Int) < (Pl.uN x : Int)))) _ _ rfl (by rfl) (fun W => op_int_lss W (j : Int) (Pl.uN x : Int) rfl rfl rfl Try.underlying3) ?_
                    simp only [n1, n3, n4]
                    refine wpG_done (fun V170 hv171 => ?_)
                    have S172 : Hid (St w noB [own (.slice G j gc) 3 1 j (ic (Pl.cellsOf (Pl.uP x) (Pl.fld (Pl.wd (Pl.uM x)) (Pl.V (Pl.uB x))) j)), own (.slice E i d) 3 1 i (ic (Pl.uP x)), blk g4 30 [.slice none 0 0, .int .i64 0, .int .i64 0]] V170) := Lib.hid (S169.out.gr hv171)
                    clear S169
                    clear hv171
                    refine ⟨rfl, hK _ _ ?_⟩
                    clear hK
                    obtain ⟨c173, hc173⟩ : ∃ q_, q_ = (decide ((j : Int) < (Pl.uN x : Int))) := ⟨_, rfl⟩
                    rw [← hc173]
                    have Hc173 := Lib.hid hc173
                    clear hc173
                    cases c173 with
                    | true =>
                      have f174 := of_decide_eq_true Hc173.out.symm
                      go_upto_region 29 with fail
                      refine wpG_region_k (fun K hK => ?_)
                      refine @wpG_p _ _ _ _ _ (some 12) (.int .i64 0) _ _ rfl (by rfl) (fun _ => rfl) ?_
                      simp only [n1, n3, n4]
                      refine wpG_done (fun V175 hv176 => ?_)
                      have S177 : Hid (St w noB [own (.slice G j gc) 3 1 j (ic (Pl.cellsOf (Pl.uP x) (Pl.fld (Pl.wd (Pl.uM x)) (Pl.V (Pl.uB x))) j)), own (.slice E i d) 3 1 i (ic (Pl.uP x)), blk g4 30 [.slice none 0 0, .int .i64 0, .int .i64 0]] V175) := Lib.hid (S172.out.gr hv176)
                      clear S172
                      clear hv176
                      refine ⟨rfl, hK _ _ ?_⟩
                      clear hK
                      go_upto_region 30 with fail
                      refine wpG_region_k (fun K hK => ?_)
                      refine @wpG_p _ _ _ _ _ (some 75) (.int .i64 (Pl.wd (Pl.uM x) : Int)) _ _ rfl (by rfl) (fun _ => rfl) ?_
                      simp only [n1, n3, n4]
                      refine @wpG_p _ _ _ _ _ (some 76) (.bool (decide ((Pl.wd (Pl.uM x) : Int) > 0))) _ _ rfl (by rfl) (fun W => op_int_gtr W (Pl.wd (Pl.uM x) : Int) 0 rfl rfl rfl Try.underlying3) ?_
                      simp only [n1, n3, n4]
                      refine wpG_done (fun V178 hv179 => ?_)
                      have S180 : Hid (St w noB [own (.slice G j gc) 3 1 j (ic (Pl.cellsOf (Pl.uP x) (Pl.fld (Pl.wd (Pl.uM x)) (Pl.V (Pl.uB x))) j)), own (.slice E i d) 3 1 i (ic (Pl.uP x)), blk g4 30 [.slice none 0 0, .int .i64 0, .int .i64 0]] V178) := Lib.hid (S177.out.gr hv179)
                      clear S177
                      clear hv179
                      refine ⟨rfl, hK _ _ ?_⟩
                      clear hK
                      obtain ⟨c181, hc181⟩ : ∃ q_, q_ = (decide ((Pl.wd (Pl.uM x) : Int) > 0)) := ⟨_, rfl⟩
                      rw [← hc181]
                      have Hc181 := Lib.hid hc181
                      clear hc181
                      cases c181 with
                      | true =>
                        have f182 := of_decide_eq_true Hc181.out.symm
                        go_upto_region 31 with fail
                        refine wpG_region_k (fun K hK => ?_)
                        have hw4_ : (Pl.wd (Pl.uM x)) = 1 ∨ (Pl.wd (Pl.uM x)) = 2 ∨ (Pl.wd (Pl.uM x)) = 4 ∨ (Pl.wd (Pl.uM x)) = 8 := by rcases Pl.wd_cases (Pl.uM x) with e_ | e_ | e_ | e_ | e_ <;> omega
                        have HW4 := Lib.hid hw4_
                        clear hw4_
                        refine @wpG_p _ _ _ _ _ (some 77) (.int .i64 (Pl.uM x : Int)) _ _ rfl (by rfl) (fun _ => rfl) ?_
                        simp only [n1, n3, n4]
                        obtain ⟨b2, h_b2⟩ : ∃ q_ : Nat, q_ = 2 + Pl.uM x := ⟨_, rfl⟩
                        have hb2b : b2 ≤ 2 + Pl.uM x ∧ 2 + Pl.uM x ≤ b2 := by omega
                        have Hb2 := Lib.hid h_b2
                        clear h_b2
                        refine @wpG_p _ _ _ _ _ (some 78) (.int .i64 (b2 : Int)) _ _ rfl (by rfl) (fun W => op_n_add 2 (Pl.uM x) b2 Hb2.out.symm (by omega) rfl rfl rfl) ?_
                        simp only [n1, n3, n4]
                        refine @wpG_p _ _ _ _ _ (some 79) (.int .i64 (j : Int)) _ _ rfl (by rfl) (fun _ => rfl) ?_
                        simp only [n1, n3, n4]
                        refine @wpG_p _ _ _ _ _ (some 80) (.int .i64 (Pl.wd (Pl.uM x) : Int)) _ _ rfl (by rfl) (fun _ => rfl) ?_
                        simp only [n1, n3, n4]
                        obtain ⟨jw, h_jw⟩ : ∃ q_ : Nat, q_ = j * (Pl.wd (Pl.uM x)) := ⟨_, rfl⟩
                        have hjwb : jw ≤ 64 * 8 := by rw [h_jw]; exact Nat.mul_le_mul (by omega) hw8_
                        have Hjw := Lib.hid h_jw
                        clear h_jw
                        refine @wpG_p _ _ _ _ _ (some 81) (.int .i64 (jw : Int)) _ _ rfl (by rfl) (fun W => op_n_mul j (Pl.wd (Pl.uM x)) jw Hjw.out.symm (by omega) rfl rfl rfl) ?_
                        simp only [n1, n3, n4]
                        obtain ⟨k8, h_k8⟩ : ∃ q_ : Nat, q_ = jw / 8 := ⟨_, rfl⟩
                        have hk8b : k8 ≤ 64 := by omega
                        have Hk8 := Lib.hid h_k8
                        clear h_k8
                        refine @wpG_p _ _ _ _ _ (some 82) (.int .i64 (k8 : Int)) _ _ rfl (by rfl) (fun W => op_n_quo jw 8 k8 Hk8.out.symm (by decide) (by omega) rfl rfl rfl) ?_
                        simp only [n1, n3, n4]
                        obtain ⟨ta, h_ta⟩ : ∃ q_ : Nat, q_ = b2 + k8 := ⟨_, rfl⟩
                        have htab : ta ≤ b2 + k8 ∧ b2 + k8 ≤ ta := by omega
                        have Hta := Lib.hid h_ta
                        clear h_ta
                        refine @wpG_p _ _ _ _ _ (some 83) (.int .i64 (ta : Int)) _ _ rfl (by rfl) (fun W => op_n_add b2 k8 ta Hta.out.symm (by omega) rfl rfl rfl) ?_
                        simp only [n1, n3, n4]
                        refine @wpG_p _ _ _ _ _ (some 13) (.int .i64 (ta : Int)) _ _ rfl (by rfl) (fun _ => rfl) ?_
                        simp only [n1, n3, n4]
                        refine wpG_done (fun V183 hv184 => ?_)
                        have S185 : Hid (St w noB [own (.slice G j gc) 3 1 j (ic (Pl.cellsOf (Pl.uP x) (Pl.fld (Pl.wd (Pl.uM x)) (Pl.V (Pl.uB x))) j)), own (.slice E i d) 3 1 i (ic (Pl.uP x)), blk g4 30 [.slice none 0 0, .int .i64 0, .int .i64 0]] V183) := Lib.hid (S180.out.gr hv184)
                        clear S180
                        clear hv184
                        refine ⟨rfl, hK _ _ ?_⟩
                        clear hK
                        go_upto_region 32 with fail
                        refine wpG_region_k (fun K hK => ?_)
                        refine @wpG_p _ _ _ _ _ (some 84) (.string (bstr x)) _ _ rfl (by rfl) (fun _ => rfl) ?_
                        simp only [n1, n3, n4]
                        refine @wpG_p _ _ _ _ _ (some 85) (.int .i64 (x.length : Int)) _ _ rfl (by rfl) (fun W => op_str_len W x rfl rfl Try.underlying9) ?_
                        simp only [n1, n3, n4]
                        refine @wpG_p _ _ _ _ _ (some 86) (.int .i64 (ta : Int)) _ _ rfl (by rfl) (fun _ => rfl) ?_
                        simp only [n1, n3, n4]
                        refine @wpG_p _ _ _ _ _ (some 87) (.bool (decide ((x.length : Int) ≤ (ta : Int)))) _ _ rfl (by rfl) (fun W => op_int_leq W (x.length : Int) (ta : Int) rfl rfl rfl Try.underlying3) ?_
                        simp only [n1, n3, n4]
                        refine wpG_done (fun V186 hv187 => ?_)
                        have S188 : Hid (St w noB [own (.slice G j gc) 3 1 j (ic (Pl.cellsOf (Pl.uP x) (Pl.fld (Pl.wd (Pl.uM x)) (Pl.V (Pl.uB x))) j)), own (.slice E i d) 3 1 i (ic (Pl.uP x)), blk g4 30 [.slice none 0 0, .int .i64 0, .int .i64 0]] V186) := Lib.hid (S185.out.gr hv187)
                        clear S185
                        clear hv187
                        refine ⟨rfl, hK _ _ ?_⟩
                        clear hK
                        obtain ⟨c189, hc189⟩ : ∃ q_, q_ = (decide ((x.length : Int) ≤ (ta : Int))) := ⟨_, rfl⟩
                        rw [← hc189]
                        have Hc189 := Lib.hid hc189
                        clear hc189
                        cases c189 with
                        | true =>
                          have f190 := of_decide_eq_true Hc189.out.symm
                          go_upto_region 33 with fail
                          refine wpG_region_k (fun K hK => ?_)
                          refine @wpG_p _ _ _ _ _ (some 88) (.agg #[.slice none 0 0, .int .i64 0, .int .i64 5]) _ _ rfl (by rfl) (fun W => by go_simp) ?_
                          simp only [n1, n3, n4]
                          refine wpG_store (none) rfl (by rfl) (fun W191 hg192 => ⟨_, run_store_mid 30 (.tmp 2) (.tmp 88) rfl g4 0 #[.slice none 0 0, .int .i64 0, .int .i64 5] rfl rfl ((S188.out.gr hg192).room 2 rfl 0 3 (by simp)) (by kernel_rfl) (by kernel_rfl), ?_⟩)
                          simp only [n2]
                          obtain ⟨U193, hu_, hS_⟩ := ((S188.out.gr hg192).put 2 rfl 0 (#[.slice none 0 0, .int .i64 0, .int .i64 5] : Array Value).toList (ds := [.slice none 0 0, .int .i64 0, .int .i64 5]) rfl).named
                          rw [← hu_]
                          have S194 : Hid (St w noB [own (.slice G j gc) 3 1 j (ic (Pl.cellsOf (Pl.uP x) (Pl.fld (Pl.wd (Pl.uM x)) (Pl.V (Pl.uB x))) j)), own (.slice E i d) 3 1 i (ic (Pl.uP x)), blk g4 30 [.slice none 0 0, .int .i64 0, .int .i64 5]] U193) := Lib.hid hS_
                          clear S188
                          clear hu_ hS_ hg192
                          refine wpG_done (fun V195 hv196 => ?_)
                          have S197 : Hid (St w noB [own (.slice G j gc) 3 1 j (ic (Pl.cellsOf (Pl.uP x) (Pl.fld (Pl.wd (Pl.uM x)) (Pl.V (Pl.uB x))) j)), own (.slice E i d) 3 1 i (ic (Pl.uP x)), blk g4 30 [.slice none 0 0, .int .i64 0, .int .i64 5]] V195) := Lib.hid (S194.out.gr hv196)
                          clear S194
                          clear hv196
                          refine ⟨rfl, hK _ _ ?_⟩
                          clear hK
                          (repeat go_step)
                          (try simp only [Exit.inBlock, Exit.then])
                          refine bodyPost_ret (results_cell_mid rfl _ _ _ g4 0 [.slice none 0 0, .int .i64 0, .int .i64 5] _ rfl (S197.out.range 2 rfl 0 3 rfl) Try.underlying30 rfl (by kernel_rfl)) rfl ?_
                          (have hR_ : k8 < Pl.uR x := (by rw [Hk8.out, Hjw.out]; exact Pl.k_lt (by omega) HW4.out); have hl_ := Pl.uB_len x; have h8_ := Hk8.out; have hu_ := Pl.un_cuti HE0.out (show j < Pl.uN x by omega) HOK.out (by show _ < (j + 1) * (Pl.wd (Pl.uM x)); rw [Nat.add_mul, Nat.one_mul, ← Hjw.out]; omega) (by omega); exact ⟨none, 0, 0, by rw [hu_]; rfl, by rw [hu_]; exact S197.out.dropAll.nilOwn _ _⟩)
                        | false =>
                          have f198 := of_decide_eq_false Hc189.out.symm
                          go_upto_region 34 with fail
                          refine wpK_region_k (by kernel_rfl) (fun K hK => ?_)
                          have hkR_ : k8 < Pl.uR x := by rw [Hk8.out, Hjw.out]; exact Pl.k_lt (by omega) HW4.out
                          obtain ⟨hkB_, hkx_⟩ := Pl.uB_byte (x := x) (k := k8) (by omega) hkR_
                          have HKX := Lib.hid hkx_
                          have HKR := Lib.hid hkR_
                          have hav_ : (j + 1) * (Pl.wd (Pl.uM x)) ≤ (Pl.uB x).length * 8 := Pl.av_of HW4.out (by rw [← Hjw.out, ← Hk8.out]; exact hkB_)
                          have HAV := Lib.hid hav_
                          clear hav_ hkx_ hkR_
                          refine wpK_ta (i := 0) (some 89) (v := .string (bstr x)) rfl rfl (by kernel_rfl) (fun _ _ _ h => onN_panic h) (Or.inl ⟨rfl, fun _ => rfl⟩) ?_
                          simp only [n1, n3, n4]
                          refine wpK_ta (i := 1) (some 90) (v := .int .i64 (ta : Int)) rfl rfl (by kernel_rfl) (fun _ _ _ h => onN_panic h) (Or.inl ⟨rfl, fun _ => rfl⟩) ?_
                          simp only [n1, n3, n4]
                          obtain ⟨tb, h_tb⟩ : ∃ q_ : Nat, q_ = (x.getD ta 0).toNat := ⟨_, rfl⟩
                          have htbb : tb < 256 := by rw [h_tb]; exact (x.getD ta 0).toNat_lt
                          have Htb := Lib.hid h_tb
                          clear h_tb
                          refine wpK_ta (i := 2) (some 91) (v := .int .u8 (tb : Int)) rfl rfl (by kernel_rfl) (fun _ _ _ h => onN_panic h) (Or.inl ⟨by rfl, fun W => by exact (op_str_idx W x ta (by omega) rfl rfl rfl Try.underlying9).trans (by rw [Htb.out]; rfl)⟩) ?_
                          simp only [n1, n3, n4]
                          refine wpK_ta (i := 3) (some 92) (v := .int .i64 (tb : Int)) rfl rfl (by kernel_rfl) (fun _ _ _ h => onN_panic h) (Or.inl ⟨by rfl, fun W => by exact op_conv_i64 W (tb : Int) (by omega) rfl rfl Try.underlying5 Try.underlying3⟩) ?_
                          simp only [n1, n3, n4]
                          refine wpK_ta (i := 4) (some 93) (v := .int .i64 (j : Int)) rfl rfl (by kernel_rfl) (fun _ _ _ h => onN_panic h) (Or.inl ⟨rfl, fun _ => rfl⟩) ?_
                          simp only [n1, n3, n4]
                          refine wpK_ta (i := 5) (some 94) (v := .int .i64 (Pl.wd (Pl.uM x) : Int)) rfl rfl (by kernel_rfl) (fun _ _ _ h => onN_panic h) (Or.inl ⟨rfl, fun _ => rfl⟩) ?_
                          simp only [n1, n3, n4]
                          obtain ⟨jv, h_jv⟩ : ∃ q_ : Nat, q_ = j * (Pl.wd (Pl.uM x)) := ⟨_, rfl⟩
                          have hjvb : jv ≤ 64 * 8 := by rw [h_jv]; exact Nat.mul_le_mul (by omega) hw8_
                          have Hjv := Lib.hid h_jv
                          clear h_jv
                          refine wpK_ta (i := 6) (some 95) (v := .int .i64 (jv : Int)) rfl rfl (by kernel_rfl) (fun _ _ _ h => onN_panic h) (Or.inl ⟨by rfl, fun W => by exact op_n_mul j (Pl.wd (Pl.uM x)) jv Hjv.out.symm (by omega) rfl rfl rfl⟩) ?_
                          simp only [n1, n3, n4]
                          obtain ⟨r8, h_r8⟩ : ∃ q_ : Nat, q_ = jv % 8 := ⟨_, rfl⟩
                          have hr8b : r8 < 8 := by omega
                          have Hr8 := Lib.hid h_r8
                          clear h_r8
                          refine wpK_ta (i := 7) (some 96) (v := .int .i64 (r8 : Int)) rfl rfl (by kernel_rfl) (fun _ _ _ h => onN_panic h) (Or.inl ⟨by rfl, fun W => by exact op_n_rem jv 8 r8 Hr8.out.symm (by decide) rfl rfl rfl⟩) ?_
                          simp only [n1, n3, n4]
                          obtain ⟨sh, h_sh⟩ : ∃ q_ : Nat, q_ = tb / 2 ^ r8 := ⟨_, rfl⟩
                          have hshb : sh < 256 := by rw [h_sh]; exact Nat.lt_of_le_of_lt (Nat.div_le_self _ _) htbb
                          have Hsh := Lib.hid h_sh
                          clear h_sh
                          refine wpK_ta (i := 8) (some 97) (v := .int .i64 (sh : Int)) rfl rfl (by kernel_rfl) (fun _ _ _ h => onN_panic h) (Or.inl ⟨by rfl, fun W => by exact op_k_shr tb r8 sh Hsh.out.symm (by show r8 ≤ 64; omega) rfl rfl rfl⟩) ?_
                          simp only [n1, n3, n4]
                          refine wpK_ta (i := 9) (some 98) (v := .int .i64 (Pl.wd (Pl.uM x) : Int)) rfl rfl (by kernel_rfl) (fun _ _ _ h => onN_panic h) (Or.inl ⟨rfl, fun _ => rfl⟩) ?_
                          simp only [n1, n3, n4]
                          obtain ⟨pw, h_pw⟩ : ∃ q_ : Nat, q_ = 1 * 2 ^ (Pl.wd (Pl.uM x)) := ⟨_, rfl⟩
                          have hpwb : 1 ≤ pw ∧ pw ≤ 256 := by rw [h_pw, Nat.one_mul]; exact ⟨Nat.two_pow_pos _, show 2 ^ (Pl.wd (Pl.uM x)) ≤ 2 ^ 8 from Nat.pow_le_pow_right (by decide) hw8_⟩
                          have Hpw := Lib.hid h_pw
                          clear h_pw
                          refine wpK_ta (i := 10) (some 99) (v := .int .i64 (pw : Int)) rfl rfl (by kernel_rfl) (fun _ _ _ h => onN_panic h) (Or.inl ⟨by rfl, fun W => by exact op_k_shl 1 (Pl.wd (Pl.uM x)) pw Hpw.out.symm (by show (Pl.wd (Pl.uM x)) ≤ 64; omega) (wrap_n64 (by omega)) rfl rfl rfl⟩) ?_
                          simp only [n1, n3, n4]
                          obtain ⟨z, h_z⟩ : ∃ q_ : Nat, q_ = sh % pw := ⟨_, rfl⟩
                          have hzb : z < 256 := by rw [h_z]; exact Nat.lt_of_le_of_lt (Nat.mod_le _ _) hshb
                          have Hz := Lib.hid h_z
                          clear h_z
                          have hzf_ : z = (Pl.fld (Pl.wd (Pl.uM x)) (Pl.V (Pl.uB x))) j := by rw [Hz.out, Hpw.out, Nat.one_mul, Hsh.out, Hr8.out, Hjv.out, Htb.out, show ta = 2 + Pl.uM x + k8 by omega, HKX.out, Hk8.out, Hjw.out]; exact Pl.fld_byte HW4.out (by rw [← Hjw.out, ← Hk8.out]; exact hkB_)
                          have HZF := Lib.hid hzf_
                          clear hzf_
                          refine wpK_ta (i := 11) (some 100) (v := .int .i64 (z : Int)) rfl rfl (by kernel_rfl) (fun _ _ _ h => onN_panic h) (Or.inl ⟨by rfl, fun W => by exact op_n_rem sh pw z Hz.out.symm (by omega) rfl rfl rfl⟩) ?_
                          simp only [n1, n3, n4]
                          refine wpK_ta (i := 12) (some 12) (v := .int .i64 (z : Int)) rfl rfl (by kernel_rfl) (fun _ _ _ h => onN_panic h) (Or.inl ⟨rfl, fun _ => rfl⟩) ?_
                          simp only [n1, n3, n4]
                          refine wpK_done (by kernel_rfl) (fun V199 hv200 => ?_) _
                          have S201 : Hid (St w noB [own (.slice G j gc) 3 1 j (ic (Pl.cellsOf (Pl.uP x) (Pl.fld (Pl.wd (Pl.uM x)) (Pl.V (Pl.uB x))) j)), own (.slice E i d) 3 1 i (ic (Pl.uP x)), blk g4 30 [.slice none 0 0, .int .i64 0, .int .i64 0]] V199) := Lib.hid (S188.out.gr (Gr.un hv200))
                          clear S188
                          clear hv200
                          refine ⟨rfl, hK _ _ ?_⟩
                          clear hK
                          go_upto_region 35 with fail
                          refine wpK_region_k (by kernel_rfl) (fun K hK => ?_)
                          refine wpK_ta (i := 0) (some 101) (v := .int .i64 (j : Int)) rfl rfl (by kernel_rfl) (fun _ _ _ h => onN_panic h) (Or.inl ⟨rfl, fun _ => rfl⟩) ?_
                          simp only [n1, n3, n4]
                          refine wpK_ta (i := 1) (some 102) (v := .int .i64 (Pl.uN x : Int)) rfl rfl (by kernel_rfl) (fun _ _ _ h => onN_panic h) (Or.inl ⟨rfl, fun _ => rfl⟩) ?_
                          simp only [n1, n3, n4]
                          obtain ⟨nl, h_nl⟩ : ∃ q_ : Nat, q_ = Pl.uN x - 1 := ⟨_, rfl⟩
                          have hnlb : nl + 1 ≤ Pl.uN x ∧ Pl.uN x ≤ nl + 1 := by omega
                          have Hnl := Lib.hid h_nl
                          clear h_nl
                          refine wpK_ta (i := 2) (some 103) (v := .int .i64 (nl : Int)) rfl rfl (by kernel_rfl) (fun _ _ _ h => onN_panic h) (Or.inl ⟨by rfl, fun W => by exact op_n_sub (Pl.uN x) 1 nl (by have := Hnl.out; omega) (by omega) rfl rfl rfl⟩) ?_
                          simp only [n1, n3, n4]
                          refine wpK_ta (i := 3) (some 104) (v := .bool (decide ((j : Int) = (nl : Int)))) rfl rfl (by kernel_rfl) (fun _ _ _ h => onN_panic h) (Or.inl ⟨by rfl, fun W => by exact op_int_eql W (j : Int) (nl : Int) rfl rfl rfl Try.underlying3⟩) ?_
                          simp only [n1, n3, n4]
                          refine wpK_ta (i := 4) (some 105) (v := .bool (decide ((j : Int) = (nl : Int)))) rfl rfl (by kernel_rfl) (fun _ _ _ h => onN_panic h) (Or.inl ⟨rfl, fun _ => rfl⟩) ?_
                          simp only [n1, n3, n4]
                          obtain ⟨c202, hc202⟩ : ∃ q_, q_ = (decide ((j : Int) = (nl : Int))) := ⟨_, rfl⟩
                          rw [← hc202]
                          have Hc202 := Lib.hid hc202
                          clear hc202
                          cases c202 with
                          | true =>
                            have f203 := Lib.hid (of_decide_eq_true Hc202.out.symm)
                            have f203a := Int.le_of_eq f203.out
                            have f203b := Int.le_of_eq f203.out.symm
                            refine wpK_ta (i := 5) (some 106) (v := .string (bstr x)) rfl rfl (by kernel_rfl) (fun _ _ _ h => onN_panic h) (Or.inl ⟨rfl, fun _ => rfl⟩) ?_
                            simp only [n1, n3, n4]
                            refine wpK_ta (i := 6) (some 107) (v := .int .i64 (ta : Int)) rfl rfl (by kernel_rfl) (fun _ _ _ h => onN_panic h) (Or.inl ⟨rfl, fun _ => rfl⟩) ?_
                            simp only [n1, n3, n4]
                            obtain ⟨tc, h_tc⟩ : ∃ q_ : Nat, q_ = (x.getD ta 0).toNat := ⟨_, rfl⟩
                            have htcb : tc < 256 := by rw [h_tc]; exact (x.getD ta 0).toNat_lt
                            have Htc := Lib.hid h_tc
                            clear h_tc
                            refine wpK_ta (i := 7) (some 108) (v := .int .u8 (tc : Int)) rfl rfl (by kernel_rfl) (fun _ _ _ h => onN_panic h) (Or.inl ⟨by rfl, fun W => by exact (op_str_idx W x ta (by omega) rfl rfl rfl Try.underlying9).trans (by rw [Htc.out]; rfl)⟩) ?_
                            simp only [n1, n3, n4]
                            refine wpK_ta (i := 8) (some 109) (v := .int .i64 (tc : Int)) rfl rfl (by kernel_rfl) (fun _ _ _ h => onN_panic h) (Or.inl ⟨by rfl, fun W => by exact op_conv_i64 W (tc : Int) (by omega) rfl rfl Try.underlying5 Try.underlying3⟩) ?_
                            simp only [n1, n3, n4]
                            refine wpK_ta (i := 9) (some 110) (v := .int .i64 (j : Int)) rfl rfl (by kernel_rfl) (fun _ _ _ h => onN_panic h) (Or.inl ⟨rfl, fun _ => rfl⟩) ?_
                            simp only [n1, n3, n4]
                            refine wpK_ta (i := 10) (some 111) (v := .int .i64 (Pl.wd (Pl.uM x) : Int)) rfl rfl (by kernel_rfl) (fun _ _ _ h => onN_panic h) (Or.inl ⟨rfl, fun _ => rfl⟩) ?_
                            simp only [n1, n3, n4]
                            obtain ⟨jx, h_jx⟩ : ∃ q_ : Nat, q_ = j * (Pl.wd (Pl.uM x)) := ⟨_, rfl⟩
                            have hjxb : jx ≤ 64 * 8 := by rw [h_jx]; exact Nat.mul_le_mul (by omega) hw8_
                            have Hjx := Lib.hid h_jx
                            clear h_jx
                            refine wpK_ta (i := 11) (some 112) (v := .int .i64 (jx : Int)) rfl rfl (by kernel_rfl) (fun _ _ _ h => onN_panic h) (Or.inl ⟨by rfl, fun W => by exact op_n_mul j (Pl.wd (Pl.uM x)) jx Hjx.out.symm (by omega) rfl rfl rfl⟩) ?_
                            simp only [n1, n3, n4]
                            obtain ⟨rx, h_rx⟩ : ∃ q_ : Nat, q_ = jx % 8 := ⟨_, rfl⟩
                            have hrxb : rx < 8 := by omega
                            have Hrx := Lib.hid h_rx
                            clear h_rx
                            refine wpK_ta (i := 12) (some 113) (v := .int .i64 (rx : Int)) rfl rfl (by kernel_rfl) (fun _ _ _ h => onN_panic h) (Or.inl ⟨by rfl, fun W => by exact op_n_rem jx 8 rx Hrx.out.symm (by decide) rfl rfl rfl⟩) ?_
                            simp only [n1, n3, n4]
                            obtain ⟨sx, h_sx⟩ : ∃ q_ : Nat, q_ = tc / 2 ^ rx := ⟨_, rfl⟩
                            have hsxb : sx < 256 := by rw [h_sx]; exact Nat.lt_of_le_of_lt (Nat.div_le_self _ _) htcb
                            have Hsx := Lib.hid h_sx
                            clear h_sx
                            refine wpK_ta (i := 13) (some 114) (v := .int .i64 (sx : Int)) rfl rfl (by kernel_rfl) (fun _ _ _ h => onN_panic h) (Or.inl ⟨by rfl, fun W => by exact op_k_shr tc rx sx Hsx.out.symm (by show rx ≤ 64; omega) rfl rfl rfl⟩) ?_
                            simp only [n1, n3, n4]
                            refine wpK_ta (i := 14) (some 115) (v := .int .i64 (Pl.wd (Pl.uM x) : Int)) rfl rfl (by kernel_rfl) (fun _ _ _ h => onN_panic h) (Or.inl ⟨rfl, fun _ => rfl⟩) ?_
                            simp only [n1, n3, n4]
                            obtain ⟨px, h_px⟩ : ∃ q_ : Nat, q_ = 1 * 2 ^ (Pl.wd (Pl.uM x)) := ⟨_, rfl⟩
                            have hpxb : 1 ≤ px ∧ px ≤ 256 := by rw [h_px, Nat.one_mul]; exact ⟨Nat.two_pow_pos _, show 2 ^ (Pl.wd (Pl.uM x)) ≤ 2 ^ 8 from Nat.pow_le_pow_right (by decide) hw8_⟩
                            have Hpx := Lib.hid h_px
                            clear h_px
                            refine wpK_ta (i := 15) (some 116) (v := .int .i64 (px : Int)) rfl rfl (by kernel_rfl) (fun _ _ _ h => onN_panic h) (Or.inl ⟨by rfl, fun W => by exact op_k_shl 1 (Pl.wd (Pl.uM x)) px Hpx.out.symm (by show (Pl.wd (Pl.uM x)) ≤ 64; omega) (wrap_n64 (by omega)) rfl rfl rfl⟩) ?_
                            simp only [n1, n3, n4]
                            refine wpK_ta (i := 16) (some 117) (v := .bool (decide ((sx : Int) ≥ (px : Int)))) rfl rfl (by kernel_rfl) (fun _ _ _ h => onN_panic h) (Or.inl ⟨by rfl, fun W => by exact op_int_geq W (sx : Int) (px : Int) rfl rfl rfl Try.underlying3⟩) ?_
                            simp only [n1, n3, n4]
                            refine wpK_ta (i := 17) (some 118) (v := .bool (decide ((sx : Int) ≥ (px : Int)))) rfl rfl (by kernel_rfl) (fun _ _ _ h => onN_panic h) (Or.inl ⟨by rfl, fun W => by go_simp⟩) ?_
                            simp only [n1, n3, n4]
                            refine wpK_done (by kernel_rfl) (fun V204 hv205 => ?_) _
                            have S206 : Hid (St w noB [own (.slice G j gc) 3 1 j (ic (Pl.cellsOf (Pl.uP x) (Pl.fld (Pl.wd (Pl.uM x)) (Pl.V (Pl.uB x))) j)), own (.slice E i d) 3 1 i (ic (Pl.uP x)), blk g4 30 [.slice none 0 0, .int .i64 0, .int .i64 0]] V204) := Lib.hid (S201.out.gr (Gr.un hv205))
                            clear S201
                            clear hv205
                            refine ⟨rfl, hK _ _ ?_⟩
                            clear hK
                            obtain ⟨c207, hc207⟩ : ∃ q_, q_ = (decide ((sx : Int) ≥ (px : Int))) := ⟨_, rfl⟩
                            rw [← hc207]
                            have Hc207 := Lib.hid hc207
                            clear hc207
                            cases c207 with
                            | true =>
                              have f208 := of_decide_eq_true Hc207.out.symm
                              go_upto_region 36 with fail
                              refine wpG_region_k (fun K hK => ?_)
                              refine @wpG_p _ _ _ _ _ (some 119) (.agg #[.slice none 0 0, .int .i64 0, .int .i64 6]) _ _ rfl (by rfl) (fun W => by go_simp) ?_
                              simp only [n1, n3, n4]
                              refine wpG_store (none) rfl (by rfl) (fun W209 hg210 => ⟨_, run_store_mid 30 (.tmp 2) (.tmp 119) rfl g4 0 #[.slice none 0 0, .int .i64 0, .int .i64 6] rfl rfl ((S206.out.gr hg210).room 2 rfl 0 3 (by simp)) (by kernel_rfl) (by kernel_rfl), ?_⟩)
                              simp only [n2]
                              obtain ⟨U211, hu_, hS_⟩ := ((S206.out.gr hg210).put 2 rfl 0 (#[.slice none 0 0, .int .i64 0, .int .i64 6] : Array Value).toList (ds := [.slice none 0 0, .int .i64 0, .int .i64 6]) rfl).named
                              rw [← hu_]
                              have S212 : Hid (St w noB [own (.slice G j gc) 3 1 j (ic (Pl.cellsOf (Pl.uP x) (Pl.fld (Pl.wd (Pl.uM x)) (Pl.V (Pl.uB x))) j)), own (.slice E i d) 3 1 i (ic (Pl.uP x)), blk g4 30 [.slice none 0 0, .int .i64 0, .int .i64 6]] U211) := Lib.hid hS_
                              clear S206
                              clear hu_ hS_ hg210
                              refine wpG_done (fun V213 hv214 => ?_)
                              have S215 : Hid (St w noB [own (.slice G j gc) 3 1 j (ic (Pl.cellsOf (Pl.uP x) (Pl.fld (Pl.wd (Pl.uM x)) (Pl.V (Pl.uB x))) j)), own (.slice E i d) 3 1 i (ic (Pl.uP x)), blk g4 30 [.slice none 0 0, .int .i64 0, .int .i64 6]] V213) := Lib.hid (S212.out.gr hv214)
                              clear S212
                              clear hv214
                              refine ⟨rfl, hK _ _ ?_⟩
                              clear hK
                              (repeat go_step)
                              (try simp only [Exit.inBlock, Exit.then])
                              refine bodyPost_ret (results_cell_mid rfl _ _ _ g4 0 [.slice none 0 0, .int .i64 0, .int .i64 6] _ rfl (S215.out.range 2 rfl 0 3 rfl) Try.underlying30 rfl (by kernel_rfl)) rfl ?_
                              (have e_f203 := f203.out; have hg_ := Pl.tail_ge (j := j) (b := Pl.uB x) HW4.out (by rw [← Hjw.out, ← Hk8.out]; exact hkB_) (by have h1_ : px ≤ sx := (by omega); rw [Hpx.out, Nat.one_mul, Hsx.out, Hrx.out, Hjx.out, Htc.out, show ta = 2 + Pl.uM x + k8 by omega, HKX.out, Hk8.out, Hjw.out] at h1_; exact h1_); have hu_ := Pl.un_big HE0.out (by have e_ : j + 1 = Pl.uN x := (by omega); rw [e_] at hg_; exact hg_); exact ⟨none, 0, 0, by rw [hu_]; rfl, by rw [hu_]; exact S215.out.dropAll.nilOwn _ _⟩)
                            | false =>
                              have f216 := of_decide_eq_false Hc207.out.symm
                              have HTLQ : Hid (j + 1 = Pl.uN x → Pl.V (Pl.uB x) < 2 ^ ((Pl.wd (Pl.uM x)) * (Pl.uN x))) := Lib.hid (fun h_ => by have e_f203 := f203.out; have h2_ := Pl.tail_lt (j := j) (b := Pl.uB x) HW4.out (by rw [← Hjw.out, ← Hk8.out, Pl.uB_len]; have h3_ := HKR.out; have h4_ : Pl.uR x = (Pl.uN x * (Pl.wd (Pl.uM x)) + 7) / 8 := rfl; have h5_ : Pl.uN x * (Pl.wd (Pl.uM x)) = jw + (Pl.wd (Pl.uM x)) := (by rw [← h_, Nat.add_mul, Nat.one_mul, Hjw.out]); rw [h5_] at h4_; have h6_ := Pl.uB_len x; have h7_ := Hk8.out; obtain ⟨_, h8_, _⟩ := Pl.room_step (i := j) HW4.out; rw [← Hjw.out] at h8_; omega) (by have h1_ : sx < px := (by omega); rw [Hpx.out, Nat.one_mul, Hsx.out, Hrx.out, Hjx.out, Htc.out, show ta = 2 + Pl.uM x + k8 by omega, HKX.out, Hk8.out, Hjw.out] at h1_; exact h1_); rw [h_] at h2_; exact h2_)
                              go_upto_region 37 with fail
                              refine wpG_region_k (fun K hK => ?_)
                              refine @wpG_p _ _ _ _ _ (some 120) (.int .i64 (z : Int)) _ _ rfl (by rfl) (fun _ => rfl) ?_
                              simp only [n1, n3, n4]
                              refine @wpG_p _ _ _ _ _ (some 121) (.int .i64 (u : Int)) _ _ rfl (by rfl) (fun _ => rfl) ?_
                              simp only [n1, n3, n4]
                              refine @wpG_p _ _ _ _ _ (some 122) (.bool (decide ((z : Int) > (u : Int)))) _ _ rfl (by rfl) (fun W => op_int_gtr W (z : Int) (u : Int) rfl rfl rfl Try.underlying3) ?_
                              simp only [n1, n3, n4]
                              refine @wpG_p _ _ _ _ _ (some 123) (.bool (decide ((z : Int) > (u : Int)))) _ _ rfl (by rfl) (fun _ => rfl) ?_
                              simp only [n1, n3, n4]
                              obtain ⟨c217, hc217⟩ : ∃ q_, q_ = (decide ((z : Int) > (u : Int))) := ⟨_, rfl⟩
                              rw [← hc217]
                              have Hc217 := Lib.hid hc217
                              clear hc217
                              cases c217 with
                              | true =>
                                have f218 := of_decide_eq_true Hc217.out.symm
                                refine @wpG_no _ _ _ _ _ (some 124) _ _ rfl (by rfl) ?_
                                simp only [n1, n3, n4]
                                refine @wpG_no _ _ _ _ _ (some 125) _ _ rfl (by rfl) ?_
                                simp only [n1, n3, n4]
                                refine @wpG_no _ _ _ _ _ (some 126) _ _ rfl (by rfl) ?_
                                simp only [n1, n3, n4]
                                refine @wpG_p _ _ _ _ _ (some 127) (.bool true) _ _ rfl (by rfl) (fun W => by go_simp) ?_
                                simp only [n1, n3, n4]
                                refine wpG_done (fun V219 hv220 => ?_)
                                have S221 : Hid (St w noB [own (.slice G j gc) 3 1 j (ic (Pl.cellsOf (Pl.uP x) (Pl.fld (Pl.wd (Pl.uM x)) (Pl.V (Pl.uB x))) j)), own (.slice E i d) 3 1 i (ic (Pl.uP x)), blk g4 30 [.slice none 0 0, .int .i64 0, .int .i64 0]] V219) := Lib.hid (S206.out.gr hv220)
                                clear S206
                                clear hv220
                                refine ⟨rfl, hK _ _ ?_⟩
                                clear hK
                                go_upto_region 38 with fail
                                refine wpG_region_k (fun K hK => ?_)
                                refine @wpG_p _ _ _ _ _ (some 128) (.agg #[.slice none 0 0, .int .i64 0, .int .i64 6]) _ _ rfl (by rfl) (fun W => by go_simp) ?_
                                simp only [n1, n3, n4]
                                refine wpG_store (none) rfl (by rfl) (fun W222 hg223 => ⟨_, run_store_mid 30 (.tmp 2) (.tmp 128) rfl g4 0 #[.slice none 0 0, .int .i64 0, .int .i64 6] rfl rfl ((S221.out.gr hg223).room 2 rfl 0 3 (by simp)) (by kernel_rfl) (by kernel_rfl), ?_⟩)
                                simp only [n2]
                                obtain ⟨U224, hu_, hS_⟩ := ((S221.out.gr hg223).put 2 rfl 0 (#[.slice none 0 0, .int .i64 0, .int .i64 6] : Array Value).toList (ds := [.slice none 0 0, .int .i64 0, .int .i64 6]) rfl).named
                                rw [← hu_]
                                have S225 : Hid (St w noB [own (.slice G j gc) 3 1 j (ic (Pl.cellsOf (Pl.uP x) (Pl.fld (Pl.wd (Pl.uM x)) (Pl.V (Pl.uB x))) j)), own (.slice E i d) 3 1 i (ic (Pl.uP x)), blk g4 30 [.slice none 0 0, .int .i64 0, .int .i64 6]] U224) := Lib.hid hS_
                                clear S221
                                clear hu_ hS_ hg223
                                refine wpG_done (fun V226 hv227 => ?_)
                                have S228 : Hid (St w noB [own (.slice G j gc) 3 1 j (ic (Pl.cellsOf (Pl.uP x) (Pl.fld (Pl.wd (Pl.uM x)) (Pl.V (Pl.uB x))) j)), own (.slice E i d) 3 1 i (ic (Pl.uP x)), blk g4 30 [.slice none 0 0, .int .i64 0, .int .i64 6]] V226) := Lib.hid (S225.out.gr hv227)
                                clear S225
                                clear hv227
                                refine ⟨rfl, hK _ _ ?_⟩
                                clear hK
                                (repeat go_step)
                                (try simp only [Exit.inBlock, Exit.then])
                                refine bodyPost_ret (results_cell_mid rfl _ _ _ g4 0 [.slice none 0 0, .int .i64 0, .int .i64 6] _ rfl (S228.out.range 2 rfl 0 3 rfl) Try.underlying30 rfl (by kernel_rfl)) rfl ?_
                                (have e_f203 := f203.out; have hu_ := Pl.un_badi HE0.out (show j < Pl.uN x by omega) HAV.out (fun h_ => by obtain ⟨h1_, h2_, _⟩ := h_; rw [show Pl.uF x = (Pl.fld (Pl.wd (Pl.uM x)) (Pl.V (Pl.uB x))) from rfl, ← HZF.out] at h1_ h2_; rw [← HUE.out] at h1_; omega); exact ⟨none, 0, 0, by rw [hu_]; rfl, by rw [hu_]; exact S228.out.dropAll.nilOwn _ _⟩)
                              | false =>
                                have f229 := of_decide_eq_false Hc217.out.symm
                                refine @wpG_p _ _ _ _ _ (some 124) (.int .i64 (z : Int)) _ _ rfl (by rfl) (fun _ => rfl) ?_
                                simp only [n1, n3, n4]
                                refine @wpG_p _ _ _ _ _ (some 125) (.int .i64 (Pl.uM x : Int)) _ _ rfl (by rfl) (fun _ => rfl) ?_
                                simp only [n1, n3, n4]
                                refine @wpG_p _ _ _ _ _ (some 126) (.bool (decide ((z : Int) ≥ (Pl.uM x : Int)))) _ _ rfl (by rfl) (fun W => op_int_geq W (z : Int) (Pl.uM x : Int) rfl rfl rfl Try.underlying3) ?_
                                simp only [n1, n3, n4]
                                refine @wpG_p _ _ _ _ _ (some 127) (.bool (decide ((z : Int) ≥ (Pl.uM x : Int)))) _ _ rfl (by rfl) (fun W => by go_simp) ?_
                                simp only [n1, n3, n4]
                                refine wpG_done (fun V230 hv231 => ?_)
                                have S232 : Hid (St w noB [own (.slice G j gc) 3 1 j (ic (Pl.cellsOf (Pl.uP x) (Pl.fld (Pl.wd (Pl.uM x)) (Pl.V (Pl.uB x))) j)), own (.slice E i d) 3 1 i (ic (Pl.uP x)), blk g4 30 [.slice none 0 0, .int .i64 0, .int .i64 0]] V230) := Lib.hid (S206.out.gr hv231)
                                clear S206
                                clear hv231
                                refine ⟨rfl, hK _ _ ?_⟩
                                clear hK
                                obtain ⟨c233, hc233⟩ : ∃ q_, q_ = (decide ((z : Int) ≥ (Pl.uM x : Int))) := ⟨_, rfl⟩
                                rw [← hc233]
                                have Hc233 := Lib.hid hc233
                                clear hc233
                                cases c233 with
                                | true =>
                                  have f234 := of_decide_eq_true Hc233.out.symm
                                  go_upto_region 38 with fail
                                  refine wpG_region_k (fun K hK => ?_)
                                  refine @wpG_p _ _ _ _ _ (some 128) (.agg #[.slice none 0 0, .int .i64 0, .int .i64 6]) _ _ rfl (by rfl) (fun W => by go_simp) ?_
                                  simp only [n1, n3, n4]
                                  refine wpG_store (none) rfl (by rfl) (fun W235 hg236 => ⟨_, run_store_mid 30 (.tmp 2) (.tmp 128) rfl g4 0 #[.slice none 0 0, .int .i64 0, .int .i64 6] rfl rfl ((S232.out.gr hg236).room 2 rfl 0 3 (by simp)) (by kernel_rfl) (by kernel_rfl), ?_⟩)
                                  simp only [n2]
                                  obtain ⟨U237, hu_, hS_⟩ := ((S232.out.gr hg236).put 2 rfl 0 (#[.slice none 0 0, .int .i64 0, .int .i64 6] : Array Value).toList (ds := [.slice none 0 0, .int .i64 0, .int .i64 6]) rfl).named
                                  rw [← hu_]
                                  have S238 : Hid (St w noB [own (.slice G j gc) 3 1 j (ic (Pl.cellsOf (Pl.uP x) (Pl.fld (Pl.wd (Pl.uM x)) (Pl.V (Pl.uB x))) j)), own (.slice E i d) 3 1 i (ic (Pl.uP x)), blk g4 30 [.slice none 0 0, .int .i64 0, .int .i64 6]] U237) := Lib.hid hS_
                                  clear S232
                                  clear hu_ hS_ hg236
                                  refine wpG_done (fun V239 hv240 => ?_)
                                  have S241 : Hid (St w noB [own (.slice G j gc) 3 1 j (ic (Pl.cellsOf (Pl.uP x) (Pl.fld (Pl.wd (Pl.uM x)) (Pl.V (Pl.uB x))) j)), own (.slice E i d) 3 1 i (ic (Pl.uP x)), blk g4 30 [.slice none 0 0, .int .i64 0, .int .i64 6]] V239) := Lib.hid (S238.out.gr hv240)
                                  clear S238
                                  clear hv240
                                  refine ⟨rfl, hK _ _ ?_⟩
                                  clear hK
                                  (repeat go_step)
                                  (try simp only [Exit.inBlock, Exit.then])
                                  refine bodyPost_ret (results_cell_mid rfl _ _ _ g4 0 [.slice none 0 0, .int .i64 0, .int .i64 6] _ rfl (S241.out.range 2 rfl 0 3 rfl) Try.underlying30 rfl (by kernel_rfl)) rfl ?_
                                  (have e_f203 := f203.out; have hu_ := Pl.un_badi HE0.out (show j < Pl.uN x by omega) HAV.out (fun h_ => by obtain ⟨h1_, h2_, _⟩ := h_; rw [show Pl.uF x = (Pl.fld (Pl.wd (Pl.uM x)) (Pl.V (Pl.uB x))) from rfl, ← HZF.out] at h1_ h2_; rw [← HUE.out] at h1_; omega); exact ⟨none, 0, 0, by rw [hu_]; rfl, by rw [hu_]; exact S241.out.dropAll.nilOwn _ _⟩)
                                | false =>
                                  have f242 := of_decide_eq_false Hc233.out.symm
                                  go_upto_region 39 with fail
                                  refine wpG_region_k (fun K hK => ?_)
                                  refine @wpG_p _ _ _ _ _ (some 129) (.int .i64 (z : Int)) _ _ rfl (by rfl) (fun _ => rfl) ?_
                                  simp only [n1, n3, n4]
                                  refine @wpG_p _ _ _ _ _ (some 130) (.int .i64 (u : Int)) _ _ rfl (by rfl) (fun _ => rfl) ?_
                                  simp only [n1, n3, n4]
                                  refine @wpG_p _ _ _ _ _ (some 131) (.bool (decide ((z : Int) = (u : Int)))) _ _ rfl (by rfl) (fun W => op_int_eql W (z : Int) (u : Int) rfl rfl rfl Try.underlying3) ?_
                                  simp only [n1, n3, n4]
                                  refine wpG_done (fun V243 hv244 => ?_)
                                  have S245 : Hid (St w noB [own (.slice G j gc) 3 1 j (ic (Pl.cellsOf (Pl.uP x) (Pl.fld (Pl.wd (Pl.uM x)) (Pl.V (Pl.uB x))) j)), own (.slice E i d) 3 1 i (ic (Pl.uP x)), blk g4 30 [.slice none 0 0, .int .i64 0, .int .i64 0]] V243) := Lib.hid (S232.out.gr hv244)
                                  clear S232
                                  clear hv244
                                  refine ⟨rfl, hK _ _ ?_⟩
                                  clear hK
                                  obtain ⟨c246, hc246⟩ : ∃ q_, q_ = (decide ((z : Int) = (u : Int))) := ⟨_, rfl⟩
                                  rw [← hc246]
                                  have Hc246 := Lib.hid hc246
                                  clear hc246
                                  cases c246 with
                                  | true =>
                                    have f247 := Lib.hid (of_decide_eq_true Hc246.out.symm)
                                    have f247a := Int.le_of_eq f247.out
                                    have f247b := Int.le_of_eq f247.out.symm
                                    go_upto_region 40 with fail
                                    refine wpG_region_k (fun K hK => ?_)
                                    refine @wpG_p _ _ _ _ _ (some 132) (.int .i64 (u : Int)) _ _ rfl (by rfl) (fun _ => rfl) ?_
                                    simp only [n1, n3, n4]
                                    obtain ⟨u1, h_u1⟩ : ∃ q_ : Nat, q_ = u + 1 := ⟨_, rfl⟩
                                    have hu1b : u1 ≤ u + 1 ∧ u + 1 ≤ u1 := by omega
                                    have Hu1 := Lib.hid h_u1
                                    clear h_u1
                                    refine @wpG_p _ _ _ _ _ (some 133) (.int .i64 (u1 : Int)) _ _ rfl (by rfl) (fun W => op_n_add u 1 u1 Hu1.out.symm (by omega) rfl rfl rfl) ?_
                                    simp only [n1, n3, n4]
                                    refine @wpG_p _ _ _ _ _ (some 9) (.int .i64 (u1 : Int)) _ _ rfl (by rfl) (fun _ => rfl) ?_
                                    simp only [n1, n3, n4]
                                    refine wpG_done (fun V248 hv249 => ?_)
                                    have S250 : Hid (St w noB [own (.slice G j gc) 3 1 j (ic (Pl.cellsOf (Pl.uP x) (Pl.fld (Pl.wd (Pl.uM x)) (Pl.V (Pl.uB x))) j)), own (.slice E i d) 3 1 i (ic (Pl.uP x)), blk g4 30 [.slice none 0 0, .int .i64 0, .int .i64 0]] V248) := Lib.hid (S245.out.gr hv249)
                                    clear S245
                                    clear hv249
                                    refine ⟨rfl, hK _ _ ?_⟩
                                    clear hK
                                    go_upto_region 41 with fail
                                    refine wpG_region_k (fun K hK => ?_)
                                    refine @wpG_p _ _ _ _ _ (some 134) (.int .i64 (Pl.uM x : Int)) _ _ rfl (by rfl) (fun _ => rfl) ?_
                                    simp only [n1, n3, n4]
                                    refine @wpG_p _ _ _ _ _ (some 135) (.int .i64 (u1 : Int)) _ _ rfl (by rfl) (fun _ => rfl) ?_
                                    simp only [n1, n3, n4]
                                    refine @wpG_p _ _ _ _ _ (some 136) (.int .i64 ((Pl.uM x : Int) - (u1 : Int))) _ _ rfl (by rfl) (fun W => op_i_sub W (Pl.uM x : Int) (u1 : Int) (by omega) rfl rfl rfl Try.underlying3) ?_
                                    simp only [n1, n3, n4]
                                    refine @wpG_p _ _ _ _ _ (some 137) (.int .i64 (Pl.uN x : Int)) _ _ rfl (by rfl) (fun _ => rfl) ?_
                                    simp only [n1, n3, n4]
                                    refine @wpG_p _ _ _ _ _ (some 138) (.int .i64 ((Pl.uN x : Int) - 1)) _ _ rfl (by rfl) (fun W => op_i_sub W (Pl.uN x : Int) 1 (by omega) rfl rfl rfl Try.underlying3) ?_
                                    simp only [n1, n3, n4]
                                    refine @wpG_p _ _ _ _ _ (some 139) (.int .i64 (j : Int)) _ _ rfl (by rfl) (fun _ => rfl) ?_
                                    simp only [n1, n3, n4]
                                    refine @wpG_p _ _ _ _ _ (some 140) (.int .i64 (((Pl.uN x : Int) - 1) - (j : Int))) _ _ rfl (by rfl) (fun W => op_i_sub W ((Pl.uN x : Int) - 1) (j : Int) (by omega) rfl rfl rfl Try.underlying3) ?_
                                    simp only [n1, n3, n4]
                                    refine @wpG_p _ _ _ _ _ (some 141) (.bool (decide ((Pl.uM x : Int) - (u1 : Int) > ((Pl.uN x : Int) - 1) - (j : Int)))) _ _ rfl (by rfl) (fun W => op_int_gtr W ((Pl.uM x : Int) - (u1 : Int)) (((Pl.uN x : Int) - 1) - (j : Int)) rfl rfl rfl Try.underlying3) ?_
                                    simp only [n1, n3, n4]
                                    refine wpG_done (fun V251 hv252 => ?_)
                                    have S253 : Hid (St w noB [own (.slice G j gc) 3 1 j (ic (Pl.cellsOf (Pl.uP x) (Pl.fld (Pl.wd (Pl.uM x)) (Pl.V (Pl.uB x))) j)), own (.slice E i d) 3 1 i (ic (Pl.uP x)), blk g4 30 [.slice none 0 0, .int .i64 0, .int .i64 0]] V251) := Lib.hid (S250.out.gr hv252)
                                    clear S250
                                    clear hv252
                                    refine ⟨rfl, hK _ _ ?_⟩
                                    clear hK
                                    obtain ⟨c254, hc254⟩ : ∃ q_, q_ = (decide ((Pl.uM x : Int) - (u1 : Int) > ((Pl.uN x : Int) - 1) - (j : Int))) := ⟨_, rfl⟩
                                    rw [← hc254]
                                    have Hc254 := Lib.hid hc254
                                    clear hc254
                                    cases c254 with
                                    | true =>
                                      have f255 := of_decide_eq_true Hc254.out.symm
                                      go_upto_region 42 with fail
                                      refine wpG_region_k (fun K hK => ?_)
                                      refine @wpG_p _ _ _ _ _ (some 142) (.agg #[.slice none 0 0, .int .i64 0, .int .i64 6]) _ _ rfl (by rfl) (fun W => by go_simp) ?_
                                      simp only [n1, n3, n4]
                                      refine wpG_store (none) rfl (by rfl) (fun W256 hg257 => ⟨_, run_store_mid 30 (.tmp 2) (.tmp 142) rfl g4 0 #[.slice none 0 0, .int .i64 0, .int .i64 6] rfl rfl ((S253.out.gr hg257).room 2 rfl 0 3 (by simp)) (by kernel_rfl) (by kernel_rfl), ?_⟩)
                                      simp only [n2]
                                      obtain ⟨U258, hu_, hS_⟩ := ((S253.out.gr hg257).put 2 rfl 0 (#[.slice none 0 0, .int .i64 0, .int .i64 6] : Array Value).toList (ds := [.slice none 0 0, .int .i64 0, .int .i64 6]) rfl).named
                                      rw [← hu_]
                                      have S259 : Hid (St w noB [own (.slice G j gc) 3 1 j (ic (Pl.cellsOf (Pl.uP x) (Pl.fld (Pl.wd (Pl.uM x)) (Pl.V (Pl.uB x))) j)), own (.slice E i d) 3 1 i (ic (Pl.uP x)), blk g4 30 [.slice none 0 0, .int .i64 0, .int .i64 6]] U258) := Lib.hid hS_
                                      clear S253
                                      clear hu_ hS_ hg257
                                      refine wpG_done (fun V260 hv261 => ?_)
                                      have S262 : Hid (St w noB [own (.slice G j gc) 3 1 j (ic (Pl.cellsOf (Pl.uP x) (Pl.fld (Pl.wd (Pl.uM x)) (Pl.V (Pl.uB x))) j)), own (.slice E i d) 3 1 i (ic (Pl.uP x)), blk g4 30 [.slice none 0 0, .int .i64 0, .int .i64 6]] V260) := Lib.hid (S259.out.gr hv261)
                                      clear S259
                                      clear hv261
                                      refine ⟨rfl, hK _ _ ?_⟩
                                      clear hK
                                      (repeat go_step)
                                      (try simp only [Exit.inBlock, Exit.then])
                                      refine bodyPost_ret (results_cell_mid rfl _ _ _ g4 0 [.slice none 0 0, .int .i64 0, .int .i64 6] _ rfl (S262.out.range 2 rfl 0 3 rfl) Try.underlying30 rfl (by kernel_rfl)) rfl ?_
                                      (have e_f203 := f203.out; have e_f247 := f247.out; have hu_ := Pl.un_badi HE0.out (show j < Pl.uN x by omega) HAV.out (fun h_ => by obtain ⟨_, _, h3_⟩ := h_; rw [show Pl.uF x = (Pl.fld (Pl.wd (Pl.uM x)) (Pl.V (Pl.uB x))) from rfl, ← show u + 1 = Pl.sn (Pl.fld (Pl.wd (Pl.uM x)) (Pl.V (Pl.uB x))) (j + 1) from Pl.sn_hit HZF.out HUE.out (by omega)] at h3_; omega); exact ⟨none, 0, 0, by rw [hu_]; rfl, by rw [hu_]; exact S262.out.dropAll.nilOwn _ _⟩)
                                    | false =>
                                      have f263 := of_decide_eq_false Hc254.out.symm
                                      go_upto_region 43 with fail
                                      refine wpG_region_k (fun K hK => ?_)
                                      refine @wpG_p _ _ _ _ _ (some 143) (.slice G j gc) _ _ rfl (by rfl) (fun _ => rfl) ?_
                                      simp only [n1, n3, n4]
                                      refine @wpG_p _ _ _ _ _ (some 144) (.slice E i d) _ _ rfl (by rfl) (fun _ => rfl) ?_
                                      simp only [n1, n3, n4]
                                      refine @wpG_p _ _ _ _ _ (some 145) (.int .i64 (z : Int)) _ _ rfl (by rfl) (fun _ => rfl) ?_
                                      simp only [n1, n3, n4]
                                      obtain ⟨og264, rfl⟩ := ownAdr (S253.out.ownr 1 rfl) (by omega)
                                      have hix_ : z < i := by omega
                                      refine @wpG_p _ _ _ _ _ (some 146) (.pointer (some ⟨og264, z, none⟩)) _ _ rfl (by rfl) (fun W => by (go_simp <;> first | rfl | omega | (simp; omega))) ?_
                                      simp only [n1, n3, n4]
                                      refine @wpG_r _ _ _ _ _ (some 147) (.int .i64 ((Pl.uP x).getD z 0)) _ _ rfl (by rfl) (fun W hg => by have c := (SL.ofOwn ((S253.out.gr hg).ownr 1 rfl)).int (l := (Pl.uP x)) z (by (have := HPL.out; omega)) 0 _ rfl; (try simp only [Nat.add_zero, Nat.zero_add] at c); go_simp) ?_
                                      simp only [n1, n3, n4]
                                      refine wpG_val (some 148) rfl (by rfl) (fun W265 hg266 => ⟨.slice (some ⟨W265.heap.size, 0, none⟩) 1 1, W265.alloc (.cells #[.int .i64 ((Pl.uP x).getD z 0)] 3), by (go_simp <;> rfl), ?_⟩)
                                      simp only [n1, n3, n4]
                                      obtain ⟨g267, U268, hg_, hu_, hS_⟩ := (S253.out.gr hg266).made [.int .i64 ((Pl.uP x).getD z 0)] 3
                                      rw [← hu_, ← hg_]
                                      have S269 : Hid (St w noB [blk g267 3 [.int .i64 ((Pl.uP x).getD z 0)], own (.slice G j gc) 3 1 j (ic (Pl.cellsOf (Pl.uP x) (Pl.fld (Pl.wd (Pl.uM x)) (Pl.V (Pl.uB x))) j)), own (.slice (some ⟨og264, 0, none⟩) i d) 3 1 i (ic (Pl.uP x)), blk g4 30 [.slice none 0 0, .int .i64 0, .int .i64 0]] U268) := Lib.hid hS_
                                      clear S253
                                      clear hg_ hu_ hS_ hg266
                                      have S270 : Hid (St w noB [own (.slice G j gc) 3 1 j (ic (Pl.cellsOf (Pl.uP x) (Pl.fld (Pl.wd (Pl.uM x)) (Pl.V (Pl.uB x))) j)), blk g267 3 [.int .i64 ((Pl.uP x).getD z 0)], own (.slice (some ⟨og264, 0, none⟩) i d) 3 1 i (ic (Pl.uP x)), blk g4 30 [.slice none 0 0, .int .i64 0, .int .i64 0]] U268) := Lib.hid (S269.out.front 1 rfl)
                                      clear S269
                                      refine wpG_appS (some 149) rfl rfl (.tmp 143) (.tmp 148) 22 22 rfl 3 1 8 Try.underlying22 (by kernel_rfl) (.slice G j gc) j (ic (Pl.cellsOf (Pl.uP x) (Pl.fld (Pl.wd (Pl.uM x)) (Pl.V (Pl.uB x))) j)) S270.out (.slice (some ⟨g267, 0, none⟩) 1 1) 1 [.int .i64 ((Pl.uP x).getD z 0)] (fun W hg => src_lies Try.underlying22 1 rfl (fun h => by cases h) (by intro u hu; simp at hu; rcases hu with rfl <;> rfl) ((S270.out.gr hg).liesBlk 1 rfl)) rfl rfl (by simp only [maxLen]; omega) (by omega) (fun v271 W272 hS_ => ?_)
                                      simp only [n1, n3, n4]
                                      rw [show ic (Pl.cellsOf (Pl.uP x) (Pl.fld (Pl.wd (Pl.uM x)) (Pl.V (Pl.uB x))) j) ++ [.int .i64 ((Pl.uP x).getD z 0)] = ic ((Pl.cellsOf (Pl.uP x) (Pl.fld (Pl.wd (Pl.uM x)) (Pl.V (Pl.uB x))) j) ++ [((Pl.uP x).getD z 0)]) by simp [ic]] at hS_
                                      obtain ⟨A273, k274, rfl, hle_, hcap_, _⟩ := own_shape (hS_.ownr 0 rfl)
                                      have S275 : Hid (St w noB [own (.slice A273 (j + 1) k274) 3 1 (j + 1) (ic ((Pl.cellsOf (Pl.uP x) (Pl.fld (Pl.wd (Pl.uM x)) (Pl.V (Pl.uB x))) j) ++ [((Pl.uP x).getD z 0)])), blk g267 3 [.int .i64 ((Pl.uP x).getD z 0)], own (.slice (some ⟨og264, 0, none⟩) i d) 3 1 i (ic (Pl.uP x)), blk g4 30 [.slice none 0 0, .int .i64 0, .int .i64 0]] W272) := Lib.hid hS_
                                      clear S270
                                      clear hS_
                                      refine @wpG_p _ _ _ _ _ (some 10) (.slice A273 (j + 1) k274) _ _ rfl (by rfl) (fun _ => rfl) ?_
                                      simp only [n1, n3, n4]
                                      refine wpG_done (fun V276 hv277 => ?_)
                                      have S278 : Hid (St w noB [own (.slice A273 (j + 1) k274) 3 1 (j + 1) (ic ((Pl.cellsOf (Pl.uP x) (Pl.fld (Pl.wd (Pl.uM x)) (Pl.V (Pl.uB x))) j) ++ [((Pl.uP x).getD z 0)])), blk g267 3 [.int .i64 ((Pl.uP x).getD z 0)], own (.slice (some ⟨og264, 0, none⟩) i d) 3 1 i (ic (Pl.uP x)), blk g4 30 [.slice none 0 0, .int .i64 0, .int .i64 0]] V276) := Lib.hid (S275.out.gr hv277)
                                      clear S275
                                      clear hv277
                                      refine ⟨rfl, hK _ _ ?_⟩
                                      clear hK
                                      go_upto_region 28 with fail
                                      refine wpG_region_k (fun K hK => ?_)
                                      refine @wpG_p _ _ _ _ _ (some 73) (.int .i64 (j : Int)) _ _ rfl (by rfl) (fun _ => rfl) ?_
                                      simp only [n1, n3, n4]
                                      refine @wpG_p _ _ _ _ _ (some 74) (.int .i64 ((j : Int) + 1)) _ _ rfl (by rfl) (fun W => op_i_add W (j : Int) 1 (by omega) rfl rfl rfl Try.underlying3) ?_
                                      simp only [n1, n3, n4]
                                      refine @wpG_p _ _ _ _ _ (some 11) (.int .i64 ((j : Int) + 1)) _ _ rfl (by rfl) (fun _ => rfl) ?_
                                      simp only [n1, n3, n4]
                                      refine wpG_done (fun V279 hv280 => ?_)
                                      have S281 : Hid (St w noB [own (.slice A273 (j + 1) k274) 3 1 (j + 1) (ic ((Pl.cellsOf (Pl.uP x) (Pl.fld (Pl.wd (Pl.uM x)) (Pl.V (Pl.uB x))) j) ++ [((Pl.uP x).getD z 0)])), blk g267 3 [.int .i64 ((Pl.uP x).getD z 0)], own (.slice (some ⟨og264, 0, none⟩) i d) 3 1 i (ic (Pl.uP x)), blk g4 30 [.slice none 0 0, .int .i64 0, .int .i64 0]] V279) := Lib.hid (S278.out.gr hv280)
                                      clear S278
                                      clear hv280
                                      refine ⟨rfl, hK _ _ ?_⟩
                                      clear hK
                                      go_wp2_with fail
                                      go_roundw
                                      have hzm_ : z < Pl.uM x := by have e_f203 := f203.out; have e_f247 := f247.out; omega
                                      have S282 : Hid (St w noB [own (.slice A273 (j + 1) k274) 3 1 (j + 1) (ic ((Pl.cellsOf (Pl.uP x) (Pl.fld (Pl.wd (Pl.uM x)) (Pl.V (Pl.uB x))) j) ++ [((Pl.uP x).getD z 0)])), own (.slice (some ⟨og264, 0, none⟩) i d) 3 1 i (ic (Pl.uP x)), blk g4 30 [.slice none 0 0, .int .i64 0, .int .i64 0]] V279) := Lib.hid (S281.out.sub (.cons_cons _ (.cons _ (.cons_cons _ (.cons_cons _ .slnil)))))
                                      clear S281
                                      case rel => exact ⟨A273, k274, j + 1, u + 1, (by first | rfl | go_num), (by first | rfl | go_num), (by first | rfl | go_num), (by omega), (by have e_f203 := f203.out; have e_f247 := f247.out; exact Pl.sn_hit HZF.out HUE.out (by omega)), (fun j2 hj2 => by rcases Nat.lt_or_ge j2 j with h1_ | h1_; exact HOK.out j2 h1_; obtain rfl : j2 = j := (by omega); exact ⟨⟨(by rw [← HZF.out, ← HUE.out]; have e_f203 := f203.out; have e_f247 := f247.out; omega), (by rw [← HZF.out]; exact hzm_), (by rw [← show u + 1 = Pl.sn (Pl.fld (Pl.wd (Pl.uM x)) (Pl.V (Pl.uB x))) (j2 + 1) from (by have e_f203 := f203.out; have e_f247 := f247.out; exact Pl.sn_hit HZF.out HUE.out (by omega))]; have e_f203 := f203.out; have e_f247 := f247.out; omega)⟩, HAV.out⟩), (fun h_ => HTLQ.out h_), (by have h_ := S282.out; rw [show (Pl.uP x).getD z 0 = (Pl.uP x).getD ((Pl.fld (Pl.wd (Pl.uM x)) (Pl.V (Pl.uB x))) j) 0 from by rw [← HZF.out], ← Pl.cells_succ] at h_; exact h_)⟩
                                      case measure => first | (simp only [intOf]; omega) | (simp [intOf]; done) | (simp [intOf]; omega) | omega
                                  | false =>
                                    have f283 := of_decide_eq_false Hc246.out.symm
                                    go_upto_region 41 with fail
                                    refine wpG_region_k (fun K hK => ?_)
                                    refine @wpG_p _ _ _ _ _ (some 134) (.int .i64 (Pl.uM x : Int)) _ _ rfl (by rfl) (fun _ => rfl) ?_
                                    simp only [n1, n3, n4]
                                    refine @wpG_p _ _ _ _ _ (some 135) (.int .i64 (u : Int)) _ _ rfl (by rfl) (fun _ => rfl) ?_
                                    simp only [n1, n3, n4]
                                    refine @wpG_p _ _ _ _ _ (some 136) (.int .i64 ((Pl.uM x : Int) - (u : Int))) _ _ rfl (by rfl) (fun W => op_i_sub W (Pl.uM x : Int) (u : Int) (by omega) rfl rfl rfl Try.underlying3) ?_
                                    simp only [n1, n3, n4]
                                    refine @wpG_p _ _ _ _ _ (some 137) (.int .i64 (Pl.uN x : Int)) _ _ rfl (by rfl) (fun _ => rfl) ?_
                                    simp only [n1, n3, n4]
                                    refine @wpG_p _ _ _ _ _ (some 138) (.int .i64 ((Pl.uN x : Int) - 1)) _ _ rfl (by rfl) (fun W => op_i_sub W (Pl.uN x : Int) 1 (by omega) rfl rfl rfl Try.underlying3) ?_
                                    simp only [n1, n3, n4]
                                    refine @wpG_p _ _ _ _ _ (some 139) (.int .i64 (j : Int)) _ _ rfl (by rfl) (fun _ => rfl) ?_
                                    simp only [n1, n3, n4]
                                    refine @wpG_p _ _ _ _ _ (some 140) (.int .i64 (((Pl.uN x : Int) - 1) - (j : Int))) _ _ rfl (by rfl) (fun W => op_i_sub W ((Pl.uN x : Int) - 1) (j : Int) (by omega) rfl rfl rfl Try.underlying3) ?_
                                    simp only [n1, n3, n4]
                                    refine @wpG_p _ _ _ _ _ (some 141) (.bool (decide ((Pl.uM x : Int) - (u : Int) > ((Pl.uN x : Int) - 1) - (j : Int)))) _ _ rfl (by rfl) (fun W => op_int_gtr W ((Pl.uM x : Int) - (u : Int)) (((Pl.uN x : Int) - 1) - (j : Int)) rfl rfl rfl Try.underlying3) ?_
                                    simp only [n1, n3, n4]
                                    refine wpG_done (fun V284 hv285 => ?_)
                                    have S286 : Hid (St w noB [own (.slice G j gc) 3 1 j (ic (Pl.cellsOf (Pl.uP x) (Pl.fld (Pl.wd (Pl.uM x)) (Pl.V (Pl.uB x))) j)), own (.slice E i d) 3 1 i (ic (Pl.uP x)), blk g4 30 [.slice none 0 0, .int .i64 0, .int .i64 0]] V284) := Lib.hid (S245.out.gr hv285)
                                    clear S245
                                    clear hv285
                                    refine ⟨rfl, hK _ _ ?_⟩
                                    clear hK
                                    obtain ⟨c287, hc287⟩ : ∃ q_, q_ = (decide ((Pl.uM x : Int) - (u : Int) > ((Pl.uN x : Int) - 1) - (j : Int))) := ⟨_, rfl⟩
                                    rw [← hc287]
                                    have Hc287 := Lib.hid hc287
                                    clear hc287
                                    cases c287 with
                                    | true =>
                                      have f288 := of_decide_eq_true Hc287.out.symm
                                      go_upto_region 42 with fail
                                      refine wpG_region_k (fun K hK => ?_)
                                      refine @wpG_p _ _ _ _ _ (some 142) (.agg #[.slice none 0 0, .int .i64 0, .int .i64 6]) _ _ rfl (by rfl) (fun W => by go_simp) ?_
                                      simp only [n1, n3, n4]
                                      refine wpG_store (none) rfl (by rfl) (fun W289 hg290 => ⟨_, run_store_mid 30 (.tmp 2) (.tmp 142) rfl g4 0 #[.slice none 0 0, .int .i64 0, .int .i64 6] rfl rfl ((S286.out.gr hg290).room 2 rfl 0 3 (by simp)) (by kernel_rfl) (by kernel_rfl), ?_⟩)
                                      simp only [n2]
                                      obtain ⟨U291, hu_, hS_⟩ := ((S286.out.gr hg290).put 2 rfl 0 (#[.slice none 0 0, .int .i64 0, .int .i64 6] : Array Value).toList (ds := [.slice none 0 0, .int .i64 0, .int .i64 6]) rfl).named
                                      rw [← hu_]
                                      have S292 : Hid (St w noB [own (.slice G j gc) 3 1 j (ic (Pl.cellsOf (Pl.uP x) (Pl.fld (Pl.wd (Pl.uM x)) (Pl.V (Pl.uB x))) j)), own (.slice E i d) 3 1 i (ic (Pl.uP x)), blk g4 30 [.slice none 0 0, .int .i64 0, .int .i64 6]] U291) := Lib.hid hS_
                                      clear S286
                                      clear hu_ hS_ hg290
                                      refine wpG_done (fun V293 hv294 => ?_)
                                      have S295 : Hid (St w noB [own (.slice G j gc) 3 1 j (ic (Pl.cellsOf (Pl.uP x) (Pl.fld (Pl.wd (Pl.uM x)) (Pl.V (Pl.uB x))) j)), own (.slice E i d) 3 1 i (ic (Pl.uP x)), blk g4 30 [.slice none 0 0, .int .i64 0, .int .i64 6]] V293) := Lib.hid (S292.out.gr hv294)
                                      clear S292
                                      clear hv294
                                      refine ⟨rfl, hK _ _ ?_⟩
                                      clear hK
                                      (repeat go_step)
                                      (try simp only [Exit.inBlock, Exit.then])
                                      refine bodyPost_ret (results_cell_mid rfl _ _ _ g4 0 [.slice none 0 0, .int .i64 0, .int .i64 6] _ rfl (S295.out.range 2 rfl 0 3 rfl) Try.underlying30 rfl (by kernel_rfl)) rfl ?_
                                      (have e_f203 := f203.out; have hu_ := Pl.un_badi HE0.out (show j < Pl.uN x by omega) HAV.out (fun h_ => by obtain ⟨_, _, h3_⟩ := h_; rw [show Pl.uF x = (Pl.fld (Pl.wd (Pl.uM x)) (Pl.V (Pl.uB x))) from rfl, ← show u = Pl.sn (Pl.fld (Pl.wd (Pl.uM x)) (Pl.V (Pl.uB x))) (j + 1) from Pl.sn_miss HZF.out HUE.out (by omega)] at h3_; omega); exact ⟨none, 0, 0, by rw [hu_]; rfl, by rw [hu_]; exact S295.out.dropAll.nilOwn _ _⟩)
                                    | false =>
                                      have f296 := of_decide_eq_false Hc287.out.symm
                                      go_upto_region 43 with fail
                                      refine wpG_region_k (fun K hK => ?_)
                                      refine @wpG_p _ _ _ _ _ (some 143) (.slice G j gc) _ _ rfl (by rfl) (fun _ => rfl) ?_
                                      simp only [n1, n3, n4]
                                      refine @wpG_p _ _ _ _ _ (some 144) (.slice E i d) _ _ rfl (by rfl) (fun _ => rfl) ?_
                                      simp only [n1, n3, n4]
                                      refine @wpG_p _ _ _ _ _ (some 145) (.int .i64 (z : Int)) _ _ rfl (by rfl) (fun _ => rfl) ?_
                                      simp only [n1, n3, n4]
                                      obtain ⟨og297, rfl⟩ := ownAdr (S286.out.ownr 1 rfl) (by omega)
                                      have hix_ : z < i := by omega
                                      refine @wpG_p _ _ _ _ _ (some 146) (.pointer (some ⟨og297, z, none⟩)) _ _ rfl (by rfl) (fun W => by (go_simp <;> first | rfl | omega | (simp; omega))) ?_
                                      simp only [n1, n3, n4]
                                      refine @wpG_r _ _ _ _ _ (some 147) (.int .i64 ((Pl.uP x).getD z 0)) _ _ rfl (by rfl) (fun W hg => by have c := (SL.ofOwn ((S286.out.gr hg).ownr 1 rfl)).int (l := (Pl.uP x)) z (by (have := HPL.out; omega)) 0 _ rfl; (try simp only [Nat.add_zero, Nat.zero_add] at c); go_simp) ?_
                                      simp only [n1, n3, n4]
                                      refine wpG_val (some 148) rfl (by rfl) (fun W298 hg299 => ⟨.slice (some ⟨W298.heap.size, 0, none⟩) 1 1, W298.alloc (.cells #[.int .i64 ((Pl.uP x).getD z 0)] 3), by (go_simp <;> rfl), ?_⟩)
                                      simp only [n1, n3, n4]
                                      obtain ⟨g300, U301, hg_, hu_, hS_⟩ := (S286.out.gr hg299).made [.int .i64 ((Pl.uP x).getD z 0)] 3
                                      rw [← hu_, ← hg_]
                                      have S302 : Hid (St w noB [blk g300 3 [.int .i64 ((Pl.uP x).getD z 0)], own (.slice G j gc) 3 1 j (ic (Pl.cellsOf (Pl.uP x) (Pl.fld (Pl.wd (Pl.uM x)) (Pl.V (Pl.uB x))) j)), own (.slice (some ⟨og297, 0, none⟩) i d) 3 1 i (ic (Pl.uP x)), blk g4 30 [.slice none 0 0, .int .i64 0, .int .i64 0]] U301) := Lib.hid hS_
                                      clear S286
                                      clear hg_ hu_ hS_ hg299
                                      have S303 : Hid (St w noB [own (.slice G j gc) 3 1 j (ic (Pl.cellsOf (Pl.uP x) (Pl.fld (Pl.wd (Pl.uM x)) (Pl.V (Pl.uB x))) j)), blk g300 3 [.int .i64 ((Pl.uP x).getD z 0)], own (.slice (some ⟨og297, 0, none⟩) i d) 3 1 i (ic (Pl.uP x)), blk g4 30 [.slice none 0 0, .int .i64 0, .int .i64 0]] U301) := Lib.hid (S302.out.front 1 rfl)
                                      clear S302
                                      refine wpG_appS (some 149) rfl rfl (.tmp 143) (.tmp 148) 22 22 rfl 3 1 8 Try.underlying22 (by kernel_rfl) (.slice G j gc) j (ic (Pl.cellsOf (Pl.uP x) (Pl.fld (Pl.wd (Pl.uM x)) (Pl.V (Pl.uB x))) j)) S303.out (.slice (some ⟨g300, 0, none⟩) 1 1) 1 [.int .i64 ((Pl.uP x).getD z 0)] (fun W hg => src_lies Try.underlying22 1 rfl (fun h => by cases h) (by intro u hu; simp at hu; rcases hu with rfl <;> rfl) ((S303.out.gr hg).liesBlk 1 rfl)) rfl rfl (by simp only [maxLen]; omega) (by omega) (fun v304 W305 hS_ => ?_)
                                      simp only [n1, n3, n4]
                                      rw [show ic (Pl.cellsOf (Pl.uP x) (Pl.fld (Pl.wd (Pl.uM x)) (Pl.V (Pl.uB x))) j) ++ [.int .i64 ((Pl.uP x).getD z 0)] = ic ((Pl.cellsOf (Pl.uP x) (Pl.fld (Pl.wd (Pl.uM x)) (Pl.V (Pl.uB x))) j) ++ [((Pl.uP x).getD z 0)]) by simp [ic]] at hS_
                                      obtain ⟨A306, k307, rfl, hle_, hcap_, _⟩ := own_shape (hS_.ownr 0 rfl)
                                      have S308 : Hid (St w noB [own (.slice A306 (j + 1) k307) 3 1 (j + 1) (ic ((Pl.cellsOf (Pl.uP x) (Pl.fld (Pl.wd (Pl.uM x)) (Pl.V (Pl.uB x))) j) ++ [((Pl.uP x).getD z 0)])), blk g300 3 [.int .i64 ((Pl.uP x).getD z 0)], own (.slice (some ⟨og297, 0, none⟩) i d) 3 1 i (ic (Pl.uP x)), blk g4 30 [.slice none 0 0, .int .i64 0, .int .i64 0]] W305) := Lib.hid hS_
                                      clear S303
                                      clear hS_
                                      refine @wpG_p _ _ _ _ _ (some 10) (.slice A306 (j + 1) k307) _ _ rfl (by rfl) (fun _ => rfl) ?_
                                      simp only [n1, n3, n4]
                                      refine wpG_done (fun V309 hv310 => ?_)
                                      have S311 : Hid (St w noB [own (.slice A306 (j + 1) k307) 3 1 (j + 1) (ic ((Pl.cellsOf (Pl.uP x) (Pl.fld (Pl.wd (Pl.uM x)) (Pl.V (Pl.uB x))) j) ++ [((Pl.uP x).getD z 0)])), blk g300 3 [.int .i64 ((Pl.uP x).getD z 0)], own (.slice (some ⟨og297, 0, none⟩) i d) 3 1 i (ic (Pl.uP x)), blk g4 30 [.slice none 0 0, .int .i64 0, .int .i64 0]] V309) := Lib.hid (S308.out.gr hv310)
                                      clear S308
                                      clear hv310
                                      refine ⟨rfl, hK _ _ ?_⟩
                                      clear hK
                                      go_upto_region 28 with fail
                                      refine wpG_region_k (fun K hK => ?_)
                                      refine @wpG_p _ _ _ _ _ (some 73) (.int .i64 (j : Int)) _ _ rfl (by rfl) (fun _ => rfl) ?_
                                      simp only [n1, n3, n4]
                                      refine @wpG_p _ _ _ _ _ (some 74) (.int .i64 ((j : Int) + 1)) _ _ rfl (by rfl) (fun W => op_i_add W (j : Int) 1 (by omega) rfl rfl rfl Try.underlying3) ?_
                                      simp only [n1, n3, n4]
                                      refine @wpG_p _ _ _ _ _ (some 11) (.int .i64 ((j : Int) + 1)) _ _ rfl (by rfl) (fun _ => rfl) ?_
                                      simp only [n1, n3, n4]
                                      refine wpG_done (fun V312 hv313 => ?_)
                                      have S314 : Hid (St w noB [own (.slice A306 (j + 1) k307) 3 1 (j + 1) (ic ((Pl.cellsOf (Pl.uP x) (Pl.fld (Pl.wd (Pl.uM x)) (Pl.V (Pl.uB x))) j) ++ [((Pl.uP x).getD z 0)])), blk g300 3 [.int .i64 ((Pl.uP x).getD z 0)], own (.slice (some ⟨og297, 0, none⟩) i d) 3 1 i (ic (Pl.uP x)), blk g4 30 [.slice none 0 0, .int .i64 0, .int .i64 0]] V312) := Lib.hid (S311.out.gr hv313)
                                      clear S311
                                      clear hv313
                                      refine ⟨rfl, hK _ _ ?_⟩
                                      clear hK
                                      go_wp2_with fail
                                      go_roundw
                                      have hzm_ : z < Pl.uM x := by have e_f203 := f203.out; omega
                                      have S315 : Hid (St w noB [own (.slice A306 (j + 1) k307) 3 1 (j + 1) (ic ((Pl.cellsOf (Pl.uP x) (Pl.fld (Pl.wd (Pl.uM x)) (Pl.V (Pl.uB x))) j) ++ [((Pl.uP x).getD z 0)])), own (.slice (some ⟨og297, 0, none⟩) i d) 3 1 i (ic (Pl.uP x)), blk g4 30 [.slice none 0 0, .int .i64 0, .int .i64 0]] V312) := Lib.hid (S314.out.sub (.cons_cons _ (.cons _ (.cons_cons _ (.cons_cons _ .slnil)))))
                                      clear S314
                                      case rel => exact ⟨A306, k307, j + 1, u, (by first | rfl | go_num), (by first | rfl | go_num), (by first | rfl | go_num), (by omega), (by have e_f203 := f203.out; exact Pl.sn_miss HZF.out HUE.out (by omega)), (fun j2 hj2 => by rcases Nat.lt_or_ge j2 j with h1_ | h1_; exact HOK.out j2 h1_; obtain rfl : j2 = j := (by omega); exact ⟨⟨(by rw [← HZF.out, ← HUE.out]; have e_f203 := f203.out; omega), (by rw [← HZF.out]; exact hzm_), (by rw [← show u = Pl.sn (Pl.fld (Pl.wd (Pl.uM x)) (Pl.V (Pl.uB x))) (j2 + 1) from (by have e_f203 := f203.out; exact Pl.sn_miss HZF.out HUE.out (by omega))]; have e_f203 := f203.out; omega)⟩, HAV.out⟩), (fun h_ => HTLQ.out h_), (by have h_ := S315.out; rw [show (Pl.uP x).getD z 0 = (Pl.uP x).getD ((Pl.fld (Pl.wd (Pl.uM x)) (Pl.V (Pl.uB x))) j) 0 from by rw [← HZF.out], ← Pl.cells_succ] at h_; exact h_)⟩
                                      case measure => first | (simp only [intOf]; omega) | (simp [intOf]; done) | (simp [intOf]; omega) | omega
                          | false =>
                            have f316 := of_decide_eq_false Hc202.out.symm
                            have HTLQ : Hid (j + 1 = Pl.uN x → Pl.V (Pl.uB x) < 2 ^ ((Pl.wd (Pl.uM x)) * (Pl.uN x))) := Lib.hid (fun h_ => by exfalso; omega)
                            refine wpK_ta (i := 5) (some 106) rfl rfl (by kernel_rfl) (fun _ _ _ h => onN_panic h) (Or.inr ⟨by rfl, rfl⟩) ?_
                            simp only [n1, n3, n4]
                            refine wpK_ta (i := 6) (some 107) rfl rfl (by kernel_rfl) (fun _ _ _ h => onN_panic h) (Or.inr ⟨by rfl, rfl⟩) ?_
                            simp only [n1, n3, n4]
                            refine wpK_ta (i := 7) (some 108) rfl rfl (by kernel_rfl) (fun _ _ _ h => onN_panic h) (Or.inr ⟨by rfl, rfl⟩) ?_
                            simp only [n1, n3, n4]
                            refine wpK_ta (i := 8) (some 109) rfl rfl (by kernel_rfl) (fun _ _ _ h => onN_panic h) (Or.inr ⟨by rfl, rfl⟩) ?_
                            simp only [n1, n3, n4]
                            refine wpK_ta (i := 9) (some 110) rfl rfl (by kernel_rfl) (fun _ _ _ h => onN_panic h) (Or.inr ⟨by rfl, rfl⟩) ?_
                            simp only [n1, n3, n4]
                            refine wpK_ta (i := 10) (some 111) rfl rfl (by kernel_rfl) (fun _ _ _ h => onN_panic h) (Or.inr ⟨by rfl, rfl⟩) ?_
                            simp only [n1, n3, n4]
                            refine wpK_ta (i := 11) (some 112) rfl rfl (by kernel_rfl) (fun _ _ _ h => onN_panic h) (Or.inr ⟨by rfl, rfl⟩) ?_
                            simp only [n1, n3, n4]
                            refine wpK_ta (i := 12) (some 113) rfl rfl (by kernel_rfl) (fun _ _ _ h => onN_panic h) (Or.inr ⟨by rfl, rfl⟩) ?_
                            simp only [n1, n3, n4]
                            refine wpK_ta (i := 13) (some 114) rfl rfl (by kernel_rfl) (fun _ _ _ h => onN_panic h) (Or.inr ⟨by rfl, rfl⟩) ?_
                            simp only [n1, n3, n4]
                            refine wpK_ta (i := 14) (some 115) rfl rfl (by kernel_rfl) (fun _ _ _ h => onN_panic h) (Or.inr ⟨by rfl, rfl⟩) ?_
                            simp only [n1, n3, n4]
                            refine wpK_ta (i := 15) (some 116) rfl rfl (by kernel_rfl) (fun _ _ _ h => onN_panic h) (Or.inr ⟨by rfl, rfl⟩) ?_
                            simp only [n1, n3, n4]
                            refine wpK_ta (i := 16) (some 117) rfl rfl (by kernel_rfl) (fun _ _ _ h => onN_panic h) (Or.inr ⟨by rfl, rfl⟩) ?_
                            simp only [n1, n3, n4]
                            refine wpK_ta (i := 17) (some 118) (v := .bool false) rfl rfl (by kernel_rfl) (fun _ _ _ h => onN_panic h) (Or.inl ⟨by rfl, fun W => by go_simp⟩) ?_
                            simp only [n1, n3, n4]
                            refine wpK_done (by kernel_rfl) (fun V317 hv318 => ?_) _
                            have S319 : Hid (St w noB [own (.slice G j gc) 3 1 j (ic (Pl.cellsOf (Pl.uP x) (Pl.fld (Pl.wd (Pl.uM x)) (Pl.V (Pl.uB x))) j)), own (.slice E i d) 3 1 i (ic (Pl.uP x)), blk g4 30 [.slice none 0 0, .int .i64 0, .int .i64 0]] V317) := Lib.hid (S201.out.gr (Gr.un hv318))
                            clear S201
                            clear hv318
                            refine ⟨rfl, hK _ _ ?_⟩
                            clear hK
                            go_upto_region 37 with fail
                            refine wpG_region_k (fun K hK => ?_)
                            refine @wpG_p _ _ _ _ _ (some 120) (.int .i64 (z : Int)) _ _ rfl (by rfl) (fun _ => rfl) ?_
                            simp only [n1, n3, n4]
                            refine @wpG_p _ _ _ _ _ (some 121) (.int .i64 (u : Int)) _ _ rfl (by rfl) (fun _ => rfl) ?_
                            simp only [n1, n3, n4]
                            refine @wpG_p _ _ _ _ _ (some 122) (.bool (decide ((z : Int) > (u : Int)))) _ _ rfl (by rfl) (fun W => op_int_gtr W (z : Int) (u : Int) rfl rfl rfl Try.underlying3) ?_
                            simp only [n1, n3, n4]
                            refine @wpG_p _ _ _ _ _ (some 123) (.bool (decide ((z : Int) > (u : Int)))) _ _ rfl (by rfl) (fun _ => rfl) ?_
                            simp only [n1, n3, n4]
                            obtain ⟨c320, hc320⟩ : ∃ q_, q_ = (decide ((z : Int) > (u : Int))) := ⟨_, rfl⟩
                            rw [← hc320]
                            have Hc320 := Lib.hid hc320
                            clear hc320
                            cases c320 with
                            | true =>
                              have f321 := of_decide_eq_true Hc320.out.symm
                              refine @wpG_no _ _ _ _ _ (some 124) _ _ rfl (by rfl) ?_
                              simp only [n1, n3, n4]
                              refine @wpG_no _ _ _ _ _ (some 125) _ _ rfl (by rfl) ?_
                              simp only [n1, n3, n4]
                              refine @wpG_no _ _ _ _ _ (some 126) _ _ rfl (by rfl) ?_
                              simp only [n1, n3, n4]
                              refine @wpG_p _ _ _ _ _ (some 127) (.bool true) _ _ rfl (by rfl) (fun W => by go_simp) ?_
                              simp only [n1, n3, n4]
                              refine wpG_done (fun V322 hv323 => ?_)
                              have S324 : Hid (St w noB [own (.slice G j gc) 3 1 j (ic (Pl.cellsOf (Pl.uP x) (Pl.fld (Pl.wd (Pl.uM x)) (Pl.V (Pl.uB x))) j)), own (.slice E i d) 3 1 i (ic (Pl.uP x)), blk g4 30 [.slice none 0 0, .int .i64 0, .int .i64 0]] V322) := Lib.hid (S319.out.gr hv323)
                              clear S319
                              clear hv323
                              refine ⟨rfl, hK _ _ ?_⟩
                              clear hK
                              go_upto_region 38 with fail
                              refine wpG_region_k (fun K hK => ?_)
                              refine @wpG_p _ _ _ _ _ (some 128) (.agg #[.slice none 0 0, .int .i64 0, .int .i64 6]) _ _ rfl (by rfl) (fun W => by go_simp) ?_
                              simp only [n1, n3, n4]
                              refine wpG_store (none) rfl (by rfl) (fun W325 hg326 => ⟨_, run_store_mid 30 (.tmp 2) (.tmp 128) rfl g4 0 #[.slice none 0 0, .int .i64 0, .int .i64 6] rfl rfl ((S324.out.gr hg326).room 2 rfl 0 3 (by simp)) (by kernel_rfl) (by kernel_rfl), ?_⟩)
                              simp only [n2]
                              obtain ⟨U327, hu_, hS_⟩ := ((S324.out.gr hg326).put 2 rfl 0 (#[.slice none 0 0, .int .i64 0, .int .i64 6] : Array Value).toList (ds := [.slice none 0 0, .int .i64 0, .int .i64 6]) rfl).named
                              rw [← hu_]
                              have S328 : Hid (St w noB [own (.slice G j gc) 3 1 j (ic (Pl.cellsOf (Pl.uP x) (Pl.fld (Pl.wd (Pl.uM x)) (Pl.V (Pl.uB x))) j)), own (.slice E i d) 3 1 i (ic (Pl.uP x)), blk g4 30 [.slice none 0 0, .int .i64 0, .int .i64 6]] U327) := Lib.hid hS_
                              clear S324
                              clear hu_ hS_ hg326
                              refine wpG_done (fun V329 hv330 => ?_)
                              have S331 : Hid (St w noB [own (.slice G j gc) 3 1 j (ic (Pl.cellsOf (Pl.uP x) (Pl.fld (Pl.wd (Pl.uM x)) (Pl.V (Pl.uB x))) j)), own (.slice E i d) 3 1 i (ic (Pl.uP x)), blk g4 30 [.slice none 0 0, .int .i64 0, .int .i64 6]] V329) := Lib.hid (S328.out.gr hv330)
                              clear S328
                              clear hv330
                              refine ⟨rfl, hK _ _ ?_⟩
                              clear hK
                              (repeat go_step)
                              (try simp only [Exit.inBlock, Exit.then])
                              refine bodyPost_ret (results_cell_mid rfl _ _ _ g4 0 [.slice none 0 0, .int .i64 0, .int .i64 6] _ rfl (S331.out.range 2 rfl 0 3 rfl) Try.underlying30 rfl (by kernel_rfl)) rfl ?_
                              (have hu_ := Pl.un_badi HE0.out (show j < Pl.uN x by omega) HAV.out (fun h_ => by obtain ⟨h1_, h2_, _⟩ := h_; rw [show Pl.uF x = (Pl.fld (Pl.wd (Pl.uM x)) (Pl.V (Pl.uB x))) from rfl, ← HZF.out] at h1_ h2_; rw [← HUE.out] at h1_; omega); exact ⟨none, 0, 0, by rw [hu_]; rfl, by rw [hu_]; exact S331.out.dropAll.nilOwn _ _⟩)
                            | false =>
                              have f332 := of_decide_eq_false Hc320.out.symm
                              refine @wpG_p _ _ _ _ _ (some 124) (.int .i64 (z : Int)) _ _ rfl (by rfl) (fun _ => rfl) ?_
                              simp only [n1, n3, n4]
                              refine @wpG_p _ _ _ _ _ (some 125) (.int .i64 (Pl.uM x : Int)) _ _ rfl (by rfl) (fun _ => rfl) ?_
                              simp only [n1, n3, n4]
                              refine @wpG_p _ _ _ _ _ (some 126) (.bool (decide ((z : Int) ≥ (Pl.uM x : Int)))) _ _ rfl (by rfl) (fun W => op_int_geq W (z : Int) (Pl.uM x : Int) rfl rfl rfl Try.underlying3) ?_
                              simp only [n1, n3, n4]
                              refine @wpG_p _ _ _ _ _ (some 127) (.bool (decide ((z : Int) ≥ (Pl.uM x : Int)))) _ _ rfl (by rfl) (fun W => by go_simp) ?_
                              simp only [n1, n3, n4]
                              refine wpG_done (fun V333 hv334 => ?_)
                              have S335 : Hid (St w noB [own (.slice G j gc) 3 1 j (ic (Pl.cellsOf (Pl.uP x) (Pl.fld (Pl.wd (Pl.uM x)) (Pl.V (Pl.uB x))) j)), own (.slice E i d) 3 1 i (ic (Pl.uP x)), blk g4 30 [.slice none 0 0, .int .i64 0, .int .i64 0]] V333) := Lib.hid (S319.out.gr hv334)
                              clear S319
                              clear hv334
                              refine ⟨rfl, hK _ _ ?_⟩
                              clear hK
                              obtain ⟨c336, hc336⟩ : ∃ q_, q_ = (decide ((z : Int) ≥ (Pl.uM x : Int))) := ⟨_, rfl⟩
                              rw [← hc336]
                              have Hc336 := Lib.hid hc336
                              clear hc336
                              cases c336 with
                              | true =>
                                have f337 := of_decide_eq_true Hc336.out.symm
                                go_upto_region 38 with fail
                                refine wpG_region_k (fun K hK => ?_)
                                refine @wpG_p _ _ _ _ _ (some 128) (.agg #[.slice none 0 0, .int .i64 0, .int .i64 6]) _ _ rfl (by rfl) (fun W => by go_simp) ?_
                                simp only [n1, n3, n4]
                                refine wpG_store (none) rfl (by rfl) (fun W338 hg339 => ⟨_, run_store_mid 30 (.tmp 2) (.tmp 128) rfl g4 0 #[.slice none 0 0, .int .i64 0, .int .i64 6] rfl rfl ((S335.out.gr hg339).room 2 rfl 0 3 (by simp)) (by kernel_rfl) (by kernel_rfl), ?_⟩)
                                simp only [n2]
                                obtain ⟨U340, hu_, hS_⟩ := ((S335.out.gr hg339).put 2 rfl 0 (#[.slice none 0 0, .int .i64 0, .int .i64 6] : Array Value).toList (ds := [.slice none 0 0, .int .i64 0, .int .i64 6]) rfl).named
                                rw [← hu_]
                                have S341 : Hid (St w noB [own (.slice G j gc) 3 1 j (ic (Pl.cellsOf (Pl.uP x) (Pl.fld (Pl.wd (Pl.uM x)) (Pl.V (Pl.uB x))) j)), own (.slice E i d) 3 1 i (ic (Pl.uP x)), blk g4 30 [.slice none 0 0, .int .i64 0, .int .i64 6]] U340) := Lib.hid hS_
                                clear S335
                                clear hu_ hS_ hg339
                                refine wpG_done (fun V342 hv343 => ?_)
                                have S344 : Hid (St w noB [own (.slice G j gc) 3 1 j (ic (Pl.cellsOf (Pl.uP x) (Pl.fld (Pl.wd (Pl.uM x)) (Pl.V (Pl.uB x))) j)), own (.slice E i d) 3 1 i (ic (Pl.uP x)), blk g4 30 [.slice none 0 0, .int .i64 0, .int .i64 6]] V342) := Lib.hid (S341.out.gr hv343)
                                clear S341
                                clear hv343
                                refine ⟨rfl, hK _ _ ?_⟩
                                clear hK
                                (repeat go_step)
                                (try simp only [Exit.inBlock, Exit.then])
                                refine bodyPost_ret (results_cell_mid rfl _ _ _ g4 0 [.slice none 0 0, .int .i64 0, .int .i64 6] _ rfl (S344.out.range 2 rfl 0 3 rfl) Try.underlying30 rfl (by kernel_rfl)) rfl ?_
                                (have hu_ := Pl.un_badi HE0.out (show j < Pl.uN x by omega) HAV.out (fun h_ => by obtain ⟨h1_, h2_, _⟩ := h_; rw [show Pl.uF x = (Pl.fld (Pl.wd (Pl.uM x)) (Pl.V (Pl.uB x))) from rfl, ← HZF.out] at h1_ h2_; rw [← HUE.out] at h1_; omega); exact ⟨none, 0, 0, by rw [hu_]; rfl, by rw [hu_]; exact S344.out.dropAll.nilOwn _ _⟩)
                              | false =>
                                have f345 := of_decide_eq_false Hc336.out.symm
                                go_upto_region 39 with fail
                                refine wpG_region_k (fun K hK => ?_)
                                refine @wpG_p _ _ _ _ _ (some 129) (.int .i64 (z : Int)) _ _ rfl (by rfl) (fun _ => rfl) ?_
                                simp only [n1, n3, n4]
                                refine @wpG_p _ _ _ _ _ (some 130) (.int .i64 (u : Int)) _ _ rfl (by rfl) (fun _ => rfl) ?_
                                simp only [n1, n3, n4]
                                refine @wpG_p _ _ _ _ _ (some 131) (.bool (decide ((z : Int) = (u : Int)))) _ _ rfl (by rfl) (fun W => op_int_eql W (z : Int) (u : Int) rfl rfl rfl Try.underlying3) ?_
                                simp only [n1, n3, n4]
                                refine wpG_done (fun V346 hv347 => ?_)
                                have S348 : Hid (St w noB [own (.slice G j gc) 3 1 j (ic (Pl.cellsOf (Pl.uP x) (Pl.fld (Pl.wd (Pl.uM x)) (Pl.V (Pl.uB x))) j)), own (.slice E i d) 3 1 i (ic (Pl.uP x)), blk g4 30 [.slice none 0 0, .int .i64 0, .int .i64 0]] V346) := Lib.hid (S335.out.gr hv347)
                                clear S335
                                clear hv347
                                refine ⟨rfl, hK _ _ ?_⟩
                                clear hK
                                obtain ⟨c349, hc349⟩ : ∃ q_, q_ = (decide ((z : Int) = (u : Int))) := ⟨_, rfl⟩
                                rw [← hc349]
                                have Hc349 := Lib.hid hc349
                                clear hc349
                                cases c349 with
                                | true =>
                                  have f350 := Lib.hid (of_decide_eq_true Hc349.out.symm)
                                  have f350a := Int.le_of_eq f350.out
                                  have f350b := Int.le_of_eq f350.out.symm
                                  go_upto_region 40 with fail
                                  refine wpG_region_k (fun K hK => ?_)
                                  refine @wpG_p _ _ _ _ _ (some 132) (.int .i64 (u : Int)) _ _ rfl (by rfl) (fun _ => rfl) ?_
                                  simp only [n1, n3, n4]
                                  obtain ⟨u1, h_u1⟩ : ∃ q_ : Nat, q_ = u + 1 := ⟨_, rfl⟩
                                  have hu1b : u1 ≤ u + 1 ∧ u + 1 ≤ u1 := by omega
                                  have Hu1 := Lib.hid h_u1
                                  clear h_u1
                                  refine @wpG_p _ _ _ _ _ (some 133) (.int .i64 (u1 : Int)) _ _ rfl (by rfl) (fun W => op_n_add u 1 u1 Hu1.out.symm (by omega) rfl rfl rfl) ?_
                                  simp only [n1, n3, n4]
                                  refine @wpG_p _ _ _ _ _ (some 9) (.int .i64 (u1 : Int)) _ _ rfl (by rfl) (fun _ => rfl) ?_
                                  simp only [n1, n3, n4]
                                  refine wpG_done (fun V351 hv352 => ?_)
                                  have S353 : Hid (St w noB [own (.slice G j gc) 3 1 j (ic (Pl.cellsOf (Pl.uP x) (Pl.fld (Pl.wd (Pl.uM x)) (Pl.V (Pl.uB x))) j)), own (.slice E i d) 3 1 i (ic (Pl.uP x)), blk g4 30 [.slice none 0 0, .int .i64 0, .int .i64 0]] V351) := Lib.hid (S348.out.gr hv352)
                                  clear S348
                                  clear hv352
                                  refine ⟨rfl, hK _ _ ?_⟩
                                  clear hK
                                  go_upto_region 41 with fail
                                  refine wpG_region_k (fun K hK => ?_)
                                  refine @wpG_p _ _ _ _ _ (some 134) (.int .i64 (Pl.uM x : Int)) _ _ rfl (by rfl) (fun _ => rfl) ?_
                                  simp only [n1, n3, n4]
                                  refine @wpG_p _ _ _ _ _ (some 135) (.int .i64 (u1 : Int)) _ _ rfl (by rfl) (fun _ => rfl) ?_
                                  simp only [n1, n3, n4]
                                  refine @wpG_p _ _ _ _ _ (some 136) (.int .i64 ((Pl.uM x : Int) - (u1 : Int))) _ _ rfl (by rfl) (fun W => op_i_sub W (Pl.uM x : Int) (u1 : Int) (by omega) rfl rfl rfl Try.underlying3) ?_
                                  simp only [n1, n3, n4]
                                  refine @wpG_p _ _ _ _ _ (some 137) (.int .i64 (Pl.uN x : Int)) _ _ rfl (by rfl) (fun _ => rfl) ?_
                                  simp only [n1, n3, n4]
                                  refine @wpG_p _ _ _ _ _ (some 138) (.int .i64 ((Pl.uN x : Int) - 1)) _ _ rfl (by rfl) (fun W => op_i_sub W (Pl.uN x : Int) 1 (by omega) rfl rfl rfl Try.underlying3) ?_
                                  simp only [n1, n3, n4]
                                  refine @wpG_p _ _ _ _ _ (some 139) (.int .i64 (j : Int)) _ _ rfl (by rfl) (fun _ => rfl) ?_
                                  simp only [n1, n3, n4]
                                  refine @wpG_p _ _ _ _ _ (some 140) (.int .i64 (((Pl.uN x : Int) - 1) - (j : Int))) _ _ rfl (by rfl) (fun W => op_i_sub W ((Pl.uN x : Int) - 1) (j : Int) (by omega) rfl rfl rfl Try.underlying3) ?_
                                  simp only [n1, n3, n4]
                                  refine @wpG_p _ _ _ _ _ (some 141) (.bool (decide ((Pl.uM x : Int) - (u1 : Int) > ((Pl.uN x : Int) - 1) - (j : Int)))) _ _ rfl (by rfl) (fun W => op_int_gtr W ((Pl.uM x : Int) - (u1 : Int)) (((Pl.uN x : Int) - 1) - (j : Int)) rfl rfl rfl Try.underlying3) ?_
                                  simp only [n1, n3, n4]
                                  refine wpG_done (fun V354 hv355 => ?_)
                                  have S356 : Hid (St w noB [own (.slice G j gc) 3 1 j (ic (Pl.cellsOf (Pl.uP x) (Pl.fld (Pl.wd (Pl.uM x)) (Pl.V (Pl.uB x))) j)), own (.slice E i d) 3 1 i (ic (Pl.uP x)), blk g4 30 [.slice none 0 0, .int .i64 0, .int .i64 0]] V354) := Lib.hid (S353.out.gr hv355)
                                  clear S353
                                  clear hv355
                                  refine ⟨rfl, hK _ _ ?_⟩
                                  clear hK
                                  obtain ⟨c357, hc357⟩ : ∃ q_, q_ = (decide ((Pl.uM x : Int) - (u1 : Int) > ((Pl.uN x : Int) - 1) - (j : Int))) := ⟨_, rfl⟩
                                  rw [← hc357]
                                  have Hc357 := Lib.hid hc357
                                  clear hc357
                                  cases c357 with
                                  | true =>
                                    have f358 := of_decide_eq_true Hc357.out.symm
                                    go_upto_region 42 with fail
                                    refine wpG_region_k (fun K hK => ?_)
                                    refine @wpG_p _ _ _ _ _ (some 142) (.agg #[.slice none 0 0, .int .i64 0, .int .i64 6]) _ _ rfl (by rfl) (fun W => by go_simp) ?_
                                    simp only [n1, n3, n4]
                                    refine wpG_store (none) rfl (by rfl) (fun W359 hg360 => ⟨_, run_store_mid 30 (.tmp 2) (.tmp 142) rfl g4 0 #[.slice none 0 0, .int .i64 0, .int .i64 6] rfl rfl ((S356.out.gr hg360).room 2 rfl 0 3 (by simp)) (by kernel_rfl) (by kernel_rfl), ?_⟩)
                                    simp only [n2]
                                    obtain ⟨U361, hu_, hS_⟩ := ((S356.out.gr hg360).put 2 rfl 0 (#[.slice none 0 0, .int .i64 0, .int .i64 6] : Array Value).toList (ds := [.slice none 0 0, .int .i64 0, .int .i64 6]) rfl).named
                                    rw [← hu_]
                                    have S362 : Hid (St w noB [own (.slice G j gc) 3 1 j (ic (Pl.cellsOf (Pl.uP x) (Pl.fld (Pl.wd (Pl.uM x)) (Pl.V (Pl.uB x))) j)), own (.slice E i d) 3 1 i (ic (Pl.uP x)), blk g4 30 [.slice none 0 0, .int .i64 0, .int .i64 6]] U361) := Lib.hid hS_
                                    clear S356
                                    clear hu_ hS_ hg360
                                    refine wpG_done (fun V363 hv364 => ?_)
                                    have S365 : Hid (St w noB [own (.slice G j gc) 3 1 j (ic (Pl.cellsOf (Pl.uP x) (Pl.fld (Pl.wd (Pl.uM x)) (Pl.V (Pl.uB x))) j)), own (.slice E i d) 3 1 i (ic (Pl.uP x)), blk g4 30 [.slice none 0 0, .int .i64 0, .int .i64 6]] V363) := Lib.hid (S362.out.gr hv364)
                                    clear S362
                                    clear hv364
                                    refine ⟨rfl, hK _ _ ?_⟩
                                    clear hK
                                    (repeat go_step)
                                    (try simp only [Exit.inBlock, Exit.then])
                                    refine bodyPost_ret (results_cell_mid rfl _ _ _ g4 0 [.slice none 0 0, .int .i64 0, .int .i64 6] _ rfl (S365.out.range 2 rfl 0 3 rfl) Try.underlying30 rfl (by kernel_rfl)) rfl ?_
                                    (have e_f350 := f350.out; have hu_ := Pl.un_badi HE0.out (show j < Pl.uN x by omega) HAV.out (fun h_ => by obtain ⟨_, _, h3_⟩ := h_; rw [show Pl.uF x = (Pl.fld (Pl.wd (Pl.uM x)) (Pl.V (Pl.uB x))) from rfl, ← show u + 1 = Pl.sn (Pl.fld (Pl.wd (Pl.uM x)) (Pl.V (Pl.uB x))) (j + 1) from Pl.sn_hit HZF.out HUE.out (by omega)] at h3_; omega); exact ⟨none, 0, 0, by rw [hu_]; rfl, by rw [hu_]; exact S365.out.dropAll.nilOwn _ _⟩)
                                  | false =>
                                    have f366 := of_decide_eq_false Hc357.out.symm
                                    go_upto_region 43 with fail
                                    refine wpG_region_k (fun K hK => ?_)
                                    refine @wpG_p _ _ _ _ _ (some 143) (.slice G j gc) _ _ rfl (by rfl) (fun _ => rfl) ?_
                                    simp only [n1, n3, n4]
                                    refine @wpG_p _ _ _ _ _ (some 144) (.slice E i d) _ _ rfl (by rfl) (fun _ => rfl) ?_
                                    simp only [n1, n3, n4]
                                    refine @wpG_p _ _ _ _ _ (some 145) (.int .i64 (z : Int)) _ _ rfl (by rfl) (fun _ => rfl) ?_
                                    simp only [n1, n3, n4]
                                    obtain ⟨og367, rfl⟩ := ownAdr (S356.out.ownr 1 rfl) (by omega)
                                    have hix_ : z < i := by omega
                                    refine @wpG_p _ _ _ _ _ (some 146) (.pointer (some ⟨og367, z, none⟩)) _ _ rfl (by rfl) (fun W => by (go_simp <;> first | rfl | omega | (simp; omega))) ?_
                                    simp only [n1, n3, n4]
                                    refine @wpG_r _ _ _ _ _ (some 147) (.int .i64 ((Pl.uP x).getD z 0)) _ _ rfl (by rfl) (fun W hg => by have c := (SL.ofOwn ((S356.out.gr hg).ownr 1 rfl)).int (l := (Pl.uP x)) z (by (have := HPL.out; omega)) 0 _ rfl; (try simp only [Nat.add_zero, Nat.zero_add] at c); go_simp) ?_
                                    simp only [n1, n3, n4]
                                    refine wpG_val (some 148) rfl (by rfl) (fun W368 hg369 => ⟨.slice (some ⟨W368.heap.size, 0, none⟩) 1 1, W368.alloc (.cells #[.int .i64 ((Pl.uP x).getD z 0)] 3), by (go_simp <;> rfl), ?_⟩)
                                    simp only [n1, n3, n4]
                                    obtain ⟨g370, U371, hg_, hu_, hS_⟩ := (S356.out.gr hg369).made [.int .i64 ((Pl.uP x).getD z 0)] 3
                                    rw [← hu_, ← hg_]
                                    have S372 : Hid (St w noB [blk g370 3 [.int .i64 ((Pl.uP x).getD z 0)], own (.slice G j gc) 3 1 j (ic (Pl.cellsOf (Pl.uP x) (Pl.fld (Pl.wd (Pl.uM x)) (Pl.V (Pl.uB x))) j)), own (.slice (some ⟨og367, 0, none⟩) i d) 3 1 i (ic (Pl.uP x)), blk g4 30 [.slice none 0 0, .int .i64 0, .int .i64 0]] U371) := Lib.hid hS_
                                    clear S356
                                    clear hg_ hu_ hS_ hg369
                                    have S373 : Hid (St w noB [own (.slice G j gc) 3 1 j (ic (Pl.cellsOf (Pl.uP x) (Pl.fld (Pl.wd (Pl.uM x)) (Pl.V (Pl.uB x))) j)), blk g370 3 [.int .i64 ((Pl.uP x).getD z 0)], own (.slice (some ⟨og367, 0, none⟩) i d) 3 1 i (ic (Pl.uP x)), blk g4 30 [.slice none 0 0, .int .i64 0, .int .i64 0]] U371) := Lib.hid (S372.out.front 1 rfl)
                                    clear S372
                                    refine wpG_appS (some 149) rfl rfl (.tmp 143) (.tmp 148) 22 22 rfl 3 1 8 Try.underlying22 (by kernel_rfl) (.slice G j gc) j (ic (Pl.cellsOf (Pl.uP x) (Pl.fld (Pl.wd (Pl.uM x)) (Pl.V (Pl.uB x))) j)) S373.out (.slice (some ⟨g370, 0, none⟩) 1 1) 1 [.int .i64 ((Pl.uP x).getD z 0)] (fun W hg => src_lies Try.underlying22 1 rfl (fun h => by cases h) (by intro u hu; simp at hu; rcases hu with rfl <;> rfl) ((S373.out.gr hg).liesBlk 1 rfl)) rfl rfl (by simp only [maxLen]; omega) (by omega) (fun v374 W375 hS_ => ?_)
                                    simp only [n1, n3, n4]
                                    rw [show ic (Pl.cellsOf (Pl.uP x) (Pl.fld (Pl.wd (Pl.uM x)) (Pl.V (Pl.uB x))) j) ++ [.int .i64 ((Pl.uP x).getD z 0)] = ic ((Pl.cellsOf (Pl.uP x) (Pl.fld (Pl.wd (Pl.uM x)) (Pl.V (Pl.uB x))) j) ++ [((Pl.uP x).getD z 0)]) by simp [ic]] at hS_
                                    obtain ⟨A376, k377, rfl, hle_, hcap_, _⟩ := own_shape (hS_.ownr 0 rfl)
                                    have S378 : Hid (St w noB [own (.slice A376 (j + 1) k377) 3 1 (j + 1) (ic ((Pl.cellsOf (Pl.uP x) (Pl.fld (Pl.wd (Pl.uM x)) (Pl.V (Pl.uB x))) j) ++ [((Pl.uP x).getD z 0)])), blk g370 3 [.int .i64 ((Pl.uP x).getD z 0)], own (.slice (some ⟨og367, 0, none⟩) i d) 3 1 i (ic (Pl.uP x)), blk g4 30 [.slice none 0 0, .int .i64 0, .int .i64 0]] W375) := Lib.hid hS_
                                    clear S373
                                    clear hS_
                                    refine @wpG_p _ _ _ _ _ (some 10) (.slice A376 (j + 1) k377) _ _ rfl (by rfl) (fun _ => rfl) ?_
                                    simp only [n1, n3, n4]
                                    refine wpG_done (fun V379 hv380 => ?_)
                                    have S381 : Hid (St w noB [own (.slice A376 (j + 1) k377) 3 1 (j + 1) (ic ((Pl.cellsOf (Pl.uP x) (Pl.fld (Pl.wd (Pl.uM x)) (Pl.V (Pl.uB x))) j) ++ [((Pl.uP x).getD z 0)])), blk g370 3 [.int .i64 ((Pl.uP x).getD z 0)], own (.slice (some ⟨og367, 0, none⟩) i d) 3 1 i (ic (Pl.uP x)), blk g4 30 [.slice none 0 0, .int .i64 0, .int .i64 0]] V379) := Lib.hid (S378.out.gr hv380)
                                    clear S378
                                    clear hv380
                                    refine ⟨rfl, hK _ _ ?_⟩
                                    clear hK
                                    go_upto_region 28 with fail
                                    refine wpG_region_k (fun K hK => ?_)
                                    refine @wpG_p _ _ _ _ _ (some 73) (.int .i64 (j : Int)) _ _ rfl (by rfl) (fun _ => rfl) ?_
                                    simp only [n1, n3, n4]
                                    refine @wpG_p _ _ _ _ _ (some 74) (.int .i64 ((j : Int) + 1)) _ _ rfl (by rfl) (fun W => op_i_add W (j : Int) 1 (by omega) rfl rfl rfl Try.underlying3) ?_
                                    simp only [n1, n3, n4]
                                    refine @wpG_p _ _ _ _ _ (some 11) (.int .i64 ((j : Int) + 1)) _ _ rfl (by rfl) (fun _ => rfl) ?_
                                    simp only [n1, n3, n4]
                                    refine wpG_done (fun V382 hv383 => ?_)
                                    have S384 : Hid (St w noB [own (.slice A376 (j + 1) k377) 3 1 (j + 1) (ic ((Pl.cellsOf (Pl.uP x) (Pl.fld (Pl.wd (Pl.uM x)) (Pl.V (Pl.uB x))) j) ++ [((Pl.uP x).getD z 0)])), blk g370 3 [.int .i64 ((Pl.uP x).getD z 0)], own (.slice (some ⟨og367, 0, none⟩) i d) 3 1 i (ic (Pl.uP x)), blk g4 30 [.slice none 0 0, .int .i64 0, .int .i64 0]] V382) := Lib.hid (S381.out.gr hv383)
                                    clear S381
                                    clear hv383
                                    refine ⟨rfl, hK _ _ ?_⟩
                                    clear hK
                                    go_wp2_with fail
                                    go_roundw
                                    have hzm_ : z < Pl.uM x := by have e_f350 := f350.out; omega
                                    have S385 : Hid (St w noB [own (.slice A376 (j + 1) k377) 3 1 (j + 1) (ic ((Pl.cellsOf (Pl.uP x) (Pl.fld (Pl.wd (Pl.uM x)) (Pl.V (Pl.uB x))) j) ++ [((Pl.uP x).getD z 0)])), own (.slice (some ⟨og367, 0, none⟩) i d) 3 1 i (ic (Pl.uP x)), blk g4 30 [.slice none 0 0, .int .i64 0, .int .i64 0]] V382) := Lib.hid (S384.out.sub (.cons_cons _ (.cons _ (.cons_cons _ (.cons_cons _ .slnil)))))
                                    clear S384
                                    case rel => exact ⟨A376, k377, j + 1, u + 1, (by first | rfl | go_num), (by first | rfl | go_num), (by first | rfl | go_num), (by omega), (by have e_f350 := f350.out; exact Pl.sn_hit HZF.out HUE.out (by omega)), (fun j2 hj2 => by rcases Nat.lt_or_ge j2 j with h1_ | h1_; exact HOK.out j2 h1_; obtain rfl : j2 = j := (by omega); exact ⟨⟨(by rw [← HZF.out, ← HUE.out]; have e_f350 := f350.out; omega), (by rw [← HZF.out]; exact hzm_), (by rw [← show u + 1 = Pl.sn (Pl.fld (Pl.wd (Pl.uM x)) (Pl.V (Pl.uB x))) (j2 + 1) from (by have e_f350 := f350.out; exact Pl.sn_hit HZF.out HUE.out (by omega))]; have e_f350 := f350.out; omega)⟩, HAV.out⟩), (fun h_ => HTLQ.out h_), (by have h_ := S385.out; rw [show (Pl.uP x).getD z 0 = (Pl.uP x).getD ((Pl.fld (Pl.wd (Pl.uM x)) (Pl.V (Pl.uB x))) j) 0 from by rw [← HZF.out], ← Pl.cells_succ] at h_; exact h_)⟩
                                    case measure => first | (simp only [intOf]; omega) | (simp [intOf]; done) | (simp [intOf]; omega) | omega
                                | false =>
                                  have f386 := of_decide_eq_false Hc349.out.symm
                                  go_upto_region 41 with fail
                                  refine wpG_region_k (fun K hK => ?_)
                                  refine @wpG_p _ _ _ _ _ (some 134) (.int .i64 (Pl.uM x : Int)) _ _ rfl (by rfl) (fun _ => rfl) ?_
                                  simp only [n1, n3, n4]
                                  refine @wpG_p _ _ _ _ _ (some 135) (.int .i64 (u : Int)) _ _ rfl (by rfl) (fun _ => rfl) ?_
                                  simp only [n1, n3, n4]
                                  refine @wpG_p _ _ _ _ _ (some 136) (.int .i64 ((Pl.uM x : Int) - (u : Int))) _ _ rfl (by rfl) (fun W => op_i_sub W (Pl.uM x : Int) (u : Int) (by omega) rfl rfl rfl Try.underlying3) ?_
                                  simp only [n1, n3, n4]
                                  refine @wpG_p _ _ _ _ _ (some 137) (.int .i64 (Pl.uN x : Int)) _ _ rfl (by rfl) (fun _ => rfl) ?_
                                  simp only [n1, n3, n4]
                                  refine @wpG_p _ _ _ _ _ (some 138) (.int .i64 ((Pl.uN x : Int) - 1)) _ _ rfl (by rfl) (fun W => op_i_sub W (Pl.uN x : Int) 1 (by omega) rfl rfl rfl Try.underlying3) ?_
                                  simp only [n1, n3, n4]
                                  refine @wpG_p _ _ _ _ _ (some 139) (.int .i64 (j : Int)) _ _ rfl (by rfl) (fun _ => rfl) ?_
                                  simp only [n1, n3, n4]
                                  refine @wpG_p _ _ _ _ _ (some 140) (.int .i64 (((Pl.uN x : Int) - 1) - (j : Int))) _ _ rfl (by rfl) (fun W => op_i_sub W ((Pl.uN x : Int) - 1) (j : Int) (by omega) rfl rfl rfl Try.underlying3) ?_
                                  simp only [n1, n3, n4]
                                  refine @wpG_p _ _ _ _ _ (some 141) (.bool (decide ((Pl.uM x : Int) - (u : Int) > ((Pl.uN x : Int) - 1) - (j : Int)))) _ _ rfl (by rfl) (fun W => op_int_gtr W ((Pl.uM x : Int) - (u : Int)) (((Pl.uN x : Int) - 1) - (j : Int)) rfl rfl rfl Try.underlying3) ?_
                                  simp only [n1, n3, n4]
                                  refine wpG_done (fun V387 hv388 => ?_)
                                  have S389 : Hid (St w noB [own (.slice G j gc) 3 1 j (ic (Pl.cellsOf (Pl.uP x) (Pl.fld (Pl.wd (Pl.uM x)) (Pl.V (Pl.uB x))) j)), own (.slice E i d) 3 1 i (ic (Pl.uP x)), blk g4 30 [.slice none 0 0, .int .i64 0, .int .i64 0]] V387) := Lib.hid (S348.out.gr hv388)
                                  clear S348
                                  clear hv388
                                  refine ⟨rfl, hK _ _ ?_⟩
                                  clear hK
                                  obtain ⟨c390, hc390⟩ : ∃ q_, q_ = (decide ((Pl.uM x : Int) - (u : Int) > ((Pl.uN x : Int) - 1) - (j : Int))) := ⟨_, rfl⟩
                                  rw [← hc390]
                                  have Hc390 := Lib.hid hc390
                                  clear hc390
                                  cases c390 with
                                  | true =>
                                    have f391 := of_decide_eq_true Hc390.out.symm
                                    go_upto_region 42 with fail
                                    refine wpG_region_k (fun K hK => ?_)
                                    refine @wpG_p _ _ _ _ _ (some 142) (.agg #[.slice none 0 0, .int .i64 0, .int .i64 6]) _ _ rfl (by rfl) (fun W => by go_simp) ?_
                                    simp only [n1, n3, n4]
                                    refine wpG_store (none) rfl (by rfl) (fun W392 hg393 => ⟨_, run_store_mid 30 (.tmp 2) (.tmp 142) rfl g4 0 #[.slice none 0 0, .int .i64 0, .int .i64 6] rfl rfl ((S389.out.gr hg393).room 2 rfl 0 3 (by simp)) (by kernel_rfl) (by kernel_rfl), ?_⟩)
                                    simp only [n2]
                                    obtain ⟨U394, hu_, hS_⟩ := ((S389.out.gr hg393).put 2 rfl 0 (#[.slice none 0 0, .int .i64 0, .int .i64 6] : Array Value).toList (ds := [.slice none 0 0, .int .i64 0, .int .i64 6]) rfl).named
                                    rw [← hu_]
                                    have S395 : Hid (St w noB [own (.slice G j gc) 3 1 j (ic (Pl.cellsOf (Pl.uP x) (Pl.fld (Pl.wd (Pl.uM x)) (Pl.V (Pl.uB x))) j)), own (.slice E i d) 3 1 i (ic (Pl.uP x)), blk g4 30 [.slice none 0 0, .int .i64 0, .int .i64 6]] U394) := Lib.hid hS_
                                    clear S389
                                    clear hu_ hS_ hg393
                                    refine wpG_done (fun V396 hv397 => ?_)
                                    have S398 : Hid (St w noB [own (.slice G j gc) 3 1 j (ic (Pl.cellsOf (Pl.uP x) (Pl.fld (Pl.wd (Pl.uM x)) (Pl.V (Pl.uB x))) j)), own (.slice E i d) 3 1 i (ic (Pl.uP x)), blk g4 30 [.slice none 0 0, .int .i64 0, .int .i64 6]] V396) := Lib.hid (S395.out.gr hv397)
                                    clear S395
                                    clear hv397
                                    refine ⟨rfl, hK _ _ ?_⟩
                                    clear hK
                                    (repeat go_step)
                                    (try simp only [Exit.inBlock, Exit.then])
                                    refine bodyPost_ret (results_cell_mid rfl _ _ _ g4 0 [.slice none 0 0, .int .i64 0, .int .i64 6] _ rfl (S398.out.range 2 rfl 0 3 rfl) Try.underlying30 rfl (by kernel_rfl)) rfl ?_
                                    (have hu_ := Pl.un_badi HE0.out (show j < Pl.uN x by omega) HAV.out (fun h_ => by obtain ⟨_, _, h3_⟩ := h_; rw [show Pl.uF x = (Pl.fld (Pl.wd (Pl.uM x)) (Pl.V (Pl.uB x))) from rfl, ← show u = Pl.sn (Pl.fld (Pl.wd (Pl.uM x)) (Pl.V (Pl.uB x))) (j + 1) from Pl.sn_miss HZF.out HUE.out (by omega)] at h3_; omega); exact ⟨none, 0, 0, by rw [hu_]; rfl, by rw [hu_]; exact S398.out.dropAll.nilOwn _ _⟩)
                                  | false =>
                                    have f399 := of_decide_eq_false Hc390.out.symm
                                    go_upto_region 43 with fail
                                    refine wpG_region_k (fun K hK => ?_)
                                    refine @wpG_p _ _ _ _ _ (some 143) (.slice G j gc) _ _ rfl (by rfl) (fun _ => rfl) ?_
                                    simp only [n1, n3, n4]
                                    refine @wpG_p _ _ _ _ _ (some 144) (.slice E i d) _ _ rfl (by rfl) (fun _ => rfl) ?_
                                    simp only [n1, n3, n4]
                                    refine @wpG_p _ _ _ _ _ (some 145) (.int .i64 (z : Int)) _ _ rfl (by rfl) (fun _ => rfl) ?_
                                    simp only [n1, n3, n4]
                                    obtain ⟨og400, rfl⟩ := ownAdr (S389.out.ownr 1 rfl) (by omega)
                                    have hix_ : z < i := by omega
                                    refine @wpG_p _ _ _ _ _ (some 146) (.pointer (some ⟨og400, z, none⟩)) _ _ rfl (by rfl) (fun W => by (go_simp <;> first | rfl | omega | (simp; omega))) ?_
                                    simp only [n1, n3, n4]
                                    refine @wpG_r _ _ _ _ _ (some 147) (.int .i64 ((Pl.uP x).getD z 0)) _ _ rfl (by rfl) (fun W hg => by have c := (SL.ofOwn ((S389.out.gr hg).ownr 1 rfl)).int (l := (Pl.uP x)) z (by (have := HPL.out; omega)) 0 _ rfl; (try simp only [Nat.add_zero, Nat.zero_add] at c); go_simp) ?_
                                    simp only [n1, n3, n4]
                                    refine wpG_val (some 148) rfl (by rfl) (fun W401 hg402 => ⟨.slice (some ⟨W401.heap.size, 0, none⟩) 1 1, W401.alloc (.cells #[.int .i64 ((Pl.uP x).getD z 0)] 3), by (go_simp <;> rfl), ?_⟩)
                                    simp only [n1, n3, n4]
                                    obtain ⟨g403, U404, hg_, hu_, hS_⟩ := (S389.out.gr hg402).made [.int .i64 ((Pl.uP x).getD z 0)] 3
                                    rw [← hu_, ← hg_]
                                    have S405 : Hid (St w noB [blk g403 3 [.int .i64 ((Pl.uP x).getD z 0)], own (.slice G j gc) 3 1 j (ic (Pl.cellsOf (Pl.uP x) (Pl.fld (Pl.wd (Pl.uM x)) (Pl.V (Pl.uB x))) j)), own (.slice (some ⟨og400, 0, none⟩) i d) 3 1 i (ic (Pl.uP x)), blk g4 30 [.slice none 0 0, .int .i64 0, .int .i64 0]] U404) := Lib.hid hS_
                                    clear S389
                                    clear hg_ hu_ hS_ hg402
                                    have S406 : Hid (St w noB [own (.slice G j gc) 3 1 j (ic (Pl.cellsOf (Pl.uP x) (Pl.fld (Pl.wd (Pl.uM x)) (Pl.V (Pl.uB x))) j)), blk g403 3 [.int .i64 ((Pl.uP x).getD z 0)], own (.slice (some ⟨og400, 0, none⟩) i d) 3 1 i (ic (Pl.uP x)), blk g4 30 [.slice none 0 0, .int .i64 0, .int .i64 0]] U404) := Lib.hid (S405.out.front 1 rfl)
                                    clear S405
                                    refine wpG_appS (some 149) rfl rfl (.tmp 143) (.tmp 148) 22 22 rfl 3 1 8 Try.underlying22 (by kernel_rfl) (.slice G j gc) j (ic (Pl.cellsOf (Pl.uP x) (Pl.fld (Pl.wd (Pl.uM x)) (Pl.V (Pl.uB x))) j)) S406.out (.slice (some ⟨g403, 0, none⟩) 1 1) 1 [.int .i64 ((Pl.uP x).getD z 0)] (fun W hg => src_lies Try.underlying22 1 rfl (fun h => by cases h) (by intro u hu; simp at hu; rcases hu with rfl <;> rfl) ((S406.out.gr hg).liesBlk 1 rfl)) rfl rfl (by simp only [maxLen]; omega) (by omega) (fun v407 W408 hS_ => ?_)
                                    simp only [n1, n3, n4]
                                    rw [show ic (Pl.cellsOf (Pl.uP x) (Pl.fld (Pl.wd (Pl.uM x)) (Pl.V (Pl.uB x))) j) ++ [.int .i64 ((Pl.uP x).getD z 0)] = ic ((Pl.cellsOf (Pl.uP x) (Pl.fld (Pl.wd (Pl.uM x)) (Pl.V (Pl.uB x))) j) ++ [((Pl.uP x).getD z 0)]) by simp [ic]] at hS_
                                    obtain ⟨A409, k410, rfl, hle_, hcap_, _⟩ := own_shape (hS_.ownr 0 rfl)
                                    have S411 : Hid (St w noB [own (.slice A409 (j + 1) k410) 3 1 (j + 1) (ic ((Pl.cellsOf (Pl.uP x) (Pl.fld (Pl.wd (Pl.uM x)) (Pl.V (Pl.uB x))) j) ++ [((Pl.uP x).getD z 0)])), blk g403 3 [.int .i64 ((Pl.uP x).getD z 0)], own (.slice (some ⟨og400, 0, none⟩) i d) 3 1 i (ic (Pl.uP x)), blk g4 30 [.slice none 0 0, .int .i64 0, .int .i64 0]] W408) := Lib.hid hS_
                                    clear S406
                                    clear hS_
                                    refine @wpG_p _ _ _ _ _ (some 10) (.slice A409 (j + 1) k410) _ _ rfl (by rfl) (fun _ => rfl) ?_
                                    simp only [n1, n3, n4]
                                    refine wpG_done (fun V412 hv413 => ?_)
                                    have S414 : Hid (St w noB [own (.slice A409 (j + 1) k410) 3 1 (j + 1) (ic ((Pl.cellsOf (Pl.uP x) (Pl.fld (Pl.wd (Pl.uM x)) (Pl.V (Pl.uB x))) j) ++ [((Pl.uP x).getD z 0)])), blk g403 3 [.int .i64 ((Pl.uP x).getD z 0)], own (.slice (some ⟨og400, 0, none⟩) i d) 3 1 i (ic (Pl.uP x)), blk g4 30 [.slice none 0 0, .int .i64 0, .int .i64 0]] V412) := Lib.hid (S411.out.gr hv413)
                                    clear S411
                                    clear hv413
                                    refine ⟨rfl, hK _ _ ?_⟩
                                    clear hK
                                    go_upto_region 28 with fail
                                    refine wpG_region_k (fun K hK => ?_)
                                    refine @wpG_p _ _ _ _ _ (some 73) (.int .i64 (j : Int)) _ _ rfl (by rfl) (fun _ => rfl) ?_
                                    simp only [n1, n3, n4]
                                    refine @wpG_p _ _ _ _ _ (some 74) (.int .i64 ((j : Int) + 1)) _ _ rfl (by rfl) (fun W => op_i_add W (j : Int) 1 (by omega) rfl rfl rfl Try.underlying3) ?_
                                    simp only [n1, n3, n4]
                                    refine @wpG_p _ _ _ _ _ (some 11) (.int .i64 ((j : Int) + 1)) _ _ rfl (by rfl) (fun _ => rfl) ?_
                                    simp only [n1, n3, n4]
                                    refine wpG_done (fun V415 hv416 => ?_)
                                    have S417 : Hid (St w noB [own (.slice A409 (j + 1) k410) 3 1 (j + 1) (ic ((Pl.cellsOf (Pl.uP x) (Pl.fld (Pl.wd (Pl.uM x)) (Pl.V (Pl.uB x))) j) ++ [((Pl.uP x).getD z 0)])), blk g403 3 [.int .i64 ((Pl.uP x).getD z 0)], own (.slice (some ⟨og400, 0, none⟩) i d) 3 1 i (ic (Pl.uP x)), blk g4 30 [.slice none 0 0, .int .i64 0, .int .i64 0]] V415) := Lib.hid (S414.out.gr hv416)
                                    clear S414
                                    clear hv416
                                    refine ⟨rfl, hK _ _ ?_⟩
                                    clear hK
                                    go_wp2_with fail
                                    go_roundw
                                    have hzm_ : z < Pl.uM x := by omega
                                    have S418 : Hid (St w noB [own (.slice A409 (j + 1) k410) 3 1 (j + 1) (ic ((Pl.cellsOf (Pl.uP x) (Pl.fld (Pl.wd (Pl.uM x)) (Pl.V (Pl.uB x))) j) ++ [((Pl.uP x).getD z 0)])), own (.slice (some ⟨og400, 0, none⟩) i d) 3 1 i (ic (Pl.uP x)), blk g4 30 [.slice none 0 0, .int .i64 0, .int .i64 0]] V415) := Lib.hid (S417.out.sub (.cons_cons _ (.cons _ (.cons_cons _ (.cons_cons _ .slnil)))))
                                    clear S417
                                    case rel => exact ⟨A409, k410, j + 1, u, (by first | rfl | go_num), (by first | rfl | go_num), (by first | rfl | go_num), (by omega), (by exact Pl.sn_miss HZF.out HUE.out (by omega)), (fun j2 hj2 => by rcases Nat.lt_or_ge j2 j with h1_ | h1_; exact HOK.out j2 h1_; obtain rfl : j2 = j := (by omega); exact ⟨⟨(by rw [← HZF.out, ← HUE.out]; omega), (by rw [← HZF.out]; exact hzm_), (by rw [← show u = Pl.sn (Pl.fld (Pl.wd (Pl.uM x)) (Pl.V (Pl.uB x))) (j2 + 1) from (by exact Pl.sn_miss HZF.out HUE.out (by omega))]; omega)⟩, HAV.out⟩), (fun h_ => HTLQ.out h_), (by have h_ := S418.out; rw [show (Pl.uP x).getD z 0 = (Pl.uP x).getD ((Pl.fld (Pl.wd (Pl.uM x)) (Pl.V (Pl.uB x))) j) 0 from by rw [← HZF.out], ← Pl.cells_succ] at h_; exact h_)⟩
                                    case measure => first | (simp only [intOf]; omega) | (simp [intOf]; done) | (simp [intOf]; omega) | omega
                      | false =>
                        have f419 := of_decide_eq_false Hc181.out.symm
                        go_upto_region 37 with fail
                        refine wpG_region_k (fun K hK => ?_)
                        have hw0_ : (Pl.wd (Pl.uM x)) = 0 := by omega
                        have HZ0 : Hid (0 = (Pl.fld (Pl.wd (Pl.uM x)) (Pl.V (Pl.uB x))) j) := Lib.hid (by rw [hw0_, Pl.fld_0])
                        have HW0 := Lib.hid hw0_
                        clear hw0_
                        refine @wpG_p _ _ _ _ _ (some 120) (.int .i64 0) _ _ rfl (by rfl) (fun _ => rfl) ?_
                        simp only [n1, n3, n4]
                        refine @wpG_p _ _ _ _ _ (some 121) (.int .i64 (u : Int)) _ _ rfl (by rfl) (fun _ => rfl) ?_
                        simp only [n1, n3, n4]
                        refine @wpG_p _ _ _ _ _ (some 122) (.bool (decide ((0 : Int) > (u : Int)))) _ _ rfl (by rfl) (fun W => op_int_gtr W 0 (u : Int) rfl rfl rfl Try.underlying3) ?_
                        simp only [n1, n3, n4]
                        refine @wpG_p _ _ _ _ _ (some 123) (.bool (decide ((0 : Int) > (u : Int)))) _ _ rfl (by rfl) (fun _ => rfl) ?_
                        simp only [n1, n3, n4]
                        obtain ⟨c420, hc420⟩ : ∃ q_, q_ = (decide ((0 : Int) > (u : Int))) := ⟨_, rfl⟩
                        rw [← hc420]
                        have Hc420 := Lib.hid hc420
                        clear hc420
                        cases c420 with
                        | true =>
                          have f421 := of_decide_eq_true Hc420.out.symm
                          refine @wpG_no _ _ _ _ _ (some 124) _ _ rfl (by rfl) ?_
                          simp only [n1, n3, n4]
                          refine @wpG_no _ _ _ _ _ (some 125) _ _ rfl (by rfl) ?_
                          simp only [n1, n3, n4]
                          refine @wpG_no _ _ _ _ _ (some 126) _ _ rfl (by rfl) ?_
                          simp only [n1, n3, n4]
                          refine @wpG_p _ _ _ _ _ (some 127) (.bool true) _ _ rfl (by rfl) (fun W => by go_simp) ?_
                          simp only [n1, n3, n4]
                          refine wpG_done (fun V422 hv423 => ?_)
                          have S424 : Hid (St w noB [own (.slice G j gc) 3 1 j (ic (Pl.cellsOf (Pl.uP x) (Pl.fld (Pl.wd (Pl.uM x)) (Pl.V (Pl.uB x))) j)), own (.slice E i d) 3 1 i (ic (Pl.uP x)), blk g4 30 [.slice none 0 0, .int .i64 0, .int .i64 0]] V422) := Lib.hid (S180.out.gr hv423)
                          clear S180
                          clear hv423
                          refine ⟨rfl, hK _ _ ?_⟩
                          clear hK
                          go_upto_region 38 with fail
                          refine wpG_region_k (fun K hK => ?_)
                          refine @wpG_p _ _ _ _ _ (some 128) (.agg #[.slice none 0 0, .int .i64 0, .int .i64 6]) _ _ rfl (by rfl) (fun W => by go_simp) ?_
                          simp only [n1, n3, n4]
                          refine wpG_store (none) rfl (by rfl) (fun W425 hg426 => ⟨_, run_store_mid 30 (.tmp 2) (.tmp 128) rfl g4 0 #[.slice none 0 0, .int .i64 0, .int .i64 6] rfl rfl ((S424.out.gr hg426).room 2 rfl 0 3 (by simp)) (by kernel_rfl) (by kernel_rfl), ?_⟩)
                          simp only [n2]
                          obtain ⟨U427, hu_, hS_⟩ := ((S424.out.gr hg426).put 2 rfl 0 (#[.slice none 0 0, .int .i64 0, .int .i64 6] : Array Value).toList (ds := [.slice none 0 0, .int .i64 0, .int .i64 6]) rfl).named
                          rw [← hu_]
                          have S428 : Hid (St w noB [own (.slice G j gc) 3 1 j (ic (Pl.cellsOf (Pl.uP x) (Pl.fld (Pl.wd (Pl.uM x)) (Pl.V (Pl.uB x))) j)), own (.slice E i d) 3 1 i (ic (Pl.uP x)), blk g4 30 [.slice none 0 0, .int .i64 0, .int .i64 6]] U427) := Lib.hid hS_
                          clear S424
                          clear hu_ hS_ hg426
                          refine wpG_done (fun V429 hv430 => ?_)
                          have S431 : Hid (St w noB [own (.slice G j gc) 3 1 j (ic (Pl.cellsOf (Pl.uP x) (Pl.fld (Pl.wd (Pl.uM x)) (Pl.V (Pl.uB x))) j)), own (.slice E i d) 3 1 i (ic (Pl.uP x)), blk g4 30 [.slice none 0 0, .int .i64 0, .int .i64 6]] V429) := Lib.hid (S428.out.gr hv430)
                          clear S428
                          clear hv430
                          refine ⟨rfl, hK _ _ ?_⟩
                          clear hK
                          (repeat go_step)
                          (try simp only [Exit.inBlock, Exit.then])
                          refine bodyPost_ret (results_cell_mid rfl _ _ _ g4 0 [.slice none 0 0, .int .i64 0, .int .i64 6] _ rfl (S431.out.range 2 rfl 0 3 rfl) Try.underlying30 rfl (by kernel_rfl)) rfl ?_
                          (have hu_ := Pl.un_badi HE0.out (show j < Pl.uN x by omega) (by rw [show Pl.uW x = 0 from HW0.out]; omega) (fun h_ => by obtain ⟨h1_, h2_, _⟩ := h_; rw [show Pl.uF x = (Pl.fld (Pl.wd (Pl.uM x)) (Pl.V (Pl.uB x))) from rfl, ← HZ0.out] at h1_ h2_; rw [← HUE.out] at h1_; omega); exact ⟨none, 0, 0, by rw [hu_]; rfl, by rw [hu_]; exact S431.out.dropAll.nilOwn _ _⟩)
                        | false =>
                          have f432 := of_decide_eq_false Hc420.out.symm
                          refine @wpG_p _ _ _ _ _ (some 124) (.int .i64 0) _ _ rfl (by rfl) (fun _ => rfl) ?_
                          simp only [n1, n3, n4]
                          refine @wpG_p _ _ _ _ _ (some 125) (.int .i64 (Pl.uM x : Int)) _ _ rfl (by rfl) (fun _ => rfl) ?_
                          simp only [n1, n3, n4]
                          refine @wpG_p _ _ _ _ _ (some 126) (.bool (decide ((0 : Int) ≥ (Pl.uM x : Int)))) _ _ rfl (by rfl) (fun W => op_int_geq W 0 (Pl.uM x : Int) rfl rfl rfl Try.underlying3) ?_
                          simp only [n1, n3, n4]
                          refine @wpG_p _ _ _ _ _ (some 127) (.bool (decide ((0 : Int) ≥ (Pl.uM x : Int)))) _ _ rfl (by rfl) (fun W => by go_simp) ?_
                          simp only [n1, n3, n4]
                          refine wpG_done (fun V433 hv434 => ?_)
                          have S435 : Hid (St w noB [own (.slice G j gc) 3 1 j (ic (Pl.cellsOf (Pl.uP x) (Pl.fld (Pl.wd (Pl.uM x)) (Pl.V (Pl.uB x))) j)), own (.slice E i d) 3 1 i (ic (Pl.uP x)), blk g4 30 [.slice none 0 0, .int .i64 0, .int .i64 0]] V433) := Lib.hid (S180.out.gr hv434)
                          clear S180
                          clear hv434
                          refine ⟨rfl, hK _ _ ?_⟩
                          clear hK
                          obtain ⟨c436, hc436⟩ : ∃ q_, q_ = (decide ((0 : Int) ≥ (Pl.uM x : Int))) := ⟨_, rfl⟩
                          rw [← hc436]
                          have Hc436 := Lib.hid hc436
                          clear hc436
                          cases c436 with
                          | true =>
                            have f437 := of_decide_eq_true Hc436.out.symm
                            go_upto_region 38 with fail
                            refine wpG_region_k (fun K hK => ?_)
                            refine @wpG_p _ _ _ _ _ (some 128) (.agg #[.slice none 0 0, .int .i64 0, .int .i64 6]) _ _ rfl (by rfl) (fun W => by go_simp) ?_
                            simp only [n1, n3, n4]
                            refine wpG_store (none) rfl (by rfl) (fun W438 hg439 => ⟨_, run_store_mid 30 (.tmp 2) (.tmp 128) rfl g4 0 #[.slice none 0 0, .int .i64 0, .int .i64 6] rfl rfl ((S435.out.gr hg439).room 2 rfl 0 3 (by simp)) (by kernel_rfl) (by kernel_rfl), ?_⟩)
                            simp only [n2]
                            obtain ⟨U440, hu_, hS_⟩ := ((S435.out.gr hg439).put 2 rfl 0 (#[.slice none 0 0, .int .i64 0, .int .i64 6] : Array Value).toList (ds := [.slice none 0 0, .int .i64 0, .int .i64 6]) rfl).named
                            rw [← hu_]
                            have S441 : Hid (St w noB [own (.slice G j gc) 3 1 j (ic (Pl.cellsOf (Pl.uP x) (Pl.fld (Pl.wd (Pl.uM x)) (Pl.V (Pl.uB x))) j)), own (.slice E i d) 3 1 i (ic (Pl.uP x)), blk g4 30 [.slice none 0 0, .int .i64 0, .int .i64 6]] U440) := Lib.hid hS_
                            clear S435
                            clear hu_ hS_ hg439
                            refine wpG_done (fun V442 hv443 => ?_)
                            have S444 : Hid (St w noB [own (.slice G j gc) 3 1 j (ic (Pl.cellsOf (Pl.uP x) (Pl.fld (Pl.wd (Pl.uM x)) (Pl.V (Pl.uB x))) j)), own (.slice E i d) 3 1 i (ic (Pl.uP x)), blk g4 30 [.slice none 0 0, .int .i64 0, .int .i64 6]] V442) := Lib.hid (S441.out.gr hv443)
                            clear S441
                            clear hv443
                            refine ⟨rfl, hK _ _ ?_⟩
                            clear hK
                            (repeat go_step)
                            (try simp only [Exit.inBlock, Exit.then])
                            refine bodyPost_ret (results_cell_mid rfl _ _ _ g4 0 [.slice none 0 0, .int .i64 0, .int .i64 6] _ rfl (S444.out.range 2 rfl 0 3 rfl) Try.underlying30 rfl (by kernel_rfl)) rfl ?_
                            (have hu_ := Pl.un_badi HE0.out (show j < Pl.uN x by omega) (by rw [show Pl.uW x = 0 from HW0.out]; omega) (fun h_ => by obtain ⟨h1_, h2_, _⟩ := h_; rw [show Pl.uF x = (Pl.fld (Pl.wd (Pl.uM x)) (Pl.V (Pl.uB x))) from rfl, ← HZ0.out] at h1_ h2_; rw [← HUE.out] at h1_; omega); exact ⟨none, 0, 0, by rw [hu_]; rfl, by rw [hu_]; exact S444.out.dropAll.nilOwn _ _⟩)
                          | false =>
                            have f445 := of_decide_eq_false Hc436.out.symm
                            go_upto_region 39 with fail
                            refine wpG_region_k (fun K hK => ?_)
                            refine @wpG_p _ _ _ _ _ (some 129) (.int .i64 0) _ _ rfl (by rfl) (fun _ => rfl) ?_
                            simp only [n1, n3, n4]
                            refine @wpG_p _ _ _ _ _ (some 130) (.int .i64 (u : Int)) _ _ rfl (by rfl) (fun _ => rfl) ?_
                            simp only [n1, n3, n4]
                            refine @wpG_p _ _ _ _ _ (some 131) (.bool (decide ((0 : Int) = (u : Int)))) _ _ rfl (by rfl) (fun W => op_int_eql W 0 (u : Int) rfl rfl rfl Try.underlying3) ?_
                            simp only [n1, n3, n4]
                            refine wpG_done (fun V446 hv447 => ?_)
                            have S448 : Hid (St w noB [own (.slice G j gc) 3 1 j (ic (Pl.cellsOf (Pl.uP x) (Pl.fld (Pl.wd (Pl.uM x)) (Pl.V (Pl.uB x))) j)), own (.slice E i d) 3 1 i (ic (Pl.uP x)), blk g4 30 [.slice none 0 0, .int .i64 0, .int .i64 0]] V446) := Lib.hid (S435.out.gr hv447)
                            clear S435
                            clear hv447
                            refine ⟨rfl, hK _ _ ?_⟩
                            clear hK
                            obtain ⟨c449, hc449⟩ : ∃ q_, q_ = (decide ((0 : Int) = (u : Int))) := ⟨_, rfl⟩
                            rw [← hc449]
                            have Hc449 := Lib.hid hc449
                            clear hc449
                            cases c449 with
                            | true =>
                              have f450 := Lib.hid (of_decide_eq_true Hc449.out.symm)
                              have f450a := Int.le_of_eq f450.out
                              have f450b := Int.le_of_eq f450.out.symm
                              go_upto_region 40 with fail
                              refine wpG_region_k (fun K hK => ?_)
                              refine @wpG_p _ _ _ _ _ (some 132) (.int .i64 (u : Int)) _ _ rfl (by rfl) (fun _ => rfl) ?_
                              simp only [n1, n3, n4]
                              obtain ⟨u1, h_u1⟩ : ∃ q_ : Nat, q_ = u + 1 := ⟨_, rfl⟩
                              have hu1b : u1 ≤ u + 1 ∧ u + 1 ≤ u1 := by omega
                              have Hu1 := Lib.hid h_u1
                              clear h_u1
                              refine @wpG_p _ _ _ _ _ (some 133) (.int .i64 (u1 : Int)) _ _ rfl (by rfl) (fun W => op_n_add u 1 u1 Hu1.out.symm (by omega) rfl rfl rfl) ?_
                              simp only [n1, n3, n4]
                              refine @wpG_p _ _ _ _ _ (some 9) (.int .i64 (u1 : Int)) _ _ rfl (by rfl) (fun _ => rfl) ?_
                              simp only [n1, n3, n4]
                              refine wpG_done (fun V451 hv452 => ?_)
                              have S453 : Hid (St w noB [own (.slice G j gc) 3 1 j (ic (Pl.cellsOf (Pl.uP x) (Pl.fld (Pl.wd (Pl.uM x)) (Pl.V (Pl.uB x))) j)), own (.slice E i d) 3 1 i (ic (Pl.uP x)), blk g4 30 [.slice none 0 0, .int .i64 0, .int .i64 0]] V451) := Lib.hid (S448.out.gr hv452)
                              clear S448
                              clear hv452
                              refine ⟨rfl, hK _ _ ?_⟩
                              clear hK
                              go_upto_region 41 with fail
                              refine wpG_region_k (fun K hK => ?_)
                              refine @wpG_p _ _ _ _ _ (some 134) (.int .i64 (Pl.uM x : Int)) _ _ rfl (by rfl) (fun _ => rfl) ?_
                              simp only [n1, n3, n4]
                              refine @wpG_p _ _ _ _ _ (some 135) (.int .i64 (u1 : Int)) _ _ rfl (by rfl) (fun _ => rfl) ?_
                              simp only [n1, n3, n4]
                              refine @wpG_p _ _ _ _ _ (some 136) (.int .i64 ((Pl.uM x : Int) - (u1 : Int))) _ _ rfl (by rfl) (fun W => op_i_sub W (Pl.uM x : Int) (u1 : Int) (by omega) rfl rfl rfl Try.underlying3) ?_
                              simp only [n1, n3, n4]
                              refine @wpG_p _ _ _ _ _ (some 137) (.int .i64 (Pl.uN x : Int)) _ _ rfl (by rfl) (fun _ => rfl) ?_
                              simp only [n1, n3, n4]
                              refine @wpG_p _ _ _ _ _ (some 138) (.int .i64 ((Pl.uN x : Int) - 1)) _ _ rfl (by rfl) (fun W => op_i_sub W (Pl.uN x : Int) 1 (by omega) rfl rfl rfl Try.underlying3) ?_
                              simp only [n1, n3, n4]
                              refine @wpG_p _ _ _ _ _ (some 139) (.int .i64 (j : Int)) _ _ rfl (by rfl) (fun _ => rfl) ?_
                              simp only [n1, n3, n4]
                              refine @wpG_p _ _ _ _ _ (some 140) (.int .i64 (((Pl.uN x : Int) - 1) - (j : Int))) _ _ rfl (by rfl) (fun W => op_i_sub W ((Pl.uN x : Int) - 1) (j : Int) (by omega) rfl rfl rfl Try.underlying3) ?_
                              simp only [n1, n3, n4]
                              refine @wpG_p _ _ _ _ _ (some 141) (.bool (decide ((Pl.uM x : Int) - (u1 : Int) > ((Pl.uN x : Int) - 1) - (j : Int)))) _ _ rfl (by rfl) (fun W => op_int_gtr W ((Pl.uM x : Int) - (u1 : Int)) (((Pl.uN x : Int) - 1) - (j : Int)) rfl rfl rfl Try.underlying3) ?_
                              simp only [n1, n3, n4]
                              refine wpG_done (fun V454 hv455 => ?_)
                              have S456 : Hid (St w noB [own (.slice G j gc) 3 1 j (ic (Pl.cellsOf (Pl.uP x) (Pl.fld (Pl.wd (Pl.uM x)) (Pl.V (Pl.uB x))) j)), own (.slice E i d) 3 1 i (ic (Pl.uP x)), blk g4 30 [.slice none 0 0, .int .i64 0, .int .i64 0]] V454) := Lib.hid (S453.out.gr hv455)
                              clear S453
                              clear hv455
                              refine ⟨rfl, hK _ _ ?_⟩
                              clear hK
                              obtain ⟨c457, hc457⟩ : ∃ q_, q_ = (decide ((Pl.uM x : Int) - (u1 : Int) > ((Pl.uN x : Int) - 1) - (j : Int))) := ⟨_, rfl⟩
                              rw [← hc457]
                              have Hc457 := Lib.hid hc457
                              clear hc457
                              cases c457 with
                              | true =>
                                have f458 := of_decide_eq_true Hc457.out.symm
                                go_upto_region 42 with fail
                                refine wpG_region_k (fun K hK => ?_)
                                refine @wpG_p _ _ _ _ _ (some 142) (.agg #[.slice none 0 0, .int .i64 0, .int .i64 6]) _ _ rfl (by rfl) (fun W => by go_simp) ?_
                                simp only [n1, n3, n4]
                                refine wpG_store (none) rfl (by rfl) (fun W459 hg460 => ⟨_, run_store_mid 30 (.tmp 2) (.tmp 142) rfl g4 0 #[.slice none 0 0, .int .i64 0, .int .i64 6] rfl rfl ((S456.out.gr hg460).room 2 rfl 0 3 (by simp)) (by kernel_rfl) (by kernel_rfl), ?_⟩)
                                simp only [n2]
                                obtain ⟨U461, hu_, hS_⟩ := ((S456.out.gr hg460).put 2 rfl 0 (#[.slice none 0 0, .int .i64 0, .int .i64 6] : Array Value).toList (ds := [.slice none 0 0, .int .i64 0, .int .i64 6]) rfl).named
                                rw [← hu_]
                                have S462 : Hid (St w noB [own (.slice G j gc) 3 1 j (ic (Pl.cellsOf (Pl.uP x) (Pl.fld (Pl.wd (Pl.uM x)) (Pl.V (Pl.uB x))) j)), own (.slice E i d) 3 1 i (ic (Pl.uP x)), blk g4 30 [.slice none 0 0, .int .i64 0, .int .i64 6]] U461) := Lib.hid hS_
                                clear S456
                                clear hu_ hS_ hg460
                                refine wpG_done (fun V463 hv464 => ?_)
                                have S465 : Hid (St w noB [own (.slice G j gc) 3 1 j (ic (Pl.cellsOf (Pl.uP x) (Pl.fld (Pl.wd (Pl.uM x)) (Pl.V (Pl.uB x))) j)), own (.slice E i d) 3 1 i (ic (Pl.uP x)), blk g4 30 [.slice none 0 0, .int .i64 0, .int .i64 6]] V463) := Lib.hid (S462.out.gr hv464)
                                clear S462
                                clear hv464
                                refine ⟨rfl, hK _ _ ?_⟩
                                clear hK
                                (repeat go_step)
                                (try simp only [Exit.inBlock, Exit.then])
                                refine bodyPost_ret (results_cell_mid rfl _ _ _ g4 0 [.slice none 0 0, .int .i64 0, .int .i64 6] _ rfl (S465.out.range 2 rfl 0 3 rfl) Try.underlying30 rfl (by kernel_rfl)) rfl ?_
                                (have e_f450 := f450.out; have hu_ := Pl.un_badi HE0.out (show j < Pl.uN x by omega) (by rw [show Pl.uW x = 0 from HW0.out]; omega) (fun h_ => by obtain ⟨_, _, h3_⟩ := h_; rw [show Pl.uF x = (Pl.fld (Pl.wd (Pl.uM x)) (Pl.V (Pl.uB x))) from rfl, ← show u + 1 = Pl.sn (Pl.fld (Pl.wd (Pl.uM x)) (Pl.V (Pl.uB x))) (j + 1) from Pl.sn_hit HZ0.out HUE.out (by omega)] at h3_; omega); exact ⟨none, 0, 0, by rw [hu_]; rfl, by rw [hu_]; exact S465.out.dropAll.nilOwn _ _⟩)
                              | false =>
                                have f466 := of_decide_eq_false Hc457.out.symm
                                go_upto_region 43 with fail
                                refine wpG_region_k (fun K hK => ?_)
                                refine @wpG_p _ _ _ _ _ (some 143) (.slice G j gc) _ _ rfl (by rfl) (fun _ => rfl) ?_
                                simp only [n1, n3, n4]
                                refine @wpG_p _ _ _ _ _ (some 144) (.slice E i d) _ _ rfl (by rfl) (fun _ => rfl) ?_
                                simp only [n1, n3, n4]
                                refine @wpG_p _ _ _ _ _ (some 145) (.int .i64 0) _ _ rfl (by rfl) (fun _ => rfl) ?_
                                simp only [n1, n3, n4]
                                obtain ⟨og467, rfl⟩ := ownAdr (S456.out.ownr 1 rfl) (by omega)
                                have hix_ : 0 < i := by omega
                                refine @wpG_p _ _ _ _ _ (some 146) (.pointer (some ⟨og467, 0, none⟩)) _ _ rfl (by rfl) (fun W => by (go_simp <;> first | rfl | omega | (simp; omega))) ?_
                                simp only [n1, n3, n4]
                                refine @wpG_r _ _ _ _ _ (some 147) (.int .i64 ((Pl.uP x).getD 0 0)) _ _ rfl (by rfl) (fun W hg => by have c := (SL.ofOwn ((S456.out.gr hg).ownr 1 rfl)).int (l := (Pl.uP x)) 0 (by (have := HPL.out; omega)) 0 _ rfl; (try simp only [Nat.add_zero, Nat.zero_add] at c); go_simp) ?_
                                simp only [n1, n3, n4]
                                refine wpG_val (some 148) rfl (by rfl) (fun W468 hg469 => ⟨.slice (some ⟨W468.heap.size, 0, none⟩) 1 1, W468.alloc (.cells #[.int .i64 ((Pl.uP x).getD 0 0)] 3), by (go_simp <;> rfl), ?_⟩)
                                simp only [n1, n3, n4]
                                obtain ⟨g470, U471, hg_, hu_, hS_⟩ := (S456.out.gr hg469).made [.int .i64 ((Pl.uP x).getD 0 0)] 3
                                rw [← hu_, ← hg_]
                                have S472 : Hid (St w noB [blk g470 3 [.int .i64 ((Pl.uP x).getD 0 0)], own (.slice G j gc) 3 1 j (ic (Pl.cellsOf (Pl.uP x) (Pl.fld (Pl.wd (Pl.uM x)) (Pl.V (Pl.uB x))) j)), own (.slice (some ⟨og467, 0, none⟩) i d) 3 1 i (ic (Pl.uP x)), blk g4 30 [.slice none 0 0, .int .i64 0, .int .i64 0]] U471) := Lib.hid hS_
                                clear S456
                                clear hg_ hu_ hS_ hg469
                                have S473 : Hid (St w noB [own (.slice G j gc) 3 1 j (ic (Pl.cellsOf (Pl.uP x) (Pl.fld (Pl.wd (Pl.uM x)) (Pl.V (Pl.uB x))) j)), blk g470 3 [.int .i64 ((Pl.uP x).getD 0 0)], own (.slice (some ⟨og467, 0, none⟩) i d) 3 1 i (ic (Pl.uP x)), blk g4 30 [.slice none 0 0, .int .i64 0, .int .i64 0]] U471) := Lib.hid (S472.out.front 1 rfl)
                                clear S472
                                refine wpG_appS (some 149) rfl rfl (.tmp 143) (.tmp 148) 22 22 rfl 3 1 8 Try.underlying22 (by kernel_rfl) (.slice G j gc) j (ic (Pl.cellsOf (Pl.uP x) (Pl.fld (Pl.wd (Pl.uM x)) (Pl.V (Pl.uB x))) j)) S473.out (.slice (some ⟨g470, 0, none⟩) 1 1) 1 [.int .i64 ((Pl.uP x).getD 0 0)] (fun W hg => src_lies Try.underlying22 1 rfl (fun h => by cases h) (by intro u hu; simp at hu; rcases hu with rfl <;> rfl) ((S473.out.gr hg).liesBlk 1 rfl)) rfl rfl (by simp only [maxLen]; omega) (by omega) (fun v474 W475 hS_ => ?_)
                                simp only [n1, n3, n4]
                                rw [show ic (Pl.cellsOf (Pl.uP x) (Pl.fld (Pl.wd (Pl.uM x)) (Pl.V (Pl.uB x))) j) ++ [.int .i64 ((Pl.uP x).getD 0 0)] = ic ((Pl.cellsOf (Pl.uP x) (Pl.fld (Pl.wd (Pl.uM x)) (Pl.V (Pl.uB x))) j) ++ [((Pl.uP x).getD 0 0)]) by simp [ic]] at hS_
                                obtain ⟨A476, k477, rfl, hle_, hcap_, _⟩ := own_shape (hS_.ownr 0 rfl)
                                have S478 : Hid (St w noB [own (.slice A476 (j + 1) k477) 3 1 (j + 1) (ic ((Pl.cellsOf (Pl.uP x) (Pl.fld (Pl.wd (Pl.uM x)) (Pl.V (Pl.uB x))) j) ++ [((Pl.uP x).getD 0 0)])), blk g470 3 [.int .i64 ((Pl.uP x).getD 0 0)], own (.slice (some ⟨og467, 0, none⟩) i d) 3 1 i (ic (Pl.uP x)), blk g4 30 [.slice none 0 0, .int .i64 0, .int .i64 0]] W475) := Lib.hid hS_
                                clear S473
                                clear hS_
                                refine @wpG_p _ _ _ _ _ (some 10) (.slice A476 (j + 1) k477) _ _ rfl (by rfl) (fun _ => rfl) ?_
                                simp only [n1, n3, n4]
                                refine wpG_done (fun V479 hv480 => ?_)
                                have S481 : Hid (St w noB [own (.slice A476 (j + 1) k477) 3 1 (j + 1) (ic ((Pl.cellsOf (Pl.uP x) (Pl.fld (Pl.wd (Pl.uM x)) (Pl.V (Pl.uB x))) j) ++ [((Pl.uP x).getD 0 0)])), blk g470 3 [.int .i64 ((Pl.uP x).getD 0 0)], own (.slice (some ⟨og467, 0, none⟩) i d) 3 1 i (ic (Pl.uP x)), blk g4 30 [.slice none 0 0, .int .i64 0, .int .i64 0]] V479) := Lib.hid (S478.out.gr hv480)
                                clear S478
                                clear hv480
                                refine ⟨rfl, hK _ _ ?_⟩
                                clear hK
                                go_upto_region 28 with fail
                                refine wpG_region_k (fun K hK => ?_)
                                refine @wpG_p _ _ _ _ _ (some 73) (.int .i64 (j : Int)) _ _ rfl (by rfl) (fun _ => rfl) ?_
                                simp only [n1, n3, n4]
                                refine @wpG_p _ _ _ _ _ (some 74) (.int .i64 ((j : Int) + 1)) _ _ rfl (by rfl) (fun W => op_i_add W (j : Int) 1 (by omega) rfl rfl rfl Try.underlying3) ?_
                                simp only [n1, n3, n4]
                                refine @wpG_p _ _ _ _ _ (some 11) (.int .i64 ((j : Int) + 1)) _ _ rfl (by rfl) (fun _ => rfl) ?_
                                simp only [n1, n3, n4]
                                refine wpG_done (fun V482 hv483 => ?_)
                                have S484 : Hid (St w noB [own (.slice A476 (j + 1) k477) 3 1 (j + 1) (ic ((Pl.cellsOf (Pl.uP x) (Pl.fld (Pl.wd (Pl.uM x)) (Pl.V (Pl.uB x))) j) ++ [((Pl.uP x).getD 0 0)])), blk g470 3 [.int .i64 ((Pl.uP x).getD 0 0)], own (.slice (some ⟨og467, 0, none⟩) i d) 3 1 i (ic (Pl.uP x)), blk g4 30 [.slice none 0 0, .int .i64 0, .int .i64 0]] V482) := Lib.hid (S481.out.gr hv483)
                                clear S481
                                clear hv483
                                refine ⟨rfl, hK _ _ ?_⟩
                                clear hK
                                go_wp2_with fail
                                go_roundw
                                have hzm_ : 0 < Pl.uM x := by have e_f450 := f450.out; omega
                                have S485 : Hid (St w noB [own (.slice A476 (j + 1) k477) 3 1 (j + 1) (ic ((Pl.cellsOf (Pl.uP x) (Pl.fld (Pl.wd (Pl.uM x)) (Pl.V (Pl.uB x))) j) ++ [((Pl.uP x).getD 0 0)])), own (.slice (some ⟨og467, 0, none⟩) i d) 3 1 i (ic (Pl.uP x)), blk g4 30 [.slice none 0 0, .int .i64 0, .int .i64 0]] V482) := Lib.hid (S484.out.sub (.cons_cons _ (.cons _ (.cons_cons _ (.cons_cons _ .slnil)))))
                                clear S484
                                case rel => exact ⟨A476, k477, j + 1, u + 1, (by first | rfl | go_num), (by first | rfl | go_num), (by first | rfl | go_num), (by omega), (by have e_f450 := f450.out; exact Pl.sn_hit HZ0.out HUE.out (by omega)), (fun j2 hj2 => by rcases Nat.lt_or_ge j2 j with h1_ | h1_; exact HOK.out j2 h1_; obtain rfl : j2 = j := (by omega); exact ⟨⟨(by rw [← HZ0.out, ← HUE.out]; have e_f450 := f450.out; omega), (by rw [← HZ0.out]; exact hzm_), (by rw [← show u + 1 = Pl.sn (Pl.fld (Pl.wd (Pl.uM x)) (Pl.V (Pl.uB x))) (j2 + 1) from (by have e_f450 := f450.out; exact Pl.sn_hit HZ0.out HUE.out (by omega))]; have e_f450 := f450.out; omega)⟩, (by rw [HW0.out]; omega)⟩), (fun h_ => Pl.uB_0 (show Pl.uW x = 0 from HW0.out)), (by have h_ := S485.out; rw [show (Pl.uP x).getD 0 0 = (Pl.uP x).getD ((Pl.fld (Pl.wd (Pl.uM x)) (Pl.V (Pl.uB x))) j) 0 from by rw [← HZ0.out], ← Pl.cells_succ] at h_; exact h_)⟩
                                case measure => first | (simp only [intOf]; omega) | (simp [intOf]; done) | (simp [intOf]; omega) | omega
                            | false =>
                              have f486 := of_decide_eq_false Hc449.out.symm
                              go_upto_region 41 with fail
                              refine wpG_region_k (fun K hK => ?_)
                              refine @wpG_p _ _ _ _ _ (some 134) (.int .i64 (Pl.uM x : Int)) _ _ rfl (by rfl) (fun _ => rfl) ?_
                              simp only [n1, n3, n4]
                              refine @wpG_p _ _ _ _ _ (some 135) (.int .i64 (u : Int)) _ _ rfl (by rfl) (fun _ => rfl) ?_
                              simp only [n1, n3, n4]
                              refine @wpG_p _ _ _ _ _ (some 136) (.int .i64 ((Pl.uM x : Int) - (u : Int))) _ _ rfl (by rfl) (fun W => op_i_sub W (Pl.uM x : Int) (u : Int) (by omega) rfl rfl rfl Try.underlying3) ?_
                              simp only [n1, n3, n4]
                              refine @wpG_p _ _ _ _ _ (some 137) (.int .i64 (Pl.uN x : Int)) _ _ rfl (by rfl) (fun _ => rfl) ?_
                              simp only [n1, n3, n4]
                              refine @wpG_p _ _ _ _ _ (some 138) (.int .i64 ((Pl.uN x : Int) - 1)) _ _ rfl (by rfl) (fun W => op_i_sub W (Pl.uN x : Int) 1 (by omega) rfl rfl rfl Try.underlying3) ?_
                              simp only [n1, n3, n4]
                              refine @wpG_p _ _ _ _ _ (some 139) (.int .i64 (j : Int)) _ _ rfl (by rfl) (fun _ => rfl) ?_
                              simp only [n1, n3, n4]
                              refine @wpG_p _ _ _ _ _ (some 140) (.int .i64 (((Pl.uN x : Int) - 1) - (j : Int))) _ _ rfl (by rfl) (fun W => op_i_sub W ((Pl.uN x : Int) - 1) (j : Int) (by omega) rfl rfl rfl Try.underlying3) ?_
                              simp only [n1, n3, n4]
                              refine @wpG_p _ _ _ _ _ (some 141) (.bool (decide ((Pl.uM x : Int) - (u : Int) > ((Pl.uN x : Int) - 1) - (j : Int)))) _ _ rfl (by rfl) (fun W => op_int_gtr W ((Pl.uM x : Int) - (u : Int)) (((Pl.uN x : Int) - 1) - (j : Int)) rfl rfl rfl Try.underlying3) ?_
                              simp only [n1, n3, n4]
                              refine wpG_done (fun V487 hv488 => ?_)
                              have S489 : Hid (St w noB [own (.slice G j gc) 3 1 j (ic (Pl.cellsOf (Pl.uP x) (Pl.fld (Pl.wd (Pl.uM x)) (Pl.V (Pl.uB x))) j)), own (.slice E i d) 3 1 i (ic (Pl.uP x)), blk g4 30 [.slice none 0 0, .int .i64 0, .int .i64 0]] V487) := Lib.hid (S448.out.gr hv488)
                              clear S448
                              clear hv488
                              refine ⟨rfl, hK _ _ ?_⟩
                              clear hK
                              obtain ⟨c490, hc490⟩ : ∃ q_, q_ = (decide ((Pl.uM x : Int) - (u : Int) > ((Pl.uN x : Int) - 1) - (j : Int))) := ⟨_, rfl⟩
                              rw [← hc490]
                              have Hc490 := Lib.hid hc490
                              clear hc490
                              cases c490 with
                              | true =>
                                have f491 := of_decide_eq_true Hc490.out.symm
                                go_upto_region 42 with fail
                                refine wpG_region_k (fun K hK => ?_)
                                refine @wpG_p _ _ _ _ _ (some 142) (.agg #[.slice none 0 0, .int .i64 0, .int .i64 6]) _ _ rfl (by rfl) (fun W => by go_simp) ?_
                                simp only [n1, n3, n4]
                                refine wpG_store (none) rfl (by rfl) (fun W492 hg493 => ⟨_, run_store_mid 30 (.tmp 2) (.tmp 142) rfl g4 0 #[.slice none 0 0, .int .i64 0, .int .i64 6] rfl rfl ((S489.out.gr hg493).room 2 rfl 0 3 (by simp)) (by kernel_rfl) (by kernel_rfl), ?_⟩)
                                simp only [n2]
                                obtain ⟨U494, hu_, hS_⟩ := ((S489.out.gr hg493).put 2 rfl 0 (#[.slice none 0 0, .int .i64 0, .int .i64 6] : Array Value).toList (ds := [.slice none 0 0, .int .i64 0, .int .i64 6]) rfl).named
                                rw [← hu_]
                                have S495 : Hid (St w noB [own (.slice G j gc) 3 1 j (ic (Pl.cellsOf (Pl.uP x) (Pl.fld (Pl.wd (Pl.uM x)) (Pl.V (Pl.uB x))) j)), own (.slice E i d) 3 1 i (ic (Pl.uP x)), blk g4 30 [.slice none 0 0, .int .i64 0, .int .i64 6]] U494) := Lib.hid hS_
                                clear S489
                                clear hu_ hS_ hg493
                                refine wpG_done (fun V496 hv497 => ?_)
                                have S498 : Hid (St w noB [own (.slice G j gc) 3 1 j (ic (Pl.cellsOf (Pl.uP x) (Pl.fld (Pl.wd (Pl.uM x)) (Pl.V (Pl.uB x))) j)), own (.slice E i d) 3 1 i (ic (Pl.uP x)), blk g4 30 [.slice none 0 0, .int .i64 0, .int .i64 6]] V496) := Lib.hid (S495.out.gr hv497)
                                clear S495
                                clear hv497
                                refine ⟨rfl, hK _ _ ?_⟩
                                clear hK
                                (repeat go_step)
                                (try simp only [Exit.inBlock, Exit.then])
                                refine bodyPost_ret (results_cell_mid rfl _ _ _ g4 0 [.slice none 0 0, .int .i64 0, .int .i64 6] _ rfl (S498.out.range 2 rfl 0 3 rfl) Try.underlying30 rfl (by kernel_rfl)) rfl ?_
                                (have hu_ := Pl.un_badi HE0.out (show j < Pl.uN x by omega) (by rw [show Pl.uW x = 0 from HW0.out]; omega) (fun h_ => by obtain ⟨_, _, h3_⟩ := h_; rw [show Pl.uF x = (Pl.fld (Pl.wd (Pl.uM x)) (Pl.V (Pl.uB x))) from rfl, ← show u = Pl.sn (Pl.fld (Pl.wd (Pl.uM x)) (Pl.V (Pl.uB x))) (j + 1) from Pl.sn_miss HZ0.out HUE.out (by omega)] at h3_; omega); exact ⟨none, 0, 0, by rw [hu_]; rfl, by rw [hu_]; exact S498.out.dropAll.nilOwn _ _⟩)
                              | false =>
                                have f499 := of_decide_eq_false Hc490.out.symm
                                go_upto_region 43 with fail
                                refine wpG_region_k (fun K hK => ?_)
                                refine @wpG_p _ _ _ _ _ (some 143) (.slice G j gc) _ _ rfl (by rfl) (fun _ => rfl) ?_
                                simp only [n1, n3, n4]
                                refine @wpG_p _ _ _ _ _ (some 144) (.slice E i d) _ _ rfl (by rfl) (fun _ => rfl) ?_
                                simp only [n1, n3, n4]
                                refine @wpG_p _ _ _ _ _ (some 145) (.int .i64 0) _ _ rfl (by rfl) (fun _ => rfl) ?_
                                simp only [n1, n3, n4]
                                obtain ⟨og500, rfl⟩ := ownAdr (S489.out.ownr 1 rfl) (by omega)
                                have hix_ : 0 < i := by omega
                                refine @wpG_p _ _ _ _ _ (some 146) (.pointer (some ⟨og500, 0, none⟩)) _ _ rfl (by rfl) (fun W => by (go_simp <;> first | rfl | omega | (simp; omega))) ?_
                                simp only [n1, n3, n4]
                                refine @wpG_r _ _ _ _ _ (some 147) (.int .i64 ((Pl.uP x).getD 0 0)) _ _ rfl (by rfl) (fun W hg => by have c := (SL.ofOwn ((S489.out.gr hg).ownr 1 rfl)).int (l := (Pl.uP x)) 0 (by (have := HPL.out; omega)) 0 _ rfl; (try simp only [Nat.add_zero, Nat.zero_add] at c); go_simp) ?_
                                simp only [n1, n3, n4]
                                refine wpG_val (some 148) rfl (by rfl) (fun W501 hg502 => ⟨.slice (some ⟨W501.heap.size, 0, none⟩) 1 1, W501.alloc (.cells #[.int .i64 ((Pl.uP x).getD 0 0)] 3), by (go_simp <;> rfl), ?_⟩)
                                simp only [n1, n3, n4]
                                obtain ⟨g503, U504, hg_, hu_, hS_⟩ := (S489.out.gr hg502).made [.int .i64 ((Pl.uP x).getD 0 0)] 3
                                rw [← hu_, ← hg_]
                                have S505 : Hid (St w noB [blk g503 3 [.int .i64 ((Pl.uP x).getD 0 0)], own (.slice G j gc) 3 1 j (ic (Pl.cellsOf (Pl.uP x) (Pl.fld (Pl.wd (Pl.uM x)) (Pl.V (Pl.uB x))) j)), own (.slice (some ⟨og500, 0, none⟩) i d) 3 1 i (ic (Pl.uP x)), blk g4 30 [.slice none 0 0, .int .i64 0, .int .i64 0]] U504) := Lib.hid hS_
                                clear S489
                                clear hg_ hu_ hS_ hg502
                                have S506 : Hid (St w noB [own (.slice G j gc) 3 1 j (ic (Pl.cellsOf (Pl.uP x) (Pl.fld (Pl.wd (Pl.uM x)) (Pl.V (Pl.uB x))) j)), blk g503 3 [.int .i64 ((Pl.uP x).getD 0 0)], own (.slice (some ⟨og500, 0, none⟩) i d) 3 1 i (ic (Pl.uP x)), blk g4 30 [.slice none 0 0, .int .i64 0, .int .i64 0]] U504) := Lib.hid (S505.out.front 1 rfl)
                                clear S505
                                refine wpG_appS (some 149) rfl rfl (.tmp 143) (.tmp 148) 22 22 rfl 3 1 8 Try.underlying22 (by kernel_rfl) (.slice G j gc) j (ic (Pl.cellsOf (Pl.uP x) (Pl.fld (Pl.wd (Pl.uM x)) (Pl.V (Pl.uB x))) j)) S506.out (.slice (some ⟨g503, 0, none⟩) 1 1) 1 [.int .i64 ((Pl.uP x).getD 0 0)] (fun W hg => src_lies Try.underlying22 1 rfl (fun h => by cases h) (by intro u hu; simp at hu; rcases hu with rfl <;> rfl) ((S506.out.gr hg).liesBlk 1 rfl)) rfl rfl (by simp only [maxLen]; omega) (by omega) (fun v507 W508 hS_ => ?_)
                                simp only [n1, n3, n4]
                                rw [show ic (Pl.cellsOf (Pl.uP x) (Pl.fld (Pl.wd (Pl.uM x)) (Pl.V (Pl.uB x))) j) ++ [.int .i64 ((Pl.uP x).getD 0 0)] = ic ((Pl.cellsOf (Pl.uP x) (Pl.fld (Pl.wd (Pl.uM x)) (Pl.V (Pl.uB x))) j) ++ [((Pl.uP x).getD 0 0)]) by simp [ic]] at hS_
                                obtain ⟨A509, k510, rfl, hle_, hcap_, _⟩ := own_shape (hS_.ownr 0 rfl)
                                have S511 : Hid (St w noB [own (.slice A509 (j + 1) k510) 3 1 (j + 1) (ic ((Pl.cellsOf (Pl.uP x) (Pl.fld (Pl.wd (Pl.uM x)) (Pl.V (Pl.uB x))) j) ++ [((Pl.uP x).getD 0 0)])), blk g503 3 [.int .i64 ((Pl.uP x).getD 0 0)], own (.slice (some ⟨og500, 0, none⟩) i d) 3 1 i (ic (Pl.uP x)), blk g4 30 [.slice none 0 0, .int .i64 0, .int .i64 0]] W508) := Lib.hid hS_
                                clear S506
                                clear hS_
                                refine @wpG_p _ _ _ _ _ (some 10) (.slice A509 (j + 1) k510) _ _ rfl (by rfl) (fun _ => rfl) ?_
                                simp only [n1, n3, n4]
                                refine wpG_done (fun V512 hv513 => ?_)
                                have S514 : Hid (St w noB [own (.slice A509 (j + 1) k510) 3 1 (j + 1) (ic ((Pl.cellsOf (Pl.uP x) (Pl.fld (Pl.wd (Pl.uM x)) (Pl.V (Pl.uB x))) j) ++ [((Pl.uP x).getD 0 0)])), blk g503 3 [.int .i64 ((Pl.uP x).getD 0 0)], own (.slice (some ⟨og500, 0, none⟩) i d) 3 1 i (ic (Pl.uP x)), blk g4 30 [.slice none 0 0, .int .i64 0, .int .i64 0]] V512) := Lib.hid (S511.out.gr hv513)
                                clear S511
                                clear hv513
                                refine ⟨rfl, hK _ _ ?_⟩
                                clear hK
                                go_upto_region 28 with fail
                                refine wpG_region_k (fun K hK => ?_)
                                refine @wpG_p _ _ _ _ _ (some 73) (.int .i64 (j : Int)) _ _ rfl (by rfl) (fun _ => rfl) ?_
                                simp only [n1, n3, n4]
                                refine @wpG_p _ _ _ _ _ (some 74) (.int .i64 ((j : Int) + 1)) _ _ rfl (by rfl) (fun W => op_i_add W (j : Int) 1 (by omega) rfl rfl rfl Try.underlying3) ?_
                                simp only [n1, n3, n4]
                                refine @wpG_p _ _ _ _ _ (some 11) (.int .i64 ((j : Int) + 1)) _ _ rfl (by rfl) (fun _ => rfl) ?_
                                simp only [n1, n3, n4]
                                refine wpG_done (fun V515 hv516 => ?_)
                                have S517 : Hid (St w noB [own (.slice A509 (j + 1) k510) 3 1 (j + 1) (ic ((Pl.cellsOf (Pl.uP x) (Pl.fld (Pl.wd (Pl.uM x)) (Pl.V (Pl.uB x))) j) ++ [((Pl.uP x).getD 0 0)])), blk g503 3 [.int .i64 ((Pl.uP x).getD 0 0)], own (.slice (some ⟨og500, 0, none⟩) i d) 3 1 i (ic (Pl.uP x)), blk g4 30 [.slice none 0 0, .int .i64 0, .int .i64 0]] V515) := Lib.hid (S514.out.gr hv516)
                                clear S514
                                clear hv516
                                refine ⟨rfl, hK _ _ ?_⟩
                                clear hK
                                go_wp2_with fail
                                go_roundw
                                have hzm_ : 0 < Pl.uM x := by omega
                                have S518 : Hid (St w noB [own (.slice A509 (j + 1) k510) 3 1 (j + 1) (ic ((Pl.cellsOf (Pl.uP x) (Pl.fld (Pl.wd (Pl.uM x)) (Pl.V (Pl.uB x))) j) ++ [((Pl.uP x).getD 0 0)])), own (.slice (some ⟨og500, 0, none⟩) i d) 3 1 i (ic (Pl.uP x)), blk g4 30 [.slice none 0 0, .int .i64 0, .int .i64 0]] V515) := Lib.hid (S517.out.sub (.cons_cons _ (.cons _ (.cons_cons _ (.cons_cons _ .slnil)))))
                                clear S517
                                case rel => exact ⟨A509, k510, j + 1, u, (by first | rfl | go_num), (by first | rfl | go_num), (by first | rfl | go_num), (by omega), (by exact Pl.sn_miss HZ0.out HUE.out (by omega)), (fun j2 hj2 => by rcases Nat.lt_or_ge j2 j with h1_ | h1_; exact HOK.out j2 h1_; obtain rfl : j2 = j := (by omega); exact ⟨⟨(by rw [← HZ0.out, ← HUE.out]; omega), (by rw [← HZ0.out]; exact hzm_), (by rw [← show u = Pl.sn (Pl.fld (Pl.wd (Pl.uM x)) (Pl.V (Pl.uB x))) (j2 + 1) from (by exact Pl.sn_miss HZ0.out HUE.out (by omega))]; omega)⟩, (by rw [HW0.out]; omega)⟩), (fun h_ => Pl.uB_0 (show Pl.uW x = 0 from HW0.out)), (by have h_ := S518.out; rw [show (Pl.uP x).getD 0 0 = (Pl.uP x).getD ((Pl.fld (Pl.wd (Pl.uM x)) (Pl.V (Pl.uB x))) j) 0 from by rw [← HZ0.out], ← Pl.cells_succ] at h_; exact h_)⟩
                                case measure => first | (simp only [intOf]; omega) | (simp [intOf]; done) | (simp [intOf]; omega) | omega
                    | false =>
                      have f519 := of_decide_eq_false Hc173.out.symm
                      go_upto_region 44 with fail
                      refine wpG_region_k (fun K hK => ?_)
                      refine @wpG_p _ _ _ _ _ (some 150) (.slice G j gc) _ _ rfl (by rfl) (fun _ => rfl) ?_
                      simp only [n1, n3, n4]
                      refine @wpG_p _ _ _ _ _ (some 151) (.int .i64 (Pl.uM x : Int)) _ _ rfl (by rfl) (fun _ => rfl) ?_
                      simp only [n1, n3, n4]
                      obtain ⟨e2, h_e2⟩ : ∃ q_ : Nat, q_ = 2 + Pl.uM x := ⟨_, rfl⟩
                      have he2b : e2 ≤ 400 := by omega
                      have He2 := Lib.hid h_e2
                      clear h_e2
                      refine @wpG_p _ _ _ _ _ (some 152) (.int .i64 (e2 : Int)) _ _ rfl (by rfl) (fun W => op_n_add 2 (Pl.uM x) e2 He2.out.symm (by omega) rfl rfl rfl) ?_
                      simp only [n1, n3, n4]
                      refine @wpG_p _ _ _ _ _ (some 153) (.int .i64 (Pl.uN x : Int)) _ _ rfl (by rfl) (fun _ => rfl) ?_
                      simp only [n1, n3, n4]
                      refine @wpG_p _ _ _ _ _ (some 154) (.int .i64 (Pl.wd (Pl.uM x) : Int)) _ _ rfl (by rfl) (fun _ => rfl) ?_
                      simp only [n1, n3, n4]
                      obtain ⟨nw, h_nw⟩ : ∃ q_ : Nat, q_ = Pl.uN x * (Pl.wd (Pl.uM x)) := ⟨_, rfl⟩
                      have hnwb : nw ≤ 64 * 8 := by rw [h_nw]; exact Nat.mul_le_mul (by omega) hw8_
                      have Hnw := Lib.hid h_nw
                      clear h_nw
                      refine @wpG_p _ _ _ _ _ (some 155) (.int .i64 (nw : Int)) _ _ rfl (by rfl) (fun W => op_n_mul (Pl.uN x) (Pl.wd (Pl.uM x)) nw Hnw.out.symm (by omega) rfl rfl rfl) ?_
                      simp only [n1, n3, n4]
                      obtain ⟨nw7, h_nw7⟩ : ∃ q_ : Nat, q_ = nw + 7 := ⟨_, rfl⟩
                      have hnw7b : nw7 ≤ 1000 := by omega
                      have Hnw7 := Lib.hid h_nw7
                      clear h_nw7
                      refine @wpG_p _ _ _ _ _ (some 156) (.int .i64 (nw7 : Int)) _ _ rfl (by rfl) (fun W => op_n_add nw 7 nw7 Hnw7.out.symm (by omega) rfl rfl rfl) ?_
                      simp only [n1, n3, n4]
                      obtain ⟨rm, h_rm⟩ : ∃ q_ : Nat, q_ = nw7 / 8 := ⟨_, rfl⟩
                      have hrmb : rm ≤ 1000 := by omega
                      have Hrm := Lib.hid h_rm
                      clear h_rm
                      refine @wpG_p _ _ _ _ _ (some 157) (.int .i64 (rm : Int)) _ _ rfl (by rfl) (fun W => op_n_quo nw7 8 rm Hrm.out.symm (by decide) (by omega) rfl rfl rfl) ?_
                      simp only [n1, n3, n4]
                      obtain ⟨en, h_en⟩ : ∃ q_ : Nat, q_ = e2 + rm := ⟨_, rfl⟩
                      have henb : en ≤ 2000 := by omega
                      have Hen := Lib.hid h_en
                      clear h_en
                      refine @wpG_p _ _ _ _ _ (some 158) (.int .i64 (en : Int)) _ _ rfl (by rfl) (fun W => op_n_add e2 rm en Hen.out.symm (by omega) rfl rfl rfl) ?_
                      simp only [n1, n3, n4]
                      refine @wpG_p _ _ _ _ _ (some 159) (.agg #[.slice G j gc, .int .i64 (en : Int), .int .i64 0]) _ _ rfl (by rfl) (fun W => by go_simp) ?_
                      simp only [n1, n3, n4]
                      refine wpG_store (none) rfl (by rfl) (fun W520 hg521 => ⟨_, run_store_mid 30 (.tmp 2) (.tmp 159) rfl g4 0 #[.slice G j gc, .int .i64 (en : Int), .int .i64 0] rfl rfl ((S172.out.gr hg521).room 2 rfl 0 3 (by simp)) (by kernel_rfl) (by kernel_rfl), ?_⟩)
                      simp only [n2]
                      obtain ⟨U522, hu_, hS_⟩ := ((S172.out.gr hg521).put 2 rfl 0 (#[.slice G j gc, .int .i64 (en : Int), .int .i64 0] : Array Value).toList (ds := [.slice G j gc, .int .i64 (en : Int), .int .i64 0]) rfl).named
                      rw [← hu_]
                      have S523 : Hid (St w noB [own (.slice G j gc) 3 1 j (ic (Pl.cellsOf (Pl.uP x) (Pl.fld (Pl.wd (Pl.uM x)) (Pl.V (Pl.uB x))) j)), own (.slice E i d) 3 1 i (ic (Pl.uP x)), blk g4 30 [.slice G j gc, .int .i64 (en : Int), .int .i64 0]] U522) := Lib.hid hS_
                      clear S172
                      clear hu_ hS_ hg521
                      refine wpG_done (fun V524 hv525 => ?_)
                      have S526 : Hid (St w noB [own (.slice G j gc) 3 1 j (ic (Pl.cellsOf (Pl.uP x) (Pl.fld (Pl.wd (Pl.uM x)) (Pl.V (Pl.uB x))) j)), own (.slice E i d) 3 1 i (ic (Pl.uP x)), blk g4 30 [.slice G j gc, .int .i64 (en : Int), .int .i64 0]] V524) := Lib.hid (S523.out.gr hv525)
                      clear S523
                      clear hv525
                      refine ⟨rfl, hK _ _ ?_⟩
                      clear hK
                      (repeat go_step)
                      (try simp only [Exit.inBlock, Exit.then])
                      refine bodyPost_ret (results_cell_mid rfl _ _ _ g4 0 [.slice G j gc, .int .i64 (en : Int), .int .i64 0] _ rfl (S526.out.range 2 rfl 0 3 rfl) Try.underlying30 rfl (by kernel_rfl)) rfl ?_
                      have hjN_ : j = Pl.uN x := by omega
                      have hu_ := Pl.un_end HE0.out (fun j2 hj2 => HOK.out j2 (by omega)) (HTL.out hjN_)
                      have hen_ : en = 2 + Pl.uM x + Pl.uR x := by rw [Hen.out, He2.out, Hrm.out, Hnw7.out, Hnw.out]; rfl
                      exact ⟨G, j, gc, by rw [hu_, hen_]; rfl, by rw [hu_]; have h_ := S526.out.sub (.cons_cons _ (.cons _ (.cons _ .slnil))); rw [hjN_] at h_; rw [hjN_]; exact h_⟩

end Go.Proofs.Ytfomieekdbkcnaa
