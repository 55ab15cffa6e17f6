/-
  Contracts of the specification of package palette: Pack, Encode.
-/
import Derived.Test.YtfomieekdbkcnaaPk15
import Derived.Handy
namespace Go.Proofs.Ytfomieekdbkcnaa
open Go Go.RowKit
set_option linter.unusedVariables false
set_option linter.unusedSimpArgs false
set_option maxRecDepth 1000000 in
set_option maxHeartbeats 4000000 in
theorem rpack_any (A : Option Addr) (n c : Nat) (l : List Int) (w : World) (hG : SL w 1 A n c (ic l)) (hb : n ≤ 1000) :
    Calls Try.prog 12 #[.slice A n c] w fun e w' => e = .returned (.tuple #[.string (bstr (Pl.pS l)), .int .i64 (Pl.pE l)]) ∧ Below w.heap.size w w' := by
  have HGA := Lib.hid hG
  have HLEN : Hid (l.length = n) := Lib.hid (by have h_ := hG.len; rw [ic_len] at h_; omega)
  have hnbHGA : n ≤ 9223372036854775807 := Nat.le_trans hG.cap hG.bnd
  clear hG
  have S1 : Hid (St w noB [] w) := Lib.hid (St.start w)
  go_enter Try.func12, Try.ntmps12
  go_upto_region 0 with fail
  refine wpG_region_k (fun K hK => ?_)
  refine @wpG_p _ _ _ _ _ (some 2) (.string ⟨#[]⟩) _ _ rfl (by rfl) (fun _ => rfl) ?_
  simp only [n1, n3, n4]
  refine @wpG_p _ _ _ _ _ (some 3) (.int .i64 0) _ _ rfl (by rfl) (fun _ => rfl) ?_
  simp only [n1, n3, n4]
  refine wpG_done (fun V2 hv3 => ?_)
  have S4 : Hid (St w noB [] V2) := Lib.hid (S1.out.gr hv3)
  clear S1
  clear hv3
  refine ⟨rfl, hK _ _ ?_⟩
  clear hK
  go_upto_region 1 with fail
  refine wpG_region_k (fun K hK => ?_)
  refine @wpG_p _ _ _ _ _ (some 11) (.slice A n c) _ _ rfl (by rfl) (fun _ => rfl) ?_
  simp only [n1, n3, n4]
  refine @wpG_tk _ _ _ _ _ (some 12) (.bool (Pl.vc l)) _ _ rfl (.call (f := 32) (args := #[.slice A n c]) (by rfl) (fun W => by go_simp) (fun W hg => rcells_any _ _ _ l W (HGA.out.gr (S4.out.gr hg).bel))) ?_
  simp only [n1, n3, n4]
  refine @wpG_p _ _ _ _ _ (some 4) (.bool (Pl.vc l)) _ _ rfl (by rfl) (fun _ => rfl) ?_
  simp only [n1, n3, n4]
  refine wpG_done (fun V5 hv6 => ?_)
  have S7 : Hid (St w noB [] V5) := Lib.hid (S4.out.gr hv6)
  clear S4
  clear hv6
  refine ⟨rfl, hK _ _ ?_⟩
  clear hK
  go_upto_region 2 with fail
  refine wpG_region_k (fun K hK => ?_)
  refine @wpG_p _ _ _ _ _ (some 13) (.bool (Pl.vc l)) _ _ rfl (by rfl) (fun _ => rfl) ?_
  simp only [n1, n3, n4]
  refine @wpG_p _ _ _ _ _ (some 14) (.bool (!(Pl.vc l))) _ _ rfl (by rfl) (fun W => by go_simp) ?_
  simp only [n1, n3, n4]
  refine @wpG_p _ _ _ _ _ (some 15) (.bool (!(Pl.vc l))) _ _ rfl (by rfl) (fun _ => rfl) ?_
  simp only [n1, n3, n4]
  obtain ⟨c8, hc8⟩ : ∃ q_, q_ = (!(Pl.vc l)) := ⟨_, rfl⟩
  rw [← hc8]
  have Hc8 := Lib.hid hc8
  clear hc8
  cases c8 with
  | true =>
    have f9 := Lib.hid ((bnt Hc8.out))
    refine @wpG_no _ _ _ _ _ (some 16) _ _ rfl (by rfl) ?_
    simp only [n1, n3, n4]
    refine @wpG_no _ _ _ _ _ (some 17) _ _ rfl (by rfl) ?_
    simp only [n1, n3, n4]
    refine @wpG_no _ _ _ _ _ (some 18) _ _ rfl (by rfl) ?_
    simp only [n1, n3, n4]
    refine @wpG_p _ _ _ _ _ (some 19) (.bool true) _ _ rfl (by rfl) (fun W => by go_simp) ?_
    simp only [n1, n3, n4]
    refine wpG_done (fun V10 hv11 => ?_)
    have S12 : Hid (St w noB [] V10) := Lib.hid (S7.out.gr hv11)
    clear S7
    clear hv11
    refine ⟨rfl, hK _ _ ?_⟩
    clear hK
    go_upto_region 3 with fail
    refine wpG_region_k (fun K hK => ?_)
    refine @wpG_p _ _ _ _ _ (some 2) (.string ⟨#[]⟩) _ _ rfl (by rfl) (fun _ => rfl) ?_
    simp only [n1, n3, n4]
    refine @wpG_p _ _ _ _ _ (some 3) (.int .i64 1) _ _ rfl (by rfl) (fun _ => rfl) ?_
    simp only [n1, n3, n4]
    refine wpG_done (fun V13 hv14 => ?_)
    have S15 : Hid (St w noB [] V13) := Lib.hid (S12.out.gr hv14)
    clear S12
    clear hv14
    refine ⟨rfl, hK _ _ ?_⟩
    clear hK
    go_wp2_with fail
    go_ret2
    refine ⟨?_, S15.out.bel⟩
    show Ending.returned (.tuple #[.string ⟨#[]⟩, .int .i64 1]) = _
    (have e_f9 := f9.out; obtain ⟨e1_, e2_⟩ := Pl.p_bad (l := l) (by simpa using e_f9); rw [e1_, e2_]; rfl)
  | false =>
    have f16 := Lib.hid ((bnf Hc8.out))
    have HVC : Hid (Pl.vc l = true) := Lib.hid (by have h_ := f16.out; simpa using h_)
    refine @wpG_p _ _ _ _ _ (some 16) (.slice A n c) _ _ rfl (by rfl) (fun _ => rfl) ?_
    simp only [n1, n3, n4]
    refine @wpG_p _ _ _ _ _ (some 17) (.int .i64 (n : Int)) _ _ rfl (by rfl) (fun W => by go_simp) ?_
    simp only [n1, n3, n4]
    refine @wpG_p _ _ _ _ _ (some 18) (.bool (decide ((n : Int) > 64))) _ _ rfl (by rfl) (fun W => op_int_gtr W (n : Int) 64 rfl rfl rfl Try.underlying3) ?_
    simp only [n1, n3, n4]
    refine @wpG_p _ _ _ _ _ (some 19) (.bool (decide ((n : Int) > 64))) _ _ rfl (by rfl) (fun W => by go_simp) ?_
    simp only [n1, n3, n4]
    refine wpG_done (fun V17 hv18 => ?_)
    have S19 : Hid (St w noB [] V17) := Lib.hid (S7.out.gr hv18)
    clear S7
    clear hv18
    refine ⟨rfl, hK _ _ ?_⟩
    clear hK
    obtain ⟨c20, hc20⟩ : ∃ q_, q_ = (decide ((n : Int) > 64)) := ⟨_, rfl⟩
    rw [← hc20]
    have Hc20 := Lib.hid hc20
    clear hc20
    cases c20 with
    | true =>
      have f21 := of_decide_eq_true Hc20.out.symm
      go_upto_region 3 with fail
      refine wpG_region_k (fun K hK => ?_)
      refine @wpG_p _ _ _ _ _ (some 2) (.string ⟨#[]⟩) _ _ rfl (by rfl) (fun _ => rfl) ?_
      simp only [n1, n3, n4]
      refine @wpG_p _ _ _ _ _ (some 3) (.int .i64 1) _ _ rfl (by rfl) (fun _ => rfl) ?_
      simp only [n1, n3, n4]
      refine wpG_done (fun V22 hv23 => ?_)
      have S24 : Hid (St w noB [] V22) := Lib.hid (S19.out.gr hv23)
      clear S19
      clear hv23
      refine ⟨rfl, hK _ _ ?_⟩
      clear hK
      go_wp2_with fail
      go_ret2
      refine ⟨?_, S24.out.bel⟩
      show Ending.returned (.tuple #[.string ⟨#[]⟩, .int .i64 1]) = _
      (have e_f16 := f16.out; obtain ⟨e1_, e2_⟩ := Pl.p_long (l := l) (by have := HLEN.out; omega); rw [e1_, e2_]; rfl)
    | false =>
      have f25 := of_decide_eq_false Hc20.out.symm
      go_upto_region 4 with fail
      refine wpG_region_k (fun K hK => ?_)
      refine @wpG_p _ _ _ _ _ (some 20) (.slice A n c) _ _ rfl (by rfl) (fun _ => rfl) ?_
      simp only [n1, n3, n4]
      refine @wpG_p _ _ _ _ _ (some 21) (.int .i64 (n : Int)) _ _ rfl (by rfl) (fun W => by go_simp) ?_
      simp only [n1, n3, n4]
      refine @wpG_p _ _ _ _ _ (some 22) (.bool (decide ((n : Int) = 0))) _ _ rfl (by rfl) (fun W => op_int_eql W (n : Int) 0 rfl rfl rfl Try.underlying3) ?_
      simp only [n1, n3, n4]
      refine wpG_done (fun V26 hv27 => ?_)
      have S28 : Hid (St w noB [] V26) := Lib.hid (S19.out.gr hv27)
      clear S19
      clear hv27
      refine ⟨rfl, hK _ _ ?_⟩
      clear hK
      obtain ⟨c29, hc29⟩ : ∃ q_, q_ = (decide ((n : Int) = 0)) := ⟨_, rfl⟩
      rw [← hc29]
      have Hc29 := Lib.hid hc29
      clear hc29
      cases c29 with
      | true =>
        have f30 := Lib.hid (of_decide_eq_true Hc29.out.symm)
        have f30a := Int.le_of_eq f30.out
        have f30b := Int.le_of_eq f30.out.symm
        go_upto_region 5 with fail
        refine wpG_region_k (fun K hK => ?_)
        refine wpG_val (some 23) rfl (by rfl) (fun W31 hg32 => ⟨.slice (some ⟨W31.heap.size, 0, none⟩) 1 1, W31.alloc (.cells #[.int .u8 0] 5), by (go_simp <;> rfl), ?_⟩)
        simp only [n1, n3, n4]
        obtain ⟨g33, U34, hg_, hu_, hS_⟩ := (S28.out.gr hg32).made [.int .u8 0] 5
        rw [← hu_, ← hg_]
        have S35 : Hid (St w noB [blk g33 5 [.int .u8 0]] U34) := Lib.hid hS_
        clear S28
        clear hg_ hu_ hS_ hg32
        refine @wpG_r _ _ _ _ _ (some 24) (.string (bstr [0])) _ _ rfl (by rfl) (fun W hg => by exact op_conv_str (l := [0]) (by have h_ := SL.ofBlkx (S35.out.gr hg) 0 rfl 1 rfl; exact (by rw [show bc [0] = [.int .u8 0] from rfl]; exact h_)) rfl rfl Try.underlying43 Try.underlying5 Try.underlying9) ?_
        simp only [n1, n3, n4]
        refine @wpG_p _ _ _ _ _ (some 2) (.string (bstr [0])) _ _ rfl (by rfl) (fun _ => rfl) ?_
        simp only [n1, n3, n4]
        refine @wpG_p _ _ _ _ _ (some 3) (.int .i64 0) _ _ rfl (by rfl) (fun _ => rfl) ?_
        simp only [n1, n3, n4]
        refine wpG_done (fun V36 hv37 => ?_)
        have S38 : Hid (St w noB [blk g33 5 [.int .u8 0]] V36) := Lib.hid (S35.out.gr hv37)
        clear S35
        clear hv37
        refine ⟨rfl, hK _ _ ?_⟩
        clear hK
        go_wp2_with fail
        go_ret2
        refine ⟨?_, S38.out.bel⟩
        show Ending.returned (.tuple #[.string (bstr [0]), .int .i64 0]) = _
        (have e_f16 := f16.out; have e_f30 := f30.out; obtain ⟨e1_, e2_⟩ := Pl.p_ok (l := l) (by have := HLEN.out; omega) HVC.out; rw [e1_, e2_]; (have e3_ : l = [] := List.eq_nil_of_length_eq_zero (by have := HLEN.out; omega); rw [e3_]; rfl))
      | false =>
        have f39 := of_decide_eq_false Hc29.out.symm
        go_upto_region 6 with fail
        refine wpG_region_k (fun K hK => ?_)
        refine @wpG_p _ _ _ _ _ (some 25) (.slice A n c) _ _ rfl (by rfl) (fun _ => rfl) ?_
        simp only [n1, n3, n4]
        refine wpG_call (some 26) 33 #[.slice A n c] rfl (by rfl) (fun W => by go_simp) (fun W40 hg41 => ?_)
        refine (palette_any _ _ _ l W40 (HGA.out.gr (S28.out.gr hg41).bel) (by omega)).mono ?_
        rintro e w42 ⟨D, m, dc, rfl, hS_⟩
        refine ⟨_, rfl, ?_⟩
        have hT_ := (S28.out.gr hg41).got hS_
        simp only [n1, n3, n4]
        have S43 : Hid (St w noB [own (.slice D m dc) 3 1 m (ic (Pl.pal l))] w42) := Lib.hid hT_
        clear S28
        clear hT_ hS_ hg41
        have hlm : Hid (m = (Pl.pal l).length) := Lib.hid (own_icl (S43.out.ownr 0 rfl))
        have HML := hlm
        have hm64_ : m ≤ 64 := by have := HML.out; have := Pl.pal_len l; have := HLEN.out; omega
        refine @wpG_p _ _ _ _ _ (some 5) (.slice D m dc) _ _ rfl (by rfl) (fun _ => rfl) ?_
        simp only [n1, n3, n4]
        refine wpG_done (fun V44 hv45 => ?_)
        have S46 : Hid (St w noB [own (.slice D m dc) 3 1 m (ic (Pl.pal l))] V44) := Lib.hid (S43.out.gr hv45)
        clear S43
        clear hv45
        refine ⟨rfl, hK _ _ ?_⟩
        clear hK
        go_upto_region 7 with fail
        refine wpG_region_k (fun K hK => ?_)
        refine @wpG_p _ _ _ _ _ (some 27) (.slice A n c) _ _ rfl (by rfl) (fun _ => rfl) ?_
        simp only [n1, n3, n4]
        refine @wpG_p _ _ _ _ _ (some 28) (.int .i64 (n : Int)) _ _ rfl (by rfl) (fun W => by go_simp) ?_
        simp only [n1, n3, n4]
        refine @wpG_p _ _ _ _ _ (some 29) (.int .u8 (n : Int)) _ _ rfl (by rfl) (fun W => op_conv_n8 n (by omega) rfl rfl Try.underlying3 Try.underlying5) ?_
        simp only [n1, n3, n4]
        refine @wpG_p _ _ _ _ _ (some 30) (.slice D m dc) _ _ rfl (by rfl) (fun _ => rfl) ?_
        simp only [n1, n3, n4]
        refine @wpG_p _ _ _ _ _ (some 31) (.int .i64 (m : Int)) _ _ rfl (by rfl) (fun W => by go_simp) ?_
        simp only [n1, n3, n4]
        refine @wpG_p _ _ _ _ _ (some 32) (.int .u8 (m : Int)) _ _ rfl (by rfl) (fun W => op_conv_n8 m (by omega) rfl rfl Try.underlying3 Try.underlying5) ?_
        simp only [n1, n3, n4]
        refine wpG_val (some 33) rfl (by rfl) (fun W47 hg48 => ⟨.slice (some ⟨W47.heap.size, 0, none⟩) 2 2, W47.alloc (.cells #[.int .u8 (n : Int), .int .u8 (m : Int)] 5), by (go_simp <;> rfl), ?_⟩)
        simp only [n1, n3, n4]
        obtain ⟨g49, U50, hg_, hu_, hS_⟩ := (S46.out.gr hg48).made [.int .u8 (n : Int), .int .u8 (m : Int)] 5
        rw [← hu_, ← hg_]
        have S51 : Hid (St w noB [blk g49 5 [.int .u8 (n : Int), .int .u8 (m : Int)], own (.slice D m dc) 3 1 m (ic (Pl.pal l))] U50) := Lib.hid hS_
        clear S46
        clear hg_ hu_ hS_ hg48
        refine @wpG_p _ _ _ _ _ (some 6) (.slice (some ⟨g49, 0, none⟩) 2 2) _ _ rfl (by rfl) (fun _ => rfl) ?_
        simp only [n1, n3, n4]
        refine wpG_done (fun V52 hv53 => ?_)
        have S54 : Hid (St w noB [blk g49 5 [.int .u8 (n : Int), .int .u8 (m : Int)], own (.slice D m dc) 3 1 m (ic (Pl.pal l))] V52) := Lib.hid (S51.out.gr hv53)
        clear S51
        clear hv53
        refine ⟨rfl, hK _ _ ?_⟩
        clear hK
        go_upto_region 8 with fail
        refine wpG_region_k (fun K hK => ?_)
        refine @wpG_p _ _ _ _ _ (some 7) (.int .i64 0) _ _ rfl (by rfl) (fun _ => rfl) ?_
        simp only [n1, n3, n4]
        refine wpG_done (fun V55 hv56 => ?_)
        have S57 : Hid (St w noB [blk g49 5 [.int .u8 (n : Int), .int .u8 (m : Int)], own (.slice D m dc) 3 1 m (ic (Pl.pal l))] V55) := Lib.hid (S54.out.gr hv56)
        clear S54
        clear hv56
        refine ⟨rfl, hK _ _ ?_⟩
        clear hK
        have S58 : Hid (St w noB [own (.slice (some ⟨g49, 0, none⟩) 2 2) 5 1 2 [.int .u8 (n : Int), .int .u8 (m : Int)], own (.slice D m dc) 3 1 m (ic (Pl.pal l))] V55) := Lib.hid ((S57.out.front 0 rfl).toOwn 1 2 (by rfl) (by simp [maxLen]))
        clear S57
        have S59 : Hid (St w noB [own (.slice (some ⟨g49, 0, none⟩) 2 2) 5 1 2 (bc (Pl.hd l 0)), own (.slice D m dc) 3 1 m (ic (Pl.pal l))] V55) := Lib.hid (by have h_ := S58.out; rw [show [.int .u8 (n : Int), .int .u8 (m : Int)] = bc (Pl.hd l 0) from (by unfold Pl.hd; rw [bv_n (show n < 256 by omega), bv_n (show m < 256 by omega), HLEN.out, ← HML.out]; rfl)] at h_; exact h_)
        clear S58
        go_wp2_with fail
        go_loopw [6, 7] (fun v6 v7 wr => ∃ (E : Option Addr) (q d k : Nat), v6 = .slice E q d ∧ v7 = .int .i64 (k : Int) ∧ k ≤ m ∧ q ≤ k + 2 ∧ St w noB [own (.slice E q d) 5 1 q (bc (Pl.hd l k)), own (.slice D m dc) 3 1 m (ic (Pl.pal l))] wr) (fun a i _ => m - (intOf i).toNat)
        case atStart => exact ⟨some ⟨g49, 0, none⟩, 2, 2, 0, rfl, rfl, Nat.zero_le _, (by omega), S59.out⟩
        case round =>
          obtain ⟨E, q, d, k, rfl, rfl, hkm, hqk, hS⟩ := hrel
          have SL := Lib.hid hS
          clear S59 hS
          have S60 := SL
          clear SL
          go_upto_region 9 with fail
          refine wpG_region_k (fun K hK => ?_)
          refine @wpG_p _ _ _ _ _ (some 34) (.int .i64 (k : Int)) _ _ rfl (by rfl) (fun _ => rfl) ?_
          simp only [n1, n3, n4]
          refine @wpG_p _ _ _ _ _ (some 35) (.slice D m dc) _ _ rfl (by rfl) (fun _ => rfl) ?_
          simp only [n1, n3, n4]
          refine @wpG_p _ _ _ _ _ (some 36) (.int .i64 (m : Int)) _ _ rfl (by rfl) (fun W => by go_simp) ?_
          simp only [n1, n3, n4]
          refine @wpG_p _ _ _ _ _ (some 37) (.bool (decide ((k : Int) < (m : Int)))) _ _ rfl (by rfl) (fun W => op_int_lss W (k : Int) (m : Int) rfl rfl rfl Try.underlying3) ?_
          simp only [n1, n3, n4]
          refine wpG_done (fun V61 hv62 => ?_)
          have S63 : Hid (St w noB [own (.slice E q d) 5 1 q (bc (Pl.hd l k)), own (.slice D m dc) 3 1 m (ic (Pl.pal l))] V61) := Lib.hid (S60.out.gr hv62)
          clear S60
          clear hv62
          refine ⟨rfl, hK _ _ ?_⟩
          clear hK
          obtain ⟨c64, hc64⟩ : ∃ q_, q_ = (decide ((k : Int) < (m : Int))) := ⟨_, rfl⟩
          rw [← hc64]
          have Hc64 := Lib.hid hc64
          clear hc64
          cases c64 with
          | true =>
            have f65 := of_decide_eq_true Hc64.out.symm
            go_upto_region 11 with fail
            refine wpG_region_k (fun K hK => ?_)
            refine @wpG_p _ _ _ _ _ (some 40) (.slice E q d) _ _ rfl (by rfl) (fun _ => rfl) ?_
            simp only [n1, n3, n4]
            refine @wpG_p _ _ _ _ _ (some 41) (.slice D m dc) _ _ rfl (by rfl) (fun _ => rfl) ?_
            simp only [n1, n3, n4]
            refine @wpG_p _ _ _ _ _ (some 42) (.int .i64 (k : Int)) _ _ rfl (by rfl) (fun _ => rfl) ?_
            simp only [n1, n3, n4]
            obtain ⟨og66, rfl⟩ := ownAdr (S63.out.ownr 1 rfl) (by omega)
            have hix_ : k < m := by omega
            refine @wpG_p _ _ _ _ _ (some 43) (.pointer (some ⟨og66, k, none⟩)) _ _ rfl (by rfl) (fun W => by (go_simp <;> first | rfl | omega | (simp; omega))) ?_
            simp only [n1, n3, n4]
            refine @wpG_r _ _ _ _ _ (some 44) (.int .i64 ((Pl.pal l).getD k 0)) _ _ rfl (by rfl) (fun W hg => by have c := (SL.ofOwn ((S63.out.gr hg).ownr 1 rfl)).int (l := (Pl.pal l)) k (by (first | (have := HLEN.out; omega) | (have := HML.out; omega))) 0 _ rfl; (try simp only [Nat.add_zero, Nat.zero_add] at c); go_simp) ?_
            simp only [n1, n3, n4]
            obtain ⟨hc0_, hc1_⟩ : _ ∧ _ := Pl.getD_cell (Pl.pal_cell (Pl.vc_iff.1 HVC.out)) (k := k) (by have := HML.out; omega)
            obtain ⟨q67, hq_⟩ : ∃ q_ : Nat, ((Pl.pal l).getD k 0) = (q_ : Int) := ⟨(((Pl.pal l).getD k 0)).toNat, by omega⟩
            rw [hq_]
            have HQq67 := Lib.hid hq_
            clear hq_
            have hqb : q67 < 256 := by have := HQq67.out; omega
            refine @wpG_p _ _ _ _ _ (some 45) (.int .u8 (q67 : Int)) _ _ rfl (by rfl) (fun W => op_conv_n8 q67 (by omega) rfl rfl Try.underlying3 Try.underlying5) ?_
            simp only [n1, n3, n4]
            refine wpG_val (some 46) rfl (by rfl) (fun W68 hg69 => ⟨.slice (some ⟨W68.heap.size, 0, none⟩) 1 1, W68.alloc (.cells #[.int .u8 (q67 : Int)] 5), by (go_simp <;> rfl), ?_⟩)
            simp only [n1, n3, n4]
            obtain ⟨g70, U71, hg_, hu_, hS_⟩ := (S63.out.gr hg69).made [.int .u8 (q67 : Int)] 5
            rw [← hu_, ← hg_]
            have S72 : Hid (St w noB [blk g70 5 [.int .u8 (q67 : Int)], own (.slice E q d) 5 1 q (bc (Pl.hd l k)), own (.slice (some ⟨og66, 0, none⟩) m dc) 3 1 m (ic (Pl.pal l))] U71) := Lib.hid hS_
            clear S63
            clear hg_ hu_ hS_ hg69
            have S73 : Hid (St w noB [own (.slice E q d) 5 1 q (bc (Pl.hd l k)), blk g70 5 [.int .u8 (q67 : Int)], own (.slice (some ⟨og66, 0, none⟩) m dc) 3 1 m (ic (Pl.pal l))] U71) := Lib.hid (S72.out.front 1 rfl)
            clear S72
            refine wpG_appS (some 47) rfl rfl (.tmp 40) (.tmp 46) 43 43 rfl 5 1 1 Try.underlying43 (by kernel_rfl) (.slice E q d) q (bc (Pl.hd l k)) S73.out (.slice (some ⟨g70, 0, none⟩) 1 1) 1 [.int .u8 (q67 : Int)] (fun W hg => src_lies Try.underlying43 1 rfl (fun h => by cases h) (by intro u hu; simp at hu; rcases hu with rfl <;> rfl) ((S73.out.gr hg).liesBlk 1 rfl)) rfl rfl (by simp only [maxLen]; omega) (by omega) (fun v74 W75 hS_ => ?_)
            simp only [n1, n3, n4]
            obtain ⟨A76, k77, rfl, hle_, hcap_, _⟩ := own_shape (hS_.ownr 0 rfl)
            have S78 : Hid (St w noB [own (.slice A76 (q + 1) k77) 5 1 (q + 1) (bc (Pl.hd l k) ++ [.int .u8 (q67 : Int)]), blk g70 5 [.int .u8 (q67 : Int)], own (.slice (some ⟨og66, 0, none⟩) m dc) 3 1 m (ic (Pl.pal l))] W75) := Lib.hid hS_
            clear S73
            clear hS_
            have S79 : Hid (St w noB [own (.slice A76 (q + 1) k77) 5 1 (q + 1) (bc (Pl.hd l k ++ [UInt8.ofNat q67])), blk g70 5 [.int .u8 (q67 : Int)], own (.slice (some ⟨og66, 0, none⟩) m dc) 3 1 m (ic (Pl.pal l))] W75) := Lib.hid (by have h_ := S78.out; rw [show bc (Pl.hd l k) ++ [.int .u8 (q67 : Int)] = bc (Pl.hd l k ++ [UInt8.ofNat q67]) from (by rw [bv_n hqb, show [bv (UInt8.ofNat q67)] = bc [UInt8.ofNat q67] from rfl, bc_app])] at h_; exact h_)
            clear S78
            refine @wpG_p _ _ _ _ _ (some 6) (.slice A76 (q + 1) k77) _ _ rfl (by rfl) (fun _ => rfl) ?_
            simp only [n1, n3, n4]
            refine wpG_done (fun V80 hv81 => ?_)
            have S82 : Hid (St w noB [own (.slice A76 (q + 1) k77) 5 1 (q + 1) (bc (Pl.hd l k ++ [UInt8.ofNat q67])), blk g70 5 [.int .u8 (q67 : Int)], own (.slice (some ⟨og66, 0, none⟩) m dc) 3 1 m (ic (Pl.pal l))] V80) := Lib.hid (S79.out.gr hv81)
            clear S79
            clear hv81
            refine ⟨rfl, hK _ _ ?_⟩
            clear hK
            go_upto_region 10 with fail
            refine wpG_region_k (fun K hK => ?_)
            refine @wpG_p _ _ _ _ _ (some 38) (.int .i64 (k : Int)) _ _ rfl (by rfl) (fun _ => rfl) ?_
            simp only [n1, n3, n4]
            refine @wpG_p _ _ _ _ _ (some 39) (.int .i64 ((k : Int) + 1)) _ _ rfl (by rfl) (fun W => op_i_add W (k : Int) 1 (by omega) rfl rfl rfl Try.underlying3) ?_
            simp only [n1, n3, n4]
            refine @wpG_p _ _ _ _ _ (some 7) (.int .i64 ((k : Int) + 1)) _ _ rfl (by rfl) (fun _ => rfl) ?_
            simp only [n1, n3, n4]
            refine wpG_done (fun V83 hv84 => ?_)
            have S85 : Hid (St w noB [own (.slice A76 (q + 1) k77) 5 1 (q + 1) (bc (Pl.hd l k ++ [UInt8.ofNat q67])), blk g70 5 [.int .u8 (q67 : Int)], own (.slice (some ⟨og66, 0, none⟩) m dc) 3 1 m (ic (Pl.pal l))] V83) := Lib.hid (S82.out.gr hv84)
            clear S82
            clear hv84
            refine ⟨rfl, hK _ _ ?_⟩
            clear hK
            go_wp2_with fail
            go_roundw
            have S86 : Hid (St w noB [own (.slice A76 (q + 1) k77) 5 1 (q + 1) (bc (Pl.hd l k ++ [UInt8.ofNat q67])), own (.slice (some ⟨og66, 0, none⟩) m dc) 3 1 m (ic (Pl.pal l))] V83) := Lib.hid (S85.out.sub (.cons_cons _ (.cons _ (.cons_cons _ .slnil))))
            clear S85
            case rel => exact ⟨A76, q + 1, k77, k + 1, (by first | rfl | go_num), (by first | rfl | go_num), (by omega), (by omega), (by rw [Pl.hd_succ (by have := HML.out; omega) HQq67.out]; exact S86.out)⟩
            case measure => first | (simp only [intOf]; omega) | (simp [intOf]; done) | (simp [intOf]; omega) | omega
          | false =>
            have f87 := of_decide_eq_false Hc64.out.symm
            go_upto_region 12 with fail
            refine wpG_region_k (fun K hK => ?_)
            have hkm_ : k = m := by omega
            have S88 : Hid (St w noB [own (.slice E q d) 5 1 q (bc (Pl.tx l (Pl.wd m) 0)), own (.slice D m dc) 3 1 m (ic (Pl.pal l))] V61) := Lib.hid (by have h_ := S63.out; rw [show bc (Pl.hd l k) = bc (Pl.tx l (Pl.wd m) 0) from (by rw [hkm_, HML.out, Pl.tx_zero])] at h_; exact h_)
            clear S63
            clear hkm_
            have HWP : Hid ((Pl.wd m) = Pl.wd (Pl.pal l).length) := Lib.hid (by rw [← HML.out])
            have hw8_ : (Pl.wd m) ≤ 8 := by rcases Pl.wd_cases m with e_ | e_ | e_ | e_ | e_ <;> omega
            refine @wpG_p _ _ _ _ _ (some 48) (.slice D m dc) _ _ rfl (by rfl) (fun _ => rfl) ?_
            simp only [n1, n3, n4]
            refine @wpG_p _ _ _ _ _ (some 49) (.int .i64 (m : Int)) _ _ rfl (by rfl) (fun W => by go_simp) ?_
            simp only [n1, n3, n4]
            refine @wpG_tk _ _ _ _ _ (some 50) (.int .i64 (Pl.wd m : Int)) _ _ rfl (.call (f := 34) (args := #[.int .i64 (m : Int)]) (by rfl) (fun W => by go_simp) (fun W hg => rwidth_any m W)) ?_
            simp only [n1, n3, n4]
            refine @wpG_p _ _ _ _ _ (some 8) (.int .i64 (Pl.wd m : Int)) _ _ rfl (by rfl) (fun _ => rfl) ?_
            simp only [n1, n3, n4]
            refine wpG_done (fun V89 hv90 => ?_)
            have S91 : Hid (St w noB [own (.slice E q d) 5 1 q (bc (Pl.tx l (Pl.wd m) 0)), own (.slice D m dc) 3 1 m (ic (Pl.pal l))] V89) := Lib.hid (S88.out.gr hv90)
            clear S88
            clear hv90
            refine ⟨rfl, hK _ _ ?_⟩
            clear hK
            go_upto_region 13 with fail
            refine wpG_region_k (fun K hK => ?_)
            refine @wpG_p _ _ _ _ _ (some 9) (.int .i64 0) _ _ rfl (by rfl) (fun _ => rfl) ?_
            simp only [n1, n3, n4]
            refine wpG_done (fun V92 hv93 => ?_)
            have S94 : Hid (St w noB [own (.slice E q d) 5 1 q (bc (Pl.tx l (Pl.wd m) 0)), own (.slice D m dc) 3 1 m (ic (Pl.pal l))] V92) := Lib.hid (S91.out.gr hv93)
            clear S91
            clear hv93
            refine ⟨rfl, hK _ _ ?_⟩
            clear hK
            go_upto_region 14 with fail
            refine wpG_region_k (fun K hK => ?_)
            refine @wpG_p _ _ _ _ _ (some 10) (.int .i64 0) _ _ rfl (by rfl) (fun _ => rfl) ?_
            simp only [n1, n3, n4]
            refine wpG_done (fun V95 hv96 => ?_)
            have S97 : Hid (St w noB [own (.slice E q d) 5 1 q (bc (Pl.tx l (Pl.wd m) 0)), own (.slice D m dc) 3 1 m (ic (Pl.pal l))] V95) := Lib.hid (S94.out.gr hv96)
            clear S94
            clear hv96
            refine ⟨rfl, hK _ _ ?_⟩
            clear hK
            have hql_ := (S97.out.ownr 0 rfl).1
            rw [bc_len] at hql_
            have HQL := Lib.hid hql_
            clear hql_
            go_wp2_with fail
            go_loopw [6, 9, 10] (fun v6 v9 v10 wr => ∃ (E : Option Addr) (q d a i : Nat), v6 = .slice E q d ∧ v9 = .int .i64 (a : Int) ∧ v10 = .int .i64 (i : Int) ∧ i ≤ n ∧ a = i * (Pl.wd m) ∧ ((Pl.wd m) = 0 → i = 0) ∧ St w noB [own (.slice E q d) 5 1 q (bc (Pl.tx l (Pl.wd m) i)), own (.slice D m dc) 3 1 m (ic (Pl.pal l))] wr) (fun a b i _ => n - (intOf i).toNat)
            case atStart => exact ⟨E, q, d, 0, 0, rfl, rfl, rfl, Nat.zero_le _, (by omega), (fun _ => rfl), S97.out⟩
            case round =>
              obtain ⟨E, q, d, a, i, rfl, rfl, rfl, hin, hbe, hw0, hS⟩ := hrel
              have HBE := Lib.hid hbe
              clear hbe
              have SL := Lib.hid hS
              clear S97 hS
              have S98 := SL
              clear SL
              go_upto_region 15 with fail
              refine wpG_region_k (fun K hK => ?_)
              refine @wpG_p _ _ _ _ _ (some 51) (.int .i64 (i : Int)) _ _ rfl (by rfl) (fun _ => rfl) ?_
              simp only [n1, n3, n4]
              refine @wpG_p _ _ _ _ _ (some 52) (.slice A n c) _ _ rfl (by rfl) (fun _ => rfl) ?_
              simp only [n1, n3, n4]
              refine @wpG_p _ _ _ _ _ (some 53) (.int .i64 (n : Int)) _ _ rfl (by rfl) (fun W => by go_simp) ?_
              simp only [n1, n3, n4]
              refine @wpG_p _ _ _ _ _ (some 54) (.bool (decide ((i : Int) < (n : Int)))) _ _ rfl (by rfl) (fun W => op_int_lss W (i : Int) (n : Int) rfl rfl rfl Try.underlying3) ?_
              simp only [n1, n3, n4]
              refine @wpG_p _ _ _ _ _ (some 55) (.bool (decide ((i : Int) < (n : Int)))) _ _ rfl (by rfl) (fun _ => rfl) ?_
              simp only [n1, n3, n4]
              obtain ⟨c99, hc99⟩ : ∃ q_, q_ = (decide ((i : Int) < (n : Int))) := ⟨_, rfl⟩
              rw [← hc99]
              have Hc99 := Lib.hid hc99
              clear hc99
              cases c99 with
              | true =>
                have f100 := of_decide_eq_true Hc99.out.symm
                refine @wpG_p _ _ _ _ _ (some 56) (.int .i64 (Pl.wd m : Int)) _ _ rfl (by rfl) (fun _ => rfl) ?_
                simp only [n1, n3, n4]
                refine @wpG_p _ _ _ _ _ (some 57) (.bool (decide ((Pl.wd m : Int) > 0))) _ _ rfl (by rfl) (fun W => op_int_gtr W (Pl.wd m : Int) 0 rfl rfl rfl Try.underlying3) ?_
                simp only [n1, n3, n4]
                refine @wpG_p _ _ _ _ _ (some 58) (.bool (decide ((Pl.wd m : Int) > 0))) _ _ rfl (by rfl) (fun W => by go_simp) ?_
                simp only [n1, n3, n4]
                refine wpG_done (fun V101 hv102 => ?_)
                have S103 : Hid (St w noB [own (.slice E q d) 5 1 q (bc (Pl.tx l (Pl.wd m) i)), own (.slice D m dc) 3 1 m (ic (Pl.pal l))] V101) := Lib.hid (S98.out.gr hv102)
                clear S98
                clear hv102
                refine ⟨rfl, hK _ _ ?_⟩
                clear hK
                obtain ⟨c104, hc104⟩ : ∃ q_, q_ = (decide ((Pl.wd m : Int) > 0)) := ⟨_, rfl⟩
                rw [← hc104]
                have Hc104 := Lib.hid hc104
                clear hc104
                cases c104 with
                | true =>
                  have f105 := of_decide_eq_true Hc104.out.symm
                  go_upto_region 17 with fail
                  refine wpG_region_k (fun K hK => ?_)
                  refine @wpG_p _ _ _ _ _ (some 61) (.int .i64 (a : Int)) _ _ rfl (by rfl) (fun _ => rfl) ?_
                  simp only [n1, n3, n4]
                  have hw4_ : (Pl.wd m) = 1 ∨ (Pl.wd m) = 2 ∨ (Pl.wd m) = 4 ∨ (Pl.wd m) = 8 := by rcases Pl.wd_cases m with e_ | e_ | e_ | e_ | e_ <;> omega
                  have hab_ : a ≤ 64 * 8 := by rw [HBE.out]; exact Nat.mul_le_mul (by omega) hw8_
                  have hqb2_ : q ≤ 2 + m + 64 := by have h_ := (S103.out.ownr 0 rfl).1; rw [bc_len] at h_; unfold Pl.tx at h_; rw [List.length_append, Pl.hd_len, Pl.le_len, ← HML.out] at h_; have := Pl.room_le (n := i) (w := (Pl.wd m)) (by omega) hw8_; omega
                  obtain ⟨a8, h_a8⟩ : ∃ q_ : Nat, q_ = a % 8 := ⟨_, rfl⟩
                  have ha8_ : a8 < 8 ∧ a8 = a % 8 := by omega
                  have Ha8 := Lib.hid h_a8
                  clear h_a8
                  refine @wpG_p _ _ _ _ _ (some 62) (.int .i64 (a8 : Int)) _ _ rfl (by rfl) (fun W => op_n_rem a 8 a8 Ha8.out.symm (by decide) rfl rfl rfl) ?_
                  simp only [n1, n3, n4]
                  refine @wpG_p _ _ _ _ _ (some 63) (.bool (decide ((a8 : Int) = 0))) _ _ rfl (by rfl) (fun W => op_int_eql W (a8 : Int) 0 rfl rfl rfl Try.underlying3) ?_
                  simp only [n1, n3, n4]
                  refine wpG_done (fun V106 hv107 => ?_)
                  have S108 : Hid (St w noB [own (.slice E q d) 5 1 q (bc (Pl.tx l (Pl.wd m) i)), own (.slice D m dc) 3 1 m (ic (Pl.pal l))] V106) := Lib.hid (S103.out.gr hv107)
                  clear S103
                  clear hv107
                  refine ⟨rfl, hK _ _ ?_⟩
                  clear hK
                  obtain ⟨c109, hc109⟩ : ∃ q_, q_ = (decide ((a8 : Int) = 0)) := ⟨_, rfl⟩
                  rw [← hc109]
                  have Hc109 := Lib.hid hc109
                  clear hc109
                  cases c109 with
                  | true =>
                    have f110 := Lib.hid (of_decide_eq_true Hc109.out.symm)
                    have f110a := Int.le_of_eq f110.out
                    have f110b := Int.le_of_eq f110.out.symm
                    go_upto_region 18 with fail
                    refine wpG_region_k (fun K hK => ?_)
                    refine @wpG_p _ _ _ _ _ (some 64) (.slice E q d) _ _ rfl (by rfl) (fun _ => rfl) ?_
                    simp only [n1, n3, n4]
                    refine wpG_val (some 65) rfl (by rfl) (fun W111 hg112 => ⟨.slice (some ⟨W111.heap.size, 0, none⟩) 1 1, W111.alloc (.cells #[.int .u8 0] 5), by (go_simp <;> rfl), ?_⟩)
                    simp only [n1, n3, n4]
                    obtain ⟨g113, U114, hg_, hu_, hS_⟩ := (S108.out.gr hg112).made [.int .u8 0] 5
                    rw [← hu_, ← hg_]
                    have S115 : Hid (St w noB [blk g113 5 [.int .u8 0], own (.slice E q d) 5 1 q (bc (Pl.tx l (Pl.wd m) i)), own (.slice D m dc) 3 1 m (ic (Pl.pal l))] U114) := Lib.hid hS_
                    clear S108
                    clear hg_ hu_ hS_ hg112
                    have S116 : Hid (St w noB [own (.slice E q d) 5 1 q (bc (Pl.tx l (Pl.wd m) i)), blk g113 5 [.int .u8 0], own (.slice D m dc) 3 1 m (ic (Pl.pal l))] U114) := Lib.hid (S115.out.front 1 rfl)
                    clear S115
                    refine wpG_appS (some 66) rfl rfl (.tmp 64) (.tmp 65) 43 43 rfl 5 1 1 Try.underlying43 (by kernel_rfl) (.slice E q d) q (bc (Pl.tx l (Pl.wd m) i)) S116.out (.slice (some ⟨g113, 0, none⟩) 1 1) 1 [.int .u8 0] (fun W hg => src_lies Try.underlying43 1 rfl (fun h => by cases h) (by intro u hu; simp at hu; rcases hu with rfl <;> rfl) ((S116.out.gr hg).liesBlk 1 rfl)) rfl rfl (by simp only [maxLen]; omega) (by omega) (fun v117 W118 hS_ => ?_)
                    simp only [n1, n3, n4]
                    obtain ⟨A119, k120, rfl, hle_, hcap_, _⟩ := own_shape (hS_.ownr 0 rfl)
                    have S121 : Hid (St w noB [own (.slice A119 (q + 1) k120) 5 1 (q + 1) (bc (Pl.tx l (Pl.wd m) i) ++ [.int .u8 0]), blk g113 5 [.int .u8 0], own (.slice D m dc) 3 1 m (ic (Pl.pal l))] W118) := Lib.hid hS_
                    clear S116
                    clear hS_
                    have S122 : Hid (St w noB [own (.slice A119 (q + 1) k120) 5 1 (q + 1) (bc (Pl.hd l (Pl.pal l).length ++ Pl.le (Pl.room (i + 1) (Pl.wd m)) (Pl.S (Pl.wd m) (Pl.ix (Pl.pal l) l) i))), blk g113 5 [.int .u8 0], own (.slice D m dc) 3 1 m (ic (Pl.pal l))] W118) := Lib.hid (by have h_ := S121.out; rw [show bc (Pl.tx l (Pl.wd m) i) ++ [.int .u8 0] = bc (Pl.hd l (Pl.pal l).length ++ Pl.le (Pl.room (i + 1) (Pl.wd m)) (Pl.S (Pl.wd m) (Pl.ix (Pl.pal l) l) i)) from (by have h8_ : i * (Pl.wd m) % 8 = 0 := (by have h_ := HBE.out; rw [← h_, ← Ha8.out]; omega); have h_ := Pl.tx_grow (l := l) (i := i) (w := (Pl.wd m)) (by have := HLEN.out; omega) (by have := HLEN.out; omega) HWP.out hw4_ h8_; rw [← h_, ← bc_app]; rfl)] at h_; exact h_)
                    clear S121
                    refine @wpG_p _ _ _ _ _ (some 6) (.slice A119 (q + 1) k120) _ _ rfl (by rfl) (fun _ => rfl) ?_
                    simp only [n1, n3, n4]
                    refine wpG_done (fun V123 hv124 => ?_)
                    have S125 : Hid (St w noB [own (.slice A119 (q + 1) k120) 5 1 (q + 1) (bc (Pl.hd l (Pl.pal l).length ++ Pl.le (Pl.room (i + 1) (Pl.wd m)) (Pl.S (Pl.wd m) (Pl.ix (Pl.pal l) l) i))), blk g113 5 [.int .u8 0], own (.slice D m dc) 3 1 m (ic (Pl.pal l))] V123) := Lib.hid (S122.out.gr hv124)
                    clear S122
                    clear hv124
                    refine ⟨rfl, hK _ _ ?_⟩
                    clear hK
                    go_upto_region 19 with fail
                    refine wpK_region_k (by kernel_rfl) (fun K hK => ?_)
                    have hln_ : Hid (q + 1 = (Pl.pal l).length + 2 + Pl.room (i + 1) (Pl.wd m)) := Lib.hid (by have h_ := (S125.out.ownr 0 rfl).1; rw [bc_len, List.length_append, Pl.hd_len, Pl.le_len] at h_; omega)
                    have hln2_ : 2 ≤ q + 1 := by have := hln_.out; omega
                    refine wpK_ta (i := 0) (some 67) (v := .slice A119 (q + 1) k120) rfl rfl (by kernel_rfl) (fun _ _ _ h => onN_panic h) (Or.inl ⟨rfl, fun _ => rfl⟩) ?_
                    simp only [n1, n3, n4]
                    refine wpK_ta (i := 1) (some 68) (v := .slice A119 (q + 1) k120) rfl rfl (by kernel_rfl) (fun _ _ _ h => onN_panic h) (Or.inl ⟨rfl, fun _ => rfl⟩) ?_
                    simp only [n1, n3, n4]
                    refine wpK_ta (i := 2) (some 69) (v := .int .i64 (q + 1 : Int)) rfl rfl (by kernel_rfl) (fun _ _ _ h => onN_panic h) (Or.inl ⟨by rfl, fun W => by go_simp⟩) ?_
                    simp only [n1, n3, n4]
                    obtain ⟨e1, h_e1⟩ : ∃ q_ : Nat, q_ = (q + 1) - 1 := ⟨_, rfl⟩
                    have he1b : e1 + 1 ≤ q + 1 ∧ q + 1 ≤ e1 + 1 := by omega
                    have He1 := Lib.hid h_e1
                    clear h_e1
                    refine wpK_ta (i := 3) (some 70) (v := .int .i64 (e1 : Int)) rfl rfl (by kernel_rfl) (fun _ _ _ h => onN_panic h) (Or.inl ⟨by rfl, fun W => by exact op_n_sub (q + 1) 1 e1 (by omega) (by omega) rfl rfl rfl⟩) ?_
                    simp only [n1, n3, n4]
                    refine wpK_ta (i := 4) (some 71) (v := .slice A119 (q + 1) k120) rfl rfl (by kernel_rfl) (fun _ _ _ h => onN_panic h) (Or.inl ⟨rfl, fun _ => rfl⟩) ?_
                    simp only [n1, n3, n4]
                    refine wpK_ta (i := 5) (some 72) (v := .slice A119 (q + 1) k120) rfl rfl (by kernel_rfl) (fun _ _ _ h => onN_panic h) (Or.inl ⟨rfl, fun _ => rfl⟩) ?_
                    simp only [n1, n3, n4]
                    refine wpK_ta (i := 6) (some 73) (v := .int .i64 (q + 1 : Int)) rfl rfl (by kernel_rfl) (fun _ _ _ h => onN_panic h) (Or.inl ⟨by rfl, fun W => by go_simp⟩) ?_
                    simp only [n1, n3, n4]
                    obtain ⟨e2, h_e2⟩ : ∃ q_ : Nat, q_ = (q + 1) - 1 := ⟨_, rfl⟩
                    have he2b : e2 + 1 ≤ q + 1 ∧ q + 1 ≤ e2 + 1 := by omega
                    have He2 := Lib.hid h_e2
                    clear h_e2
                    have HE2 : Hid (e2 + 1 = (Pl.pal l).length + 2 + Pl.room (i + 1) (Pl.wd m)) := Lib.hid (by have := hln_.out; omega)
                    refine wpK_ta (i := 7) (some 74) (v := .int .i64 (e2 : Int)) rfl rfl (by kernel_rfl) (fun _ _ _ h => onN_panic h) (Or.inl ⟨by rfl, fun W => by exact op_n_sub (q + 1) 1 e2 (by omega) (by omega) rfl rfl rfl⟩) ?_
                    simp only [n1, n3, n4]
                    obtain ⟨og126, rfl⟩ := ownAdr (S125.out.ownr 0 rfl) (by omega)
                    refine wpK_ta (i := 8) (some 75) (v := .pointer (some ⟨og126, e2, none⟩)) rfl rfl (by kernel_rfl) (fun _ _ _ h => onN_panic h) (Or.inl ⟨by rfl, fun W => by (go_simp <;> first | rfl | omega | (simp; omega))⟩) ?_
                    simp only [n1, n3, n4]
                    refine wpK_ta (i := 10) (some 77) (v := .slice D m dc) rfl rfl (by kernel_rfl) (fun _ _ _ h => onN_panic h) (Or.inl ⟨rfl, fun _ => rfl⟩) ?_
                    simp only [n1, n3, n4]
                    refine wpK_ta (i := 11) (some 78) (v := .slice A n c) rfl rfl (by kernel_rfl) (fun _ _ _ h => onN_panic h) (Or.inl ⟨rfl, fun _ => rfl⟩) ?_
                    simp only [n1, n3, n4]
                    refine wpK_ta (i := 12) (some 79) (v := .int .i64 (i : Int)) rfl rfl (by kernel_rfl) (fun _ _ _ h => onN_panic h) (Or.inl ⟨rfl, fun _ => rfl⟩) ?_
                    simp only [n1, n3, n4]
                    obtain ⟨b127, o127, rfl⟩ := HGA.out.addr (by decide) (by omega)
                    refine wpK_ta (i := 13) (some 80) (v := .pointer (some ⟨b127, o127 + i, none⟩)) rfl rfl (by kernel_rfl) (fun _ _ _ h => onN_panic h) (Or.inl ⟨by rfl, fun W => by (go_simp <;> first | rfl | omega | (simp; omega))⟩) ?_
                    simp only [n1, n3, n4]
                    refine wpK_ta (i := 16) (some 83) (v := .int .i64 (a : Int)) rfl rfl (by kernel_rfl) (fun _ _ _ h => onN_panic h) (Or.inl ⟨rfl, fun _ => rfl⟩) ?_
                    simp only [n1, n3, n4]
                    obtain ⟨r8, h_r8⟩ : ∃ q_ : Nat, q_ = a % 8 := ⟨_, rfl⟩
                    have hr8b : r8 < 8 := by omega
                    have Hr8 := Lib.hid h_r8
                    clear h_r8
                    refine wpK_ta (i := 17) (some 84) (v := .int .i64 (r8 : Int)) rfl rfl (by kernel_rfl) (fun _ _ _ h => onN_panic h) (Or.inl ⟨by rfl, fun W => by exact op_n_rem a 8 r8 Hr8.out.symm (by decide) rfl rfl rfl⟩) ?_
                    simp only [n1, n3, n4]
                    obtain ⟨xo, h_xo⟩ : ∃ q_ : Nat, q_ = Pl.S (Pl.wd m) (Pl.ix (Pl.pal l) l) i / 2 ^ (8 * (i * (Pl.wd m) / 8)) % 256 := ⟨_, rfl⟩
                    have hxob : xo < 256 := by rw [h_xo]; exact Nat.mod_lt _ (by decide)
                    have Hxo := Lib.hid h_xo
                    clear h_xo
                    refine wpK_tk (i := 9) (some 76) (v := .int .u8 (xo : Int)) rfl rfl (by kernel_rfl) (fun _ _ _ h => onN_panic h) (.val (by rfl) (fun W hg => by have c := own_at (k := e2) (v := .int .u8 (xo : Int)) ((S125.out.gr (Gr.un hg)).ownr 0 rfl) (by rw [Hxo.out]; exact (bc_at (Pl.tx_cell hw4_ HE2.out)).trans (by rw [Pl.u8n (Nat.mod_lt _ (by decide))])); go_simp)) ?_
                    simp only [n1, n3, n4]
                    refine wpK_tk (i := 14) (some 81) (v := .int .i64 (l.getD i 0)) rfl rfl (by kernel_rfl) (fun _ _ _ h => onN_panic h) (.val (by rfl) (fun W hg => by have c := (((HGA.out.gr ((S125.out.gr (Gr.un hg))).bel).int (l := l) i (by (first | (have := HLEN.out; omega) | (have := HML.out; omega))))) 0 _ rfl; (try simp only [Nat.add_zero, Nat.zero_add] at c); go_simp)) ?_
                    simp only [n1, n3, n4]
                    obtain ⟨xi, h_xi⟩ : ∃ q_ : Nat, q_ = List.idxOf (l.getD i 0) (Pl.pal l) := ⟨_, rfl⟩
                    have Hxi := Lib.hid h_xi
                    clear h_xi
                    obtain ⟨hps1_, hps2_, _⟩ := Pl.pack_step (w := (Pl.wd m)) (i := i) (f := Pl.ix (Pl.pal l) l) hw4_ (fun j hj => by rw [HWP.out]; exact Pl.ix_pow (by have := HLEN.out; omega) (by have := HLEN.out; omega))
                    have HPS1 : Hid (Pl.ix (Pl.pal l) l i * 2 ^ (i * (Pl.wd m) % 8) < 256) := Lib.hid hps1_
                    have HPS2 := Lib.hid hps2_
                    clear hps1_ hps2_
                    refine wpK_tk (i := 15) (some 82) (v := .int .i64 (xi : Int)) rfl rfl (by kernel_rfl) (fun _ _ _ h => onN_panic h) (.call (f := 35) (args := #[.slice D m dc, .int .i64 (l.getD i 0)]) (by rfl) (fun W => by go_simp) (fun W hg => Hxi.out ▸ index_any _ _ _ (Pl.pal l) (l.getD i 0) W (SL.ofOwn ((S125.out.gr (Gr.un hg)).ownr 2 rfl)))) ?_
                    simp only [n1, n3, n4]
                    obtain ⟨sh, h_sh⟩ : ∃ q_ : Nat, q_ = xi * 2 ^ r8 := ⟨_, rfl⟩
                    have hshb : sh < 256 := by rw [h_sh, Hxi.out, Hr8.out, HBE.out]; exact HPS1.out
                    have Hsh := Lib.hid h_sh
                    clear h_sh
                    refine wpK_ta (i := 18) (some 85) (v := .int .i64 (sh : Int)) rfl rfl (by kernel_rfl) (fun _ _ _ h => onN_panic h) (Or.inl ⟨by rfl, fun W => by exact op_k_shl xi r8 sh Hsh.out.symm (by show r8 ≤ 64; omega) (wrap_n64 (by omega)) rfl rfl rfl⟩) ?_
                    simp only [n1, n3, n4]
                    refine wpK_ta (i := 19) (some 86) (v := .int .u8 (sh : Int)) rfl rfl (by kernel_rfl) (fun _ _ _ h => onN_panic h) (Or.inl ⟨by rfl, fun W => by exact op_conv_n8 sh (by omega) rfl rfl Try.underlying3 Try.underlying5⟩) ?_
                    simp only [n1, n3, n4]
                    obtain ⟨yo, h_yo⟩ : ∃ q_ : Nat, q_ = xo + sh := ⟨_, rfl⟩
                    have hyo_ : yo < 256 := by have h_ := HPS2.out; rw [h_yo, Hxo.out, Hsh.out, Hxi.out, Hr8.out, HBE.out]; exact h_
                    have Hyo := Lib.hid h_yo
                    clear h_yo
                    refine wpK_ta (i := 20) (some 87) (v := .int .u8 (yo : Int)) rfl rfl (by kernel_rfl) (fun _ _ _ h => onN_panic h) (Or.inl ⟨by rfl, fun W => by exact op_u8_add xo sh yo Hyo.out.symm hyo_ rfl rfl rfl⟩) ?_
                    simp only [n1, n3, n4]
                    refine wpK_ta (i := 21) (some 88) (v := .pointer (some ⟨og126, e2, none⟩)) rfl rfl (by kernel_rfl) (fun _ _ _ h => onN_panic h) (Or.inl ⟨by rfl, fun W => by (have e_ : e1 = e2 := (by omega); subst e_; go_simp <;> first | rfl | omega | (simp; omega))⟩) ?_
                    simp only [n1, n3, n4]
                    refine wpK_store (i := 22) (none) rfl rfl (by kernel_rfl) (by rfl) (by rfl) (fun W128 hg129 => ⟨W128.setCell ⟨og126, e2, none⟩ (.int .u8 (yo : Int)), by obtain ⟨⟨_, c⟩, c2⟩ := own_cell (k := e2) ((S125.out.gr (Gr.un hg129)).ownr 0 rfl) (by omega); go_simp, ?_⟩)
                    simp only [n2]
                    obtain ⟨U130, hu_, hS_⟩ := ((S125.out.gr (Gr.un hg129)).ownPutAt 0 rfl (k := e2) (by omega) (.int .u8 (yo : Int))).named
                    rw [← hu_]
                    have S131 : Hid (St w noB [own (.slice (some ⟨og126, 0, none⟩) (q + 1) k120) 5 1 (q + 1) ((bc (Pl.hd l (Pl.pal l).length ++ Pl.le (Pl.room (i + 1) (Pl.wd m)) (Pl.S (Pl.wd m) (Pl.ix (Pl.pal l) l) i))).set e2 (.int .u8 (yo : Int))), blk g113 5 [.int .u8 0], own (.slice D m dc) 3 1 m (ic (Pl.pal l))] U130) := Lib.hid hS_
                    clear S125
                    clear hu_ hS_ hg129
                    refine wpK_done (by kernel_rfl) (fun V132 hv133 => ?_) _
                    have S134 : Hid (St w noB [own (.slice (some ⟨og126, 0, none⟩) (q + 1) k120) 5 1 (q + 1) ((bc (Pl.hd l (Pl.pal l).length ++ Pl.le (Pl.room (i + 1) (Pl.wd m)) (Pl.S (Pl.wd m) (Pl.ix (Pl.pal l) l) i))).set e2 (.int .u8 (yo : Int))), blk g113 5 [.int .u8 0], own (.slice D m dc) 3 1 m (ic (Pl.pal l))] V132) := Lib.hid (S131.out.gr hv133)
                    clear S131
                    clear hv133
                    refine ⟨rfl, hK _ _ ?_⟩
                    clear hK
                    go_upto_region 20 with fail
                    refine wpG_region_k (fun K hK => ?_)
                    refine @wpG_p _ _ _ _ _ (some 89) (.int .i64 (a : Int)) _ _ rfl (by rfl) (fun _ => rfl) ?_
                    simp only [n1, n3, n4]
                    refine @wpG_p _ _ _ _ _ (some 90) (.int .i64 (Pl.wd m : Int)) _ _ rfl (by rfl) (fun _ => rfl) ?_
                    simp only [n1, n3, n4]
                    obtain ⟨ia, h_ia⟩ : ∃ q_ : Nat, q_ = a + Pl.wd m := ⟨_, rfl⟩
                    have hiab : ia ≤ 1000 := by omega
                    have Hia := Lib.hid h_ia
                    clear h_ia
                    refine @wpG_p _ _ _ _ _ (some 91) (.int .i64 (ia : Int)) _ _ rfl (by rfl) (fun W => op_n_add a (Pl.wd m) ia Hia.out.symm (by omega) rfl rfl rfl) ?_
                    simp only [n1, n3, n4]
                    refine @wpG_p _ _ _ _ _ (some 9) (.int .i64 (ia : Int)) _ _ rfl (by rfl) (fun _ => rfl) ?_
                    simp only [n1, n3, n4]
                    refine wpG_done (fun V135 hv136 => ?_)
                    have S137 : Hid (St w noB [own (.slice (some ⟨og126, 0, none⟩) (q + 1) k120) 5 1 (q + 1) ((bc (Pl.hd l (Pl.pal l).length ++ Pl.le (Pl.room (i + 1) (Pl.wd m)) (Pl.S (Pl.wd m) (Pl.ix (Pl.pal l) l) i))).set e2 (.int .u8 (yo : Int))), blk g113 5 [.int .u8 0], own (.slice D m dc) 3 1 m (ic (Pl.pal l))] V135) := Lib.hid (S134.out.gr hv136)
                    clear S134
                    clear hv136
                    refine ⟨rfl, hK _ _ ?_⟩
                    clear hK
                    go_upto_region 16 with fail
                    refine wpG_region_k (fun K hK => ?_)
                    refine @wpG_p _ _ _ _ _ (some 59) (.int .i64 (i : Int)) _ _ rfl (by rfl) (fun _ => rfl) ?_
                    simp only [n1, n3, n4]
                    refine @wpG_p _ _ _ _ _ (some 60) (.int .i64 ((i : Int) + 1)) _ _ rfl (by rfl) (fun W => op_i_add W (i : Int) 1 (by omega) rfl rfl rfl Try.underlying3) ?_
                    simp only [n1, n3, n4]
                    refine @wpG_p _ _ _ _ _ (some 10) (.int .i64 ((i : Int) + 1)) _ _ rfl (by rfl) (fun _ => rfl) ?_
                    simp only [n1, n3, n4]
                    refine wpG_done (fun V138 hv139 => ?_)
                    have S140 : Hid (St w noB [own (.slice (some ⟨og126, 0, none⟩) (q + 1) k120) 5 1 (q + 1) ((bc (Pl.hd l (Pl.pal l).length ++ Pl.le (Pl.room (i + 1) (Pl.wd m)) (Pl.S (Pl.wd m) (Pl.ix (Pl.pal l) l) i))).set e2 (.int .u8 (yo : Int))), blk g113 5 [.int .u8 0], own (.slice D m dc) 3 1 m (ic (Pl.pal l))] V138) := Lib.hid (S137.out.gr hv139)
                    clear S137
                    clear hv139
                    refine ⟨rfl, hK _ _ ?_⟩
                    clear hK
                    go_wp2_with fail
                    go_roundw
                    have S141 : Hid (St w noB [own (.slice (some ⟨og126, 0, none⟩) (q + 1) k120) 5 1 (q + 1) ((bc (Pl.hd l (Pl.pal l).length ++ Pl.le (Pl.room (i + 1) (Pl.wd m)) (Pl.S (Pl.wd m) (Pl.ix (Pl.pal l) l) i))).set e2 (.int .u8 (yo : Int))), own (.slice D m dc) 3 1 m (ic (Pl.pal l))] V138) := Lib.hid (S140.out.sub (.cons_cons _ (.cons _ (.cons_cons _ .slnil))))
                    clear S140
                    case rel => exact ⟨some ⟨og126, 0, none⟩, q + 1, k120, ia, i + 1, (by first | rfl | go_num), (by first | rfl | go_num), (by first | rfl | go_num), (by omega), (by rw [Hia.out, HBE.out, Nat.add_mul, Nat.one_mul]), (fun h_ => by omega), (by have h_ := S141.out; rw [bv_n hyo_, bc_set, Pl.tx_put (i := i) (y := yo) (by have := HLEN.out; omega) (by have := HLEN.out; omega) HWP.out hw4_ HE2.out (by rw [Hyo.out, Hxo.out, Hsh.out, Hxi.out, Hr8.out, HBE.out]; rfl)] at h_; exact h_)⟩
                    case measure => first | (simp only [intOf]; omega) | (simp [intOf]; done) | (simp [intOf]; omega) | omega
                  | false =>
                    have f142 := of_decide_eq_false Hc109.out.symm
                    go_upto_region 19 with fail
                    refine wpK_region_k (by kernel_rfl) (fun K hK => ?_)
                    have S143 : Hid (St w noB [own (.slice E q d) 5 1 q (bc (Pl.hd l (Pl.pal l).length ++ Pl.le (Pl.room (i + 1) (Pl.wd m)) (Pl.S (Pl.wd m) (Pl.ix (Pl.pal l) l) i))), own (.slice D m dc) 3 1 m (ic (Pl.pal l))] V106) := Lib.hid (by have h_ := S108.out; rw [show bc (Pl.tx l (Pl.wd m) i) = bc (Pl.hd l (Pl.pal l).length ++ Pl.le (Pl.room (i + 1) (Pl.wd m)) (Pl.S (Pl.wd m) (Pl.ix (Pl.pal l) l) i)) from (by have h8_ : ¬ i * (Pl.wd m) % 8 = 0 := (by have h_ := HBE.out; rw [← h_, ← Ha8.out]; omega); rw [Pl.tx_stay hw4_ h8_])] at h_; exact h_)
                    clear S108
                    have hln_ : Hid (q = (Pl.pal l).length + 2 + Pl.room (i + 1) (Pl.wd m)) := Lib.hid (by have h_ := (S143.out.ownr 0 rfl).1; rw [bc_len, List.length_append, Pl.hd_len, Pl.le_len] at h_; omega)
                    have hln2_ : 2 ≤ q := by have := hln_.out; omega
                    refine wpK_ta (i := 0) (some 67) (v := .slice E q d) rfl rfl (by kernel_rfl) (fun _ _ _ h => onN_panic h) (Or.inl ⟨rfl, fun _ => rfl⟩) ?_
                    simp only [n1, n3, n4]
                    refine wpK_ta (i := 1) (some 68) (v := .slice E q d) rfl rfl (by kernel_rfl) (fun _ _ _ h => onN_panic h) (Or.inl ⟨rfl, fun _ => rfl⟩) ?_
                    simp only [n1, n3, n4]
                    refine wpK_ta (i := 2) (some 69) (v := .int .i64 (q : Int)) rfl rfl (by kernel_rfl) (fun _ _ _ h => onN_panic h) (Or.inl ⟨by rfl, fun W => by go_simp⟩) ?_
                    simp only [n1, n3, n4]
                    obtain ⟨e1, h_e1⟩ : ∃ q_ : Nat, q_ = q - 1 := ⟨_, rfl⟩
                    have he1b : e1 + 1 ≤ q ∧ q ≤ e1 + 1 := by omega
                    have He1 := Lib.hid h_e1
                    clear h_e1
                    refine wpK_ta (i := 3) (some 70) (v := .int .i64 (e1 : Int)) rfl rfl (by kernel_rfl) (fun _ _ _ h => onN_panic h) (Or.inl ⟨by rfl, fun W => by exact op_n_sub q 1 e1 (by omega) (by omega) rfl rfl rfl⟩) ?_
                    simp only [n1, n3, n4]
                    refine wpK_ta (i := 4) (some 71) (v := .slice E q d) rfl rfl (by kernel_rfl) (fun _ _ _ h => onN_panic h) (Or.inl ⟨rfl, fun _ => rfl⟩) ?_
                    simp only [n1, n3, n4]
                    refine wpK_ta (i := 5) (some 72) (v := .slice E q d) rfl rfl (by kernel_rfl) (fun _ _ _ h => onN_panic h) (Or.inl ⟨rfl, fun _ => rfl⟩) ?_
                    simp only [n1, n3, n4]
                    refine wpK_ta (i := 6) (some 73) (v := .int .i64 (q : Int)) rfl rfl (by kernel_rfl) (fun _ _ _ h => onN_panic h) (Or.inl ⟨by rfl, fun W => by go_simp⟩) ?_
                    simp only [n1, n3, n4]
                    obtain ⟨e2, h_e2⟩ : ∃ q_ : Nat, q_ = q - 1 := ⟨_, rfl⟩
                    have he2b : e2 + 1 ≤ q ∧ q ≤ e2 + 1 := by omega
                    have He2 := Lib.hid h_e2
                    clear h_e2
                    have HE2 : Hid (e2 + 1 = (Pl.pal l).length + 2 + Pl.room (i + 1) (Pl.wd m)) := Lib.hid (by have := hln_.out; omega)
                    refine wpK_ta (i := 7) (some 74) (v := .int .i64 (e2 : Int)) rfl rfl (by kernel_rfl) (fun _ _ _ h => onN_panic h) (Or.inl ⟨by rfl, fun W => by exact op_n_sub q 1 e2 (by omega) (by omega) rfl rfl rfl⟩) ?_
                    simp only [n1, n3, n4]
                    obtain ⟨og144, rfl⟩ := ownAdr (S143.out.ownr 0 rfl) (by omega)
                    refine wpK_ta (i := 8) (some 75) (v := .pointer (some ⟨og144, e2, none⟩)) rfl rfl (by kernel_rfl) (fun _ _ _ h => onN_panic h) (Or.inl ⟨by rfl, fun W => by (go_simp <;> first | rfl | omega | (simp; omega))⟩) ?_
                    simp only [n1, n3, n4]
                    refine wpK_ta (i := 10) (some 77) (v := .slice D m dc) rfl rfl (by kernel_rfl) (fun _ _ _ h => onN_panic h) (Or.inl ⟨rfl, fun _ => rfl⟩) ?_
                    simp only [n1, n3, n4]
                    refine wpK_ta (i := 11) (some 78) (v := .slice A n c) rfl rfl (by kernel_rfl) (fun _ _ _ h => onN_panic h) (Or.inl ⟨rfl, fun _ => rfl⟩) ?_
                    simp only [n1, n3, n4]
                    refine wpK_ta (i := 12) (some 79) (v := .int .i64 (i : Int)) rfl rfl (by kernel_rfl) (fun _ _ _ h => onN_panic h) (Or.inl ⟨rfl, fun _ => rfl⟩) ?_
                    simp only [n1, n3, n4]
                    obtain ⟨b145, o145, rfl⟩ := HGA.out.addr (by decide) (by omega)
                    refine wpK_ta (i := 13) (some 80) (v := .pointer (some ⟨b145, o145 + i, none⟩)) rfl rfl (by kernel_rfl) (fun _ _ _ h => onN_panic h) (Or.inl ⟨by rfl, fun W => by (go_simp <;> first | rfl | omega | (simp; omega))⟩) ?_
                    simp only [n1, n3, n4]
                    refine wpK_ta (i := 16) (some 83) (v := .int .i64 (a : Int)) rfl rfl (by kernel_rfl) (fun _ _ _ h => onN_panic h) (Or.inl ⟨rfl, fun _ => rfl⟩) ?_
                    simp only [n1, n3, n4]
                    obtain ⟨r8, h_r8⟩ : ∃ q_ : Nat, q_ = a % 8 := ⟨_, rfl⟩
                    have hr8b : r8 < 8 := by omega
                    have Hr8 := Lib.hid h_r8
                    clear h_r8
                    refine wpK_ta (i := 17) (some 84) (v := .int .i64 (r8 : Int)) rfl rfl (by kernel_rfl) (fun _ _ _ h => onN_panic h) (Or.inl ⟨by rfl, fun W => by exact op_n_rem a 8 r8 Hr8.out.symm (by decide) rfl rfl rfl⟩) ?_
                    simp only [n1, n3, n4]
                    obtain ⟨xo, h_xo⟩ : ∃ q_ : Nat, q_ = Pl.S (Pl.wd m) (Pl.ix (Pl.pal l) l) i / 2 ^ (8 * (i * (Pl.wd m) / 8)) % 256 := ⟨_, rfl⟩
                    have hxob : xo < 256 := by rw [h_xo]; exact Nat.mod_lt _ (by decide)
                    have Hxo := Lib.hid h_xo
                    clear h_xo
                    refine wpK_tk (i := 9) (some 76) (v := .int .u8 (xo : Int)) rfl rfl (by kernel_rfl) (fun _ _ _ h => onN_panic h) (.val (by rfl) (fun W hg => by have c := own_at (k := e2) (v := .int .u8 (xo : Int)) ((S143.out.gr (Gr.un hg)).ownr 0 rfl) (by rw [Hxo.out]; exact (bc_at (Pl.tx_cell hw4_ HE2.out)).trans (by rw [Pl.u8n (Nat.mod_lt _ (by decide))])); go_simp)) ?_
                    simp only [n1, n3, n4]
                    refine wpK_tk (i := 14) (some 81) (v := .int .i64 (l.getD i 0)) rfl rfl (by kernel_rfl) (fun _ _ _ h => onN_panic h) (.val (by rfl) (fun W hg => by have c := (((HGA.out.gr ((S143.out.gr (Gr.un hg))).bel).int (l := l) i (by (first | (have := HLEN.out; omega) | (have := HML.out; omega))))) 0 _ rfl; (try simp only [Nat.add_zero, Nat.zero_add] at c); go_simp)) ?_
                    simp only [n1, n3, n4]
                    obtain ⟨xi, h_xi⟩ : ∃ q_ : Nat, q_ = List.idxOf (l.getD i 0) (Pl.pal l) := ⟨_, rfl⟩
                    have Hxi := Lib.hid h_xi
                    clear h_xi
                    obtain ⟨hps1_, hps2_, _⟩ := Pl.pack_step (w := (Pl.wd m)) (i := i) (f := Pl.ix (Pl.pal l) l) hw4_ (fun j hj => by rw [HWP.out]; exact Pl.ix_pow (by have := HLEN.out; omega) (by have := HLEN.out; omega))
                    have HPS1 : Hid (Pl.ix (Pl.pal l) l i * 2 ^ (i * (Pl.wd m) % 8) < 256) := Lib.hid hps1_
                    have HPS2 := Lib.hid hps2_
                    clear hps1_ hps2_
                    refine wpK_tk (i := 15) (some 82) (v := .int .i64 (xi : Int)) rfl rfl (by kernel_rfl) (fun _ _ _ h => onN_panic h) (.call (f := 35) (args := #[.slice D m dc, .int .i64 (l.getD i 0)]) (by rfl) (fun W => by go_simp) (fun W hg => Hxi.out ▸ index_any _ _ _ (Pl.pal l) (l.getD i 0) W (SL.ofOwn ((S143.out.gr (Gr.un hg)).ownr 1 rfl)))) ?_
                    simp only [n1, n3, n4]
                    obtain ⟨sh, h_sh⟩ : ∃ q_ : Nat, q_ = xi * 2 ^ r8 := ⟨_, rfl⟩
                    have hshb : sh < 256 := by rw [h_sh, Hxi.out, Hr8.out, HBE.out]; exact HPS1.out
                    have Hsh := Lib.hid h_sh
                    clear h_sh
                    refine wpK_ta (i := 18) (some 85) (v := .int .i64 (sh : Int)) rfl rfl (by kernel_rfl) (fun _ _ _ h => onN_panic h) (Or.inl ⟨by rfl, fun W => by exact op_k_shl xi r8 sh Hsh.out.symm (by show r8 ≤ 64; omega) (wrap_n64 (by omega)) rfl rfl rfl⟩) ?_
                    simp only [n1, n3, n4]
                    refine wpK_ta (i := 19) (some 86) (v := .int .u8 (sh : Int)) rfl rfl (by kernel_rfl) (fun _ _ _ h => onN_panic h) (Or.inl ⟨by rfl, fun W => by exact op_conv_n8 sh (by omega) rfl rfl Try.underlying3 Try.underlying5⟩) ?_
                    simp only [n1, n3, n4]
                    obtain ⟨yo, h_yo⟩ : ∃ q_ : Nat, q_ = xo + sh := ⟨_, rfl⟩
                    have hyo_ : yo < 256 := by have h_ := HPS2.out; rw [h_yo, Hxo.out, Hsh.out, Hxi.out, Hr8.out, HBE.out]; exact h_
                    have Hyo := Lib.hid h_yo
                    clear h_yo
                    refine wpK_ta (i := 20) (some 87) (v := .int .u8 (yo : Int)) rfl rfl (by kernel_rfl) (fun _ _ _ h => onN_panic h) (Or.inl ⟨by rfl, fun W => by exact op_u8_add xo sh yo Hyo.out.symm hyo_ rfl rfl rfl⟩) ?_
                    simp only [n1, n3, n4]
                    refine wpK_ta (i := 21) (some 88) (v := .pointer (some ⟨og144, e2, none⟩)) rfl rfl (by kernel_rfl) (fun _ _ _ h => onN_panic h) (Or.inl ⟨by rfl, fun W => by (have e_ : e1 = e2 := (by omega); subst e_; go_simp <;> first | rfl | omega | (simp; omega))⟩) ?_
                    simp only [n1, n3, n4]
                    refine wpK_store (i := 22) (none) rfl rfl (by kernel_rfl) (by rfl) (by rfl) (fun W146 hg147 => ⟨W146.setCell ⟨og144, e2, none⟩ (.int .u8 (yo : Int)), by obtain ⟨⟨_, c⟩, c2⟩ := own_cell (k := e2) ((S143.out.gr (Gr.un hg147)).ownr 0 rfl) (by omega); go_simp, ?_⟩)
                    simp only [n2]
                    obtain ⟨U148, hu_, hS_⟩ := ((S143.out.gr (Gr.un hg147)).ownPutAt 0 rfl (k := e2) (by omega) (.int .u8 (yo : Int))).named
                    rw [← hu_]
                    have S149 : Hid (St w noB [own (.slice (some ⟨og144, 0, none⟩) q d) 5 1 q ((bc (Pl.hd l (Pl.pal l).length ++ Pl.le (Pl.room (i + 1) (Pl.wd m)) (Pl.S (Pl.wd m) (Pl.ix (Pl.pal l) l) i))).set e2 (.int .u8 (yo : Int))), own (.slice D m dc) 3 1 m (ic (Pl.pal l))] U148) := Lib.hid hS_
                    clear S143
                    clear hu_ hS_ hg147
                    refine wpK_done (by kernel_rfl) (fun V150 hv151 => ?_) _
                    have S152 : Hid (St w noB [own (.slice (some ⟨og144, 0, none⟩) q d) 5 1 q ((bc (Pl.hd l (Pl.pal l).length ++ Pl.le (Pl.room (i + 1) (Pl.wd m)) (Pl.S (Pl.wd m) (Pl.ix (Pl.pal l) l) i))).set e2 (.int .u8 (yo : Int))), own (.slice D m dc) 3 1 m (ic (Pl.pal l))] V150) := Lib.hid (S149.out.gr hv151)
                    clear S149
                    clear hv151
                    refine ⟨rfl, hK _ _ ?_⟩
                    clear hK
                    go_upto_region 20 with fail
                    refine wpG_region_k (fun K hK => ?_)
                    refine @wpG_p _ _ _ _ _ (some 89) (.int .i64 (a : Int)) _ _ rfl (by rfl) (fun _ => rfl) ?_
                    simp only [n1, n3, n4]
                    refine @wpG_p _ _ _ _ _ (some 90) (.int .i64 (Pl.wd m : Int)) _ _ rfl (by rfl) (fun _ => rfl) ?_
                    simp only [n1, n3, n4]
                    obtain ⟨ia, h_ia⟩ : ∃ q_ : Nat, q_ = a + Pl.wd m := ⟨_, rfl⟩
                    have hiab : ia ≤ 1000 := by omega
                    have Hia := Lib.hid h_ia
                    clear h_ia
                    refine @wpG_p _ _ _ _ _ (some 91) (.int .i64 (ia : Int)) _ _ rfl (by rfl) (fun W => op_n_add a (Pl.wd m) ia Hia.out.symm (by omega) rfl rfl rfl) ?_
                    simp only [n1, n3, n4]
                    refine @wpG_p _ _ _ _ _ (some 9) (.int .i64 (ia : Int)) _ _ rfl (by rfl) (fun _ => rfl) ?_
                    simp only [n1, n3, n4]
                    refine wpG_done (fun V153 hv154 => ?_)
                    have S155 : Hid (St w noB [own (.slice (some ⟨og144, 0, none⟩) q d) 5 1 q ((bc (Pl.hd l (Pl.pal l).length ++ Pl.le (Pl.room (i + 1) (Pl.wd m)) (Pl.S (Pl.wd m) (Pl.ix (Pl.pal l) l) i))).set e2 (.int .u8 (yo : Int))), own (.slice D m dc) 3 1 m (ic (Pl.pal l))] V153) := Lib.hid (S152.out.gr hv154)
                    clear S152
                    clear hv154
                    refine ⟨rfl, hK _ _ ?_⟩
                    clear hK
                    go_upto_region 16 with fail
                    refine wpG_region_k (fun K hK => ?_)
                    refine @wpG_p _ _ _ _ _ (some 59) (.int .i64 (i : Int)) _ _ rfl (by rfl) (fun _ => rfl) ?_
                    simp only [n1, n3, n4]
                    refine @wpG_p _ _ _ _ _ (some 60) (.int .i64 ((i : Int) + 1)) _ _ rfl (by rfl) (fun W => op_i_add W (i : Int) 1 (by omega) rfl rfl rfl Try.underlying3) ?_
                    simp only [n1, n3, n4]
                    refine @wpG_p _ _ _ _ _ (some 10) (.int .i64 ((i : Int) + 1)) _ _ rfl (by rfl) (fun _ => rfl) ?_
                    simp only [n1, n3, n4]
                    refine wpG_done (fun V156 hv157 => ?_)
                    have S158 : Hid (St w noB [own (.slice (some ⟨og144, 0, none⟩) q d) 5 1 q ((bc (Pl.hd l (Pl.pal l).length ++ Pl.le (Pl.room (i + 1) (Pl.wd m)) (Pl.S (Pl.wd m) (Pl.ix (Pl.pal l) l) i))).set e2 (.int .u8 (yo : Int))), own (.slice D m dc) 3 1 m (ic (Pl.pal l))] V156) := Lib.hid (S155.out.gr hv157)
                    clear S155
                    clear hv157
                    refine ⟨rfl, hK _ _ ?_⟩
                    clear hK
                    go_wp2_with fail
                    go_roundw
                    case rel => exact ⟨some ⟨og144, 0, none⟩, q, d, ia, i + 1, (by first | rfl | go_num), (by first | rfl | go_num), (by first | rfl | go_num), (by omega), (by rw [Hia.out, HBE.out, Nat.add_mul, Nat.one_mul]), (fun h_ => by omega), (by have h_ := S158.out; rw [bv_n hyo_, bc_set, Pl.tx_put (i := i) (y := yo) (by have := HLEN.out; omega) (by have := HLEN.out; omega) HWP.out hw4_ HE2.out (by rw [Hyo.out, Hxo.out, Hsh.out, Hxi.out, Hr8.out, HBE.out]; rfl)] at h_; exact h_)⟩
                    case measure => first | (simp only [intOf]; omega) | (simp [intOf]; done) | (simp [intOf]; omega) | omega
                | false =>
                  have f159 := of_decide_eq_false Hc104.out.symm
                  go_upto_region 21 with fail
                  refine wpG_region_k (fun K hK => ?_)
                  refine @wpG_p _ _ _ _ _ (some 92) (.slice E q d) _ _ rfl (by rfl) (fun _ => rfl) ?_
                  simp only [n1, n3, n4]
                  refine @wpG_r _ _ _ _ _ (some 93) (.string (bstr (Pl.tx l (Pl.wd m) i))) _ _ rfl (by rfl) (fun W hg => by exact op_conv_str (SL.ofOwn ((S103.out.gr hg).ownr 0 rfl)) rfl rfl Try.underlying43 Try.underlying5 Try.underlying9) ?_
                  simp only [n1, n3, n4]
                  refine @wpG_p _ _ _ _ _ (some 2) (.string (bstr (Pl.tx l (Pl.wd m) i))) _ _ rfl (by rfl) (fun _ => rfl) ?_
                  simp only [n1, n3, n4]
                  refine @wpG_p _ _ _ _ _ (some 3) (.int .i64 0) _ _ rfl (by rfl) (fun _ => rfl) ?_
                  simp only [n1, n3, n4]
                  refine wpG_done (fun V160 hv161 => ?_)
                  have S162 : Hid (St w noB [own (.slice E q d) 5 1 q (bc (Pl.tx l (Pl.wd m) i)), own (.slice D m dc) 3 1 m (ic (Pl.pal l))] V160) := Lib.hid (S103.out.gr hv161)
                  clear S103
                  clear hv161
                  refine ⟨rfl, hK _ _ ?_⟩
                  clear hK
                  go_wp2_with fail
                  go_ret2
                  refine ⟨?_, S162.out.bel⟩
                  show Ending.returned (.tuple #[.string (bstr (Pl.tx l (Pl.wd m) i)), .int .i64 0]) = _
                  (have e_f16 := f16.out; obtain ⟨e1_, e2_⟩ := Pl.p_ok (l := l) (by have := HLEN.out; omega) HVC.out; rw [e1_, e2_]; (have e4_ := Pl.tx_all (l := l) (w := (Pl.wd m)) (i := i) (fun e_ => by have h_ := HLEN.out; rw [e_] at h_; simp at h_; omega) HWP.out (by have := HLEN.out; omega); have e5_ : (if (Pl.wd m) = 0 then 0 else i) = i := (by split <;> omega); rw [e5_] at e4_; rw [e4_]))
              | false =>
                have f163 := of_decide_eq_false Hc99.out.symm
                refine @wpG_no _ _ _ _ _ (some 56) _ _ rfl (by rfl) ?_
                simp only [n1, n3, n4]
                refine @wpG_no _ _ _ _ _ (some 57) _ _ rfl (by rfl) ?_
                simp only [n1, n3, n4]
                refine @wpG_p _ _ _ _ _ (some 58) (.bool false) _ _ rfl (by rfl) (fun W => by go_simp) ?_
                simp only [n1, n3, n4]
                refine wpG_done (fun V164 hv165 => ?_)
                have S166 : Hid (St w noB [own (.slice E q d) 5 1 q (bc (Pl.tx l (Pl.wd m) i)), own (.slice D m dc) 3 1 m (ic (Pl.pal l))] V164) := Lib.hid (S98.out.gr hv165)
                clear S98
                clear hv165
                refine ⟨rfl, hK _ _ ?_⟩
                clear hK
                go_upto_region 21 with fail
                refine wpG_region_k (fun K hK => ?_)
                refine @wpG_p _ _ _ _ _ (some 92) (.slice E q d) _ _ rfl (by rfl) (fun _ => rfl) ?_
                simp only [n1, n3, n4]
                refine @wpG_r _ _ _ _ _ (some 93) (.string (bstr (Pl.tx l (Pl.wd m) i))) _ _ rfl (by rfl) (fun W hg => by exact op_conv_str (SL.ofOwn ((S166.out.gr hg).ownr 0 rfl)) rfl rfl Try.underlying43 Try.underlying5 Try.underlying9) ?_
                simp only [n1, n3, n4]
                refine @wpG_p _ _ _ _ _ (some 2) (.string (bstr (Pl.tx l (Pl.wd m) i))) _ _ rfl (by rfl) (fun _ => rfl) ?_
                simp only [n1, n3, n4]
                refine @wpG_p _ _ _ _ _ (some 3) (.int .i64 0) _ _ rfl (by rfl) (fun _ => rfl) ?_
                simp only [n1, n3, n4]
                refine wpG_done (fun V167 hv168 => ?_)
                have S169 : Hid (St w noB [own (.slice E q d) 5 1 q (bc (Pl.tx l (Pl.wd m) i)), own (.slice D m dc) 3 1 m (ic (Pl.pal l))] V167) := Lib.hid (S166.out.gr hv168)
                clear S166
                clear hv168
                refine ⟨rfl, hK _ _ ?_⟩
                clear hK
                go_wp2_with fail
                go_ret2
                refine ⟨?_, S169.out.bel⟩
                show Ending.returned (.tuple #[.string (bstr (Pl.tx l (Pl.wd m) i)), .int .i64 0]) = _
                (have e_f16 := f16.out; obtain ⟨e1_, e2_⟩ := Pl.p_ok (l := l) (by have := HLEN.out; omega) HVC.out; rw [e1_, e2_]; (have e4_ := Pl.tx_all (l := l) (w := (Pl.wd m)) (i := i) (fun e_ => by have h_ := HLEN.out; rw [e_] at h_; simp at h_; omega) HWP.out (by have := HLEN.out; omega); have e5_ : (if (Pl.wd m) = 0 then 0 else i) = i := (by split <;> omega); rw [e5_] at e4_; rw [e4_]))
set_option maxRecDepth 1000000 in
set_option maxHeartbeats 4000000 in
theorem rencode_any (A : Option Addr) (n c : Nat) (l : List Int) (w : World) (hG : SL w 1 A n c (ic l)) (hb : n ≤ 1000) :
    Calls Try.prog 17 #[.slice A n c] w fun e w' => e = .returned (.tuple #[.string (bstr (Pl.eS l)), .int .i64 (Pl.eE l)]) ∧ Below w.heap.size w w' := by
  have HGA := Lib.hid hG
  have HLEN : Hid (l.length = n) := Lib.hid (by have h_ := hG.len; rw [ic_len] at h_; omega)
  have hnbHGA : n ≤ 9223372036854775807 := Nat.le_trans hG.cap hG.bnd
  clear hG
  have S1 : Hid (St w noB [] w) := Lib.hid (St.start w)
  go_enter Try.func17, Try.ntmps17
  go_upto_region 0 with fail
  refine wpG_region_k (fun K hK => ?_)
  refine @wpG_p _ _ _ _ _ (some 2) (.string ⟨#[]⟩) _ _ rfl (by rfl) (fun _ => rfl) ?_
  simp only [n1, n3, n4]
  refine @wpG_p _ _ _ _ _ (some 3) (.int .i64 0) _ _ rfl (by rfl) (fun _ => rfl) ?_
  simp only [n1, n3, n4]
  refine wpG_done (fun V2 hv3 => ?_)
  have S4 : Hid (St w noB [] V2) := Lib.hid (S1.out.gr hv3)
  clear S1
  clear hv3
  refine ⟨rfl, hK _ _ ?_⟩
  clear hK
  go_upto_region 1 with fail
  refine wpG_region_k (fun K hK => ?_)
  refine @wpG_p _ _ _ _ _ (some 4) (.slice A n c) _ _ rfl (by rfl) (fun _ => rfl) ?_
  simp only [n1, n3, n4]
  refine @wpG_p _ _ _ _ _ (some 5) (.int .i64 (n : Int)) _ _ rfl (by rfl) (fun W => by go_simp) ?_
  simp only [n1, n3, n4]
  refine @wpG_p _ _ _ _ _ (some 6) (.bool (decide ((n : Int) ≠ 64))) _ _ rfl (by rfl) (fun W => op_int_neq W (n : Int) 64 rfl rfl rfl Try.underlying3) ?_
  simp only [n1, n3, n4]
  refine wpG_done (fun V5 hv6 => ?_)
  have S7 : Hid (St w noB [] V5) := Lib.hid (S4.out.gr hv6)
  clear S4
  clear hv6
  refine ⟨rfl, hK _ _ ?_⟩
  clear hK
  obtain ⟨c8, hc8⟩ : ∃ q_, q_ = (decide ((n : Int) ≠ 64)) := ⟨_, rfl⟩
  rw [← hc8]
  have Hc8 := Lib.hid hc8
  clear hc8
  cases c8 with
  | true =>
    have f9 := of_decide_eq_true Hc8.out.symm
    go_upto_region 2 with fail
    refine wpG_region_k (fun K hK => ?_)
    refine @wpG_p _ _ _ _ _ (some 2) (.string ⟨#[]⟩) _ _ rfl (by rfl) (fun _ => rfl) ?_
    simp only [n1, n3, n4]
    refine @wpG_p _ _ _ _ _ (some 3) (.int .i64 1) _ _ rfl (by rfl) (fun _ => rfl) ?_
    simp only [n1, n3, n4]
    refine wpG_done (fun V10 hv11 => ?_)
    have S12 : Hid (St w noB [] V10) := Lib.hid (S7.out.gr hv11)
    clear S7
    clear hv11
    refine ⟨rfl, hK _ _ ?_⟩
    clear hK
    go_wp2_with fail
    go_ret2
    refine ⟨?_, S12.out.bel⟩
    show Ending.returned (.tuple #[.string ⟨#[]⟩, .int .i64 1]) = _
    (have e_ : ¬ l.length = 64 := (by have := HLEN.out; omega); unfold Pl.eS Pl.eE; rw [if_neg e_, if_neg e_]; rfl)
  | false =>
    have f13 := Lib.hid (Decidable.not_not.1 (of_decide_eq_false Hc8.out.symm))
    have f13a := Int.le_of_eq f13.out
    have f13b := Int.le_of_eq f13.out.symm
    go_upto_region 3 with fail
    refine wpG_region_k (fun K hK => ?_)
    refine @wpG_p _ _ _ _ _ (some 7) (.slice A n c) _ _ rfl (by rfl) (fun _ => rfl) ?_
    simp only [n1, n3, n4]
    refine @wpG_tk _ _ _ _ _ (some 8) (.tuple #[.string (bstr (Pl.pS l)), .int .i64 (Pl.pE l)]) _ _ rfl (.call (f := 12) (args := #[.slice A n c]) (by rfl) (fun W => by go_simp) (fun W hg => rpack_any _ _ _ l W (HGA.out.gr (S7.out.gr hg).bel) (by omega))) ?_
    simp only [n1, n3, n4]
    refine @wpG_p _ _ _ _ _ (some 9) (.string (bstr (Pl.pS l))) _ _ rfl (by rfl) (fun W => by go_simp) ?_
    simp only [n1, n3, n4]
    refine @wpG_p _ _ _ _ _ (some 10) (.int .i64 (Pl.pE l)) _ _ rfl (by rfl) (fun W => by go_simp) ?_
    simp only [n1, n3, n4]
    refine @wpG_p _ _ _ _ _ (some 2) (.string (bstr (Pl.pS l))) _ _ rfl (by rfl) (fun _ => rfl) ?_
    simp only [n1, n3, n4]
    refine @wpG_p _ _ _ _ _ (some 3) (.int .i64 (Pl.pE l)) _ _ rfl (by rfl) (fun _ => rfl) ?_
    simp only [n1, n3, n4]
    refine wpG_done (fun V14 hv15 => ?_)
    have S16 : Hid (St w noB [] V14) := Lib.hid (S7.out.gr hv15)
    clear S7
    clear hv15
    refine ⟨rfl, hK _ _ ?_⟩
    clear hK
    go_wp2_with fail
    go_ret2
    refine ⟨?_, S16.out.bel⟩
    show Ending.returned (.tuple #[.string (bstr (Pl.pS l)), .int .i64 (Pl.pE l)]) = _
    (have e_ : l.length = 64 := (by have := HLEN.out; omega); unfold Pl.eS Pl.eE; rw [if_pos e_, if_pos e_])

end Go.Proofs.Ytfomieekdbkcnaa
