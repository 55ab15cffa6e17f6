/-
  Contracts of package palette: Unpack, Decode, Materials.
-/
import Derived.Test.YtfomieekdbkcnaaPk18
import Derived.Handy
namespace Go.Proofs.Ytfomieekdbkcnaa
open Go Go.RowKit
set_option linter.unusedVariables false
set_option linter.unusedSimpArgs false
set_option maxRecDepth 1000000 in
set_option maxHeartbeats 4000000 in
theorem unpack_any (x : List UInt8) (w : World) (hx : x.length ≤ 1000) :
    Calls Try.prog 13 #[.string (bstr x)] w fun e w' => ∃ A q c, e = .returned (.tuple #[.slice A q c, .int .i64 ((Pl.un x).2.1 : Int), .int .i64 ((Pl.un x).2.2 : Int)]) ∧ St w noB [own (.slice A q c) 3 1 q (ic (Pl.un x).1)] w' := by
  have S1 : Hid (St w noB [] w) := Lib.hid (St.start w)
  go_enter Try.func13, Try.ntmps13
  go_upto_region 0 with fail
  refine wpG_region_k (fun K hK => ?_)
  refine @wpG_p _ _ _ _ _ (some 2) (.slice none 0 0) _ _ rfl (by rfl) (fun _ => rfl) ?_
  simp only [n1, n3, n4]
  refine @wpG_p _ _ _ _ _ (some 3) (.int .i64 0) _ _ rfl (by rfl) (fun _ => rfl) ?_
  simp only [n1, n3, n4]
  refine @wpG_p _ _ _ _ _ (some 4) (.int .i64 0) _ _ rfl (by rfl) (fun _ => rfl) ?_
  simp only [n1, n3, n4]
  refine wpG_done (fun V2 hv3 => ?_)
  have S4 : Hid (St w noB [] V2) := Lib.hid (S1.out.gr hv3)
  clear S1
  clear hv3
  refine ⟨rfl, hK _ _ ?_⟩
  clear hK
  go_upto_region 1 with fail
  refine wpG_region_k (fun K hK => ?_)
  refine @wpG_p _ _ _ _ _ (some 13) (.string (bstr x)) _ _ rfl (by rfl) (fun _ => rfl) ?_
  simp only [n1, n3, n4]
  refine @wpG_p _ _ _ _ _ (some 14) (.bool (decide (x ≠ []))) _ _ rfl (by rfl) (fun W => op_str_neq W x [] rfl rfl rfl Try.underlying9) ?_
  simp only [n1, n3, n4]
  refine @wpG_p _ _ _ _ _ (some 15) (.bool (decide (x ≠ []))) _ _ rfl (by rfl) (fun _ => rfl) ?_
  simp only [n1, n3, n4]
  obtain ⟨c5, hc5⟩ : ∃ q_, q_ = (decide (x ≠ [])) := ⟨_, rfl⟩
  rw [← hc5]
  have Hc5 := Lib.hid hc5
  clear hc5
  cases c5 with
  | true =>
    have f6 := of_decide_eq_true Hc5.out.symm
    refine @wpG_p _ _ _ _ _ (some 16) (.string (bstr x)) _ _ rfl (by rfl) (fun _ => rfl) ?_
    simp only [n1, n3, n4]
    have hx0_ : 0 < x.length := List.length_pos_iff.2 (by first | exact f6 | exact Decidable.not_not.1 f6)
    obtain ⟨nn, h_nn⟩ : ∃ q_ : Nat, q_ = Pl.uN x := ⟨_, rfl⟩
    have hnnb : nn < 256 := by rw [h_nn]; exact (x.getD 0 0).toNat_lt
    have Hnn := Lib.hid h_nn
    clear h_nn
    refine @wpG_p _ _ _ _ _ (some 17) (.int .u8 (nn : Int)) _ _ rfl (by rfl) (fun W => (op_str_idx W x 0 hx0_ rfl rfl rfl Try.underlying9).trans (by rw [Hnn.out]; rfl)) ?_
    simp only [n1, n3, n4]
    refine @wpG_p _ _ _ _ _ (some 18) (.bool (decide ((nn : Int) = 0))) _ _ rfl (by rfl) (fun W => op_int_eql W (nn : Int) 0 rfl rfl rfl Try.underlying5) ?_
    simp only [n1, n3, n4]
    refine @wpG_p _ _ _ _ _ (some 19) (.bool (decide ((nn : Int) = 0))) _ _ rfl (by rfl) (fun W => by go_simp) ?_
    simp only [n1, n3, n4]
    refine wpG_done (fun V7 hv8 => ?_)
    have S9 : Hid (St w noB [] V7) := Lib.hid (S4.out.gr hv8)
    clear S4
    clear hv8
    refine ⟨rfl, hK _ _ ?_⟩
    clear hK
    obtain ⟨c10, hc10⟩ : ∃ q_, q_ = (decide ((nn : Int) = 0)) := ⟨_, rfl⟩
    rw [← hc10]
    have Hc10 := Lib.hid hc10
    clear hc10
    cases c10 with
    | true =>
      have f11 := Lib.hid (of_decide_eq_true Hc10.out.symm)
      have f11a := Int.le_of_eq f11.out
      have f11b := Int.le_of_eq f11.out.symm
      go_upto_region 2 with fail
      refine wpG_region_k (fun K hK => ?_)
      refine @wpG_p _ _ _ _ _ (some 2) (.slice none 0 0) _ _ rfl (by rfl) (fun _ => rfl) ?_
      simp only [n1, n3, n4]
      refine @wpG_p _ _ _ _ _ (some 3) (.int .i64 1) _ _ rfl (by rfl) (fun _ => rfl) ?_
      simp only [n1, n3, n4]
      refine @wpG_p _ _ _ _ _ (some 4) (.int .i64 0) _ _ rfl (by rfl) (fun _ => rfl) ?_
      simp only [n1, n3, n4]
      refine wpG_done (fun V12 hv13 => ?_)
      have S14 : Hid (St w noB [] V12) := Lib.hid (S9.out.gr hv13)
      clear S9
      clear hv13
      refine ⟨rfl, hK _ _ ?_⟩
      clear hK
      go_wp2_with fail
      go_ret3
      (have e_f11 := f11.out; have hu_ := Pl.un_zero (t := x) (by omega) (by rw [← Hnn.out]; omega); exact ⟨none, 0, 0, by rw [hu_]; rfl, by rw [hu_]; exact S14.out.dropAll.nilOwn _ _⟩)
    | false =>
      have f15 := of_decide_eq_false Hc10.out.symm
      go_upto_region 3 with fail
      refine wpG_region_k (fun K hK => ?_)
      have HNZ : Hid (¬ (x.length ≠ 0 ∧ Pl.uN x = 0)) := Lib.hid (by rw [← Hnn.out]; omega)
      refine @wpG_p _ _ _ _ _ (some 21) (.string (bstr x)) _ _ rfl (by rfl) (fun _ => rfl) ?_
      simp only [n1, n3, n4]
      refine wpG_call (some 22) 36 #[.string (bstr x)] rfl (by rfl) (fun W => by go_simp) (fun W16 hg17 => ?_)
      refine (head_any x W16 hx).mono ?_
      rintro e w18 ⟨D, m, dc, rfl, hS_⟩
      refine ⟨_, rfl, ?_⟩
      have hT_ := (S9.out.gr hg17).got hS_
      simp only [n1, n3, n4]
      have S19 : Hid (St w noB [own (.slice D m dc) 3 1 m (ic (Pl.hL x))] w18) := Lib.hid hT_
      clear S9
      clear hT_ hS_ hg17
      have HML : Hid (m = (Pl.hL x).length) := Lib.hid (own_icl (S19.out.ownr 0 rfl))
      refine @wpG_p _ _ _ _ _ (some 20) (.tuple #[.int .i64 (Pl.hN x), .slice D m dc, .int .i64 (Pl.hE x : Int)]) _ _ rfl (by rfl) (fun _ => rfl) ?_
      simp only [n1, n3, n4]
      refine @wpG_p _ _ _ _ _ (some 23) (.int .i64 (Pl.hN x)) _ _ rfl (by rfl) (fun W => by go_simp) ?_
      simp only [n1, n3, n4]
      refine @wpG_p _ _ _ _ _ (some 24) (.slice D m dc) _ _ rfl (by rfl) (fun W => by go_simp) ?_
      simp only [n1, n3, n4]
      refine @wpG_p _ _ _ _ _ (some 25) (.int .i64 (Pl.hE x : Int)) _ _ rfl (by rfl) (fun W => by go_simp) ?_
      simp only [n1, n3, n4]
      refine @wpG_p _ _ _ _ _ (some 5) (.int .i64 (Pl.hN x)) _ _ rfl (by rfl) (fun _ => rfl) ?_
      simp only [n1, n3, n4]
      refine @wpG_p _ _ _ _ _ (some 6) (.slice D m dc) _ _ rfl (by rfl) (fun _ => rfl) ?_
      simp only [n1, n3, n4]
      refine @wpG_p _ _ _ _ _ (some 7) (.int .i64 (Pl.hE x : Int)) _ _ rfl (by rfl) (fun _ => rfl) ?_
      simp only [n1, n3, n4]
      refine wpG_done (fun V20 hv21 => ?_)
      have S22 : Hid (St w noB [own (.slice D m dc) 3 1 m (ic (Pl.hL x))] V20) := Lib.hid (S19.out.gr hv21)
      clear S19
      clear hv21
      refine ⟨rfl, hK _ _ ?_⟩
      clear hK
      go_upto_region 4 with fail
      refine wpG_region_k (fun K hK => ?_)
      refine @wpG_p _ _ _ _ _ (some 26) (.int .i64 (Pl.hE x : Int)) _ _ rfl (by rfl) (fun _ => rfl) ?_
      simp only [n1, n3, n4]
      refine @wpG_p _ _ _ _ _ (some 27) (.bool (decide ((Pl.hE x : Int) ≠ 0))) _ _ rfl (by rfl) (fun W => op_int_neq W (Pl.hE x : Int) 0 rfl rfl rfl Try.underlying24) ?_
      simp only [n1, n3, n4]
      refine wpG_done (fun V23 hv24 => ?_)
      have S25 : Hid (St w noB [own (.slice D m dc) 3 1 m (ic (Pl.hL x))] V23) := Lib.hid (S22.out.gr hv24)
      clear S22
      clear hv24
      refine ⟨rfl, hK _ _ ?_⟩
      clear hK
      obtain ⟨c26, hc26⟩ : ∃ q_, q_ = (decide ((Pl.hE x : Int) ≠ 0)) := ⟨_, rfl⟩
      rw [← hc26]
      have Hc26 := Lib.hid hc26
      clear hc26
      cases c26 with
      | true =>
        have f27 := of_decide_eq_true Hc26.out.symm
        go_upto_region 5 with fail
        refine wpG_region_k (fun K hK => ?_)
        refine @wpG_p _ _ _ _ _ (some 28) (.int .i64 (Pl.hE x : Int)) _ _ rfl (by rfl) (fun _ => rfl) ?_
        simp only [n1, n3, n4]
        refine @wpG_p _ _ _ _ _ (some 2) (.slice none 0 0) _ _ rfl (by rfl) (fun _ => rfl) ?_
        simp only [n1, n3, n4]
        refine @wpG_p _ _ _ _ _ (some 3) (.int .i64 0) _ _ rfl (by rfl) (fun _ => rfl) ?_
        simp only [n1, n3, n4]
        refine @wpG_p _ _ _ _ _ (some 4) (.int .i64 (Pl.hE x : Int)) _ _ rfl (by rfl) (fun _ => rfl) ?_
        simp only [n1, n3, n4]
        refine wpG_done (fun V28 hv29 => ?_)
        have S30 : Hid (St w noB [own (.slice D m dc) 3 1 m (ic (Pl.hL x))] V28) := Lib.hid (S25.out.gr hv29)
        clear S25
        clear hv29
        refine ⟨rfl, hK _ _ ?_⟩
        clear hK
        go_wp2_with fail
        go_ret3
        (have hu_ := Pl.un_head HNZ.out (show Pl.hE x ≠ 0 by omega); exact ⟨none, 0, 0, by rw [hu_]; rfl, by rw [hu_]; exact S30.out.dropAll.nilOwn _ _⟩)
      | false =>
        have f31 := Lib.hid (Decidable.not_not.1 (of_decide_eq_false Hc26.out.symm))
        have f31a := Int.le_of_eq f31.out
        have f31b := Int.le_of_eq f31.out.symm
        go_upto_region 6 with fail
        refine wpG_region_k (fun K hK => ?_)
        have hE0_ : Pl.hE x = 0 := by have e_f31 := f31.out; have h_ := e_f31; omega
        have HE0 := Lib.hid hE0_
        have hko_ := Pl.hE_ok hE0_
        obtain ⟨hk1_, hk2_, hk3_, hk4_, hk5_, hk6_, _⟩ := hko_
        obtain ⟨hh1_, hh2_⟩ := Pl.h_ok hE0_
        have S32 : Hid (St w noB [own (.slice D m dc) 3 1 m (ic (Pl.uP x))] V23) := Lib.hid (by have h_ := S25.out; rw [show ic (Pl.hL x) = ic (Pl.uP x) from (by rw [hh2_])] at h_; exact h_)
        clear S25
        have hmM_ : m = Pl.uM x := by have h_ := HML.out; rw [hh2_, hk5_] at h_; exact h_
        obtain ⟨q33, hq_⟩ : ∃ q_ : Nat, Pl.hN x = (q_ : Int) := ⟨(Pl.hN x).toNat, by (have := Pl.hN_nn x; omega)⟩
        rw [hq_]
        have HQq33 := Lib.hid hq_
        clear hq_
        have hqN_ : q33 = Pl.uN x := by have h_ := HQq33.out; rw [hh1_] at h_; omega
        have HQN := Lib.hid hqN_
        have HMM := Lib.hid hmM_
        have hqb_ : 1 ≤ q33 ∧ q33 ≤ 64 := by omega
        have hmb_ : 1 ≤ m ∧ m ≤ 64 ∧ 2 + m ≤ x.length := by omega
        have HK5 := Lib.hid hk5_
        have hw8_ : Pl.wd m ≤ 8 := by rcases Pl.wd_cases m with e_ | e_ | e_ | e_ | e_ <;> omega
        clear hE0_ hk1_ hk2_ hk3_ hk4_ hk5_ hk6_ hh1_ hh2_ hmM_ hqN_
        refine @wpG_p _ _ _ _ _ (some 29) (.slice D m dc) _ _ rfl (by rfl) (fun _ => rfl) ?_
        simp only [n1, n3, n4]
        refine @wpG_p _ _ _ _ _ (some 30) (.int .i64 (m : Int)) _ _ rfl (by rfl) (fun W => by go_simp) ?_
        simp only [n1, n3, n4]
        obtain ⟨b2, h_b2⟩ : ∃ q_ : Nat, q_ = 2 + m := ⟨_, rfl⟩
        have hb2b : b2 ≤ x.length ∧ b2 ≤ 66 ∧ 2 + m ≤ b2 ∧ b2 ≤ 2 + m := by omega
        have Hb2 := Lib.hid h_b2
        clear h_b2
        refine @wpG_p _ _ _ _ _ (some 31) (.int .i64 (b2 : Int)) _ _ rfl (by rfl) (fun W => op_n_add 2 m b2 Hb2.out.symm (by omega) rfl rfl rfl) ?_
        simp only [n1, n3, n4]
        refine @wpG_p _ _ _ _ _ (some 32) (.slice D m dc) _ _ rfl (by rfl) (fun _ => rfl) ?_
        simp only [n1, n3, n4]
        refine @wpG_p _ _ _ _ _ (some 33) (.int .i64 (m : Int)) _ _ rfl (by rfl) (fun W => by go_simp) ?_
        simp only [n1, n3, n4]
        refine @wpG_tk _ _ _ _ _ (some 34) (.int .i64 (Pl.wd m : Int)) _ _ rfl (.call (f := 30) (args := #[.int .i64 (m : Int)]) (by rfl) (fun W => by go_simp) (fun W hg => width_any m W (by omega))) ?_
        simp only [n1, n3, n4]
        refine @wpG_p _ _ _ _ _ (some 8) (.int .i64 (b2 : Int)) _ _ rfl (by rfl) (fun _ => rfl) ?_
        simp only [n1, n3, n4]
        refine @wpG_p _ _ _ _ _ (some 9) (.int .i64 (Pl.wd m : Int)) _ _ rfl (by rfl) (fun _ => rfl) ?_
        simp only [n1, n3, n4]
        refine wpG_done (fun V34 hv35 => ?_)
        have S36 : Hid (St w noB [own (.slice D m dc) 3 1 m (ic (Pl.uP x))] V34) := Lib.hid (S32.out.gr hv35)
        clear S32
        clear hv35
        refine ⟨rfl, hK _ _ ?_⟩
        clear hK
        go_upto_region 7 with fail
        refine wpG_region_k (fun K hK => ?_)
        refine @wpG_p _ _ _ _ _ (some 35) (.int .i64 (b2 : Int)) _ _ rfl (by rfl) (fun _ => rfl) ?_
        simp only [n1, n3, n4]
        refine @wpG_p _ _ _ _ _ (some 36) (.int .i64 (q33 : Int)) _ _ rfl (by rfl) (fun _ => rfl) ?_
        simp only [n1, n3, n4]
        refine @wpG_p _ _ _ _ _ (some 37) (.int .i64 (Pl.wd m : Int)) _ _ rfl (by rfl) (fun _ => rfl) ?_
        simp only [n1, n3, n4]
        refine @wpG_tk _ _ _ _ _ (some 38) (.int .i64 ((Pl.room q33 (Pl.wd m) : Nat) : Int)) _ _ rfl (.call (f := 37) (args := #[.int .i64 (q33 : Int), .int .i64 (Pl.wd m : Int)]) (by rfl) (fun W => by go_simp) (fun W hg => room_any q33 (Pl.wd m) W (Nat.le_trans (Nat.mul_le_mul hqb_.2 hw8_) (by decide)))) ?_
        simp only [n1, n3, n4]
        obtain ⟨en, h_en⟩ : ∃ q_ : Nat, q_ = b2 + Pl.room q33 (Pl.wd m) := ⟨_, rfl⟩
        have henb : en ≤ 1000 ∧ b2 ≤ en ∧ en ≤ b2 + 64 := by have := Pl.room_le hqb_.2 hw8_; omega
        have Hen := Lib.hid h_en
        clear h_en
        refine @wpG_p _ _ _ _ _ (some 39) (.int .i64 (en : Int)) _ _ rfl (by rfl) (fun W => op_n_add b2 (Pl.room q33 (Pl.wd m)) en Hen.out.symm (by omega) rfl rfl rfl) ?_
        simp only [n1, n3, n4]
        refine @wpG_p _ _ _ _ _ (some 10) (.int .i64 (en : Int)) _ _ rfl (by rfl) (fun _ => rfl) ?_
        simp only [n1, n3, n4]
        refine wpG_done (fun V37 hv38 => ?_)
        have S39 : Hid (St w noB [own (.slice D m dc) 3 1 m (ic (Pl.uP x))] V37) := Lib.hid (S36.out.gr hv38)
        clear S36
        clear hv38
        refine ⟨rfl, hK _ _ ?_⟩
        clear hK
        go_upto_region 8 with fail
        refine wpJ_region_k (st := fun i => i == 11 || i == 12) (by kernel_rfl) (fun K hK => ?_)
        refine J.wpK_ta (i := 0) (some 41) (v := .string (bstr x)) rfl rfl (by kernel_rfl) (fun _ _ _ h => onN_panic h) (Or.inl ⟨rfl, fun _ => rfl⟩) ?_
        simp only [n1, n3, n4]
        refine J.wpK_ta (i := 1) (some 42) (v := .int .i64 (b2 : Int)) rfl rfl (by kernel_rfl) (fun _ _ _ h => onN_panic h) (Or.inl ⟨rfl, fun _ => rfl⟩) ?_
        simp only [n1, n3, n4]
        refine J.wpK_ta (i := 2) (some 43) (v := .int .i64 (en : Int)) rfl rfl (by kernel_rfl) (fun _ _ _ h => onN_panic h) (Or.inl ⟨rfl, fun _ => rfl⟩) ?_
        simp only [n1, n3, n4]
        refine J.wpK_ta (i := 3) (some 44) (v := .string (bstr x)) rfl rfl (by kernel_rfl) (fun _ _ _ h => onN_panic h) (Or.inl ⟨rfl, fun _ => rfl⟩) ?_
        simp only [n1, n3, n4]
        refine J.wpK_ta (i := 4) (some 45) (v := .int .i64 (x.length : Int)) rfl rfl (by kernel_rfl) (fun _ _ _ h => onN_panic h) (Or.inl ⟨by rfl, fun W => by exact op_str_len W x rfl rfl Try.underlying9⟩) ?_
        simp only [n1, n3, n4]
        obtain ⟨mi, h_mi⟩ : ∃ q_ : Nat, q_ = min en x.length := ⟨_, rfl⟩
        have hmib : mi ≤ en ∧ mi ≤ x.length ∧ (mi = en ∨ mi = x.length) := by omega
        have hmi2 : b2 ≤ mi := by omega
        have Hmi := Lib.hid h_mi
        clear h_mi
        refine J.wpK_ta (i := 5) (some 46) (v := .int .i64 (mi : Int)) rfl rfl (by kernel_rfl) (fun _ _ _ h => onN_panic h) (Or.inl ⟨by rfl, fun W => by (go_simp <;> (repeat' split) <;> omega)⟩) ?_
        simp only [n1, n3, n4]
        refine J.wpK_ta (i := 6) (some 47) (v := .string (bstr ((x.take mi).drop b2))) rfl rfl (by kernel_rfl) (fun _ _ _ h => onN_panic h) (Or.inl ⟨by rfl, fun W => by exact op_str_slice W x b2 mi (by omega) (by omega) rfl rfl rfl rfl Try.underlying9⟩) ?_
        simp only [n1, n3, n4]
        refine J.wpK_ta (i := 7) (some 48) (v := .int .i64 (q33 : Int)) rfl rfl (by kernel_rfl) (fun _ _ _ h => onN_panic h) (Or.inl ⟨rfl, fun _ => rfl⟩) ?_
        simp only [n1, n3, n4]
        refine J.wpK_ta (i := 8) (some 49) (v := .int .i64 (Pl.wd m : Int)) rfl rfl (by kernel_rfl) (fun _ _ _ h => onN_panic h) (Or.inl ⟨rfl, fun _ => rfl⟩) ?_
        simp only [n1, n3, n4]
        refine J.wpK_ta (i := 9) (some 50) (v := .int .i64 (q33 : Int)) rfl rfl (by kernel_rfl) (fun _ _ _ h => onN_panic h) (Or.inl ⟨rfl, fun _ => rfl⟩) ?_
        simp only [n1, n3, n4]
        refine J.wpK_ta (i := 10) (some 51) (v := .slice D m dc) rfl rfl (by kernel_rfl) (fun _ _ _ h => onN_panic h) (Or.inl ⟨rfl, fun _ => rfl⟩) ?_
        simp only [n1, n3, n4]
        refine J.wpK_call (i := 11) (some 52) 39 #[.int .i64 (q33 : Int), .slice D m dc] rfl rfl (by kernel_rfl) (by rfl) rfl (fun W => by go_simp) (fun W40 hg41 => ?_)
        refine (inTurn_any (q33 : Int) D m dc W40).mono ?_
        rintro e w42 ⟨gn, gu, gl, rfl, hS_⟩
        refine ⟨_, rfl, ?_⟩
        have hT_ := (S39.out.gr (Gr.un hg41)).got hS_
        simp only [n1, n3, n4]
        have S43 : Hid (St w noB [blk gu 3 [.int .i64 0], blk gl 22 [.slice D m dc], blk gn 3 [.int .i64 (q33 : Int)], own (.slice D m dc) 3 1 m (ic (Pl.uP x))] w42) := Lib.hid hT_
        clear S39
        clear hT_ hS_ hg41
        have hyl_ : ((x.take mi).drop b2).length ≤ 64 := by rw [List.length_drop, List.length_take]; omega
        refine J.wpK_call (i := 12) (some 53) 38 #[.string (bstr ((x.take mi).drop b2)), .int .i64 (q33 : Int), .int .i64 (Pl.wd m : Int), .func (.func 50) #[] #[.pointer (some ⟨gn, 0, none⟩), .pointer (some ⟨gu, 0, none⟩), .pointer (some ⟨gl, 0, none⟩)]] rfl rfl (by kernel_rfl) (by rfl) rfl (fun W => by go_simp) (fun W44 hg45 => ?_)
        obtain ⟨fp_, hA_, hfp_, back_⟩ := St.lend (L := [blk gu 3 [.int .i64 0], blk gl 22 [.slice D m dc], blk gn 3 [.int .i64 (q33 : Int)], own (.slice D m dc) 3 1 m (ic (Pl.uP x))]) (M := []) (((((S43.out.gr hg45).front 3 rfl).front 3 rfl).front 3 rfl).front 3 rfl)
        refine (gather_int ((x.take mi).drop b2) q33 (Pl.wd m) m gn gu gl D dc (Pl.uP x) fp_ W44 hyl_ hqb_.2 hw8_ (by rw [HK5.out]; have := HMM.out; omega) hA_).mono ?_
        rintro e w46 ⟨E, r, ec, rfl, hgq1_, hgq2_, hS_⟩
        refine ⟨_, rfl, ?_⟩
        have hT_ := back_ hS_
        simp only [n1, n3, n4]
        have S47 : Hid (St w noB [own (.slice E r ec) 3 1 r (ic (Pl.cellsOf (Pl.uP x) (Pl.fld (Pl.wd m) (Pl.V ((x.take mi).drop b2))) r))] w46) := Lib.hid hT_
        clear S43
        clear hT_ hS_ hg45 hA_ hfp_ back_
        have HGQ := Lib.hid hgq2_
        clear hgq2_
        refine J.wpK_ta (i := 13) (some 40) (v := .tuple #[.slice E r ec, .bool (Pl.gok m q33 (Pl.wd m) ((x.take mi).drop b2))]) rfl rfl (by kernel_rfl) (fun _ _ _ h => onN_panic h) (Or.inl ⟨rfl, fun _ => rfl⟩) ?_
        simp only [n1, n3, n4]
        refine J.wpK_ta (i := 14) (some 54) (v := .slice E r ec) rfl rfl (by kernel_rfl) (fun _ _ _ h => onN_panic h) (Or.inl ⟨by rfl, fun W => by go_simp⟩) ?_
        simp only [n1, n3, n4]
        refine J.wpK_ta (i := 15) (some 55) (v := .bool (Pl.gok m q33 (Pl.wd m) ((x.take mi).drop b2))) rfl rfl (by kernel_rfl) (fun _ _ _ h => onN_panic h) (Or.inl ⟨by rfl, fun W => by go_simp⟩) ?_
        simp only [n1, n3, n4]
        refine J.wpK_ta (i := 16) (some 11) (v := .slice E r ec) rfl rfl (by kernel_rfl) (fun _ _ _ h => onN_panic h) (Or.inl ⟨rfl, fun _ => rfl⟩) ?_
        simp only [n1, n3, n4]
        refine J.wpK_ta (i := 17) (some 12) (v := .bool (Pl.gok m q33 (Pl.wd m) ((x.take mi).drop b2))) rfl rfl (by kernel_rfl) (fun _ _ _ h => onN_panic h) (Or.inl ⟨rfl, fun _ => rfl⟩) ?_
        simp only [n1, n3, n4]
        refine J.wpK_done (by kernel_rfl) (fun V48 hv49 => ?_) _
        have S50 : Hid (St w noB [own (.slice E r ec) 3 1 r (ic (Pl.cellsOf (Pl.uP x) (Pl.fld (Pl.wd m) (Pl.V ((x.take mi).drop b2))) r))] V48) := Lib.hid (S47.out.gr hv49)
        clear S47
        clear hv49
        refine ⟨rfl, hK _ _ ?_⟩
        clear hK
        go_upto_region 9 with fail
        refine wpG_region_k (fun K hK => ?_)
        refine @wpG_p _ _ _ _ _ (some 57) (.bool (Pl.gok m q33 (Pl.wd m) ((x.take mi).drop b2))) _ _ rfl (by rfl) (fun _ => rfl) ?_
        simp only [n1, n3, n4]
        refine @wpG_p _ _ _ _ _ (some 58) (.bool (!(Pl.gok m q33 (Pl.wd m) ((x.take mi).drop b2)))) _ _ rfl (by rfl) (fun W => by go_simp) ?_
        simp only [n1, n3, n4]
        refine @wpG_p _ _ _ _ _ (some 56) (.bool (!(Pl.gok m q33 (Pl.wd m) ((x.take mi).drop b2)))) _ _ rfl (by rfl) (fun _ => rfl) ?_
        simp only [n1, n3, n4]
        refine wpG_done (fun V51 hv52 => ?_)
        have S53 : Hid (St w noB [own (.slice E r ec) 3 1 r (ic (Pl.cellsOf (Pl.uP x) (Pl.fld (Pl.wd m) (Pl.V ((x.take mi).drop b2))) r))] V51) := Lib.hid (S50.out.gr hv52)
        clear S50
        clear hv52
        refine ⟨rfl, hK _ _ ?_⟩
        clear hK
        obtain ⟨c54, hc54⟩ : ∃ q_, q_ = (!(Pl.gok m q33 (Pl.wd m) ((x.take mi).drop b2))) := ⟨_, rfl⟩
        rw [← hc54]
        have Hc54 := Lib.hid hc54
        clear hc54
        cases c54 with
        | true =>
          have f55 := Lib.hid ((bnt Hc54.out))
          go_upto_region 10 with fail
          refine wpG_region_k (fun K hK => ?_)
          refine @wpG_p _ _ _ _ _ (some 2) (.slice none 0 0) _ _ rfl (by rfl) (fun _ => rfl) ?_
          simp only [n1, n3, n4]
          refine @wpG_p _ _ _ _ _ (some 3) (.int .i64 0) _ _ rfl (by rfl) (fun _ => rfl) ?_
          simp only [n1, n3, n4]
          refine @wpG_p _ _ _ _ _ (some 4) (.int .i64 6) _ _ rfl (by rfl) (fun _ => rfl) ?_
          simp only [n1, n3, n4]
          refine wpG_done (fun V56 hv57 => ?_)
          have S58 : Hid (St w noB [own (.slice E r ec) 3 1 r (ic (Pl.cellsOf (Pl.uP x) (Pl.fld (Pl.wd m) (Pl.V ((x.take mi).drop b2))) r))] V56) := Lib.hid (S53.out.gr hv57)
          clear S53
          clear hv57
          refine ⟨rfl, hK _ _ ?_⟩
          clear hK
          go_wp2_with fail
          go_ret3
          have hyB_ : (x.take mi).drop b2 = Pl.uB x := by rw [Pl.take_drop (r := Pl.room q33 (Pl.wd m)) (by rw [Hmi.out, Hen.out]), Hb2.out, HQN.out, HMM.out]; rfl
          have hg_ : Pl.gok m q33 (Pl.wd m) ((x.take mi).drop b2) = false := (by have e_f31 := f31.out; have e_f55 := f55.out; first | exact e_f55 | (have h_ := e_f55; simpa using h_))
          rw [hyB_, HQN.out, HMM.out] at hg_
          have hg2_ : Pl.gok (Pl.uM x) (Pl.uN x) (Pl.uW x) (Pl.uB x) = false := hg_
          have hen_ : en = 2 + Pl.uM x + Pl.uR x := by rw [Hen.out, Hb2.out, HQN.out, HMM.out]; rfl
          (have hu_ := Pl.un_nok HE0.out hg2_; exact ⟨none, 0, 0, by rw [hu_]; rfl, by rw [hu_]; exact S58.out.dropAll.nilOwn _ _⟩)
        | false =>
          have f59 := Lib.hid ((bnf Hc54.out))
          go_upto_region 11 with fail
          refine wpG_region_k (fun K hK => ?_)
          refine @wpG_p _ _ _ _ _ (some 60) (.int .i64 (en : Int)) _ _ rfl (by rfl) (fun _ => rfl) ?_
          simp only [n1, n3, n4]
          refine @wpG_p _ _ _ _ _ (some 61) (.string (bstr x)) _ _ rfl (by rfl) (fun _ => rfl) ?_
          simp only [n1, n3, n4]
          refine @wpG_p _ _ _ _ _ (some 62) (.int .i64 (x.length : Int)) _ _ rfl (by rfl) (fun W => op_str_len W x rfl rfl Try.underlying9) ?_
          simp only [n1, n3, n4]
          refine @wpG_p _ _ _ _ _ (some 63) (.bool (decide ((en : Int) > (x.length : Int)))) _ _ rfl (by rfl) (fun W => op_int_gtr W (en : Int) (x.length : Int) rfl rfl rfl Try.underlying3) ?_
          simp only [n1, n3, n4]
          refine @wpG_p _ _ _ _ _ (some 59) (.bool (decide ((en : Int) > (x.length : Int)))) _ _ rfl (by rfl) (fun _ => rfl) ?_
          simp only [n1, n3, n4]
          refine wpG_done (fun V60 hv61 => ?_)
          have S62 : Hid (St w noB [own (.slice E r ec) 3 1 r (ic (Pl.cellsOf (Pl.uP x) (Pl.fld (Pl.wd m) (Pl.V ((x.take mi).drop b2))) r))] V60) := Lib.hid (S53.out.gr hv61)
          clear S53
          clear hv61
          refine ⟨rfl, hK _ _ ?_⟩
          clear hK
          obtain ⟨c63, hc63⟩ : ∃ q_, q_ = (decide ((en : Int) > (x.length : Int))) := ⟨_, rfl⟩
          rw [← hc63]
          have Hc63 := Lib.hid hc63
          clear hc63
          cases c63 with
          | true =>
            have f64 := of_decide_eq_true Hc63.out.symm
            go_upto_region 12 with fail
            refine wpG_region_k (fun K hK => ?_)
            refine @wpG_p _ _ _ _ _ (some 2) (.slice none 0 0) _ _ rfl (by rfl) (fun _ => rfl) ?_
            simp only [n1, n3, n4]
            refine @wpG_p _ _ _ _ _ (some 3) (.int .i64 0) _ _ rfl (by rfl) (fun _ => rfl) ?_
            simp only [n1, n3, n4]
            refine @wpG_p _ _ _ _ _ (some 4) (.int .i64 5) _ _ rfl (by rfl) (fun _ => rfl) ?_
            simp only [n1, n3, n4]
            refine wpG_done (fun V65 hv66 => ?_)
            have S67 : Hid (St w noB [own (.slice E r ec) 3 1 r (ic (Pl.cellsOf (Pl.uP x) (Pl.fld (Pl.wd m) (Pl.V ((x.take mi).drop b2))) r))] V65) := Lib.hid (S62.out.gr hv66)
            clear S62
            clear hv66
            refine ⟨rfl, hK _ _ ?_⟩
            clear hK
            go_wp2_with fail
            go_ret3
            have hyB_ : (x.take mi).drop b2 = Pl.uB x := by rw [Pl.take_drop (r := Pl.room q33 (Pl.wd m)) (by rw [Hmi.out, Hen.out]), Hb2.out, HQN.out, HMM.out]; rfl
            have hg_ : Pl.gok m q33 (Pl.wd m) ((x.take mi).drop b2) = true := (by have e_f31 := f31.out; have e_f59 := f59.out; first | exact e_f59 | (have h_ := e_f59; simpa using h_))
            rw [hyB_, HQN.out, HMM.out] at hg_
            have hg2_ : Pl.gok (Pl.uM x) (Pl.uN x) (Pl.uW x) (Pl.uB x) = true := hg_
            have hen_ : en = 2 + Pl.uM x + Pl.uR x := by rw [Hen.out, Hb2.out, HQN.out, HMM.out]; rfl
            (have e_f31 := f31.out; have e_f59 := f59.out; have hu_ := Pl.un_gcut HE0.out hg2_ (by omega); exact ⟨none, 0, 0, by rw [hu_]; rfl, by rw [hu_]; exact S67.out.dropAll.nilOwn _ _⟩)
          | false =>
            have f68 := of_decide_eq_false Hc63.out.symm
            go_upto_region 13 with fail
            refine wpG_region_k (fun K hK => ?_)
            refine @wpG_p _ _ _ _ _ (some 64) (.slice E r ec) _ _ rfl (by rfl) (fun _ => rfl) ?_
            simp only [n1, n3, n4]
            refine @wpG_p _ _ _ _ _ (some 65) (.int .i64 (en : Int)) _ _ rfl (by rfl) (fun _ => rfl) ?_
            simp only [n1, n3, n4]
            refine @wpG_p _ _ _ _ _ (some 2) (.slice E r ec) _ _ rfl (by rfl) (fun _ => rfl) ?_
            simp only [n1, n3, n4]
            refine @wpG_p _ _ _ _ _ (some 3) (.int .i64 (en : Int)) _ _ rfl (by rfl) (fun _ => rfl) ?_
            simp only [n1, n3, n4]
            refine @wpG_p _ _ _ _ _ (some 4) (.int .i64 0) _ _ rfl (by rfl) (fun _ => rfl) ?_
            simp only [n1, n3, n4]
            refine wpG_done (fun V69 hv70 => ?_)
            have S71 : Hid (St w noB [own (.slice E r ec) 3 1 r (ic (Pl.cellsOf (Pl.uP x) (Pl.fld (Pl.wd m) (Pl.V ((x.take mi).drop b2))) r))] V69) := Lib.hid (S62.out.gr hv70)
            clear S62
            clear hv70
            refine ⟨rfl, hK _ _ ?_⟩
            clear hK
            go_wp2_with fail
            go_ret3
            have hyB_ : (x.take mi).drop b2 = Pl.uB x := by rw [Pl.take_drop (r := Pl.room q33 (Pl.wd m)) (by rw [Hmi.out, Hen.out]), Hb2.out, HQN.out, HMM.out]; rfl
            have hg_ : Pl.gok m q33 (Pl.wd m) ((x.take mi).drop b2) = true := (by have e_f31 := f31.out; have e_f59 := f59.out; first | exact e_f59 | (have h_ := e_f59; simpa using h_))
            rw [hyB_, HQN.out, HMM.out] at hg_
            have hg2_ : Pl.gok (Pl.uM x) (Pl.uN x) (Pl.uW x) (Pl.uB x) = true := hg_
            have hen_ : en = 2 + Pl.uM x + Pl.uR x := by rw [Hen.out, Hb2.out, HQN.out, HMM.out]; rfl
            obtain ⟨hu_, hl_⟩ := Pl.un_gok HE0.out hg2_ (by have e_f31 := f31.out; have e_f59 := f59.out; omega)
            have hr_ : r = Pl.uN x := by have h_ := HGQ.out; rw [hyB_, HQN.out, HMM.out] at h_; exact h_ hg2_ hl_
            exact ⟨E, r, ec, by rw [hu_, hen_]; rfl, by rw [hu_]; have h_ := S71.out.sub (.cons_cons _ .slnil); rw [hyB_, hr_, HMM.out] at h_; rw [hr_]; exact h_⟩
  | false =>
    have f72 := Lib.hid (Decidable.not_not.1 (of_decide_eq_false Hc5.out.symm))
    refine @wpG_no _ _ _ _ _ (some 16) _ _ rfl (by rfl) ?_
    simp only [n1, n3, n4]
    refine @wpG_no _ _ _ _ _ (some 17) _ _ rfl (by rfl) ?_
    simp only [n1, n3, n4]
    refine @wpG_no _ _ _ _ _ (some 18) _ _ rfl (by rfl) ?_
    simp only [n1, n3, n4]
    refine @wpG_p _ _ _ _ _ (some 19) (.bool false) _ _ rfl (by rfl) (fun W => by go_simp) ?_
    simp only [n1, n3, n4]
    refine wpG_done (fun V73 hv74 => ?_)
    have S75 : Hid (St w noB [] V73) := Lib.hid (S4.out.gr hv74)
    clear S4
    clear hv74
    refine ⟨rfl, hK _ _ ?_⟩
    clear hK
    go_upto_region 3 with fail
    refine wpG_region_k (fun K hK => ?_)
    have HNZ : Hid (¬ (x.length ≠ 0 ∧ Pl.uN x = 0)) := Lib.hid (by have e_f72 := f72.out; have h_ : x = [] := (by first | exact e_f72 | exact Decidable.not_not.1 e_f72); rw [h_]; simp)
    refine @wpG_p _ _ _ _ _ (some 21) (.string (bstr x)) _ _ rfl (by rfl) (fun _ => rfl) ?_
    simp only [n1, n3, n4]
    refine wpG_call (some 22) 36 #[.string (bstr x)] rfl (by rfl) (fun W => by go_simp) (fun W76 hg77 => ?_)
    refine (head_any x W76 hx).mono ?_
    rintro e w78 ⟨D, m, dc, rfl, hS_⟩
    refine ⟨_, rfl, ?_⟩
    have hT_ := (S75.out.gr hg77).got hS_
    simp only [n1, n3, n4]
    have S79 : Hid (St w noB [own (.slice D m dc) 3 1 m (ic (Pl.hL x))] w78) := Lib.hid hT_
    clear S75
    clear hT_ hS_ hg77
    have HML : Hid (m = (Pl.hL x).length) := Lib.hid (own_icl (S79.out.ownr 0 rfl))
    refine @wpG_p _ _ _ _ _ (some 20) (.tuple #[.int .i64 (Pl.hN x), .slice D m dc, .int .i64 (Pl.hE x : Int)]) _ _ rfl (by rfl) (fun _ => rfl) ?_
    simp only [n1, n3, n4]
    refine @wpG_p _ _ _ _ _ (some 23) (.int .i64 (Pl.hN x)) _ _ rfl (by rfl) (fun W => by go_simp) ?_
    simp only [n1, n3, n4]
    refine @wpG_p _ _ _ _ _ (some 24) (.slice D m dc) _ _ rfl (by rfl) (fun W => by go_simp) ?_
    simp only [n1, n3, n4]
    refine @wpG_p _ _ _ _ _ (some 25) (.int .i64 (Pl.hE x : Int)) _ _ rfl (by rfl) (fun W => by go_simp) ?_
    simp only [n1, n3, n4]
    refine @wpG_p _ _ _ _ _ (some 5) (.int .i64 (Pl.hN x)) _ _ rfl (by rfl) (fun _ => rfl) ?_
    simp only [n1, n3, n4]
    refine @wpG_p _ _ _ _ _ (some 6) (.slice D m dc) _ _ rfl (by rfl) (fun _ => rfl) ?_
    simp only [n1, n3, n4]
    refine @wpG_p _ _ _ _ _ (some 7) (.int .i64 (Pl.hE x : Int)) _ _ rfl (by rfl) (fun _ => rfl) ?_
    simp only [n1, n3, n4]
    refine wpG_done (fun V80 hv81 => ?_)
    have S82 : Hid (St w noB [own (.slice D m dc) 3 1 m (ic (Pl.hL x))] V80) := Lib.hid (S79.out.gr hv81)
    clear S79
    clear hv81
    refine ⟨rfl, hK _ _ ?_⟩
    clear hK
    go_upto_region 4 with fail
    refine wpG_region_k (fun K hK => ?_)
    refine @wpG_p _ _ _ _ _ (some 26) (.int .i64 (Pl.hE x : Int)) _ _ rfl (by rfl) (fun _ => rfl) ?_
    simp only [n1, n3, n4]
    refine @wpG_p _ _ _ _ _ (some 27) (.bool (decide ((Pl.hE x : Int) ≠ 0))) _ _ rfl (by rfl) (fun W => op_int_neq W (Pl.hE x : Int) 0 rfl rfl rfl Try.underlying24) ?_
    simp only [n1, n3, n4]
    refine wpG_done (fun V83 hv84 => ?_)
    have S85 : Hid (St w noB [own (.slice D m dc) 3 1 m (ic (Pl.hL x))] V83) := Lib.hid (S82.out.gr hv84)
    clear S82
    clear hv84
    refine ⟨rfl, hK _ _ ?_⟩
    clear hK
    obtain ⟨c86, hc86⟩ : ∃ q_, q_ = (decide ((Pl.hE x : Int) ≠ 0)) := ⟨_, rfl⟩
    rw [← hc86]
    have Hc86 := Lib.hid hc86
    clear hc86
    cases c86 with
    | true =>
      have f87 := of_decide_eq_true Hc86.out.symm
      go_upto_region 5 with fail
      refine wpG_region_k (fun K hK => ?_)
      refine @wpG_p _ _ _ _ _ (some 28) (.int .i64 (Pl.hE x : Int)) _ _ rfl (by rfl) (fun _ => rfl) ?_
      simp only [n1, n3, n4]
      refine @wpG_p _ _ _ _ _ (some 2) (.slice none 0 0) _ _ rfl (by rfl) (fun _ => rfl) ?_
      simp only [n1, n3, n4]
      refine @wpG_p _ _ _ _ _ (some 3) (.int .i64 0) _ _ rfl (by rfl) (fun _ => rfl) ?_
      simp only [n1, n3, n4]
      refine @wpG_p _ _ _ _ _ (some 4) (.int .i64 (Pl.hE x : Int)) _ _ rfl (by rfl) (fun _ => rfl) ?_
      simp only [n1, n3, n4]
      refine wpG_done (fun V88 hv89 => ?_)
      have S90 : Hid (St w noB [own (.slice D m dc) 3 1 m (ic (Pl.hL x))] V88) := Lib.hid (S85.out.gr hv89)
      clear S85
      clear hv89
      refine ⟨rfl, hK _ _ ?_⟩
      clear hK
      go_wp2_with fail
      go_ret3
      (have e_f72 := f72.out; have hu_ := Pl.un_head HNZ.out (show Pl.hE x ≠ 0 by omega); exact ⟨none, 0, 0, by rw [hu_]; rfl, by rw [hu_]; exact S90.out.dropAll.nilOwn _ _⟩)
    | false =>
      have f91 := Lib.hid (Decidable.not_not.1 (of_decide_eq_false Hc86.out.symm))
      have f91a := Int.le_of_eq f91.out
      have f91b := Int.le_of_eq f91.out.symm
      go_upto_region 6 with fail
      refine wpG_region_k (fun K hK => ?_)
      have hE0_ : Pl.hE x = 0 := by have e_f72 := f72.out; have e_f91 := f91.out; have h_ := e_f91; omega
      have HE0 := Lib.hid hE0_
      have hko_ := Pl.hE_ok hE0_
      obtain ⟨hk1_, hk2_, hk3_, hk4_, hk5_, hk6_, _⟩ := hko_
      obtain ⟨hh1_, hh2_⟩ := Pl.h_ok hE0_
      have S92 : Hid (St w noB [own (.slice D m dc) 3 1 m (ic (Pl.uP x))] V83) := Lib.hid (by have h_ := S85.out; rw [show ic (Pl.hL x) = ic (Pl.uP x) from (by rw [hh2_])] at h_; exact h_)
      clear S85
      have hmM_ : m = Pl.uM x := by have h_ := HML.out; rw [hh2_, hk5_] at h_; exact h_
      obtain ⟨q93, hq_⟩ : ∃ q_ : Nat, Pl.hN x = (q_ : Int) := ⟨(Pl.hN x).toNat, by (have := Pl.hN_nn x; omega)⟩
      rw [hq_]
      have HQq93 := Lib.hid hq_
      clear hq_
      have hqN_ : q93 = Pl.uN x := by have h_ := HQq93.out; rw [hh1_] at h_; omega
      have HQN := Lib.hid hqN_
      have HMM := Lib.hid hmM_
      have hqb_ : 1 ≤ q93 ∧ q93 ≤ 64 := by omega
      have hmb_ : 1 ≤ m ∧ m ≤ 64 ∧ 2 + m ≤ x.length := by omega
      have HK5 := Lib.hid hk5_
      have hw8_ : Pl.wd m ≤ 8 := by rcases Pl.wd_cases m with e_ | e_ | e_ | e_ | e_ <;> omega
      clear hE0_ hk1_ hk2_ hk3_ hk4_ hk5_ hk6_ hh1_ hh2_ hmM_ hqN_
      refine @wpG_p _ _ _ _ _ (some 29) (.slice D m dc) _ _ rfl (by rfl) (fun _ => rfl) ?_
      simp only [n1, n3, n4]
      refine @wpG_p _ _ _ _ _ (some 30) (.int .i64 (m : Int)) _ _ rfl (by rfl) (fun W => by go_simp) ?_
      simp only [n1, n3, n4]
      obtain ⟨b2, h_b2⟩ : ∃ q_ : Nat, q_ = 2 + m := ⟨_, rfl⟩
      have hb2b : b2 ≤ x.length ∧ b2 ≤ 66 ∧ 2 + m ≤ b2 ∧ b2 ≤ 2 + m := by omega
      have Hb2 := Lib.hid h_b2
      clear h_b2
      refine @wpG_p _ _ _ _ _ (some 31) (.int .i64 (b2 : Int)) _ _ rfl (by rfl) (fun W => op_n_add 2 m b2 Hb2.out.symm (by omega) rfl rfl rfl) ?_
      simp only [n1, n3, n4]
      refine @wpG_p _ _ _ _ _ (some 32) (.slice D m dc) _ _ rfl (by rfl) (fun _ => rfl) ?_
      simp only [n1, n3, n4]
      refine @wpG_p _ _ _ _ _ (some 33) (.int .i64 (m : Int)) _ _ rfl (by rfl) (fun W => by go_simp) ?_
      simp only [n1, n3, n4]
      refine @wpG_tk _ _ _ _ _ (some 34) (.int .i64 (Pl.wd m : Int)) _ _ rfl (.call (f := 30) (args := #[.int .i64 (m : Int)]) (by rfl) (fun W => by go_simp) (fun W hg => width_any m W (by omega))) ?_
      simp only [n1, n3, n4]
      refine @wpG_p _ _ _ _ _ (some 8) (.int .i64 (b2 : Int)) _ _ rfl (by rfl) (fun _ => rfl) ?_
      simp only [n1, n3, n4]
      refine @wpG_p _ _ _ _ _ (some 9) (.int .i64 (Pl.wd m : Int)) _ _ rfl (by rfl) (fun _ => rfl) ?_
      simp only [n1, n3, n4]
      refine wpG_done (fun V94 hv95 => ?_)
      have S96 : Hid (St w noB [own (.slice D m dc) 3 1 m (ic (Pl.uP x))] V94) := Lib.hid (S92.out.gr hv95)
      clear S92
      clear hv95
      refine ⟨rfl, hK _ _ ?_⟩
      clear hK
      go_upto_region 7 with fail
      refine wpG_region_k (fun K hK => ?_)
      refine @wpG_p _ _ _ _ _ (some 35) (.int .i64 (b2 : Int)) _ _ rfl (by rfl) (fun _ => rfl) ?_
      simp only [n1, n3, n4]
      refine @wpG_p _ _ _ _ _ (some 36) (.int .i64 (q93 : Int)) _ _ rfl (by rfl) (fun _ => rfl) ?_
      simp only [n1, n3, n4]
      refine @wpG_p _ _ _ _ _ (some 37) (.int .i64 (Pl.wd m : Int)) _ _ rfl (by rfl) (fun _ => rfl) ?_
      simp only [n1, n3, n4]
      refine @wpG_tk _ _ _ _ _ (some 38) (.int .i64 ((Pl.room q93 (Pl.wd m) : Nat) : Int)) _ _ rfl (.call (f := 37) (args := #[.int .i64 (q93 : Int), .int .i64 (Pl.wd m : Int)]) (by rfl) (fun W => by go_simp) (fun W hg => room_any q93 (Pl.wd m) W (Nat.le_trans (Nat.mul_le_mul hqb_.2 hw8_) (by decide)))) ?_
      simp only [n1, n3, n4]
      obtain ⟨en, h_en⟩ : ∃ q_ : Nat, q_ = b2 + Pl.room q93 (Pl.wd m) := ⟨_, rfl⟩
      have henb : en ≤ 1000 ∧ b2 ≤ en ∧ en ≤ b2 + 64 := by have := Pl.room_le hqb_.2 hw8_; omega
      have Hen := Lib.hid h_en
      clear h_en
      refine @wpG_p _ _ _ _ _ (some 39) (.int .i64 (en : Int)) _ _ rfl (by rfl) (fun W => op_n_add b2 (Pl.room q93 (Pl.wd m)) en Hen.out.symm (by omega) rfl rfl rfl) ?_
      simp only [n1, n3, n4]
      refine @wpG_p _ _ _ _ _ (some 10) (.int .i64 (en : Int)) _ _ rfl (by rfl) (fun _ => rfl) ?_
      simp only [n1, n3, n4]
      refine wpG_done (fun V97 hv98 => ?_)
      have S99 : Hid (St w noB [own (.slice D m dc) 3 1 m (ic (Pl.uP x))] V97) := Lib.hid (S96.out.gr hv98)
      clear S96
      clear hv98
      refine ⟨rfl, hK _ _ ?_⟩
      clear hK
      go_upto_region 8 with fail
      refine wpJ_region_k (st := fun i => i == 11 || i == 12) (by kernel_rfl) (fun K hK => ?_)
      refine J.wpK_ta (i := 0) (some 41) (v := .string (bstr x)) rfl rfl (by kernel_rfl) (fun _ _ _ h => onN_panic h) (Or.inl ⟨rfl, fun _ => rfl⟩) ?_
      simp only [n1, n3, n4]
      refine J.wpK_ta (i := 1) (some 42) (v := .int .i64 (b2 : Int)) rfl rfl (by kernel_rfl) (fun _ _ _ h => onN_panic h) (Or.inl ⟨rfl, fun _ => rfl⟩) ?_
      simp only [n1, n3, n4]
      refine J.wpK_ta (i := 2) (some 43) (v := .int .i64 (en : Int)) rfl rfl (by kernel_rfl) (fun _ _ _ h => onN_panic h) (Or.inl ⟨rfl, fun _ => rfl⟩) ?_
      simp only [n1, n3, n4]
      refine J.wpK_ta (i := 3) (some 44) (v := .string (bstr x)) rfl rfl (by kernel_rfl) (fun _ _ _ h => onN_panic h) (Or.inl ⟨rfl, fun _ => rfl⟩) ?_
      simp only [n1, n3, n4]
      refine J.wpK_ta (i := 4) (some 45) (v := .int .i64 (x.length : Int)) rfl rfl (by kernel_rfl) (fun _ _ _ h => onN_panic h) (Or.inl ⟨by rfl, fun W => by exact op_str_len W x rfl rfl Try.underlying9⟩) ?_
      simp only [n1, n3, n4]
      obtain ⟨mi, h_mi⟩ : ∃ q_ : Nat, q_ = min en x.length := ⟨_, rfl⟩
      have hmib : mi ≤ en ∧ mi ≤ x.length ∧ (mi = en ∨ mi = x.length) := by omega
      have hmi2 : b2 ≤ mi := by omega
      have Hmi := Lib.hid h_mi
      clear h_mi
      refine J.wpK_ta (i := 5) (some 46) (v := .int .i64 (mi : Int)) rfl rfl (by kernel_rfl) (fun _ _ _ h => onN_panic h) (Or.inl ⟨by rfl, fun W => by (go_simp <;> (repeat' split) <;> omega)⟩) ?_
      simp only [n1, n3, n4]
      refine J.wpK_ta (i := 6) (some 47) (v := .string (bstr ((x.take mi).drop b2))) rfl rfl (by kernel_rfl) (fun _ _ _ h => onN_panic h) (Or.inl ⟨by rfl, fun W => by exact op_str_slice W x b2 mi (by omega) (by omega) rfl rfl rfl rfl Try.underlying9⟩) ?_
      simp only [n1, n3, n4]
      refine J.wpK_ta (i := 7) (some 48) (v := .int .i64 (q93 : Int)) rfl rfl (by kernel_rfl) (fun _ _ _ h => onN_panic h) (Or.inl ⟨rfl, fun _ => rfl⟩) ?_
      simp only [n1, n3, n4]
      refine J.wpK_ta (i := 8) (some 49) (v := .int .i64 (Pl.wd m : Int)) rfl rfl (by kernel_rfl) (fun _ _ _ h => onN_panic h) (Or.inl ⟨rfl, fun _ => rfl⟩) ?_
      simp only [n1, n3, n4]
      refine J.wpK_ta (i := 9) (some 50) (v := .int .i64 (q93 : Int)) rfl rfl (by kernel_rfl) (fun _ _ _ h => onN_panic h) (Or.inl ⟨rfl, fun _ => rfl⟩) ?_
      simp only [n1, n3, n4]
      refine J.wpK_ta (i := 10) (some 51) (v := .slice D m dc) rfl rfl (by kernel_rfl) (fun _ _ _ h => onN_panic h) (Or.inl ⟨rfl, fun _ => rfl⟩) ?_
      simp only [n1, n3, n4]
      refine J.wpK_call (i := 11) (some 52) 39 #[.int .i64 (q93 : Int), .slice D m dc] rfl rfl (by kernel_rfl) (by rfl) rfl (fun W => by go_simp) (fun W100 hg101 => ?_)
      refine (inTurn_any (q93 : Int) D m dc W100).mono ?_
      rintro e w102 ⟨gn, gu, gl, rfl, hS_⟩
      refine ⟨_, rfl, ?_⟩
      have hT_ := (S99.out.gr (Gr.un hg101)).got hS_
      simp only [n1, n3, n4]
      have S103 : Hid (St w noB [blk gu 3 [.int .i64 0], blk gl 22 [.slice D m dc], blk gn 3 [.int .i64 (q93 : Int)], own (.slice D m dc) 3 1 m (ic (Pl.uP x))] w102) := Lib.hid hT_
      clear S99
      clear hT_ hS_ hg101
      have hyl_ : ((x.take mi).drop b2).length ≤ 64 := by rw [List.length_drop, List.length_take]; omega
      refine J.wpK_call (i := 12) (some 53) 38 #[.string (bstr ((x.take mi).drop b2)), .int .i64 (q93 : Int), .int .i64 (Pl.wd m : Int), .func (.func 50) #[] #[.pointer (some ⟨gn, 0, none⟩), .pointer (some ⟨gu, 0, none⟩), .pointer (some ⟨gl, 0, none⟩)]] rfl rfl (by kernel_rfl) (by rfl) rfl (fun W => by go_simp) (fun W104 hg105 => ?_)
      obtain ⟨fp_, hA_, hfp_, back_⟩ := St.lend (L := [blk gu 3 [.int .i64 0], blk gl 22 [.slice D m dc], blk gn 3 [.int .i64 (q93 : Int)], own (.slice D m dc) 3 1 m (ic (Pl.uP x))]) (M := []) (((((S103.out.gr hg105).front 3 rfl).front 3 rfl).front 3 rfl).front 3 rfl)
      refine (gather_int ((x.take mi).drop b2) q93 (Pl.wd m) m gn gu gl D dc (Pl.uP x) fp_ W104 hyl_ hqb_.2 hw8_ (by rw [HK5.out]; have := HMM.out; omega) hA_).mono ?_
      rintro e w106 ⟨E, r, ec, rfl, hgq1_, hgq2_, hS_⟩
      refine ⟨_, rfl, ?_⟩
      have hT_ := back_ hS_
      simp only [n1, n3, n4]
      have S107 : Hid (St w noB [own (.slice E r ec) 3 1 r (ic (Pl.cellsOf (Pl.uP x) (Pl.fld (Pl.wd m) (Pl.V ((x.take mi).drop b2))) r))] w106) := Lib.hid hT_
      clear S103
      clear hT_ hS_ hg105 hA_ hfp_ back_
      have HGQ := Lib.hid hgq2_
      clear hgq2_
      refine J.wpK_ta (i := 13) (some 40) (v := .tuple #[.slice E r ec, .bool (Pl.gok m q93 (Pl.wd m) ((x.take mi).drop b2))]) rfl rfl (by kernel_rfl) (fun _ _ _ h => onN_panic h) (Or.inl ⟨rfl, fun _ => rfl⟩) ?_
      simp only [n1, n3, n4]
      refine J.wpK_ta (i := 14) (some 54) (v := .slice E r ec) rfl rfl (by kernel_rfl) (fun _ _ _ h => onN_panic h) (Or.inl ⟨by rfl, fun W => by go_simp⟩) ?_
      simp only [n1, n3, n4]
      refine J.wpK_ta (i := 15) (some 55) (v := .bool (Pl.gok m q93 (Pl.wd m) ((x.take mi).drop b2))) rfl rfl (by kernel_rfl) (fun _ _ _ h => onN_panic h) (Or.inl ⟨by rfl, fun W => by go_simp⟩) ?_
      simp only [n1, n3, n4]
      refine J.wpK_ta (i := 16) (some 11) (v := .slice E r ec) rfl rfl (by kernel_rfl) (fun _ _ _ h => onN_panic h) (Or.inl ⟨rfl, fun _ => rfl⟩) ?_
      simp only [n1, n3, n4]
      refine J.wpK_ta (i := 17) (some 12) (v := .bool (Pl.gok m q93 (Pl.wd m) ((x.take mi).drop b2))) rfl rfl (by kernel_rfl) (fun _ _ _ h => onN_panic h) (Or.inl ⟨rfl, fun _ => rfl⟩) ?_
      simp only [n1, n3, n4]
      refine J.wpK_done (by kernel_rfl) (fun V108 hv109 => ?_) _
      have S110 : Hid (St w noB [own (.slice E r ec) 3 1 r (ic (Pl.cellsOf (Pl.uP x) (Pl.fld (Pl.wd m) (Pl.V ((x.take mi).drop b2))) r))] V108) := Lib.hid (S107.out.gr hv109)
      clear S107
      clear hv109
      refine ⟨rfl, hK _ _ ?_⟩
      clear hK
      go_upto_region 9 with fail
      refine wpG_region_k (fun K hK => ?_)
      refine @wpG_p _ _ _ _ _ (some 57) (.bool (Pl.gok m q93 (Pl.wd m) ((x.take mi).drop b2))) _ _ rfl (by rfl) (fun _ => rfl) ?_
      simp only [n1, n3, n4]
      refine @wpG_p _ _ _ _ _ (some 58) (.bool (!(Pl.gok m q93 (Pl.wd m) ((x.take mi).drop b2)))) _ _ rfl (by rfl) (fun W => by go_simp) ?_
      simp only [n1, n3, n4]
      refine @wpG_p _ _ _ _ _ (some 56) (.bool (!(Pl.gok m q93 (Pl.wd m) ((x.take mi).drop b2)))) _ _ rfl (by rfl) (fun _ => rfl) ?_
      simp only [n1, n3, n4]
      refine wpG_done (fun V111 hv112 => ?_)
      have S113 : Hid (St w noB [own (.slice E r ec) 3 1 r (ic (Pl.cellsOf (Pl.uP x) (Pl.fld (Pl.wd m) (Pl.V ((x.take mi).drop b2))) r))] V111) := Lib.hid (S110.out.gr hv112)
      clear S110
      clear hv112
      refine ⟨rfl, hK _ _ ?_⟩
      clear hK
      obtain ⟨c114, hc114⟩ : ∃ q_, q_ = (!(Pl.gok m q93 (Pl.wd m) ((x.take mi).drop b2))) := ⟨_, rfl⟩
      rw [← hc114]
      have Hc114 := Lib.hid hc114
      clear hc114
      cases c114 with
      | true =>
        have f115 := Lib.hid ((bnt Hc114.out))
        go_upto_region 10 with fail
        refine wpG_region_k (fun K hK => ?_)
        refine @wpG_p _ _ _ _ _ (some 2) (.slice none 0 0) _ _ rfl (by rfl) (fun _ => rfl) ?_
        simp only [n1, n3, n4]
        refine @wpG_p _ _ _ _ _ (some 3) (.int .i64 0) _ _ rfl (by rfl) (fun _ => rfl) ?_
        simp only [n1, n3, n4]
        refine @wpG_p _ _ _ _ _ (some 4) (.int .i64 6) _ _ rfl (by rfl) (fun _ => rfl) ?_
        simp only [n1, n3, n4]
        refine wpG_done (fun V116 hv117 => ?_)
        have S118 : Hid (St w noB [own (.slice E r ec) 3 1 r (ic (Pl.cellsOf (Pl.uP x) (Pl.fld (Pl.wd m) (Pl.V ((x.take mi).drop b2))) r))] V116) := Lib.hid (S113.out.gr hv117)
        clear S113
        clear hv117
        refine ⟨rfl, hK _ _ ?_⟩
        clear hK
        go_wp2_with fail
        go_ret3
        have hyB_ : (x.take mi).drop b2 = Pl.uB x := by rw [Pl.take_drop (r := Pl.room q93 (Pl.wd m)) (by rw [Hmi.out, Hen.out]), Hb2.out, HQN.out, HMM.out]; rfl
        have hg_ : Pl.gok m q93 (Pl.wd m) ((x.take mi).drop b2) = false := (by have e_f72 := f72.out; have e_f91 := f91.out; have e_f115 := f115.out; first | exact e_f115 | (have h_ := e_f115; simpa using h_))
        rw [hyB_, HQN.out, HMM.out] at hg_
        have hg2_ : Pl.gok (Pl.uM x) (Pl.uN x) (Pl.uW x) (Pl.uB x) = false := hg_
        have hen_ : en = 2 + Pl.uM x + Pl.uR x := by rw [Hen.out, Hb2.out, HQN.out, HMM.out]; rfl
        (have hu_ := Pl.un_nok HE0.out hg2_; exact ⟨none, 0, 0, by rw [hu_]; rfl, by rw [hu_]; exact S118.out.dropAll.nilOwn _ _⟩)
      | false =>
        have f119 := Lib.hid ((bnf Hc114.out))
        go_upto_region 11 with fail
        refine wpG_region_k (fun K hK => ?_)
        refine @wpG_p _ _ _ _ _ (some 60) (.int .i64 (en : Int)) _ _ rfl (by rfl) (fun _ => rfl) ?_
        simp only [n1, n3, n4]
        refine @wpG_p _ _ _ _ _ (some 61) (.string (bstr x)) _ _ rfl (by rfl) (fun _ => rfl) ?_
        simp only [n1, n3, n4]
        refine @wpG_p _ _ _ _ _ (some 62) (.int .i64 (x.length : Int)) _ _ rfl (by rfl) (fun W => op_str_len W x rfl rfl Try.underlying9) ?_
        simp only [n1, n3, n4]
        refine @wpG_p _ _ _ _ _ (some 63) (.bool (decide ((en : Int) > (x.length : Int)))) _ _ rfl (by rfl) (fun W => op_int_gtr W (en : Int) (x.length : Int) rfl rfl rfl Try.underlying3) ?_
        simp only [n1, n3, n4]
        refine @wpG_p _ _ _ _ _ (some 59) (.bool (decide ((en : Int) > (x.length : Int)))) _ _ rfl (by rfl) (fun _ => rfl) ?_
        simp only [n1, n3, n4]
        refine wpG_done (fun V120 hv121 => ?_)
        have S122 : Hid (St w noB [own (.slice E r ec) 3 1 r (ic (Pl.cellsOf (Pl.uP x) (Pl.fld (Pl.wd m) (Pl.V ((x.take mi).drop b2))) r))] V120) := Lib.hid (S113.out.gr hv121)
        clear S113
        clear hv121
        refine ⟨rfl, hK _ _ ?_⟩
        clear hK
        obtain ⟨c123, hc123⟩ : ∃ q_, q_ = (decide ((en : Int) > (x.length : Int))) := ⟨_, rfl⟩
        rw [← hc123]
        have Hc123 := Lib.hid hc123
        clear hc123
        cases c123 with
        | true =>
          have f124 := of_decide_eq_true Hc123.out.symm
          go_upto_region 12 with fail
          refine wpG_region_k (fun K hK => ?_)
          refine @wpG_p _ _ _ _ _ (some 2) (.slice none 0 0) _ _ rfl (by rfl) (fun _ => rfl) ?_
          simp only [n1, n3, n4]
          refine @wpG_p _ _ _ _ _ (some 3) (.int .i64 0) _ _ rfl (by rfl) (fun _ => rfl) ?_
          simp only [n1, n3, n4]
          refine @wpG_p _ _ _ _ _ (some 4) (.int .i64 5) _ _ rfl (by rfl) (fun _ => rfl) ?_
          simp only [n1, n3, n4]
          refine wpG_done (fun V125 hv126 => ?_)
          have S127 : Hid (St w noB [own (.slice E r ec) 3 1 r (ic (Pl.cellsOf (Pl.uP x) (Pl.fld (Pl.wd m) (Pl.V ((x.take mi).drop b2))) r))] V125) := Lib.hid (S122.out.gr hv126)
          clear S122
          clear hv126
          refine ⟨rfl, hK _ _ ?_⟩
          clear hK
          go_wp2_with fail
          go_ret3
          have hyB_ : (x.take mi).drop b2 = Pl.uB x := by rw [Pl.take_drop (r := Pl.room q93 (Pl.wd m)) (by rw [Hmi.out, Hen.out]), Hb2.out, HQN.out, HMM.out]; rfl
          have hg_ : Pl.gok m q93 (Pl.wd m) ((x.take mi).drop b2) = true := (by have e_f72 := f72.out; have e_f91 := f91.out; have e_f119 := f119.out; first | exact e_f119 | (have h_ := e_f119; simpa using h_))
          rw [hyB_, HQN.out, HMM.out] at hg_
          have hg2_ : Pl.gok (Pl.uM x) (Pl.uN x) (Pl.uW x) (Pl.uB x) = true := hg_
          have hen_ : en = 2 + Pl.uM x + Pl.uR x := by rw [Hen.out, Hb2.out, HQN.out, HMM.out]; rfl
          (have e_f72 := f72.out; have e_f91 := f91.out; have e_f119 := f119.out; have hu_ := Pl.un_gcut HE0.out hg2_ (by omega); exact ⟨none, 0, 0, by rw [hu_]; rfl, by rw [hu_]; exact S127.out.dropAll.nilOwn _ _⟩)
        | false =>
          have f128 := of_decide_eq_false Hc123.out.symm
          go_upto_region 13 with fail
          refine wpG_region_k (fun K hK => ?_)
          refine @wpG_p _ _ _ _ _ (some 64) (.slice E r ec) _ _ rfl (by rfl) (fun _ => rfl) ?_
          simp only [n1, n3, n4]
          refine @wpG_p _ _ _ _ _ (some 65) (.int .i64 (en : Int)) _ _ rfl (by rfl) (fun _ => rfl) ?_
          simp only [n1, n3, n4]
          refine @wpG_p _ _ _ _ _ (some 2) (.slice E r ec) _ _ rfl (by rfl) (fun _ => rfl) ?_
          simp only [n1, n3, n4]
          refine @wpG_p _ _ _ _ _ (some 3) (.int .i64 (en : Int)) _ _ rfl (by rfl) (fun _ => rfl) ?_
          simp only [n1, n3, n4]
          refine @wpG_p _ _ _ _ _ (some 4) (.int .i64 0) _ _ rfl (by rfl) (fun _ => rfl) ?_
          simp only [n1, n3, n4]
          refine wpG_done (fun V129 hv130 => ?_)
          have S131 : Hid (St w noB [own (.slice E r ec) 3 1 r (ic (Pl.cellsOf (Pl.uP x) (Pl.fld (Pl.wd m) (Pl.V ((x.take mi).drop b2))) r))] V129) := Lib.hid (S122.out.gr hv130)
          clear S122
          clear hv130
          refine ⟨rfl, hK _ _ ?_⟩
          clear hK
          go_wp2_with fail
          go_ret3
          have hyB_ : (x.take mi).drop b2 = Pl.uB x := by rw [Pl.take_drop (r := Pl.room q93 (Pl.wd m)) (by rw [Hmi.out, Hen.out]), Hb2.out, HQN.out, HMM.out]; rfl
          have hg_ : Pl.gok m q93 (Pl.wd m) ((x.take mi).drop b2) = true := (by have e_f72 := f72.out; have e_f91 := f91.out; have e_f119 := f119.out; first | exact e_f119 | (have h_ := e_f119; simpa using h_))
          rw [hyB_, HQN.out, HMM.out] at hg_
          have hg2_ : Pl.gok (Pl.uM x) (Pl.uN x) (Pl.uW x) (Pl.uB x) = true := hg_
          have hen_ : en = 2 + Pl.uM x + Pl.uR x := by rw [Hen.out, Hb2.out, HQN.out, HMM.out]; rfl
          obtain ⟨hu_, hl_⟩ := Pl.un_gok HE0.out hg2_ (by have e_f72 := f72.out; have e_f91 := f91.out; have e_f119 := f119.out; omega)
          have hr_ : r = Pl.uN x := by have h_ := HGQ.out; rw [hyB_, HQN.out, HMM.out] at h_; exact h_ hg2_ hl_
          exact ⟨E, r, ec, by rw [hu_, hen_]; rfl, by rw [hu_]; have h_ := S131.out.sub (.cons_cons _ .slnil); rw [hyB_, hr_, HMM.out] at h_; rw [hr_]; exact h_⟩

end Go.Proofs.Ytfomieekdbkcnaa
