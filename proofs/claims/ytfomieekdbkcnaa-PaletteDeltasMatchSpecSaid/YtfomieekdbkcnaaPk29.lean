/-
  Contracts of the specification of package palette: Patch.
-/
import Derived.Test.YtfomieekdbkcnaaPk28
import Derived.Test.YtfomieekdbkcnaaPk22
import Derived.Handy
namespace Go.Proofs.Ytfomieekdbkcnaa
open Go Go.RowKit
set_option linter.unusedVariables false
set_option linter.unusedSimpArgs false
namespace Pl
def pvs (a : List Int) (b : Nat → Bool) (cs : List Int) (k : Nat) : List Int := (List.range k).map (pv a b cs)
theorem pvs_succ (a : List Int) (b : Nat → Bool) (cs : List Int) (k : Nat) : pvs a b cs (k + 1) = pvs a b cs k ++ [pv a b cs k] := by unfold pvs; rw [List.range_succ, List.map_append]; rfl
theorem pvs_all (a : List Int) (b : Nat → Bool) (cs : List Int) : pvs a b cs 64 = pl a b cs := rfl
theorem pv_yes {a : List Int} {b : Nat → Bool} {cs : List Int} {k : Nat} (h : b k = true) : pv a b cs k = cs.getD (pc b k) 0 := if_pos h
theorem pv_no {a : List Int} {b : Nat → Bool} {cs : List Int} {k : Nat} (h : b k = false) : pv a b cs k = a.getD k 0 := if_neg (by rw [h]; simp)
theorem mb_take {x : List UInt8} {k : Nat} (hk : k < 64) (hx : 8 ≤ x.length) : mb (x.take 8) k = decide ((x.getD (k / 8) 0).toNat / 2 ^ (k % 8) % 2 = 1) := by
  unfold mb
  rw [bit_at (by rw [List.length_take]; omega)]
  congr 4
  have h1 : k / 8 < 8 := by omega
  simp [List.getD, h1]
end Pl
theorem op_u8_and1 {P : Program} {ev : Operand → Value} {o : Oper} {W : World} {t t' : TypeId} {x y : Operand} (a c : Nat) (hc : a % 2 = c) (ha : a < 256) (ho : o.op = .binOp .and t x y t') (hx : ev x = .int .u8 (a : Int)) (hy : ev y = .int .u8 1) : (execOp ev o).run P W = .ok (.value (.int .u8 (c : Int))) W := by
  have e1 : (binOp .and t (.int .u8 (a : Int)) (.int .u8 1)).run P W = .ok (.int .u8 (c : Int)) W := by
    have e : ((BitVec.ofInt 8 (a : Int) &&& BitVec.ofInt 8 1).toNat) = c := by
      rw [show (1 : Int) = ((1 : Nat) : Int) from rfl, BitVec.ofInt_natCast, BitVec.ofInt_natCast, BitVec.toNat_and, BitVec.toNat_ofNat, BitVec.toNat_ofNat, Nat.mod_eq_of_lt (by omega), Nat.mod_eq_of_lt (by omega), Nat.and_one_is_mod, hc]
    have e2 : (BitVec.ofInt IntKind.u8.bits (a : Int) &&& BitVec.ofInt IntKind.u8.bits 1).toNat = c := e
    simp only [binOp, Op.intBits, ne_eq, not_true_eq_false, if_false, Sem.run_pure]
    rw [e2, wrap_n8 (by omega)]
  have eg : ∀ u v, (eqGuard .and t x y u v).run P W = .ok () W := fun _ _ => rfl
  unfold execOp
  rw [ho]
  simp only [hx, hy, Sem.run_bind, eg, e1, Result.andThen_ok, Sem.run_pure]
set_option maxRecDepth 1000000 in
set_option maxHeartbeats 4000000 in
theorem rpatch_any (A : Option Addr) (n c : Nat) (l : List Int) (x : List UInt8) (w : World) (hG : SL w 1 A n c (ic l)) (hb : n ≤ 1000) (hx : x.length ≤ 1000) :
    Calls Try.prog 25 #[.slice A n c, .string (bstr x)] w fun e w' => ∃ A q c, e = .returned (.tuple #[.slice A q c, .int .i64 ((Pl.pP l x).2 : Int)]) ∧ St w noB [own (.slice A q c) 3 1 q (ic (Pl.pP l x).1)] w' := by
  have HGA := Lib.hid hG
  have HLEN : Hid (l.length = n) := Lib.hid (by have h_ := hG.len; rw [ic_len] at h_; omega)
  have hnbHGA : n ≤ 9223372036854775807 := Nat.le_trans hG.cap hG.bnd
  clear hG
  have S1 : Hid (St w noB [] w) := Lib.hid (St.start w)
  go_enter Try.func25, Try.ntmps25
  go_upto_region 0 with fail
  refine wpG_region_k (fun K hK => ?_)
  refine @wpG_p _ _ _ _ _ (some 4) (.slice none 0 0) _ _ rfl (by rfl) (fun _ => rfl) ?_
  simp only [n1, n3, n4]
  refine @wpG_p _ _ _ _ _ (some 5) (.int .i64 0) _ _ rfl (by rfl) (fun _ => rfl) ?_
  simp only [n1, n3, n4]
  refine wpG_done (fun V2 hv3 => ?_)
  have S4 : Hid (St w noB [] V2) := Lib.hid (S1.out.gr hv3)
  clear S1
  clear hv3
  refine ⟨rfl, hK _ _ ?_⟩
  clear hK
  go_upto_region 1 with fail
  refine wpG_region_k (fun K hK => ?_)
  refine @wpG_p _ _ _ _ _ (some 12) (.slice A n c) _ _ rfl (by rfl) (fun _ => rfl) ?_
  simp only [n1, n3, n4]
  refine @wpG_tk _ _ _ _ _ (some 13) (.bool (Pl.bk l)) _ _ rfl (.call (f := 42) (args := #[.slice A n c]) (by rfl) (fun W => by go_simp) (fun W hg => rbrick_any _ _ _ l W (HGA.out.gr (S4.out.gr hg).bel))) ?_
  simp only [n1, n3, n4]
  refine @wpG_p _ _ _ _ _ (some 6) (.bool (Pl.bk l)) _ _ rfl (by rfl) (fun _ => rfl) ?_
  simp only [n1, n3, n4]
  refine wpG_done (fun V5 hv6 => ?_)
  have S7 : Hid (St w noB [] V5) := Lib.hid (S4.out.gr hv6)
  clear S4
  clear hv6
  refine ⟨rfl, hK _ _ ?_⟩
  clear hK
  go_upto_region 2 with fail
  refine wpG_region_k (fun K hK => ?_)
  refine @wpG_p _ _ _ _ _ (some 14) (.bool (Pl.bk l)) _ _ rfl (by rfl) (fun _ => rfl) ?_
  simp only [n1, n3, n4]
  refine @wpG_p _ _ _ _ _ (some 15) (.bool (!(Pl.bk l))) _ _ rfl (by rfl) (fun W => by go_simp) ?_
  simp only [n1, n3, n4]
  refine wpG_done (fun V8 hv9 => ?_)
  have S10 : Hid (St w noB [] V8) := Lib.hid (S7.out.gr hv9)
  clear S7
  clear hv9
  refine ⟨rfl, hK _ _ ?_⟩
  clear hK
  obtain ⟨c11, hc11⟩ : ∃ q_, q_ = (!(Pl.bk l)) := ⟨_, rfl⟩
  rw [← hc11]
  have Hc11 := Lib.hid hc11
  clear hc11
  cases c11 with
  | true =>
    have f12 := Lib.hid ((bnt Hc11.out))
    go_upto_region 3 with fail
    refine wpG_region_k (fun K hK => ?_)
    refine @wpG_p _ _ _ _ _ (some 4) (.slice none 0 0) _ _ rfl (by rfl) (fun _ => rfl) ?_
    simp only [n1, n3, n4]
    refine @wpG_p _ _ _ _ _ (some 5) (.int .i64 1) _ _ rfl (by rfl) (fun _ => rfl) ?_
    simp only [n1, n3, n4]
    refine wpG_done (fun V13 hv14 => ?_)
    have S15 : Hid (St w noB [] V13) := Lib.hid (S10.out.gr hv14)
    clear S10
    clear hv14
    refine ⟨rfl, hK _ _ ?_⟩
    clear hK
    (repeat go_step)
    go_ret2
    (have e_f12 := f12.out; have hu_ := Pl.pP_no (a := l) (x := x) (by simpa using e_f12); exact ⟨none, 0, 0, by rw [hu_]; rfl, by rw [hu_]; exact S15.out.dropAll.nilOwn _ _⟩)
  | false =>
    have f16 := Lib.hid ((bnf Hc11.out))
    have HB1 : Hid (Pl.bk l = true) := Lib.hid (by have h_ := f16.out; simpa using h_)
    have h64a_ : n ≤ 64 ∧ 64 ≤ n := by have h_ := (Pl.bk_vc HB1.out).1; have h2_ := HLEN.out; omega
    go_upto_region 4 with fail
    refine wpG_region_k (fun K hK => ?_)
    refine @wpG_p _ _ _ _ _ (some 16) (.string (bstr x)) _ _ rfl (by rfl) (fun _ => rfl) ?_
    simp only [n1, n3, n4]
    refine @wpG_p _ _ _ _ _ (some 17) (.int .i64 (x.length : Int)) _ _ rfl (by rfl) (fun W => op_str_len W x rfl rfl Try.underlying9) ?_
    simp only [n1, n3, n4]
    refine @wpG_p _ _ _ _ _ (some 18) (.bool (decide ((x.length : Int) < 8))) _ _ rfl (by rfl) (fun W => op_int_lss W (x.length : Int) 8 rfl rfl rfl Try.underlying3) ?_
    simp only [n1, n3, n4]
    refine wpG_done (fun V17 hv18 => ?_)
    have S19 : Hid (St w noB [] V17) := Lib.hid (S10.out.gr hv18)
    clear S10
    clear hv18
    refine ⟨rfl, hK _ _ ?_⟩
    clear hK
    obtain ⟨c20, hc20⟩ : ∃ q_, q_ = (decide ((x.length : Int) < 8)) := ⟨_, rfl⟩
    rw [← hc20]
    have Hc20 := Lib.hid hc20
    clear hc20
    cases c20 with
    | true =>
      have f21 := of_decide_eq_true Hc20.out.symm
      go_upto_region 5 with fail
      refine wpG_region_k (fun K hK => ?_)
      refine @wpG_p _ _ _ _ _ (some 4) (.slice none 0 0) _ _ rfl (by rfl) (fun _ => rfl) ?_
      simp only [n1, n3, n4]
      refine @wpG_p _ _ _ _ _ (some 5) (.int .i64 5) _ _ rfl (by rfl) (fun _ => rfl) ?_
      simp only [n1, n3, n4]
      refine wpG_done (fun V22 hv23 => ?_)
      have S24 : Hid (St w noB [] V22) := Lib.hid (S19.out.gr hv23)
      clear S19
      clear hv23
      refine ⟨rfl, hK _ _ ?_⟩
      clear hK
      (repeat go_step)
      go_ret2
      (have e_f16 := f16.out; have hy_ := Pl.pP_yes (x := x) HB1.out; have hu_ := hy_.trans (Pl.pt_short (by omega)); exact ⟨none, 0, 0, by rw [hu_]; rfl, by rw [hu_]; exact S24.out.dropAll.nilOwn _ _⟩)
    | false =>
      have f25 := of_decide_eq_false Hc20.out.symm
      go_upto_region 6 with fail
      refine wpG_region_k (fun K hK => ?_)
      refine @wpG_p _ _ _ _ _ (some 19) (.string (bstr x)) _ _ rfl (by rfl) (fun _ => rfl) ?_
      simp only [n1, n3, n4]
      refine @wpG_p _ _ _ _ _ (some 20) (.string (bstr (x.drop 8))) _ _ rfl (by rfl) (fun W => op_str_from W x 8 (by omega) rfl rfl rfl Try.underlying9) ?_
      simp only [n1, n3, n4]
      refine wpG_call (some 21) 14 #[.string (bstr (x.drop 8))] rfl (by rfl) (fun W => by go_simp) (fun W26 hg27 => ?_)
      refine (runpack_any (x.drop 8) W26 (by (rw [List.length_drop]; omega))).mono ?_
      rintro e w28 ⟨D, m, dc, rfl, hS_⟩
      refine ⟨_, rfl, ?_⟩
      have hT_ := (S19.out.gr hg27).got hS_
      simp only [n1, n3, n4]
      have S29 : Hid (St w noB [own (.slice D m dc) 3 1 m (ic ((Pl.un (x.drop 8)).1))] w28) := Lib.hid hT_
      clear S19
      clear hT_ hS_ hg27
      have HML : Hid (m = ((Pl.un (x.drop 8)).1).length) := Lib.hid (own_icl (S29.out.ownr 0 rfl))
      refine wpG_val (some 7) rfl (by rfl) (fun W30 hg31 => ⟨.pointer (some ⟨W30.heap.size, 0, none⟩), W30.alloc (.cells #[.slice none 0 0, .int .i64 0, .int .i64 0] 30), by (first | (go_simp; done) | (go_simp <;> rfl)), ?_⟩)
      simp only [n1, n3, n4]
      obtain ⟨g32, U33, hg_, hu_, hS_⟩ := (S29.out.gr hg31).made [.slice none 0 0, .int .i64 0, .int .i64 0] 30
      rw [← hu_, ← hg_]
      have S34 : Hid (St w noB [blk g32 30 [.slice none 0 0, .int .i64 0, .int .i64 0], own (.slice D m dc) 3 1 m (ic ((Pl.un (x.drop 8)).1))] U33) := Lib.hid hS_
      clear S29
      clear hg_ hu_ hS_ hg31
      refine wpG_store (none) rfl (by rfl) (fun W35 hg36 => ⟨_, run_store_mid 30 (.tmp 7) (.tmp 21) rfl g32 0 #[.slice D m dc, .int .i64 ((Pl.un (x.drop 8)).2.1 : Int), .int .i64 ((Pl.un (x.drop 8)).2.2 : Int)] rfl rfl ((S34.out.gr hg36).room 0 rfl 0 3 (by simp)) (by kernel_rfl) (by kernel_rfl), ?_⟩)
      simp only [n2]
      obtain ⟨U37, hu_, hS_⟩ := ((S34.out.gr hg36).put 0 rfl 0 (#[.slice D m dc, .int .i64 ((Pl.un (x.drop 8)).2.1 : Int), .int .i64 ((Pl.un (x.drop 8)).2.2 : Int)] : Array Value).toList (ds := [.slice D m dc, .int .i64 ((Pl.un (x.drop 8)).2.1 : Int), .int .i64 ((Pl.un (x.drop 8)).2.2 : Int)]) rfl).named
      rw [← hu_]
      have S38 : Hid (St w noB [blk g32 30 [.slice D m dc, .int .i64 ((Pl.un (x.drop 8)).2.1 : Int), .int .i64 ((Pl.un (x.drop 8)).2.2 : Int)], own (.slice D m dc) 3 1 m (ic ((Pl.un (x.drop 8)).1))] U37) := Lib.hid hS_
      clear S34
      clear hu_ hS_ hg36
      refine wpG_done (fun V39 hv40 => ?_)
      have S41 : Hid (St w noB [blk g32 30 [.slice D m dc, .int .i64 ((Pl.un (x.drop 8)).2.1 : Int), .int .i64 ((Pl.un (x.drop 8)).2.2 : Int)], own (.slice D m dc) 3 1 m (ic ((Pl.un (x.drop 8)).1))] V39) := Lib.hid (S38.out.gr hv40)
      clear S38
      clear hv40
      refine ⟨rfl, hK _ _ ?_⟩
      clear hK
      go_upto_region 7 with fail
      refine wpG_region_k (fun K hK => ?_)
      refine @wpG_p _ _ _ _ _ (some 22) (.pointer (some ⟨g32, 2, none⟩)) _ _ rfl (by rfl) (fun W => by go_simp) ?_
      simp only [n1, n3, n4]
      refine @wpG_r _ _ _ _ _ (some 23) (.int .i64 ((Pl.un (x.drop 8)).2.2 : Int)) _ _ rfl (by rfl) (fun W hg => by have c := (S41.out.gr hg).cell 0 rfl 2 rfl; go_simp) ?_
      simp only [n1, n3, n4]
      refine @wpG_p _ _ _ _ _ (some 24) (.bool (decide (((Pl.un (x.drop 8)).2.2 : Int) ≠ 0))) _ _ rfl (by rfl) (fun W => op_int_neq W ((Pl.un (x.drop 8)).2.2 : Int) 0 rfl rfl rfl Try.underlying24) ?_
      simp only [n1, n3, n4]
      refine wpG_done (fun V42 hv43 => ?_)
      have S44 : Hid (St w noB [blk g32 30 [.slice D m dc, .int .i64 ((Pl.un (x.drop 8)).2.1 : Int), .int .i64 ((Pl.un (x.drop 8)).2.2 : Int)], own (.slice D m dc) 3 1 m (ic ((Pl.un (x.drop 8)).1))] V42) := Lib.hid (S41.out.gr hv43)
      clear S41
      clear hv43
      refine ⟨rfl, hK _ _ ?_⟩
      clear hK
      obtain ⟨c45, hc45⟩ : ∃ q_, q_ = (decide (((Pl.un (x.drop 8)).2.2 : Int) ≠ 0)) := ⟨_, rfl⟩
      rw [← hc45]
      have Hc45 := Lib.hid hc45
      clear hc45
      cases c45 with
      | true =>
        have f46 := of_decide_eq_true Hc45.out.symm
        go_upto_region 8 with fail
        refine wpK_region_k (by kernel_rfl) (fun K hK => ?_)
        refine wpK_ta (i := 0) (some 25) (v := .pointer (some ⟨g32, 2, none⟩)) rfl rfl (by kernel_rfl) (fun _ _ _ h => onN_panic h) (Or.inl ⟨by rfl, fun W => by go_simp⟩) ?_
        simp only [n1, n3, n4]
        refine wpK_ta (i := 2) (some 4) (v := .slice none 0 0) rfl rfl (by kernel_rfl) (fun _ _ _ h => onN_panic h) (Or.inl ⟨rfl, fun _ => rfl⟩) ?_
        simp only [n1, n3, n4]
        refine wpK_tk (i := 1) (some 26) (v := .int .i64 ((Pl.un (x.drop 8)).2.2 : Int)) rfl rfl (by kernel_rfl) (fun _ _ _ h => onN_panic h) (.val (by rfl) (fun W hg => by have c := (S44.out.gr (Gr.un hg)).cell 0 rfl 2 rfl; go_simp)) ?_
        simp only [n1, n3, n4]
        refine wpK_ta (i := 3) (some 5) (v := .int .i64 ((Pl.un (x.drop 8)).2.2 : Int)) rfl rfl (by kernel_rfl) (fun _ _ _ h => onN_panic h) (Or.inl ⟨rfl, fun _ => rfl⟩) ?_
        simp only [n1, n3, n4]
        refine wpK_done (by kernel_rfl) (fun V47 hv48 => ?_) _
        have S49 : Hid (St w noB [blk g32 30 [.slice D m dc, .int .i64 ((Pl.un (x.drop 8)).2.1 : Int), .int .i64 ((Pl.un (x.drop 8)).2.2 : Int)], own (.slice D m dc) 3 1 m (ic ((Pl.un (x.drop 8)).1))] V47) := Lib.hid (S44.out.gr (Gr.un hv48))
        clear S44
        clear hv48
        refine ⟨rfl, hK _ _ ?_⟩
        clear hK
        (repeat go_step)
        go_ret2
        (have e_f16 := f16.out; have hy_ := Pl.pP_yes (x := x) HB1.out; have hu_ := hy_.trans (Pl.pt_err (by omega) (show (Pl.un (x.drop 8)).2.2 ≠ 0 by omega)); exact ⟨none, 0, 0, by rw [hu_]; rfl, by rw [hu_]; exact S49.out.dropAll.nilOwn _ _⟩)
      | false =>
        have f50 := Lib.hid (Decidable.not_not.1 (of_decide_eq_false Hc45.out.symm))
        have f50a := Int.le_of_eq f50.out
        have f50b := Int.le_of_eq f50.out.symm
        go_upto_region 9 with fail
        refine wpG_region_k (fun K hK => ?_)
        have hE0_ : (Pl.un (x.drop 8)).2.2 = 0 := by have e_f16 := f16.out; have e_f50 := f50.out; have h_ := e_f50; omega
        have HE0 := Lib.hid hE0_
        clear hE0_
        have hm64_ : m ≤ 64 := by have h1_ := (Pl.un_bd (x.drop 8)).1; have h2_ := HML.out; omega
        refine @wpG_p _ _ _ _ _ (some 27) (.pointer (some ⟨g32, 1, none⟩)) _ _ rfl (by rfl) (fun W => by go_simp) ?_
        simp only [n1, n3, n4]
        refine @wpG_r _ _ _ _ _ (some 28) (.int .i64 ((Pl.un (x.drop 8)).2.1 : Int)) _ _ rfl (by rfl) (fun W hg => by have c := (S44.out.gr hg).cell 0 rfl 1 rfl; go_simp) ?_
        simp only [n1, n3, n4]
        refine @wpG_p _ _ _ _ _ (some 29) (.string (bstr x)) _ _ rfl (by rfl) (fun _ => rfl) ?_
        simp only [n1, n3, n4]
        refine @wpG_p _ _ _ _ _ (some 30) (.int .i64 (x.length : Int)) _ _ rfl (by rfl) (fun W => op_str_len W x rfl rfl Try.underlying9) ?_
        simp only [n1, n3, n4]
        refine @wpG_p _ _ _ _ _ (some 31) (.int .i64 ((x.length : Int) - 8)) _ _ rfl (by rfl) (fun W => op_i_sub W (x.length : Int) 8 (by omega) rfl rfl rfl Try.underlying3) ?_
        simp only [n1, n3, n4]
        refine @wpG_p _ _ _ _ _ (some 32) (.bool (decide (((Pl.un (x.drop 8)).2.1 : Int) ≠ (x.length : Int) - 8))) _ _ rfl (by rfl) (fun W => op_int_neq W ((Pl.un (x.drop 8)).2.1 : Int) ((x.length : Int) - 8) rfl rfl rfl Try.underlying3) ?_
        simp only [n1, n3, n4]
        refine wpG_done (fun V51 hv52 => ?_)
        have S53 : Hid (St w noB [blk g32 30 [.slice D m dc, .int .i64 ((Pl.un (x.drop 8)).2.1 : Int), .int .i64 ((Pl.un (x.drop 8)).2.2 : Int)], own (.slice D m dc) 3 1 m (ic ((Pl.un (x.drop 8)).1))] V51) := Lib.hid (S44.out.gr hv52)
        clear S44
        clear hv52
        refine ⟨rfl, hK _ _ ?_⟩
        clear hK
        obtain ⟨c54, hc54⟩ : ∃ q_, q_ = (decide (((Pl.un (x.drop 8)).2.1 : Int) ≠ (x.length : Int) - 8)) := ⟨_, rfl⟩
        rw [← hc54]
        have Hc54 := Lib.hid hc54
        clear hc54
        cases c54 with
        | true =>
          have f55 := of_decide_eq_true Hc54.out.symm
          go_upto_region 10 with fail
          refine wpG_region_k (fun K hK => ?_)
          refine @wpG_p _ _ _ _ _ (some 4) (.slice none 0 0) _ _ rfl (by rfl) (fun _ => rfl) ?_
          simp only [n1, n3, n4]
          refine @wpG_p _ _ _ _ _ (some 5) (.int .i64 6) _ _ rfl (by rfl) (fun _ => rfl) ?_
          simp only [n1, n3, n4]
          refine wpG_done (fun V56 hv57 => ?_)
          have S58 : Hid (St w noB [blk g32 30 [.slice D m dc, .int .i64 ((Pl.un (x.drop 8)).2.1 : Int), .int .i64 ((Pl.un (x.drop 8)).2.2 : Int)], own (.slice D m dc) 3 1 m (ic ((Pl.un (x.drop 8)).1))] V56) := Lib.hid (S53.out.gr hv57)
          clear S53
          clear hv57
          refine ⟨rfl, hK _ _ ?_⟩
          clear hK
          (repeat go_step)
          go_ret2
          (have e_f16 := f16.out; have e_f50 := f50.out; have hy_ := Pl.pP_yes (x := x) HB1.out; have hu_ := hy_.trans (Pl.pt_bad (by omega) HE0.out (fun h_ => by have h2_ := h_.2; omega)); exact ⟨none, 0, 0, by rw [hu_]; rfl, by rw [hu_]; exact S58.out.dropAll.nilOwn _ _⟩)
        | false =>
          have f59 := Lib.hid (Decidable.not_not.1 (of_decide_eq_false Hc54.out.symm))
          have f59a := Int.le_of_eq f59.out
          have f59b := Int.le_of_eq f59.out.symm
          go_upto_region 11 with fail
          refine wpG_region_k (fun K hK => ?_)
          refine @wpG_p _ _ _ _ _ (some 8) (.slice none 0 0) _ _ rfl (by rfl) (fun _ => rfl) ?_
          simp only [n1, n3, n4]
          refine wpG_done (fun V60 hv61 => ?_)
          have S62 : Hid (St w noB [blk g32 30 [.slice D m dc, .int .i64 ((Pl.un (x.drop 8)).2.1 : Int), .int .i64 ((Pl.un (x.drop 8)).2.2 : Int)], own (.slice D m dc) 3 1 m (ic ((Pl.un (x.drop 8)).1))] V60) := Lib.hid (S53.out.gr hv61)
          clear S53
          clear hv61
          refine ⟨rfl, hK _ _ ?_⟩
          clear hK
          go_upto_region 12 with fail
          refine wpG_region_k (fun K hK => ?_)
          refine @wpG_p _ _ _ _ _ (some 9) (.int .i64 0) _ _ rfl (by rfl) (fun _ => rfl) ?_
          simp only [n1, n3, n4]
          refine wpG_done (fun V63 hv64 => ?_)
          have S65 : Hid (St w noB [blk g32 30 [.slice D m dc, .int .i64 ((Pl.un (x.drop 8)).2.1 : Int), .int .i64 ((Pl.un (x.drop 8)).2.2 : Int)], own (.slice D m dc) 3 1 m (ic ((Pl.un (x.drop 8)).1))] V63) := Lib.hid (S62.out.gr hv64)
          clear S62
          clear hv64
          refine ⟨rfl, hK _ _ ?_⟩
          clear hK
          go_upto_region 13 with fail
          refine wpG_region_k (fun K hK => ?_)
          refine @wpG_p _ _ _ _ _ (some 10) (.int .i64 0) _ _ rfl (by rfl) (fun _ => rfl) ?_
          simp only [n1, n3, n4]
          refine wpG_done (fun V66 hv67 => ?_)
          have S68 : Hid (St w noB [blk g32 30 [.slice D m dc, .int .i64 ((Pl.un (x.drop 8)).2.1 : Int), .int .i64 ((Pl.un (x.drop 8)).2.2 : Int)], own (.slice D m dc) 3 1 m (ic ((Pl.un (x.drop 8)).1))] V66) := Lib.hid (S65.out.gr hv67)
          clear S65
          clear hv67
          refine ⟨rfl, hK _ _ ?_⟩
          clear hK
          have S69 : Hid (St w noB [own (.slice none 0 0) 3 1 0 (ic (Pl.pvs l (Pl.mb (x.take 8)) (Pl.un (x.drop 8)).1 0)), blk g32 30 [.slice D m dc, .int .i64 ((Pl.un (x.drop 8)).2.1 : Int), .int .i64 ((Pl.un (x.drop 8)).2.2 : Int)], own (.slice D m dc) 3 1 m (ic ((Pl.un (x.drop 8)).1))] V66) := Lib.hid (S68.out.nilOwn 3 1)
          clear S68
          go_wp2_with fail
          go_loopw [8, 9, 10] (fun v8 v9 v10 wr => ∃ (E : Option Addr) (d j k : Nat), v8 = .slice E k d ∧ v9 = .int .i64 (j : Int) ∧ v10 = .int .i64 (k : Int) ∧ k ≤ 64 ∧ j = Pl.pc (Pl.mb (x.take 8)) k ∧ j ≤ k ∧ (∀ i, i < k → Pl.pOk l (Pl.mb (x.take 8)) (Pl.un (x.drop 8)).1 i) ∧ St w noB [own (.slice E k d) 3 1 k (ic (Pl.pvs l (Pl.mb (x.take 8)) (Pl.un (x.drop 8)).1 k)), blk g32 30 [.slice D m dc, .int .i64 ((Pl.un (x.drop 8)).2.1 : Int), .int .i64 ((Pl.un (x.drop 8)).2.2 : Int)], own (.slice D m dc) 3 1 m (ic ((Pl.un (x.drop 8)).1))] wr) (fun a b i _ => 64 - (intOf i).toNat)
          case atStart => exact ⟨none, 0, 0, 0, rfl, rfl, rfl, (by decide), rfl, (by decide), (fun i hi => absurd hi (Nat.not_lt_zero _)), S69.out⟩
          case round =>
            obtain ⟨E, d, j, k, rfl, rfl, rfl, hk64, hj, hjk, hpo, hS⟩ := hrel
            have HJ := Lib.hid hj
            clear hj
            have HPO := Lib.hid hpo
            clear hpo
            have SL := Lib.hid hS
            clear S69 hS
            have S70 := SL
            clear SL
            go_upto_region 14 with fail
            refine wpG_region_k (fun K hK => ?_)
            refine @wpG_p _ _ _ _ _ (some 33) (.int .i64 (k : Int)) _ _ rfl (by rfl) (fun _ => rfl) ?_
            simp only [n1, n3, n4]
            refine @wpG_p _ _ _ _ _ (some 34) (.bool (decide ((k : Int) < 64))) _ _ rfl (by rfl) (fun W => op_int_lss W (k : Int) 64 rfl rfl rfl Try.underlying3) ?_
            simp only [n1, n3, n4]
            refine wpG_done (fun V71 hv72 => ?_)
            have S73 : Hid (St w noB [own (.slice E k d) 3 1 k (ic (Pl.pvs l (Pl.mb (x.take 8)) (Pl.un (x.drop 8)).1 k)), blk g32 30 [.slice D m dc, .int .i64 ((Pl.un (x.drop 8)).2.1 : Int), .int .i64 ((Pl.un (x.drop 8)).2.2 : Int)], own (.slice D m dc) 3 1 m (ic ((Pl.un (x.drop 8)).1))] V71) := Lib.hid (S70.out.gr hv72)
            clear S70
            clear hv72
            refine ⟨rfl, hK _ _ ?_⟩
            clear hK
            obtain ⟨c74, hc74⟩ : ∃ q_, q_ = (decide ((k : Int) < 64)) := ⟨_, rfl⟩
            rw [← hc74]
            have Hc74 := Lib.hid hc74
            clear hc74
            cases c74 with
            | true =>
              have f75 := of_decide_eq_true Hc74.out.symm
              go_upto_region 16 with fail
              refine wpG_region_k (fun K hK => ?_)
              refine @wpG_p _ _ _ _ _ (some 37) (.slice A n c) _ _ rfl (by rfl) (fun _ => rfl) ?_
              simp only [n1, n3, n4]
              refine @wpG_p _ _ _ _ _ (some 38) (.int .i64 (k : Int)) _ _ rfl (by rfl) (fun _ => rfl) ?_
              simp only [n1, n3, n4]
              obtain ⟨b76, o76, rfl⟩ := HGA.out.addr (by decide) (by omega)
              refine @wpG_p _ _ _ _ _ (some 39) (.pointer (some ⟨b76, o76 + k, none⟩)) _ _ rfl (by rfl) (fun W => by (go_simp <;> first | rfl | omega | (simp; omega))) ?_
              simp only [n1, n3, n4]
              refine @wpG_r _ _ _ _ _ (some 40) (.int .i64 (l.getD k 0)) _ _ rfl (by rfl) (fun W hg => by have c := (((HGA.out.gr ((S73.out.gr hg)).bel).int (l := l) k (by (first | (have := HLEN.out; omega) | (have := HML.out; omega))))) 0 _ rfl; (try simp only [Nat.add_zero, Nat.zero_add] at c); go_simp) ?_
              simp only [n1, n3, n4]
              refine @wpG_p _ _ _ _ _ (some 11) (.int .i64 (l.getD k 0)) _ _ rfl (by rfl) (fun _ => rfl) ?_
              simp only [n1, n3, n4]
              refine wpG_done (fun V77 hv78 => ?_)
              have S79 : Hid (St w noB [own (.slice E k d) 3 1 k (ic (Pl.pvs l (Pl.mb (x.take 8)) (Pl.un (x.drop 8)).1 k)), blk g32 30 [.slice D m dc, .int .i64 ((Pl.un (x.drop 8)).2.1 : Int), .int .i64 ((Pl.un (x.drop 8)).2.2 : Int)], own (.slice D m dc) 3 1 m (ic ((Pl.un (x.drop 8)).1))] V77) := Lib.hid (S73.out.gr hv78)
              clear S73
              clear hv78
              refine ⟨rfl, hK _ _ ?_⟩
              clear hK
              go_upto_region 17 with fail
              refine wpG_region_k (fun K hK => ?_)
              refine @wpG_p _ _ _ _ _ (some 41) (.string (bstr x)) _ _ rfl (by rfl) (fun _ => rfl) ?_
              simp only [n1, n3, n4]
              refine @wpG_p _ _ _ _ _ (some 42) (.int .i64 (k : Int)) _ _ rfl (by rfl) (fun _ => rfl) ?_
              simp only [n1, n3, n4]
              obtain ⟨q8, h_q8⟩ : ∃ q_ : Nat, q_ = k / 8 := ⟨_, rfl⟩
              have hq8b : q8 < 8 := by omega
              have Hq8 := Lib.hid h_q8
              clear h_q8
              refine @wpG_p _ _ _ _ _ (some 43) (.int .i64 (q8 : Int)) _ _ rfl (by rfl) (fun W => op_n_quo k 8 q8 Hq8.out.symm (by decide) (by omega) rfl rfl rfl) ?_
              simp only [n1, n3, n4]
              obtain ⟨tb, h_tb⟩ : ∃ q_ : Nat, q_ = (x.getD q8 0).toNat := ⟨_, rfl⟩
              have htbb : tb < 256 := by rw [h_tb]; exact (x.getD q8 0).toNat_lt
              have Htb := Lib.hid h_tb
              clear h_tb
              refine @wpG_p _ _ _ _ _ (some 44) (.int .u8 (tb : Int)) _ _ rfl (by rfl) (fun W => (op_str_idx W x q8 (by omega) rfl rfl rfl Try.underlying9).trans (by rw [Htb.out]; rfl)) ?_
              simp only [n1, n3, n4]
              refine @wpG_p _ _ _ _ _ (some 45) (.int .i64 (k : Int)) _ _ rfl (by rfl) (fun _ => rfl) ?_
              simp only [n1, n3, n4]
              obtain ⟨r8, h_r8⟩ : ∃ q_ : Nat, q_ = k % 8 := ⟨_, rfl⟩
              have hr8b : r8 < 8 := by omega
              have Hr8 := Lib.hid h_r8
              clear h_r8
              refine @wpG_p _ _ _ _ _ (some 46) (.int .i64 (r8 : Int)) _ _ rfl (by rfl) (fun W => op_n_rem k 8 r8 Hr8.out.symm (by decide) rfl rfl rfl) ?_
              simp only [n1, n3, n4]
              obtain ⟨sh, h_sh⟩ : ∃ q_ : Nat, q_ = tb / 2 ^ r8 := ⟨_, rfl⟩
              have hshb : sh < 256 := by rw [h_sh]; exact Nat.lt_of_le_of_lt (Nat.div_le_self _ _) htbb
              have Hsh := Lib.hid h_sh
              clear h_sh
              refine @wpG_p _ _ _ _ _ (some 47) (.int .u8 (sh : Int)) _ _ rfl (by rfl) (fun W => op_k_shr tb r8 sh Hsh.out.symm (by show r8 ≤ 8; omega) rfl rfl rfl) ?_
              simp only [n1, n3, n4]
              obtain ⟨bt, h_bt⟩ : ∃ q_ : Nat, q_ = sh % 2 := ⟨_, rfl⟩
              have hbtb : bt < 2 := by omega
              have Hbt := Lib.hid h_bt
              clear h_bt
              refine @wpG_p _ _ _ _ _ (some 48) (.int .u8 (bt : Int)) _ _ rfl (by rfl) (fun W => op_u8_and1 sh bt Hbt.out.symm hshb rfl rfl rfl) ?_
              simp only [n1, n3, n4]
              refine @wpG_p _ _ _ _ _ (some 49) (.bool (decide ((bt : Int) = 1))) _ _ rfl (by rfl) (fun W => op_int_eql W (bt : Int) 1 rfl rfl rfl Try.underlying5) ?_
              simp only [n1, n3, n4]
              refine wpG_done (fun V80 hv81 => ?_)
              have S82 : Hid (St w noB [own (.slice E k d) 3 1 k (ic (Pl.pvs l (Pl.mb (x.take 8)) (Pl.un (x.drop 8)).1 k)), blk g32 30 [.slice D m dc, .int .i64 ((Pl.un (x.drop 8)).2.1 : Int), .int .i64 ((Pl.un (x.drop 8)).2.2 : Int)], own (.slice D m dc) 3 1 m (ic ((Pl.un (x.drop 8)).1))] V80) := Lib.hid (S79.out.gr hv81)
              clear S79
              clear hv81
              refine ⟨rfl, hK _ _ ?_⟩
              clear hK
              obtain ⟨c83, hc83⟩ : ∃ q_, q_ = (decide ((bt : Int) = 1)) := ⟨_, rfl⟩
              rw [← hc83]
              have Hc83 := Lib.hid hc83
              clear hc83
              cases c83 with
              | true =>
                have f84 := Lib.hid (of_decide_eq_true Hc83.out.symm)
                have f84a := Int.le_of_eq f84.out
                have f84b := Int.le_of_eq f84.out.symm
                go_upto_region 18 with fail
                refine wpG_region_k (fun K hK => ?_)
                refine @wpG_p _ _ _ _ _ (some 50) (.int .i64 (j : Int)) _ _ rfl (by rfl) (fun _ => rfl) ?_
                simp only [n1, n3, n4]
                refine @wpG_p _ _ _ _ _ (some 51) (.pointer (some ⟨g32, 0, none⟩)) _ _ rfl (by rfl) (fun W => by go_simp) ?_
                simp only [n1, n3, n4]
                refine @wpG_r _ _ _ _ _ (some 52) (.slice D m dc) _ _ rfl (by rfl) (fun W hg => by have c := (S82.out.gr hg).cell 1 rfl 0 rfl; go_simp) ?_
                simp only [n1, n3, n4]
                refine @wpG_p _ _ _ _ _ (some 53) (.int .i64 (m : Int)) _ _ rfl (by rfl) (fun W => by go_simp) ?_
                simp only [n1, n3, n4]
                refine @wpG_p _ _ _ _ _ (some 54) (.bool (decide ((j : Int) ≥ (m : Int)))) _ _ rfl (by rfl) (fun W => op_int_geq W (j : Int) (m : Int) rfl rfl rfl Try.underlying3) ?_
                simp only [n1, n3, n4]
                refine @wpG_p _ _ _ _ _ (some 55) (.bool (decide ((j : Int) ≥ (m : Int)))) _ _ rfl (by rfl) (fun _ => rfl) ?_
                simp only [n1, n3, n4]
                obtain ⟨c85, hc85⟩ : ∃ q_, q_ = (decide ((j : Int) ≥ (m : Int))) := ⟨_, rfl⟩
                rw [← hc85]
                have Hc85 := Lib.hid hc85
                clear hc85
                cases c85 with
                | true =>
                  have f86 := of_decide_eq_true Hc85.out.symm
                  refine @wpG_no _ _ _ _ _ (some 56) _ _ rfl (by rfl) ?_
                  simp only [n1, n3, n4]
                  refine @wpG_no _ _ _ _ _ (some 57) _ _ rfl (by rfl) ?_
                  simp only [n1, n3, n4]
                  refine @wpG_no _ _ _ _ _ (some 58) _ _ rfl (by rfl) ?_
                  simp only [n1, n3, n4]
                  refine @wpG_no _ _ _ _ _ (some 59) _ _ rfl (by rfl) ?_
                  simp only [n1, n3, n4]
                  refine @wpG_no _ _ _ _ _ (some 60) _ _ rfl (by rfl) ?_
                  simp only [n1, n3, n4]
                  refine @wpG_no _ _ _ _ _ (some 61) _ _ rfl (by rfl) ?_
                  simp only [n1, n3, n4]
                  refine @wpG_no _ _ _ _ _ (some 62) _ _ rfl (by rfl) ?_
                  simp only [n1, n3, n4]
                  refine @wpG_p _ _ _ _ _ (some 63) (.bool true) _ _ rfl (by rfl) (fun W => by go_simp) ?_
                  simp only [n1, n3, n4]
                  refine wpG_done (fun V87 hv88 => ?_)
                  have S89 : Hid (St w noB [own (.slice E k d) 3 1 k (ic (Pl.pvs l (Pl.mb (x.take 8)) (Pl.un (x.drop 8)).1 k)), blk g32 30 [.slice D m dc, .int .i64 ((Pl.un (x.drop 8)).2.1 : Int), .int .i64 ((Pl.un (x.drop 8)).2.2 : Int)], own (.slice D m dc) 3 1 m (ic ((Pl.un (x.drop 8)).1))] V87) := Lib.hid (S82.out.gr hv88)
                  clear S82
                  clear hv88
                  refine ⟨rfl, hK _ _ ?_⟩
                  clear hK
                  go_upto_region 19 with fail
                  refine wpG_region_k (fun K hK => ?_)
                  refine @wpG_p _ _ _ _ _ (some 4) (.slice none 0 0) _ _ rfl (by rfl) (fun _ => rfl) ?_
                  simp only [n1, n3, n4]
                  refine @wpG_p _ _ _ _ _ (some 5) (.int .i64 6) _ _ rfl (by rfl) (fun _ => rfl) ?_
                  simp only [n1, n3, n4]
                  refine wpG_done (fun V90 hv91 => ?_)
                  have S92 : Hid (St w noB [own (.slice E k d) 3 1 k (ic (Pl.pvs l (Pl.mb (x.take 8)) (Pl.un (x.drop 8)).1 k)), blk g32 30 [.slice D m dc, .int .i64 ((Pl.un (x.drop 8)).2.1 : Int), .int .i64 ((Pl.un (x.drop 8)).2.2 : Int)], own (.slice D m dc) 3 1 m (ic ((Pl.un (x.drop 8)).1))] V90) := Lib.hid (S89.out.gr hv91)
                  clear S89
                  clear hv91
                  refine ⟨rfl, hK _ _ ?_⟩
                  clear hK
                  (repeat go_step)
                  go_ret2
                  (have e_f16 := f16.out; have e_f50 := f50.out; have e_f59 := f59.out; have e_f84 := f84.out; have hbk_ : (Pl.mb (x.take 8)) k = true := (by rw [Pl.mb_take (by omega) (by omega), decide_eq_true_iff, ← Hq8.out, ← Hr8.out, ← Htb.out, ← Hsh.out, ← Hbt.out]; omega); have hr_ := Pl.rOk_bad (a := l) (b := (Pl.mb (x.take 8))) (cs := (Pl.un (x.drop 8)).1) (show k < 64 by omega) (fun h_ => by have h2_ := (h_ hbk_).1; rw [← HJ.out, ← HML.out] at h2_; omega); have e_f16 := f16.out; have e_f50 := f50.out; have e_f59 := f59.out; have e_f84 := f84.out; have hy_ := Pl.pP_yes (x := x) HB1.out; have hu_ := hy_.trans (Pl.pt_bad (by omega) HE0.out (fun h_ => by have h2_ := h_.1; rw [hr_] at h2_; cases h2_)); exact ⟨none, 0, 0, by rw [hu_]; rfl, by rw [hu_]; exact S92.out.dropAll.nilOwn _ _⟩)
                | false =>
                  have f93 := of_decide_eq_false Hc85.out.symm
                  refine @wpG_p _ _ _ _ _ (some 56) (.pointer (some ⟨g32, 0, none⟩)) _ _ rfl (by rfl) (fun W => by go_simp) ?_
                  simp only [n1, n3, n4]
                  refine @wpG_r _ _ _ _ _ (some 57) (.slice D m dc) _ _ rfl (by rfl) (fun W hg => by have c := (S82.out.gr hg).cell 1 rfl 0 rfl; go_simp) ?_
                  simp only [n1, n3, n4]
                  refine @wpG_p _ _ _ _ _ (some 58) (.int .i64 (j : Int)) _ _ rfl (by rfl) (fun _ => rfl) ?_
                  simp only [n1, n3, n4]
                  obtain ⟨og94, rfl⟩ := ownAdr (S82.out.ownr 2 rfl) (by omega)
                  have hix_ : j < m := by omega
                  refine @wpG_p _ _ _ _ _ (some 59) (.pointer (some ⟨og94, j, none⟩)) _ _ rfl (by rfl) (fun W => by (go_simp <;> first | rfl | omega | (simp; omega))) ?_
                  simp only [n1, n3, n4]
                  refine @wpG_r _ _ _ _ _ (some 60) (.int .i64 (((Pl.un (x.drop 8)).1).getD j 0)) _ _ rfl (by rfl) (fun W hg => by have c := (SL.ofOwn ((S82.out.gr hg).ownr 2 rfl)).int (l := ((Pl.un (x.drop 8)).1)) j (by (first | (have := HLEN.out; omega) | (have := HML.out; omega))) 0 _ rfl; (try simp only [Nat.add_zero, Nat.zero_add] at c); go_simp) ?_
                  simp only [n1, n3, n4]
                  refine @wpG_p _ _ _ _ _ (some 61) (.int .i64 (l.getD k 0)) _ _ rfl (by rfl) (fun _ => rfl) ?_
                  simp only [n1, n3, n4]
                  refine @wpG_p _ _ _ _ _ (some 62) (.bool (decide ((((Pl.un (x.drop 8)).1).getD j 0) = (l.getD k 0)))) _ _ rfl (by rfl) (fun W => op_int_eql W (((Pl.un (x.drop 8)).1).getD j 0) (l.getD k 0) rfl rfl rfl Try.underlying3) ?_
                  simp only [n1, n3, n4]
                  refine @wpG_p _ _ _ _ _ (some 63) (.bool (decide ((((Pl.un (x.drop 8)).1).getD j 0) = (l.getD k 0)))) _ _ rfl (by rfl) (fun W => by go_simp) ?_
                  simp only [n1, n3, n4]
                  refine wpG_done (fun V95 hv96 => ?_)
                  have S97 : Hid (St w noB [own (.slice E k d) 3 1 k (ic (Pl.pvs l (Pl.mb (x.take 8)) (Pl.un (x.drop 8)).1 k)), blk g32 30 [.slice (some ⟨og94, 0, none⟩) m dc, .int .i64 ((Pl.un (x.drop 8)).2.1 : Int), .int .i64 ((Pl.un (x.drop 8)).2.2 : Int)], own (.slice (some ⟨og94, 0, none⟩) m dc) 3 1 m (ic ((Pl.un (x.drop 8)).1))] V95) := Lib.hid (S82.out.gr hv96)
                  clear S82
                  clear hv96
                  refine ⟨rfl, hK _ _ ?_⟩
                  clear hK
                  obtain ⟨c98, hc98⟩ : ∃ q_, q_ = (decide ((((Pl.un (x.drop 8)).1).getD j 0) = (l.getD k 0))) := ⟨_, rfl⟩
                  rw [← hc98]
                  have Hc98 := Lib.hid hc98
                  clear hc98
                  cases c98 with
                  | true =>
                    have f99 := Lib.hid (of_decide_eq_true Hc98.out.symm)
                    have f99a := Int.le_of_eq f99.out
                    have f99b := Int.le_of_eq f99.out.symm
                    go_upto_region 19 with fail
                    refine wpG_region_k (fun K hK => ?_)
                    refine @wpG_p _ _ _ _ _ (some 4) (.slice none 0 0) _ _ rfl (by rfl) (fun _ => rfl) ?_
                    simp only [n1, n3, n4]
                    refine @wpG_p _ _ _ _ _ (some 5) (.int .i64 6) _ _ rfl (by rfl) (fun _ => rfl) ?_
                    simp only [n1, n3, n4]
                    refine wpG_done (fun V100 hv101 => ?_)
                    have S102 : Hid (St w noB [own (.slice E k d) 3 1 k (ic (Pl.pvs l (Pl.mb (x.take 8)) (Pl.un (x.drop 8)).1 k)), blk g32 30 [.slice (some ⟨og94, 0, none⟩) m dc, .int .i64 ((Pl.un (x.drop 8)).2.1 : Int), .int .i64 ((Pl.un (x.drop 8)).2.2 : Int)], own (.slice (some ⟨og94, 0, none⟩) m dc) 3 1 m (ic ((Pl.un (x.drop 8)).1))] V100) := Lib.hid (S97.out.gr hv101)
                    clear S97
                    clear hv101
                    refine ⟨rfl, hK _ _ ?_⟩
                    clear hK
                    (repeat go_step)
                    go_ret2
                    (have e_f16 := f16.out; have e_f50 := f50.out; have e_f59 := f59.out; have e_f84 := f84.out; have e_f99 := f99.out; have hbk_ : (Pl.mb (x.take 8)) k = true := (by rw [Pl.mb_take (by omega) (by omega), decide_eq_true_iff, ← Hq8.out, ← Hr8.out, ← Htb.out, ← Hsh.out, ← Hbt.out]; omega); have hr_ := Pl.rOk_bad (a := l) (b := (Pl.mb (x.take 8))) (cs := (Pl.un (x.drop 8)).1) (show k < 64 by omega) (fun h_ => (h_ hbk_).2 (by rw [← HJ.out]; exact e_f99)); have e_f16 := f16.out; have e_f50 := f50.out; have e_f59 := f59.out; have e_f84 := f84.out; have e_f99 := f99.out; have hy_ := Pl.pP_yes (x := x) HB1.out; have hu_ := hy_.trans (Pl.pt_bad (by omega) HE0.out (fun h_ => by have h2_ := h_.1; rw [hr_] at h2_; cases h2_)); exact ⟨none, 0, 0, by rw [hu_]; rfl, by rw [hu_]; exact S102.out.dropAll.nilOwn _ _⟩)
                  | false =>
                    have f103 := of_decide_eq_false Hc98.out.symm
                    go_upto_region 20 with fail
                    refine wpG_region_k (fun K hK => ?_)
                    refine @wpG_p _ _ _ _ _ (some 64) (.pointer (some ⟨g32, 0, none⟩)) _ _ rfl (by rfl) (fun W => by go_simp) ?_
                    simp only [n1, n3, n4]
                    refine @wpG_r _ _ _ _ _ (some 65) (.slice (some ⟨og94, 0, none⟩) m dc) _ _ rfl (by rfl) (fun W hg => by have c := (S97.out.gr hg).cell 1 rfl 0 rfl; go_simp) ?_
                    simp only [n1, n3, n4]
                    refine @wpG_p _ _ _ _ _ (some 66) (.int .i64 (j : Int)) _ _ rfl (by rfl) (fun _ => rfl) ?_
                    simp only [n1, n3, n4]
                    have hix_ : j < m := by omega
                    refine @wpG_p _ _ _ _ _ (some 67) (.pointer (some ⟨og94, j, none⟩)) _ _ rfl (by rfl) (fun W => by (go_simp <;> first | rfl | omega | (simp; omega))) ?_
                    simp only [n1, n3, n4]
                    refine @wpG_r _ _ _ _ _ (some 68) (.int .i64 (((Pl.un (x.drop 8)).1).getD j 0)) _ _ rfl (by rfl) (fun W hg => by have c := (SL.ofOwn ((S97.out.gr hg).ownr 2 rfl)).int (l := ((Pl.un (x.drop 8)).1)) j (by (first | (have := HLEN.out; omega) | (have := HML.out; omega))) 0 _ rfl; (try simp only [Nat.add_zero, Nat.zero_add] at c); go_simp) ?_
                    simp only [n1, n3, n4]
                    refine @wpG_p _ _ _ _ _ (some 11) (.int .i64 (((Pl.un (x.drop 8)).1).getD j 0)) _ _ rfl (by rfl) (fun _ => rfl) ?_
                    simp only [n1, n3, n4]
                    refine wpG_done (fun V104 hv105 => ?_)
                    have S106 : Hid (St w noB [own (.slice E k d) 3 1 k (ic (Pl.pvs l (Pl.mb (x.take 8)) (Pl.un (x.drop 8)).1 k)), blk g32 30 [.slice (some ⟨og94, 0, none⟩) m dc, .int .i64 ((Pl.un (x.drop 8)).2.1 : Int), .int .i64 ((Pl.un (x.drop 8)).2.2 : Int)], own (.slice (some ⟨og94, 0, none⟩) m dc) 3 1 m (ic ((Pl.un (x.drop 8)).1))] V104) := Lib.hid (S97.out.gr hv105)
                    clear S97
                    clear hv105
                    refine ⟨rfl, hK _ _ ?_⟩
                    clear hK
                    go_upto_region 21 with fail
                    refine wpG_region_k (fun K hK => ?_)
                    refine @wpG_p _ _ _ _ _ (some 69) (.int .i64 (j : Int)) _ _ rfl (by rfl) (fun _ => rfl) ?_
                    simp only [n1, n3, n4]
                    obtain ⟨j1, h_j1⟩ : ∃ q_ : Nat, q_ = j + 1 := ⟨_, rfl⟩
                    have hj1b : j1 ≤ j + 1 ∧ j + 1 ≤ j1 := by omega
                    have Hj1 := Lib.hid h_j1
                    clear h_j1
                    refine @wpG_p _ _ _ _ _ (some 70) (.int .i64 (j1 : Int)) _ _ rfl (by rfl) (fun W => op_n_add j 1 j1 Hj1.out.symm (by omega) rfl rfl rfl) ?_
                    simp only [n1, n3, n4]
                    refine @wpG_p _ _ _ _ _ (some 9) (.int .i64 (j1 : Int)) _ _ rfl (by rfl) (fun _ => rfl) ?_
                    simp only [n1, n3, n4]
                    refine wpG_done (fun V107 hv108 => ?_)
                    have S109 : Hid (St w noB [own (.slice E k d) 3 1 k (ic (Pl.pvs l (Pl.mb (x.take 8)) (Pl.un (x.drop 8)).1 k)), blk g32 30 [.slice (some ⟨og94, 0, none⟩) m dc, .int .i64 ((Pl.un (x.drop 8)).2.1 : Int), .int .i64 ((Pl.un (x.drop 8)).2.2 : Int)], own (.slice (some ⟨og94, 0, none⟩) m dc) 3 1 m (ic ((Pl.un (x.drop 8)).1))] V107) := Lib.hid (S106.out.gr hv108)
                    clear S106
                    clear hv108
                    refine ⟨rfl, hK _ _ ?_⟩
                    clear hK
                    go_upto_region 22 with fail
                    refine wpG_region_k (fun K hK => ?_)
                    refine @wpG_p _ _ _ _ _ (some 71) (.slice E k d) _ _ rfl (by rfl) (fun _ => rfl) ?_
                    simp only [n1, n3, n4]
                    refine @wpG_p _ _ _ _ _ (some 72) (.int .i64 (((Pl.un (x.drop 8)).1).getD j 0)) _ _ rfl (by rfl) (fun _ => rfl) ?_
                    simp only [n1, n3, n4]
                    refine wpG_val (some 73) rfl (by rfl) (fun W110 hg111 => ⟨.slice (some ⟨W110.heap.size, 0, none⟩) 1 1, W110.alloc (.cells #[.int .i64 (((Pl.un (x.drop 8)).1).getD j 0)] 3), by (go_simp <;> rfl), ?_⟩)
                    simp only [n1, n3, n4]
                    obtain ⟨g112, U113, hg_, hu_, hS_⟩ := (S109.out.gr hg111).made [.int .i64 (((Pl.un (x.drop 8)).1).getD j 0)] 3
                    rw [← hu_, ← hg_]
                    have S114 : Hid (St w noB [blk g112 3 [.int .i64 (((Pl.un (x.drop 8)).1).getD j 0)], own (.slice E k d) 3 1 k (ic (Pl.pvs l (Pl.mb (x.take 8)) (Pl.un (x.drop 8)).1 k)), blk g32 30 [.slice (some ⟨og94, 0, none⟩) m dc, .int .i64 ((Pl.un (x.drop 8)).2.1 : Int), .int .i64 ((Pl.un (x.drop 8)).2.2 : Int)], own (.slice (some ⟨og94, 0, none⟩) m dc) 3 1 m (ic ((Pl.un (x.drop 8)).1))] U113) := Lib.hid hS_
                    clear S109
                    clear hg_ hu_ hS_ hg111
                    have S115 : Hid (St w noB [own (.slice E k d) 3 1 k (ic (Pl.pvs l (Pl.mb (x.take 8)) (Pl.un (x.drop 8)).1 k)), blk g112 3 [.int .i64 (((Pl.un (x.drop 8)).1).getD j 0)], blk g32 30 [.slice (some ⟨og94, 0, none⟩) m dc, .int .i64 ((Pl.un (x.drop 8)).2.1 : Int), .int .i64 ((Pl.un (x.drop 8)).2.2 : Int)], own (.slice (some ⟨og94, 0, none⟩) m dc) 3 1 m (ic ((Pl.un (x.drop 8)).1))] U113) := Lib.hid (S114.out.front 1 rfl)
                    clear S114
                    refine wpG_appS (some 74) rfl rfl (.tmp 71) (.tmp 73) 22 22 rfl 3 1 8 Try.underlying22 (by kernel_rfl) (.slice E k d) k (ic (Pl.pvs l (Pl.mb (x.take 8)) (Pl.un (x.drop 8)).1 k)) S115.out (.slice (some ⟨g112, 0, none⟩) 1 1) 1 [.int .i64 (((Pl.un (x.drop 8)).1).getD j 0)] (fun W hg => src_lies Try.underlying22 1 rfl (fun h => by cases h) (by intro u hu; simp at hu; rcases hu with rfl <;> rfl) ((S115.out.gr hg).liesBlk 1 rfl)) rfl rfl (by simp only [maxLen]; omega) (by omega) (fun v116 W117 hS_ => ?_)
                    simp only [n1, n3, n4]
                    rw [show ic (Pl.pvs l (Pl.mb (x.take 8)) (Pl.un (x.drop 8)).1 k) ++ [.int .i64 (((Pl.un (x.drop 8)).1).getD j 0)] = ic ((Pl.pvs l (Pl.mb (x.take 8)) (Pl.un (x.drop 8)).1 k) ++ [(((Pl.un (x.drop 8)).1).getD j 0)]) by simp [ic]] at hS_
                    obtain ⟨A118, k119, rfl, hle_, hcap_, _⟩ := own_shape (hS_.ownr 0 rfl)
                    have S120 : Hid (St w noB [own (.slice A118 (k + 1) k119) 3 1 (k + 1) (ic ((Pl.pvs l (Pl.mb (x.take 8)) (Pl.un (x.drop 8)).1 k) ++ [(((Pl.un (x.drop 8)).1).getD j 0)])), blk g112 3 [.int .i64 (((Pl.un (x.drop 8)).1).getD j 0)], blk g32 30 [.slice (some ⟨og94, 0, none⟩) m dc, .int .i64 ((Pl.un (x.drop 8)).2.1 : Int), .int .i64 ((Pl.un (x.drop 8)).2.2 : Int)], own (.slice (some ⟨og94, 0, none⟩) m dc) 3 1 m (ic ((Pl.un (x.drop 8)).1))] W117) := Lib.hid hS_
                    clear S115
                    clear hS_
                    refine @wpG_p _ _ _ _ _ (some 8) (.slice A118 (k + 1) k119) _ _ rfl (by rfl) (fun _ => rfl) ?_
                    simp only [n1, n3, n4]
                    refine wpG_done (fun V121 hv122 => ?_)
                    have S123 : Hid (St w noB [own (.slice A118 (k + 1) k119) 3 1 (k + 1) (ic ((Pl.pvs l (Pl.mb (x.take 8)) (Pl.un (x.drop 8)).1 k) ++ [(((Pl.un (x.drop 8)).1).getD j 0)])), blk g112 3 [.int .i64 (((Pl.un (x.drop 8)).1).getD j 0)], blk g32 30 [.slice (some ⟨og94, 0, none⟩) m dc, .int .i64 ((Pl.un (x.drop 8)).2.1 : Int), .int .i64 ((Pl.un (x.drop 8)).2.2 : Int)], own (.slice (some ⟨og94, 0, none⟩) m dc) 3 1 m (ic ((Pl.un (x.drop 8)).1))] V121) := Lib.hid (S120.out.gr hv122)
                    clear S120
                    clear hv122
                    refine ⟨rfl, hK _ _ ?_⟩
                    clear hK
                    go_upto_region 15 with fail
                    refine wpG_region_k (fun K hK => ?_)
                    refine @wpG_p _ _ _ _ _ (some 35) (.int .i64 (k : Int)) _ _ rfl (by rfl) (fun _ => rfl) ?_
                    simp only [n1, n3, n4]
                    refine @wpG_p _ _ _ _ _ (some 36) (.int .i64 ((k : Int) + 1)) _ _ rfl (by rfl) (fun W => op_i_add W (k : Int) 1 (by omega) rfl rfl rfl Try.underlying3) ?_
                    simp only [n1, n3, n4]
                    refine @wpG_p _ _ _ _ _ (some 10) (.int .i64 ((k : Int) + 1)) _ _ rfl (by rfl) (fun _ => rfl) ?_
                    simp only [n1, n3, n4]
                    refine wpG_done (fun V124 hv125 => ?_)
                    have S126 : Hid (St w noB [own (.slice A118 (k + 1) k119) 3 1 (k + 1) (ic ((Pl.pvs l (Pl.mb (x.take 8)) (Pl.un (x.drop 8)).1 k) ++ [(((Pl.un (x.drop 8)).1).getD j 0)])), blk g112 3 [.int .i64 (((Pl.un (x.drop 8)).1).getD j 0)], blk g32 30 [.slice (some ⟨og94, 0, none⟩) m dc, .int .i64 ((Pl.un (x.drop 8)).2.1 : Int), .int .i64 ((Pl.un (x.drop 8)).2.2 : Int)], own (.slice (some ⟨og94, 0, none⟩) m dc) 3 1 m (ic ((Pl.un (x.drop 8)).1))] V124) := Lib.hid (S123.out.gr hv125)
                    clear S123
                    clear hv125
                    refine ⟨rfl, hK _ _ ?_⟩
                    clear hK
                    go_wp2_with fail
                    go_roundw
                    have hbk_ : (Pl.mb (x.take 8)) k = true := by have e_f16 := f16.out; have e_f50 := f50.out; have e_f59 := f59.out; have e_f84 := f84.out; rw [Pl.mb_take (by omega) (by omega), decide_eq_true_iff, ← Hq8.out, ← Hr8.out, ← Htb.out, ← Hsh.out, ← Hbt.out]; omega
                    have S127 : Hid (St w noB [own (.slice A118 (k + 1) k119) 3 1 (k + 1) (ic ((Pl.pvs l (Pl.mb (x.take 8)) (Pl.un (x.drop 8)).1 k) ++ [(((Pl.un (x.drop 8)).1).getD j 0)])), blk g32 30 [.slice (some ⟨og94, 0, none⟩) m dc, .int .i64 ((Pl.un (x.drop 8)).2.1 : Int), .int .i64 ((Pl.un (x.drop 8)).2.2 : Int)], own (.slice (some ⟨og94, 0, none⟩) m dc) 3 1 m (ic ((Pl.un (x.drop 8)).1))] V124) := Lib.hid (S126.out.sub (.cons_cons _ (.cons _ (.cons_cons _ (.cons_cons _ .slnil)))))
                    clear S126
                    case rel => exact ⟨A118, k119, j1, k + 1, (by first | rfl | go_num), (by first | rfl | go_num), (by first | rfl | go_num), (by omega), (by rw [Pl.pc_yes hbk_, Hj1.out, HJ.out]), (by omega), (Pl.pOk_step HPO.out (fun _ => ⟨by rw [← HJ.out, ← HML.out]; have e_f16 := f16.out; have e_f50 := f50.out; have e_f59 := f59.out; have e_f84 := f84.out; omega, by rw [← HJ.out]; have e_f16 := f16.out; have e_f50 := f50.out; have e_f59 := f59.out; have e_f84 := f84.out; exact fun e_ => f103 e_⟩)), (by rw [Pl.pvs_succ, Pl.pv_yes hbk_, ← HJ.out]; exact S127.out)⟩
                    case measure => first | (simp only [intOf]; omega) | (simp [intOf]; done) | (simp [intOf]; omega) | omega
              | false =>
                have f128 := of_decide_eq_false Hc83.out.symm
                go_upto_region 22 with fail
                refine wpG_region_k (fun K hK => ?_)
                refine @wpG_p _ _ _ _ _ (some 71) (.slice E k d) _ _ rfl (by rfl) (fun _ => rfl) ?_
                simp only [n1, n3, n4]
                refine @wpG_p _ _ _ _ _ (some 72) (.int .i64 (l.getD k 0)) _ _ rfl (by rfl) (fun _ => rfl) ?_
                simp only [n1, n3, n4]
                refine wpG_val (some 73) rfl (by rfl) (fun W129 hg130 => ⟨.slice (some ⟨W129.heap.size, 0, none⟩) 1 1, W129.alloc (.cells #[.int .i64 (l.getD k 0)] 3), by (go_simp <;> rfl), ?_⟩)
                simp only [n1, n3, n4]
                obtain ⟨g131, U132, hg_, hu_, hS_⟩ := (S82.out.gr hg130).made [.int .i64 (l.getD k 0)] 3
                rw [← hu_, ← hg_]
                have S133 : Hid (St w noB [blk g131 3 [.int .i64 (l.getD k 0)], own (.slice E k d) 3 1 k (ic (Pl.pvs l (Pl.mb (x.take 8)) (Pl.un (x.drop 8)).1 k)), blk g32 30 [.slice D m dc, .int .i64 ((Pl.un (x.drop 8)).2.1 : Int), .int .i64 ((Pl.un (x.drop 8)).2.2 : Int)], own (.slice D m dc) 3 1 m (ic ((Pl.un (x.drop 8)).1))] U132) := Lib.hid hS_
                clear S82
                clear hg_ hu_ hS_ hg130
                have S134 : Hid (St w noB [own (.slice E k d) 3 1 k (ic (Pl.pvs l (Pl.mb (x.take 8)) (Pl.un (x.drop 8)).1 k)), blk g131 3 [.int .i64 (l.getD k 0)], blk g32 30 [.slice D m dc, .int .i64 ((Pl.un (x.drop 8)).2.1 : Int), .int .i64 ((Pl.un (x.drop 8)).2.2 : Int)], own (.slice D m dc) 3 1 m (ic ((Pl.un (x.drop 8)).1))] U132) := Lib.hid (S133.out.front 1 rfl)
                clear S133
                refine wpG_appS (some 74) rfl rfl (.tmp 71) (.tmp 73) 22 22 rfl 3 1 8 Try.underlying22 (by kernel_rfl) (.slice E k d) k (ic (Pl.pvs l (Pl.mb (x.take 8)) (Pl.un (x.drop 8)).1 k)) S134.out (.slice (some ⟨g131, 0, none⟩) 1 1) 1 [.int .i64 (l.getD k 0)] (fun W hg => src_lies Try.underlying22 1 rfl (fun h => by cases h) (by intro u hu; simp at hu; rcases hu with rfl <;> rfl) ((S134.out.gr hg).liesBlk 1 rfl)) rfl rfl (by simp only [maxLen]; omega) (by omega) (fun v135 W136 hS_ => ?_)
                simp only [n1, n3, n4]
                rw [show ic (Pl.pvs l (Pl.mb (x.take 8)) (Pl.un (x.drop 8)).1 k) ++ [.int .i64 (l.getD k 0)] = ic ((Pl.pvs l (Pl.mb (x.take 8)) (Pl.un (x.drop 8)).1 k) ++ [(l.getD k 0)]) by simp [ic]] at hS_
                obtain ⟨A137, k138, rfl, hle_, hcap_, _⟩ := own_shape (hS_.ownr 0 rfl)
                have S139 : Hid (St w noB [own (.slice A137 (k + 1) k138) 3 1 (k + 1) (ic ((Pl.pvs l (Pl.mb (x.take 8)) (Pl.un (x.drop 8)).1 k) ++ [(l.getD k 0)])), blk g131 3 [.int .i64 (l.getD k 0)], blk g32 30 [.slice D m dc, .int .i64 ((Pl.un (x.drop 8)).2.1 : Int), .int .i64 ((Pl.un (x.drop 8)).2.2 : Int)], own (.slice D m dc) 3 1 m (ic ((Pl.un (x.drop 8)).1))] W136) := Lib.hid hS_
                clear S134
                clear hS_
                refine @wpG_p _ _ _ _ _ (some 8) (.slice A137 (k + 1) k138) _ _ rfl (by rfl) (fun _ => rfl) ?_
                simp only [n1, n3, n4]
                refine wpG_done (fun V140 hv141 => ?_)
                have S142 : Hid (St w noB [own (.slice A137 (k + 1) k138) 3 1 (k + 1) (ic ((Pl.pvs l (Pl.mb (x.take 8)) (Pl.un (x.drop 8)).1 k) ++ [(l.getD k 0)])), blk g131 3 [.int .i64 (l.getD k 0)], blk g32 30 [.slice D m dc, .int .i64 ((Pl.un (x.drop 8)).2.1 : Int), .int .i64 ((Pl.un (x.drop 8)).2.2 : Int)], own (.slice D m dc) 3 1 m (ic ((Pl.un (x.drop 8)).1))] V140) := Lib.hid (S139.out.gr hv141)
                clear S139
                clear hv141
                refine ⟨rfl, hK _ _ ?_⟩
                clear hK
                go_upto_region 15 with fail
                refine wpG_region_k (fun K hK => ?_)
                refine @wpG_p _ _ _ _ _ (some 35) (.int .i64 (k : Int)) _ _ rfl (by rfl) (fun _ => rfl) ?_
                simp only [n1, n3, n4]
                refine @wpG_p _ _ _ _ _ (some 36) (.int .i64 ((k : Int) + 1)) _ _ rfl (by rfl) (fun W => op_i_add W (k : Int) 1 (by omega) rfl rfl rfl Try.underlying3) ?_
                simp only [n1, n3, n4]
                refine @wpG_p _ _ _ _ _ (some 10) (.int .i64 ((k : Int) + 1)) _ _ rfl (by rfl) (fun _ => rfl) ?_
                simp only [n1, n3, n4]
                refine wpG_done (fun V143 hv144 => ?_)
                have S145 : Hid (St w noB [own (.slice A137 (k + 1) k138) 3 1 (k + 1) (ic ((Pl.pvs l (Pl.mb (x.take 8)) (Pl.un (x.drop 8)).1 k) ++ [(l.getD k 0)])), blk g131 3 [.int .i64 (l.getD k 0)], blk g32 30 [.slice D m dc, .int .i64 ((Pl.un (x.drop 8)).2.1 : Int), .int .i64 ((Pl.un (x.drop 8)).2.2 : Int)], own (.slice D m dc) 3 1 m (ic ((Pl.un (x.drop 8)).1))] V143) := Lib.hid (S142.out.gr hv144)
                clear S142
                clear hv144
                refine ⟨rfl, hK _ _ ?_⟩
                clear hK
                go_wp2_with fail
                go_roundw
                have hbk_ : (Pl.mb (x.take 8)) k = false := by have e_f16 := f16.out; have e_f50 := f50.out; have e_f59 := f59.out; rw [Pl.mb_take (by omega) (by omega), decide_eq_false_iff_not, ← Hq8.out, ← Hr8.out, ← Htb.out, ← Hsh.out, ← Hbt.out]; omega
                have S146 : Hid (St w noB [own (.slice A137 (k + 1) k138) 3 1 (k + 1) (ic ((Pl.pvs l (Pl.mb (x.take 8)) (Pl.un (x.drop 8)).1 k) ++ [(l.getD k 0)])), blk g32 30 [.slice D m dc, .int .i64 ((Pl.un (x.drop 8)).2.1 : Int), .int .i64 ((Pl.un (x.drop 8)).2.2 : Int)], own (.slice D m dc) 3 1 m (ic ((Pl.un (x.drop 8)).1))] V143) := Lib.hid (S145.out.sub (.cons_cons _ (.cons _ (.cons_cons _ (.cons_cons _ .slnil)))))
                clear S145
                case rel => exact ⟨A137, k138, j, k + 1, (by first | rfl | go_num), (by first | rfl | go_num), (by first | rfl | go_num), (by omega), (by rw [Pl.pc_no hbk_]; exact HJ.out), (by omega), (Pl.pOk_step HPO.out (fun h_ => absurd h_ (by rw [hbk_]; decide))), (by rw [Pl.pvs_succ, Pl.pv_no hbk_]; exact S146.out)⟩
                case measure => first | (simp only [intOf]; omega) | (simp [intOf]; done) | (simp [intOf]; omega) | omega
            | false =>
              have f147 := of_decide_eq_false Hc74.out.symm
              go_upto_region 23 with fail
              refine wpG_region_k (fun K hK => ?_)
              refine @wpG_p _ _ _ _ _ (some 75) (.int .i64 (j : Int)) _ _ rfl (by rfl) (fun _ => rfl) ?_
              simp only [n1, n3, n4]
              refine @wpG_p _ _ _ _ _ (some 76) (.pointer (some ⟨g32, 0, none⟩)) _ _ rfl (by rfl) (fun W => by go_simp) ?_
              simp only [n1, n3, n4]
              refine @wpG_r _ _ _ _ _ (some 77) (.slice D m dc) _ _ rfl (by rfl) (fun W hg => by have c := (S73.out.gr hg).cell 1 rfl 0 rfl; go_simp) ?_
              simp only [n1, n3, n4]
              refine @wpG_p _ _ _ _ _ (some 78) (.int .i64 (m : Int)) _ _ rfl (by rfl) (fun W => by go_simp) ?_
              simp only [n1, n3, n4]
              refine @wpG_p _ _ _ _ _ (some 79) (.bool (decide ((j : Int) ≠ (m : Int)))) _ _ rfl (by rfl) (fun W => op_int_neq W (j : Int) (m : Int) rfl rfl rfl Try.underlying3) ?_
              simp only [n1, n3, n4]
              refine wpG_done (fun V148 hv149 => ?_)
              have S150 : Hid (St w noB [own (.slice E k d) 3 1 k (ic (Pl.pvs l (Pl.mb (x.take 8)) (Pl.un (x.drop 8)).1 k)), blk g32 30 [.slice D m dc, .int .i64 ((Pl.un (x.drop 8)).2.1 : Int), .int .i64 ((Pl.un (x.drop 8)).2.2 : Int)], own (.slice D m dc) 3 1 m (ic ((Pl.un (x.drop 8)).1))] V148) := Lib.hid (S73.out.gr hv149)
              clear S73
              clear hv149
              refine ⟨rfl, hK _ _ ?_⟩
              clear hK
              obtain ⟨c151, hc151⟩ : ∃ q_, q_ = (decide ((j : Int) ≠ (m : Int))) := ⟨_, rfl⟩
              rw [← hc151]
              have Hc151 := Lib.hid hc151
              clear hc151
              cases c151 with
              | true =>
                have f152 := of_decide_eq_true Hc151.out.symm
                go_upto_region 24 with fail
                refine wpG_region_k (fun K hK => ?_)
                refine @wpG_p _ _ _ _ _ (some 4) (.slice none 0 0) _ _ rfl (by rfl) (fun _ => rfl) ?_
                simp only [n1, n3, n4]
                refine @wpG_p _ _ _ _ _ (some 5) (.int .i64 6) _ _ rfl (by rfl) (fun _ => rfl) ?_
                simp only [n1, n3, n4]
                refine wpG_done (fun V153 hv154 => ?_)
                have S155 : Hid (St w noB [own (.slice E k d) 3 1 k (ic (Pl.pvs l (Pl.mb (x.take 8)) (Pl.un (x.drop 8)).1 k)), blk g32 30 [.slice D m dc, .int .i64 ((Pl.un (x.drop 8)).2.1 : Int), .int .i64 ((Pl.un (x.drop 8)).2.2 : Int)], own (.slice D m dc) 3 1 m (ic ((Pl.un (x.drop 8)).1))] V153) := Lib.hid (S150.out.gr hv154)
                clear S150
                clear hv154
                refine ⟨rfl, hK _ _ ?_⟩
                clear hK
                (repeat go_step)
                go_ret2
                (have e_f16 := f16.out; have e_f50 := f50.out; have e_f59 := f59.out; have hk_ : k = 64 := (by omega); have hr_ := Pl.rOk_end (a := l) (b := (Pl.mb (x.take 8))) (cs := (Pl.un (x.drop 8)).1) (fun i hi => HPO.out i (by omega)); have hj_ := HJ.out; rw [hk_] at hj_; have hml_ := HML.out; have hr2_ : Pl.rOk l (Pl.mb (x.take 8)) (Pl.un (x.drop 8)).1 = false := (by rw [hr_, decide_eq_false_iff_not]; omega); have e_f16 := f16.out; have e_f50 := f50.out; have e_f59 := f59.out; have hy_ := Pl.pP_yes (x := x) HB1.out; have hu_ := hy_.trans (Pl.pt_bad (by omega) HE0.out (fun h_ => by have h2_ := h_.1; rw [hr2_] at h2_; cases h2_)); exact ⟨none, 0, 0, by rw [hu_]; rfl, by rw [hu_]; exact S155.out.dropAll.nilOwn _ _⟩)
              | false =>
                have f156 := Lib.hid (Decidable.not_not.1 (of_decide_eq_false Hc151.out.symm))
                have f156a := Int.le_of_eq f156.out
                have f156b := Int.le_of_eq f156.out.symm
                go_upto_region 25 with fail
                refine wpG_region_k (fun K hK => ?_)
                refine @wpG_p _ _ _ _ _ (some 80) (.slice E k d) _ _ rfl (by rfl) (fun _ => rfl) ?_
                simp only [n1, n3, n4]
                refine @wpG_p _ _ _ _ _ (some 4) (.slice E k d) _ _ rfl (by rfl) (fun _ => rfl) ?_
                simp only [n1, n3, n4]
                refine @wpG_p _ _ _ _ _ (some 5) (.int .i64 0) _ _ rfl (by rfl) (fun _ => rfl) ?_
                simp only [n1, n3, n4]
                refine wpG_done (fun V157 hv158 => ?_)
                have S159 : Hid (St w noB [own (.slice E k d) 3 1 k (ic (Pl.pvs l (Pl.mb (x.take 8)) (Pl.un (x.drop 8)).1 k)), blk g32 30 [.slice D m dc, .int .i64 ((Pl.un (x.drop 8)).2.1 : Int), .int .i64 ((Pl.un (x.drop 8)).2.2 : Int)], own (.slice D m dc) 3 1 m (ic ((Pl.un (x.drop 8)).1))] V157) := Lib.hid (S150.out.gr hv158)
                clear S150
                clear hv158
                refine ⟨rfl, hK _ _ ?_⟩
                clear hK
                (repeat go_step)
                go_ret2
                (have e_f16 := f16.out; have e_f50 := f50.out; have e_f59 := f59.out; have e_f156 := f156.out; have hy_ := Pl.pP_yes (x := x) HB1.out; have hk_ : k = 64 := (by omega); have hr_ := Pl.rOk_end (a := l) (b := (Pl.mb (x.take 8))) (cs := (Pl.un (x.drop 8)).1) (fun i hi => HPO.out i (by omega)); have hj_ := HJ.out; rw [hk_] at hj_; have hml_ := HML.out; have hr2_ : Pl.rOk l (Pl.mb (x.take 8)) (Pl.un (x.drop 8)).1 = true := (by rw [hr_, decide_eq_true_iff]; omega); have hu_ := hy_.trans (Pl.pt_ok (by omega) HE0.out ⟨hr2_, by omega⟩); exact ⟨E, k, d, by rw [hu_]; rfl, by rw [hu_]; have h_ := S159.out.sub (.cons_cons _ (.cons _ (.cons _ .slnil))); rw [hk_, Pl.pvs_all] at h_; rw [hk_]; exact h_⟩)

end Go.Proofs.Ytfomieekdbkcnaa
