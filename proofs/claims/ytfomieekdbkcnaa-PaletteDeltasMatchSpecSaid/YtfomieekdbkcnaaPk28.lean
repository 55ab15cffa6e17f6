/-
  Contracts of the specification of package palette: Delta.
-/
import Derived.Test.YtfomieekdbkcnaaPk26
import Derived.Test.YtfomieekdbkcnaaPk16
import Derived.Test.YtfomieekdbkcnaaPk24
import Derived.Handy
namespace Go.Proofs.Ytfomieekdbkcnaa
open Go Go.RowKit
set_option linter.unusedVariables false
set_option linter.unusedSimpArgs false
namespace Pl
/-- a bit of the mask is put -/
theorem mask_step {a b : List Int} {k : Nat} (hk : k < 64) (h : df a b k = true) :
    mN a b k / 2 ^ (8 * (k / 8)) % 256 + 2 ^ (k % 8) < 256 ∧ (le 8 (mN a b k)).set (k / 8) (UInt8.ofNat (mN a b k / 2 ^ (8 * (k / 8)) % 256 + 2 ^ (k % 8))) = le 8 (mN a b (k + 1)) := by
  have hN := mN_lt a b k
  have he : mN a b (k + 1) = mN a b k + 1 * 2 ^ k := by
    unfold mN
    rw [S, h, Nat.one_mul k]; rfl
  rw [he]
  generalize mN a b k = M at *
  have hq : 8 * (k / 8) + k % 8 = k := Nat.div_add_mod _ _
  have hd : M / 2 ^ (8 * (k / 8)) < 2 ^ (k % 8) := by
    rw [Nat.div_lt_iff_lt_mul (Nat.two_pow_pos _), ← Nat.pow_add, Nat.add_comm (k % 8), hq]; exact hN
  have hp : 2 ^ (k % 8) ≤ 2 ^ 7 := Nat.pow_le_pow_right (by decide) (by omega)
  have hm : M / 2 ^ (8 * (k / 8)) % 256 < 2 ^ (k % 8) := Nat.lt_of_le_of_lt (Nat.mod_le _ _) hd
  refine ⟨by omega, ?_⟩
  have h3 := le_add 8 M (k / 8) (k % 8) 1 (by omega) (by rw [hq]; exact hN) (by omega)
  rw [hq, Nat.one_mul (2 ^ (k % 8))] at h3
  exact h3.symm
theorem mN_no {a b : List Int} {k : Nat} (h : df a b k = false) : mN a b (k + 1) = mN a b k := by
  unfold mN
  rw [S, h]
  simp
theorem le_mask_at {a b : List Int} {k : Nat} (hk : k < 64) : (le 8 (mN a b k))[k / 8]? = some (UInt8.ofNat (mN a b k / 2 ^ (8 * (k / 8)) % 256)) := le_at _ _ _ (by omega)
end Pl
set_option maxRecDepth 1000000 in
set_option maxHeartbeats 4000000 in
theorem rdelta_any (A : Option Addr) (n c : Nat) (l : List Int) (A2 : Option Addr) (m2 c2 : Nat) (l2 : List Int) (w : World) (hG : SL w 1 A n c (ic l)) (hG2 : SL w 1 A2 m2 c2 (ic l2)) (hb : n ≤ 1000) (hb2 : m2 ≤ 1000) :
    Calls Try.prog 23 #[.slice A n c, .slice A2 m2 c2] w fun e w' => e = .returned (.tuple #[.string (bstr (Pl.dS l l2)), .int .i64 (Pl.dE l l2)]) ∧ Below w.heap.size w w' := by
  have HGA := Lib.hid hG
  have HLEN : Hid (l.length = n) := Lib.hid (by have h_ := hG.len; rw [ic_len] at h_; omega)
  have hnbHGA : n ≤ 9223372036854775807 := Nat.le_trans hG.cap hG.bnd
  clear hG
  have HGB := Lib.hid hG2
  have HLEN2 : Hid (l2.length = m2) := Lib.hid (by have h_ := hG2.len; rw [ic_len] at h_; omega)
  have hnbHGB : m2 ≤ 9223372036854775807 := Nat.le_trans hG2.cap hG2.bnd
  clear hG2
  have S1 : Hid (St w noB [] w) := Lib.hid (St.start w)
  go_enter Try.func23, Try.ntmps23
  go_upto_region 0 with fail
  refine wpG_region_k (fun K hK => ?_)
  refine @wpG_p _ _ _ _ _ (some 4) (.string ⟨#[]⟩) _ _ rfl (by rfl) (fun _ => rfl) ?_
  simp only [n1, n3, n4]
  refine @wpG_p _ _ _ _ _ (some 5) (.int .i64 0) _ _ rfl (by rfl) (fun _ => rfl) ?_
  simp only [n1, n3, n4]
  refine wpG_done (fun V2 hv3 => ?_)
  have S4 : Hid (St w noB [] V2) := Lib.hid (S1.out.gr hv3)
  clear S1
  clear hv3
  refine ⟨rfl, hK _ _ ?_⟩
  clear hK
  go_upto_region 1 with fail
  refine wpG_region_k (fun K hK => ?_)
  refine @wpG_p _ _ _ _ _ (some 13) (.slice A n c) _ _ rfl (by rfl) (fun _ => rfl) ?_
  simp only [n1, n3, n4]
  refine @wpG_tk _ _ _ _ _ (some 14) (.bool (Pl.bk l)) _ _ rfl (.call (f := 42) (args := #[.slice A n c]) (by rfl) (fun W => by go_simp) (fun W hg => rbrick_any _ _ _ l W (HGA.out.gr (S4.out.gr hg).bel))) ?_
  simp only [n1, n3, n4]
  refine @wpG_p _ _ _ _ _ (some 6) (.bool (Pl.bk l)) _ _ rfl (by rfl) (fun _ => rfl) ?_
  simp only [n1, n3, n4]
  refine wpG_done (fun V5 hv6 => ?_)
  have S7 : Hid (St w noB [] V5) := Lib.hid (S4.out.gr hv6)
  clear S4
  clear hv6
  refine ⟨rfl, hK _ _ ?_⟩
  clear hK
  go_upto_region 2 with fail
  refine wpG_region_k (fun K hK => ?_)
  refine @wpG_p _ _ _ _ _ (some 15) (.slice A2 m2 c2) _ _ rfl (by rfl) (fun _ => rfl) ?_
  simp only [n1, n3, n4]
  refine @wpG_tk _ _ _ _ _ (some 16) (.bool (Pl.bk l2)) _ _ rfl (.call (f := 42) (args := #[.slice A2 m2 c2]) (by rfl) (fun W => by go_simp) (fun W hg => rbrick_any _ _ _ l2 W (HGB.out.gr (S7.out.gr hg).bel))) ?_
  simp only [n1, n3, n4]
  refine @wpG_p _ _ _ _ _ (some 7) (.bool (Pl.bk l2)) _ _ rfl (by rfl) (fun _ => rfl) ?_
  simp only [n1, n3, n4]
  refine wpG_done (fun V8 hv9 => ?_)
  have S10 : Hid (St w noB [] V8) := Lib.hid (S7.out.gr hv9)
  clear S7
  clear hv9
  refine ⟨rfl, hK _ _ ?_⟩
  clear hK
  go_upto_region 3 with fail
  refine wpG_region_k (fun K hK => ?_)
  refine @wpG_p _ _ _ _ _ (some 17) (.bool (Pl.bk l)) _ _ rfl (by rfl) (fun _ => rfl) ?_
  simp only [n1, n3, n4]
  refine @wpG_p _ _ _ _ _ (some 18) (.bool (!(Pl.bk l))) _ _ rfl (by rfl) (fun W => by go_simp) ?_
  simp only [n1, n3, n4]
  refine @wpG_p _ _ _ _ _ (some 19) (.bool (!(Pl.bk l))) _ _ rfl (by rfl) (fun _ => rfl) ?_
  simp only [n1, n3, n4]
  obtain ⟨c11, hc11⟩ : ∃ q_, q_ = (!(Pl.bk l)) := ⟨_, rfl⟩
  rw [← hc11]
  have Hc11 := Lib.hid hc11
  clear hc11
  cases c11 with
  | true =>
    have f12 := Lib.hid ((bnt Hc11.out))
    refine @wpG_no _ _ _ _ _ (some 20) _ _ rfl (by rfl) ?_
    simp only [n1, n3, n4]
    refine @wpG_no _ _ _ _ _ (some 21) _ _ rfl (by rfl) ?_
    simp only [n1, n3, n4]
    refine @wpG_p _ _ _ _ _ (some 22) (.bool true) _ _ rfl (by rfl) (fun W => by go_simp) ?_
    simp only [n1, n3, n4]
    refine wpG_done (fun V13 hv14 => ?_)
    have S15 : Hid (St w noB [] V13) := Lib.hid (S10.out.gr hv14)
    clear S10
    clear hv14
    refine ⟨rfl, hK _ _ ?_⟩
    clear hK
    go_upto_region 4 with fail
    refine wpG_region_k (fun K hK => ?_)
    refine @wpG_p _ _ _ _ _ (some 4) (.string ⟨#[]⟩) _ _ rfl (by rfl) (fun _ => rfl) ?_
    simp only [n1, n3, n4]
    refine @wpG_p _ _ _ _ _ (some 5) (.int .i64 1) _ _ rfl (by rfl) (fun _ => rfl) ?_
    simp only [n1, n3, n4]
    refine wpG_done (fun V16 hv17 => ?_)
    have S18 : Hid (St w noB [] V16) := Lib.hid (S15.out.gr hv17)
    clear S15
    clear hv17
    refine ⟨rfl, hK _ _ ?_⟩
    clear hK
    go_wp2_with fail
    go_ret2
    refine ⟨?_, S18.out.bel⟩
    show Ending.returned (.tuple #[.string ⟨#[]⟩, .int .i64 1]) = _
    (have e_f12 := f12.out; obtain ⟨e1_, e2_⟩ := Pl.d_no (a := l) (b := l2) (by first | exact .inl (by simpa using e_f12) | exact .inr (by simpa using e_f12)); rw [e1_, e2_]; rfl)
  | false =>
    have f19 := Lib.hid ((bnf Hc11.out))
    have HB1 : Hid (Pl.bk l = true) := Lib.hid (by have h_ := f19.out; simpa using h_)
    have h64a_ : n ≤ 64 ∧ 64 ≤ n := by have h_ := (Pl.bk_vc HB1.out).1; have h2_ := HLEN.out; omega
    refine @wpG_p _ _ _ _ _ (some 20) (.bool (Pl.bk l2)) _ _ rfl (by rfl) (fun _ => rfl) ?_
    simp only [n1, n3, n4]
    refine @wpG_p _ _ _ _ _ (some 21) (.bool (!(Pl.bk l2))) _ _ rfl (by rfl) (fun W => by go_simp) ?_
    simp only [n1, n3, n4]
    refine @wpG_p _ _ _ _ _ (some 22) (.bool (!(Pl.bk l2))) _ _ rfl (by rfl) (fun W => by go_simp) ?_
    simp only [n1, n3, n4]
    refine wpG_done (fun V20 hv21 => ?_)
    have S22 : Hid (St w noB [] V20) := Lib.hid (S10.out.gr hv21)
    clear S10
    clear hv21
    refine ⟨rfl, hK _ _ ?_⟩
    clear hK
    obtain ⟨c23, hc23⟩ : ∃ q_, q_ = (!(Pl.bk l2)) := ⟨_, rfl⟩
    rw [← hc23]
    have Hc23 := Lib.hid hc23
    clear hc23
    cases c23 with
    | true =>
      have f24 := Lib.hid ((bnt Hc23.out))
      go_upto_region 4 with fail
      refine wpG_region_k (fun K hK => ?_)
      refine @wpG_p _ _ _ _ _ (some 4) (.string ⟨#[]⟩) _ _ rfl (by rfl) (fun _ => rfl) ?_
      simp only [n1, n3, n4]
      refine @wpG_p _ _ _ _ _ (some 5) (.int .i64 1) _ _ rfl (by rfl) (fun _ => rfl) ?_
      simp only [n1, n3, n4]
      refine wpG_done (fun V25 hv26 => ?_)
      have S27 : Hid (St w noB [] V25) := Lib.hid (S22.out.gr hv26)
      clear S22
      clear hv26
      refine ⟨rfl, hK _ _ ?_⟩
      clear hK
      go_wp2_with fail
      go_ret2
      refine ⟨?_, S27.out.bel⟩
      show Ending.returned (.tuple #[.string ⟨#[]⟩, .int .i64 1]) = _
      (have e_f19 := f19.out; have e_f24 := f24.out; obtain ⟨e1_, e2_⟩ := Pl.d_no (a := l) (b := l2) (by first | exact .inl (by simpa using e_f24) | exact .inr (by simpa using e_f24)); rw [e1_, e2_]; rfl)
    | false =>
      have f28 := Lib.hid ((bnf Hc23.out))
      have HB2 : Hid (Pl.bk l2 = true) := Lib.hid (by have h_ := f28.out; simpa using h_)
      have h64b_ : m2 ≤ 64 ∧ 64 ≤ m2 := by have h_ := (Pl.bk_vc HB2.out).1; have h2_ := HLEN2.out; omega
      go_upto_region 5 with fail
      refine wpG_region_k (fun K hK => ?_)
      refine wpG_val (some 23) rfl (by rfl) (fun W29 hg30 => ?_)
      refine makez_ex 43 5 (.int .u8 0) rfl 1 (.const (.int .i64 8)) (.const (.int .i64 8)) rfl Try.underlying43 (by kernel_rfl) 8 8 rfl rfl (by decide) (by decide) (by decide) W29 (S22.out.gr hg30) (fun g32 U31 hS_ => ?_)
      clear hg30
      simp only [n1, n3, n4]
      rw [show List.replicate 8 (.int .u8 0) = bc (Pl.le 8 (Pl.mN l l2 0)) from Pl.bc_zero 8] at hS_
      have S33 : Hid (St w noB [own (.slice (some ⟨g32, 0, none⟩) 8 8) 5 1 8 (bc (Pl.le 8 (Pl.mN l l2 0)))] U31) := Lib.hid hS_
      clear S22
      clear hS_
      refine @wpG_p _ _ _ _ _ (some 8) (.slice (some ⟨g32, 0, none⟩) 8 8) _ _ rfl (by rfl) (fun _ => rfl) ?_
      simp only [n1, n3, n4]
      refine wpG_done (fun V34 hv35 => ?_)
      have S36 : Hid (St w noB [own (.slice (some ⟨g32, 0, none⟩) 8 8) 5 1 8 (bc (Pl.le 8 (Pl.mN l l2 0)))] V34) := Lib.hid (S33.out.gr hv35)
      clear S33
      clear hv35
      refine ⟨rfl, hK _ _ ?_⟩
      clear hK
      go_upto_region 6 with fail
      refine wpG_region_k (fun K hK => ?_)
      refine @wpG_p _ _ _ _ _ (some 9) (.slice none 0 0) _ _ rfl (by rfl) (fun _ => rfl) ?_
      simp only [n1, n3, n4]
      refine wpG_done (fun V37 hv38 => ?_)
      have S39 : Hid (St w noB [own (.slice (some ⟨g32, 0, none⟩) 8 8) 5 1 8 (bc (Pl.le 8 (Pl.mN l l2 0)))] V37) := Lib.hid (S36.out.gr hv38)
      clear S36
      clear hv38
      refine ⟨rfl, hK _ _ ?_⟩
      clear hK
      go_upto_region 7 with fail
      refine wpG_region_k (fun K hK => ?_)
      refine @wpG_p _ _ _ _ _ (some 10) (.int .i64 0) _ _ rfl (by rfl) (fun _ => rfl) ?_
      simp only [n1, n3, n4]
      refine wpG_done (fun V40 hv41 => ?_)
      have S42 : Hid (St w noB [own (.slice (some ⟨g32, 0, none⟩) 8 8) 5 1 8 (bc (Pl.le 8 (Pl.mN l l2 0)))] V40) := Lib.hid (S39.out.gr hv41)
      clear S39
      clear hv41
      refine ⟨rfl, hK _ _ ?_⟩
      clear hK
      have S43 : Hid (St w noB [own (.slice none 0 0) 3 1 0 (ic (Pl.dc l l2 0)), own (.slice (some ⟨g32, 0, none⟩) 8 8) 5 1 8 (bc (Pl.le 8 (Pl.mN l l2 0)))] V40) := Lib.hid (S42.out.nilOwn 3 1)
      clear S42
      go_wp2_with fail
      go_loopw [9, 10] (fun v9 v10 wr => ∃ (E : Option Addr) (q d k : Nat), v9 = .slice E q d ∧ v10 = .int .i64 (k : Int) ∧ k ≤ 64 ∧ q ≤ k ∧ St w noB [own (.slice E q d) 3 1 q (ic (Pl.dc l l2 k)), own (.slice (some ⟨g32, 0, none⟩) 8 8) 5 1 8 (bc (Pl.le 8 (Pl.mN l l2 k)))] wr) (fun a i _ => 64 - (intOf i).toNat)
      case atStart => exact ⟨none, 0, 0, 0, rfl, rfl, (by decide), Nat.le_refl _, S43.out⟩
      case round =>
        obtain ⟨E, q, d, k, rfl, rfl, hk64, hqk, hS⟩ := hrel
        have SL := Lib.hid hS
        clear S43 hS
        have S44 := SL
        clear SL
        go_upto_region 8 with fail
        refine wpG_region_k (fun K hK => ?_)
        refine @wpG_p _ _ _ _ _ (some 24) (.int .i64 (k : Int)) _ _ rfl (by rfl) (fun _ => rfl) ?_
        simp only [n1, n3, n4]
        refine @wpG_p _ _ _ _ _ (some 25) (.bool (decide ((k : Int) < 64))) _ _ rfl (by rfl) (fun W => op_int_lss W (k : Int) 64 rfl rfl rfl Try.underlying3) ?_
        simp only [n1, n3, n4]
        refine wpG_done (fun V45 hv46 => ?_)
        have S47 : Hid (St w noB [own (.slice E q d) 3 1 q (ic (Pl.dc l l2 k)), own (.slice (some ⟨g32, 0, none⟩) 8 8) 5 1 8 (bc (Pl.le 8 (Pl.mN l l2 k)))] V45) := Lib.hid (S44.out.gr hv46)
        clear S44
        clear hv46
        refine ⟨rfl, hK _ _ ?_⟩
        clear hK
        obtain ⟨c48, hc48⟩ : ∃ q_, q_ = (decide ((k : Int) < 64)) := ⟨_, rfl⟩
        rw [← hc48]
        have Hc48 := Lib.hid hc48
        clear hc48
        cases c48 with
        | true =>
          have f49 := of_decide_eq_true Hc48.out.symm
          go_upto_region 10 with fail
          refine wpK_region_k (by kernel_rfl) (fun K hK => ?_)
          refine wpK_ta (i := 0) (some 28) (v := .slice A n c) rfl rfl (by kernel_rfl) (fun _ _ _ h => onN_panic h) (Or.inl ⟨rfl, fun _ => rfl⟩) ?_
          simp only [n1, n3, n4]
          refine wpK_ta (i := 1) (some 29) (v := .int .i64 (k : Int)) rfl rfl (by kernel_rfl) (fun _ _ _ h => onN_panic h) (Or.inl ⟨rfl, fun _ => rfl⟩) ?_
          simp only [n1, n3, n4]
          obtain ⟨b50, o50, rfl⟩ := HGA.out.addr (by decide) (by omega)
          refine wpK_ta (i := 2) (some 30) (v := .pointer (some ⟨b50, o50 + k, none⟩)) rfl rfl (by kernel_rfl) (fun _ _ _ h => onN_panic h) (Or.inl ⟨by rfl, fun W => by (go_simp <;> first | rfl | omega | (simp; omega))⟩) ?_
          simp only [n1, n3, n4]
          refine wpK_ta (i := 4) (some 32) (v := .slice A2 m2 c2) rfl rfl (by kernel_rfl) (fun _ _ _ h => onN_panic h) (Or.inl ⟨rfl, fun _ => rfl⟩) ?_
          simp only [n1, n3, n4]
          refine wpK_ta (i := 5) (some 33) (v := .int .i64 (k : Int)) rfl rfl (by kernel_rfl) (fun _ _ _ h => onN_panic h) (Or.inl ⟨rfl, fun _ => rfl⟩) ?_
          simp only [n1, n3, n4]
          obtain ⟨b51, o51, rfl⟩ := HGB.out.addr (by decide) (by omega)
          refine wpK_ta (i := 6) (some 34) (v := .pointer (some ⟨b51, o51 + k, none⟩)) rfl rfl (by kernel_rfl) (fun _ _ _ h => onN_panic h) (Or.inl ⟨by rfl, fun W => by (go_simp <;> first | rfl | omega | (simp; omega))⟩) ?_
          simp only [n1, n3, n4]
          refine wpK_tk (i := 3) (some 31) (v := .int .i64 (l.getD k 0)) rfl rfl (by kernel_rfl) (fun _ _ _ h => onN_panic h) (.val (by rfl) (fun W hg => by have c := (((HGA.out.gr ((S47.out.gr (Gr.un hg))).bel).int (l := l) k (by (first | (have := HLEN.out; omega) | (have := HLEN2.out; omega))))) 0 _ rfl; (try simp only [Nat.add_zero, Nat.zero_add] at c); go_simp)) ?_
          simp only [n1, n3, n4]
          refine wpK_tk (i := 7) (some 35) (v := .int .i64 (l2.getD k 0)) rfl rfl (by kernel_rfl) (fun _ _ _ h => onN_panic h) (.val (by rfl) (fun W hg => by have c := (((HGB.out.gr ((S47.out.gr (Gr.un hg))).bel).int (l := l2) k (by (first | (have := HLEN.out; omega) | (have := HLEN2.out; omega))))) 0 _ rfl; (try simp only [Nat.add_zero, Nat.zero_add] at c); go_simp)) ?_
          simp only [n1, n3, n4]
          refine wpK_ta (i := 8) (some 36) (v := .bool (decide ((l.getD k 0) ≠ (l2.getD k 0)))) rfl rfl (by kernel_rfl) (fun _ _ _ h => onN_panic h) (Or.inl ⟨by rfl, fun W => by exact op_int_neq W (l.getD k 0) (l2.getD k 0) rfl rfl rfl Try.underlying3⟩) ?_
          simp only [n1, n3, n4]
          refine wpK_done (by kernel_rfl) (fun V52 hv53 => ?_) _
          have S54 : Hid (St w noB [own (.slice E q d) 3 1 q (ic (Pl.dc l l2 k)), own (.slice (some ⟨g32, 0, none⟩) 8 8) 5 1 8 (bc (Pl.le 8 (Pl.mN l l2 k)))] V52) := Lib.hid (S47.out.gr (Gr.un hv53))
          clear S47
          clear hv53
          refine ⟨rfl, hK _ _ ?_⟩
          clear hK
          obtain ⟨c55, hc55⟩ : ∃ q_, q_ = (decide ((l.getD k 0) ≠ (l2.getD k 0))) := ⟨_, rfl⟩
          rw [← hc55]
          have Hc55 := Lib.hid hc55
          clear hc55
          cases c55 with
          | true =>
            have f56 := of_decide_eq_true Hc55.out.symm
            go_upto_region 11 with fail
            refine wpK_region_k (by kernel_rfl) (fun K hK => ?_)
            refine wpK_ta (i := 0) (some 37) (v := .slice (some ⟨g32, 0, none⟩) 8 8) rfl rfl (by kernel_rfl) (fun _ _ _ h => onN_panic h) (Or.inl ⟨rfl, fun _ => rfl⟩) ?_
            simp only [n1, n3, n4]
            refine wpK_ta (i := 1) (some 38) (v := .int .i64 (k : Int)) rfl rfl (by kernel_rfl) (fun _ _ _ h => onN_panic h) (Or.inl ⟨rfl, fun _ => rfl⟩) ?_
            simp only [n1, n3, n4]
            obtain ⟨q8a, h_q8a⟩ : ∃ q_ : Nat, q_ = k / 8 := ⟨_, rfl⟩
            have hq8ab : q8a < 8 := by omega
            have Hq8a := Lib.hid h_q8a
            clear h_q8a
            refine wpK_ta (i := 2) (some 39) (v := .int .i64 (q8a : Int)) rfl rfl (by kernel_rfl) (fun _ _ _ h => onN_panic h) (Or.inl ⟨by rfl, fun W => by exact op_n_quo k 8 q8a Hq8a.out.symm (by decide) (by omega) rfl rfl rfl⟩) ?_
            simp only [n1, n3, n4]
            refine wpK_ta (i := 3) (some 40) (v := .slice (some ⟨g32, 0, none⟩) 8 8) rfl rfl (by kernel_rfl) (fun _ _ _ h => onN_panic h) (Or.inl ⟨rfl, fun _ => rfl⟩) ?_
            simp only [n1, n3, n4]
            refine wpK_ta (i := 4) (some 41) (v := .int .i64 (k : Int)) rfl rfl (by kernel_rfl) (fun _ _ _ h => onN_panic h) (Or.inl ⟨rfl, fun _ => rfl⟩) ?_
            simp only [n1, n3, n4]
            obtain ⟨q8b, h_q8b⟩ : ∃ q_ : Nat, q_ = k / 8 := ⟨_, rfl⟩
            have hq8bb : q8b < 8 := by omega
            have Hq8b := Lib.hid h_q8b
            clear h_q8b
            refine wpK_ta (i := 5) (some 42) (v := .int .i64 (q8b : Int)) rfl rfl (by kernel_rfl) (fun _ _ _ h => onN_panic h) (Or.inl ⟨by rfl, fun W => by exact op_n_quo k 8 q8b Hq8b.out.symm (by decide) (by omega) rfl rfl rfl⟩) ?_
            simp only [n1, n3, n4]
            refine wpK_ta (i := 6) (some 43) (v := .pointer (some ⟨g32, q8b, none⟩)) rfl rfl (by kernel_rfl) (fun _ _ _ h => onN_panic h) (Or.inl ⟨by rfl, fun W => by (go_simp <;> first | rfl | omega | (simp; omega))⟩) ?_
            simp only [n1, n3, n4]
            refine wpK_ta (i := 8) (some 45) (v := .int .i64 (k : Int)) rfl rfl (by kernel_rfl) (fun _ _ _ h => onN_panic h) (Or.inl ⟨rfl, fun _ => rfl⟩) ?_
            simp only [n1, n3, n4]
            obtain ⟨r8, h_r8⟩ : ∃ q_ : Nat, q_ = k % 8 := ⟨_, rfl⟩
            have hr8b : r8 < 8 := by omega
            have Hr8 := Lib.hid h_r8
            clear h_r8
            refine wpK_ta (i := 9) (some 46) (v := .int .i64 (r8 : Int)) rfl rfl (by kernel_rfl) (fun _ _ _ h => onN_panic h) (Or.inl ⟨by rfl, fun W => by exact op_n_rem k 8 r8 Hr8.out.symm (by decide) rfl rfl rfl⟩) ?_
            simp only [n1, n3, n4]
            obtain ⟨sh, h_sh⟩ : ∃ q_ : Nat, q_ = 1 * 2 ^ r8 := ⟨_, rfl⟩
            have hshb : sh ≤ 128 := by rw [h_sh, Nat.one_mul]; exact Nat.pow_le_pow_right (n := 2) (by decide) (show r8 ≤ 7 by omega)
            have Hsh := Lib.hid h_sh
            clear h_sh
            refine wpK_ta (i := 10) (some 47) (v := .int .u8 (sh : Int)) rfl rfl (by kernel_rfl) (fun _ _ _ h => onN_panic h) (Or.inl ⟨by rfl, fun W => by exact op_k_shl 1 r8 sh Hsh.out.symm (by show r8 ≤ 8; omega) (wrap_n8 (by omega)) rfl rfl rfl⟩) ?_
            simp only [n1, n3, n4]
            obtain ⟨xo, h_xo⟩ : ∃ q_ : Nat, q_ = Pl.mN l l2 k / 2 ^ (8 * (k / 8)) % 256 := ⟨_, rfl⟩
            have hxob : xo < 256 := by rw [h_xo]; exact Nat.mod_lt _ (by decide)
            have Hxo := Lib.hid h_xo
            clear h_xo
            refine wpK_tk (i := 7) (some 44) (v := .int .u8 (xo : Int)) rfl rfl (by kernel_rfl) (fun _ _ _ h => onN_panic h) (.val (by rfl) (fun W hg => by have c := own_at (k := q8b) (v := .int .u8 (xo : Int)) ((S54.out.gr (Gr.un hg)).ownr 1 rfl) (by rw [Hxo.out, Hq8b.out]; exact (bc_at (Pl.le_mask_at (by omega))).trans (by rw [Pl.u8n (Nat.mod_lt _ (by decide))])); go_simp)) ?_
            simp only [n1, n3, n4]
            have hms_ := (Pl.mask_step (a := l) (b := l2) (k := k) (by omega) (Pl.df_ne (fun h_ => f56 h_.symm))).1
            obtain ⟨yo, h_yo⟩ : ∃ q_ : Nat, q_ = xo + 2 ^ r8 := ⟨_, rfl⟩
            have hyo_ : yo < 256 := by rw [h_yo, Hxo.out, Hr8.out]; exact hms_
            have Hyo := Lib.hid h_yo
            clear h_yo
            clear hms_
            refine wpK_ta (i := 11) (some 48) (v := .int .u8 (yo : Int)) rfl rfl (by kernel_rfl) (fun _ _ _ h => onN_panic h) (Or.inl ⟨by rfl, fun W => by exact op_u8_add xo sh yo (by rw [Hyo.out, Hsh.out, Nat.one_mul]) hyo_ rfl rfl rfl⟩) ?_
            simp only [n1, n3, n4]
            refine wpK_ta (i := 12) (some 49) (v := .pointer (some ⟨g32, q8b, none⟩)) rfl rfl (by kernel_rfl) (fun _ _ _ h => onN_panic h) (Or.inl ⟨by rfl, fun W => by (have e_ : q8a = q8b := (by rw [Hq8a.out, Hq8b.out]); subst e_; go_simp <;> first | rfl | omega | (simp; omega))⟩) ?_
            simp only [n1, n3, n4]
            refine wpK_store (i := 13) (none) rfl rfl (by kernel_rfl) (by rfl) (by rfl) (fun W57 hg58 => ⟨W57.setCell ⟨g32, q8b, none⟩ (.int .u8 (yo : Int)), by obtain ⟨⟨_, c⟩, c2⟩ := own_cell (k := q8b) ((S54.out.gr (Gr.un hg58)).ownr 1 rfl) (by omega); go_simp, ?_⟩)
            simp only [n2]
            obtain ⟨U59, hu_, hS_⟩ := ((S54.out.gr (Gr.un hg58)).ownPutAt 1 rfl (k := q8b) (by omega) (.int .u8 (yo : Int))).named
            rw [← hu_]
            have S60 : Hid (St w noB [own (.slice E q d) 3 1 q (ic (Pl.dc l l2 k)), own (.slice (some ⟨g32, 0, none⟩) 8 8) 5 1 8 ((bc (Pl.le 8 (Pl.mN l l2 k))).set q8b (.int .u8 (yo : Int)))] U59) := Lib.hid hS_
            clear S54
            clear hu_ hS_ hg58
            refine wpK_done (by kernel_rfl) (fun V61 hv62 => ?_) _
            have S63 : Hid (St w noB [own (.slice E q d) 3 1 q (ic (Pl.dc l l2 k)), own (.slice (some ⟨g32, 0, none⟩) 8 8) 5 1 8 ((bc (Pl.le 8 (Pl.mN l l2 k))).set q8b (.int .u8 (yo : Int)))] V61) := Lib.hid (S60.out.gr hv62)
            clear S60
            clear hv62
            refine ⟨rfl, hK _ _ ?_⟩
            clear hK
            go_upto_region 12 with fail
            refine wpG_region_k (fun K hK => ?_)
            refine @wpG_p _ _ _ _ _ (some 50) (.slice E q d) _ _ rfl (by rfl) (fun _ => rfl) ?_
            simp only [n1, n3, n4]
            refine @wpG_p _ _ _ _ _ (some 51) (.slice (some ⟨b51, o51, none⟩) m2 c2) _ _ rfl (by rfl) (fun _ => rfl) ?_
            simp only [n1, n3, n4]
            refine @wpG_p _ _ _ _ _ (some 52) (.int .i64 (k : Int)) _ _ rfl (by rfl) (fun _ => rfl) ?_
            simp only [n1, n3, n4]
            refine @wpG_p _ _ _ _ _ (some 53) (.pointer (some ⟨b51, o51 + k, none⟩)) _ _ rfl (by rfl) (fun W => by (go_simp <;> first | rfl | omega | (simp; omega))) ?_
            simp only [n1, n3, n4]
            refine @wpG_r _ _ _ _ _ (some 54) (.int .i64 (l2.getD k 0)) _ _ rfl (by rfl) (fun W hg => by have c := (((HGB.out.gr ((S63.out.gr hg)).bel).int (l := l2) k (by (first | (have := HLEN.out; omega) | (have := HLEN2.out; omega))))) 0 _ rfl; (try simp only [Nat.add_zero, Nat.zero_add] at c); go_simp) ?_
            simp only [n1, n3, n4]
            refine wpG_val (some 55) rfl (by rfl) (fun W64 hg65 => ⟨.slice (some ⟨W64.heap.size, 0, none⟩) 1 1, W64.alloc (.cells #[.int .i64 (l2.getD k 0)] 3), by (go_simp <;> rfl), ?_⟩)
            simp only [n1, n3, n4]
            obtain ⟨g66, U67, hg_, hu_, hS_⟩ := (S63.out.gr hg65).made [.int .i64 (l2.getD k 0)] 3
            rw [← hu_, ← hg_]
            have S68 : Hid (St w noB [blk g66 3 [.int .i64 (l2.getD k 0)], own (.slice E q d) 3 1 q (ic (Pl.dc l l2 k)), own (.slice (some ⟨g32, 0, none⟩) 8 8) 5 1 8 ((bc (Pl.le 8 (Pl.mN l l2 k))).set q8b (.int .u8 (yo : Int)))] U67) := Lib.hid hS_
            clear S63
            clear hg_ hu_ hS_ hg65
            have S69 : Hid (St w noB [own (.slice E q d) 3 1 q (ic (Pl.dc l l2 k)), blk g66 3 [.int .i64 (l2.getD k 0)], own (.slice (some ⟨g32, 0, none⟩) 8 8) 5 1 8 ((bc (Pl.le 8 (Pl.mN l l2 k))).set q8b (.int .u8 (yo : Int)))] U67) := Lib.hid (S68.out.front 1 rfl)
            clear S68
            refine wpG_appS (some 56) rfl rfl (.tmp 50) (.tmp 55) 22 22 rfl 3 1 8 Try.underlying22 (by kernel_rfl) (.slice E q d) q (ic (Pl.dc l l2 k)) S69.out (.slice (some ⟨g66, 0, none⟩) 1 1) 1 [.int .i64 (l2.getD k 0)] (fun W hg => src_lies Try.underlying22 1 rfl (fun h => by cases h) (by intro u hu; simp at hu; rcases hu with rfl <;> rfl) ((S69.out.gr hg).liesBlk 1 rfl)) rfl rfl (by simp only [maxLen]; omega) (by omega) (fun v70 W71 hS_ => ?_)
            simp only [n1, n3, n4]
            rw [show ic (Pl.dc l l2 k) ++ [.int .i64 (l2.getD k 0)] = ic ((Pl.dc l l2 k) ++ [(l2.getD k 0)]) by simp [ic]] at hS_
            obtain ⟨A72, k73, rfl, hle_, hcap_, _⟩ := own_shape (hS_.ownr 0 rfl)
            have S74 : Hid (St w noB [own (.slice A72 (q + 1) k73) 3 1 (q + 1) (ic ((Pl.dc l l2 k) ++ [(l2.getD k 0)])), blk g66 3 [.int .i64 (l2.getD k 0)], own (.slice (some ⟨g32, 0, none⟩) 8 8) 5 1 8 ((bc (Pl.le 8 (Pl.mN l l2 k))).set q8b (.int .u8 (yo : Int)))] W71) := Lib.hid hS_
            clear S69
            clear hS_
            refine @wpG_p _ _ _ _ _ (some 9) (.slice A72 (q + 1) k73) _ _ rfl (by rfl) (fun _ => rfl) ?_
            simp only [n1, n3, n4]
            refine wpG_done (fun V75 hv76 => ?_)
            have S77 : Hid (St w noB [own (.slice A72 (q + 1) k73) 3 1 (q + 1) (ic ((Pl.dc l l2 k) ++ [(l2.getD k 0)])), blk g66 3 [.int .i64 (l2.getD k 0)], own (.slice (some ⟨g32, 0, none⟩) 8 8) 5 1 8 ((bc (Pl.le 8 (Pl.mN l l2 k))).set q8b (.int .u8 (yo : Int)))] V75) := Lib.hid (S74.out.gr hv76)
            clear S74
            clear hv76
            refine ⟨rfl, hK _ _ ?_⟩
            clear hK
            go_upto_region 9 with fail
            refine wpG_region_k (fun K hK => ?_)
            refine @wpG_p _ _ _ _ _ (some 26) (.int .i64 (k : Int)) _ _ rfl (by rfl) (fun _ => rfl) ?_
            simp only [n1, n3, n4]
            refine @wpG_p _ _ _ _ _ (some 27) (.int .i64 ((k : Int) + 1)) _ _ rfl (by rfl) (fun W => op_i_add W (k : Int) 1 (by omega) rfl rfl rfl Try.underlying3) ?_
            simp only [n1, n3, n4]
            refine @wpG_p _ _ _ _ _ (some 10) (.int .i64 ((k : Int) + 1)) _ _ rfl (by rfl) (fun _ => rfl) ?_
            simp only [n1, n3, n4]
            refine wpG_done (fun V78 hv79 => ?_)
            have S80 : Hid (St w noB [own (.slice A72 (q + 1) k73) 3 1 (q + 1) (ic ((Pl.dc l l2 k) ++ [(l2.getD k 0)])), blk g66 3 [.int .i64 (l2.getD k 0)], own (.slice (some ⟨g32, 0, none⟩) 8 8) 5 1 8 ((bc (Pl.le 8 (Pl.mN l l2 k))).set q8b (.int .u8 (yo : Int)))] V78) := Lib.hid (S77.out.gr hv79)
            clear S77
            clear hv79
            refine ⟨rfl, hK _ _ ?_⟩
            clear hK
            go_wp2_with fail
            go_roundw
            have S81 : Hid (St w noB [own (.slice A72 (q + 1) k73) 3 1 (q + 1) (ic ((Pl.dc l l2 k) ++ [(l2.getD k 0)])), own (.slice (some ⟨g32, 0, none⟩) 8 8) 5 1 8 ((bc (Pl.le 8 (Pl.mN l l2 k))).set q8b (.int .u8 (yo : Int)))] V78) := Lib.hid (S80.out.sub (.cons_cons _ (.cons _ (.cons_cons _ .slnil))))
            clear S80
            case rel => exact ⟨A72, q + 1, k73, k + 1, (by first | rfl | go_num), (by first | rfl | go_num), (by omega), (by omega), (by have e_f19 := f19.out; have e_f28 := f28.out; have hd_ := Pl.df_ne (a := l) (b := l2) (k := k) (fun h_ => f56 h_.symm); rw [Pl.dc_yes hd_]; have h_ := S81.out; rw [bv_n hyo_, bc_set, Hyo.out, Hxo.out, Hr8.out, Hq8b.out, (Pl.mask_step (by omega) hd_).2] at h_; exact h_)⟩
            case measure => first | (simp only [intOf]; omega) | (simp [intOf]; done) | (simp [intOf]; omega) | omega
          | false =>
            have f82 := Lib.hid (Decidable.not_not.1 (of_decide_eq_false Hc55.out.symm))
            have f82a := Int.le_of_eq f82.out
            have f82b := Int.le_of_eq f82.out.symm
            go_upto_region 9 with fail
            refine wpG_region_k (fun K hK => ?_)
            refine @wpG_p _ _ _ _ _ (some 26) (.int .i64 (k : Int)) _ _ rfl (by rfl) (fun _ => rfl) ?_
            simp only [n1, n3, n4]
            refine @wpG_p _ _ _ _ _ (some 27) (.int .i64 ((k : Int) + 1)) _ _ rfl (by rfl) (fun W => op_i_add W (k : Int) 1 (by omega) rfl rfl rfl Try.underlying3) ?_
            simp only [n1, n3, n4]
            refine @wpG_p _ _ _ _ _ (some 10) (.int .i64 ((k : Int) + 1)) _ _ rfl (by rfl) (fun _ => rfl) ?_
            simp only [n1, n3, n4]
            refine wpG_done (fun V83 hv84 => ?_)
            have S85 : Hid (St w noB [own (.slice E q d) 3 1 q (ic (Pl.dc l l2 k)), own (.slice (some ⟨g32, 0, none⟩) 8 8) 5 1 8 (bc (Pl.le 8 (Pl.mN l l2 k)))] V83) := Lib.hid (S54.out.gr hv84)
            clear S54
            clear hv84
            refine ⟨rfl, hK _ _ ?_⟩
            clear hK
            go_wp2_with fail
            go_roundw
            case rel => exact ⟨E, q, d, k + 1, (by first | rfl | go_num), (by first | rfl | go_num), (by omega), (by omega), (by have e_f19 := f19.out; have e_f28 := f28.out; have e_f82 := f82.out; have hd_ := Pl.df_eq (a := l) (b := l2) (k := k) (by first | exact (e_f82).symm | exact (Decidable.not_not.1 e_f82).symm); rw [Pl.dc_no hd_, Pl.mN_no hd_]; exact S85.out)⟩
            case measure => first | (simp only [intOf]; omega) | (simp [intOf]; done) | (simp [intOf]; omega) | omega
        | false =>
          have f86 := of_decide_eq_false Hc48.out.symm
          go_upto_region 13 with fail
          refine wpG_region_k (fun K hK => ?_)
          refine @wpG_p _ _ _ _ _ (some 58) (.slice E q d) _ _ rfl (by rfl) (fun _ => rfl) ?_
          simp only [n1, n3, n4]
          refine @wpG_tk _ _ _ _ _ (some 59) (.tuple #[.string (bstr (Pl.pS (Pl.dc l l2 k))), .int .i64 (Pl.pE (Pl.dc l l2 k))]) _ _ rfl (.call (f := 12) (args := #[.slice E q d]) (by rfl) (fun W => by go_simp) (fun W hg => rpack_any _ _ _ (Pl.dc l l2 k) W (SL.ofOwn ((S47.out.gr hg).ownr 0 rfl)) (by omega))) ?_
          simp only [n1, n3, n4]
          refine @wpG_p _ _ _ _ _ (some 57) (.tuple #[.string (bstr (Pl.pS (Pl.dc l l2 k))), .int .i64 (Pl.pE (Pl.dc l l2 k))]) _ _ rfl (by rfl) (fun _ => rfl) ?_
          simp only [n1, n3, n4]
          refine @wpG_p _ _ _ _ _ (some 60) (.string (bstr (Pl.pS (Pl.dc l l2 k)))) _ _ rfl (by rfl) (fun W => by go_simp) ?_
          simp only [n1, n3, n4]
          refine @wpG_p _ _ _ _ _ (some 61) (.int .i64 (Pl.pE (Pl.dc l l2 k))) _ _ rfl (by rfl) (fun W => by go_simp) ?_
          simp only [n1, n3, n4]
          refine @wpG_p _ _ _ _ _ (some 11) (.string (bstr (Pl.pS (Pl.dc l l2 k)))) _ _ rfl (by rfl) (fun _ => rfl) ?_
          simp only [n1, n3, n4]
          refine @wpG_p _ _ _ _ _ (some 12) (.int .i64 (Pl.pE (Pl.dc l l2 k))) _ _ rfl (by rfl) (fun _ => rfl) ?_
          simp only [n1, n3, n4]
          refine wpG_done (fun V87 hv88 => ?_)
          have S89 : Hid (St w noB [own (.slice E q d) 3 1 q (ic (Pl.dc l l2 k)), own (.slice (some ⟨g32, 0, none⟩) 8 8) 5 1 8 (bc (Pl.le 8 (Pl.mN l l2 k)))] V87) := Lib.hid (S47.out.gr hv88)
          clear S47
          clear hv88
          refine ⟨rfl, hK _ _ ?_⟩
          clear hK
          go_upto_region 14 with fail
          refine wpG_region_k (fun K hK => ?_)
          refine @wpG_p _ _ _ _ _ (some 62) (.slice (some ⟨g32, 0, none⟩) 8 8) _ _ rfl (by rfl) (fun _ => rfl) ?_
          simp only [n1, n3, n4]
          refine @wpG_r _ _ _ _ _ (some 63) (.string (bstr (Pl.le 8 (Pl.mN l l2 k)))) _ _ rfl (by rfl) (fun W hg => by exact op_conv_str (SL.ofOwn ((S89.out.gr hg).ownr 1 rfl)) rfl rfl Try.underlying43 Try.underlying5 Try.underlying9) ?_
          simp only [n1, n3, n4]
          refine @wpG_p _ _ _ _ _ (some 64) (.string (bstr (Pl.pS (Pl.dc l l2 k)))) _ _ rfl (by rfl) (fun _ => rfl) ?_
          simp only [n1, n3, n4]
          refine @wpG_p _ _ _ _ _ (some 65) (.string (bstr ((Pl.le 8 (Pl.mN l l2 k)) ++ (Pl.pS (Pl.dc l l2 k))))) _ _ rfl (by rfl) (fun W => op_str_add W (Pl.le 8 (Pl.mN l l2 k)) (Pl.pS (Pl.dc l l2 k)) (by (rw [Pl.le_len]; have h_ := Pl.pS_len (Pl.dc l l2 k) (by rw [Pl.dc_len]; have := Pl.pc_le (b := Pl.df l l2) k; omega); omega)) rfl rfl rfl Try.underlying9) ?_
          simp only [n1, n3, n4]
          refine @wpG_p _ _ _ _ _ (some 4) (.string (bstr ((Pl.le 8 (Pl.mN l l2 k)) ++ (Pl.pS (Pl.dc l l2 k))))) _ _ rfl (by rfl) (fun _ => rfl) ?_
          simp only [n1, n3, n4]
          refine @wpG_p _ _ _ _ _ (some 5) (.int .i64 0) _ _ rfl (by rfl) (fun _ => rfl) ?_
          simp only [n1, n3, n4]
          refine wpG_done (fun V90 hv91 => ?_)
          have S92 : Hid (St w noB [own (.slice E q d) 3 1 q (ic (Pl.dc l l2 k)), own (.slice (some ⟨g32, 0, none⟩) 8 8) 5 1 8 (bc (Pl.le 8 (Pl.mN l l2 k)))] V90) := Lib.hid (S89.out.gr hv91)
          clear S89
          clear hv91
          refine ⟨rfl, hK _ _ ?_⟩
          clear hK
          go_wp2_with fail
          go_ret2
          refine ⟨?_, S92.out.bel⟩
          show Ending.returned (.tuple #[.string (bstr ((Pl.le 8 (Pl.mN l l2 k)) ++ (Pl.pS (Pl.dc l l2 k)))), .int .i64 0]) = _
          (have hk_ : k = 64 := (by omega); obtain ⟨e1_, e2_⟩ := Pl.d_ok HB1.out HB2.out; obtain ⟨e3_, e4_⟩ := Pl.pS_dc (a := l) HB2.out; rw [e1_, e2_, hk_, e3_]; rfl)

end Go.Proofs.Ytfomieekdbkcnaa
