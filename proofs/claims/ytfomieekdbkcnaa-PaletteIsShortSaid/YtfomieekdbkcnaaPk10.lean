/-
  Contracts of package palette: numbers spread over bits.
-/
import Derived.Test.YtfomieekdbkcnaaPk9
import Derived.Handy
namespace Go.Proofs.Ytfomieekdbkcnaa
open Go Go.RowKit
set_option linter.unusedVariables false
set_option linter.unusedSimpArgs false
set_option maxRecDepth 1000000 in
set_option maxHeartbeats 4000000 in
theorem spread_int (A : Option Addr) (n c : Nat) (l : List Int) (k g : Nat) (pls : List Int) (f : Nat → Nat) (w : World) (hG : SL w 1 A n c (ic l)) (hP : SL w 1 (some ⟨g, 0, none⟩) 256 256 (ic pls)) (hn : n ≤ 64) (hk : k ≤ 8) (hf : ∀ i, i < n → (0 ≤ l.getD i 0 ∧ l.getD i 0 ≤ 255 ∧ pls.getD (l.getD i 0).toNat 0 = (f i : Int)) ∧ f i < 2 ^ k) :
    Calls Try.prog 29 #[.slice A n c, .int .i64 (k : Int), .func (.func 31) #[] #[.pointer (some ⟨g, 0, none⟩)]] w fun e w' => ∃ A c, e = .returned (.slice A (Pl.room n k) c) ∧ St w noB [own (.slice A (Pl.room n k) c) 5 1 (Pl.room n k) (bc (Pl.le (Pl.room n k) (Pl.S k f n)))] w' := by
  have HGA := Lib.hid hG
  have HF := Lib.hid hf
  have HPL := Lib.hid hP
  clear hP
  have HLEN : Hid (l.length = n) := Lib.hid (by have h_ := hG.len; rw [ic_len] at h_; omega)
  have hnk_ : n * k ≤ 64 * 8 := Nat.mul_le_mul hn hk
  have hroom_ : Pl.room n k ≤ 64 := Pl.room_le hn hk
  clear hG hf
  have S1 : Hid (St w noB [] w) := Lib.hid (St.start w)
  go_enter Try.func29, Try.ntmps29
  go_upto_region 0 with fail
  refine wpG_region_k (fun K hK => ?_)
  refine @wpG_p _ _ _ _ _ (some 6) (.slice none 0 0) _ _ rfl (by rfl) (fun _ => rfl) ?_
  simp only [n1, n3, n4]
  refine wpG_done (fun V2 hv3 => ?_)
  have S4 : Hid (St w noB [] V2) := Lib.hid (S1.out.gr hv3)
  clear S1
  clear hv3
  refine ⟨rfl, hK _ _ ?_⟩
  clear hK
  go_upto_region 1 with fail
  refine wpG_region_k (fun K hK => ?_)
  refine @wpG_p _ _ _ _ _ (some 13) (.slice A n c) _ _ rfl (by rfl) (fun _ => rfl) ?_
  simp only [n1, n3, n4]
  refine @wpG_p _ _ _ _ _ (some 14) (.int .i64 (n : Int)) _ _ rfl (by rfl) (fun W => by go_simp) ?_
  simp only [n1, n3, n4]
  refine @wpG_p _ _ _ _ _ (some 15) (.int .i64 (k : Int)) _ _ rfl (by rfl) (fun _ => rfl) ?_
  simp only [n1, n3, n4]
  refine @wpG_tk _ _ _ _ _ (some 16) (.int .i64 ((Pl.room n k : Nat) : Int)) _ _ rfl (.call (f := 37) (args := #[.int .i64 (n : Int), .int .i64 (k : Int)]) (by rfl) (fun W => by go_simp) (fun W hg => room_any n k W (by omega))) ?_
  simp only [n1, n3, n4]
  refine wpG_val (some 17) rfl (by rfl) (fun W5 hg6 => ?_)
  refine makez_ex 43 5 (.int .u8 0) rfl 1 (.tmp 16) (.tmp 16) rfl Try.underlying43 (by kernel_rfl) (Pl.room n k) (Pl.room n k) rfl rfl (by omega) (by omega) (by decide) W5 (S4.out.gr hg6) (fun g8 U7 hS_ => ?_)
  clear hg6
  simp only [n1, n3, n4]
  rw [show List.replicate (Pl.room n k) (.int .u8 0) = bc (Pl.le (Pl.room n k) (Pl.S k f 0)) from Pl.bc_zero _] at hS_
  have S9 : Hid (St w noB [own (.slice (some ⟨g8, 0, none⟩) (Pl.room n k) (Pl.room n k)) 5 1 (Pl.room n k) (bc (Pl.le (Pl.room n k) (Pl.S k f 0)))] U7) := Lib.hid hS_
  clear S4
  clear hS_
  refine @wpG_p _ _ _ _ _ (some 7) (.slice (some ⟨g8, 0, none⟩) (Pl.room n k) (Pl.room n k)) _ _ rfl (by rfl) (fun _ => rfl) ?_
  simp only [n1, n3, n4]
  refine wpG_done (fun V10 hv11 => ?_)
  have S12 : Hid (St w noB [own (.slice (some ⟨g8, 0, none⟩) (Pl.room n k) (Pl.room n k)) 5 1 (Pl.room n k) (bc (Pl.le (Pl.room n k) (Pl.S k f 0)))] V10) := Lib.hid (S9.out.gr hv11)
  clear S9
  clear hv11
  refine ⟨rfl, hK _ _ ?_⟩
  clear hK
  go_upto_region 2 with fail
  refine wpG_region_k (fun K hK => ?_)
  refine @wpG_p _ _ _ _ _ (some 18) (.slice A n c) _ _ rfl (by rfl) (fun _ => rfl) ?_
  simp only [n1, n3, n4]
  refine @wpG_p _ _ _ _ _ (some 19) (.int .i64 (n : Int)) _ _ rfl (by rfl) (fun W => by go_simp) ?_
  simp only [n1, n3, n4]
  refine @wpG_p _ _ _ _ _ (some 20) (.int .i64 0) _ _ rfl (by rfl) (fun _ => rfl) ?_
  simp only [n1, n3, n4]
  refine wpG_done (fun V13 hv14 => ?_)
  have S15 : Hid (St w noB [own (.slice (some ⟨g8, 0, none⟩) (Pl.room n k) (Pl.room n k)) 5 1 (Pl.room n k) (bc (Pl.le (Pl.room n k) (Pl.S k f 0)))] V13) := Lib.hid (S12.out.gr hv14)
  clear S12
  clear hv14
  refine ⟨rfl, hK _ _ ?_⟩
  clear hK
  go_wp2_with fail
  go_loopw [20] (fun v20 wr => ∃ (i : Nat), v20 = .int .i64 (i : Int) ∧ i ≤ n ∧ St w noB [own (.slice (some ⟨g8, 0, none⟩) (Pl.room n k) (Pl.room n k)) 5 1 (Pl.room n k) (bc (Pl.le (Pl.room n k) (Pl.S k f i)))] wr) (fun i _ => n - (intOf i).toNat)
  case atStart => exact ⟨0, rfl, Nat.zero_le _, S15.out⟩
  case round =>
    obtain ⟨i, rfl, hin, hS⟩ := hrel
    have SL := Lib.hid hS
    clear S15 hS
    have S16 := SL
    clear SL
    go_upto_region 3 with fail
    refine wpG_region_k (fun K hK => ?_)
    refine @wpG_p _ _ _ _ _ (some 21) (.bool (decide ((i : Int) < (n : Int)))) _ _ rfl (by rfl) (fun W => op_int_lss W (i : Int) (n : Int) rfl rfl rfl Try.underlying3) ?_
    simp only [n1, n3, n4]
    refine wpG_done (fun V17 hv18 => ?_)
    have S19 : Hid (St w noB [own (.slice (some ⟨g8, 0, none⟩) (Pl.room n k) (Pl.room n k)) 5 1 (Pl.room n k) (bc (Pl.le (Pl.room n k) (Pl.S k f i)))] V17) := Lib.hid (S16.out.gr hv18)
    clear S16
    clear hv18
    refine ⟨rfl, hK _ _ ?_⟩
    clear hK
    obtain ⟨c20, hc20⟩ : ∃ q_, q_ = (decide ((i : Int) < (n : Int))) := ⟨_, rfl⟩
    rw [← hc20]
    have Hc20 := Lib.hid hc20
    clear hc20
    cases c20 with
    | true =>
      have f21 := of_decide_eq_true Hc20.out.symm
      go_upto_region 4 with fail
      refine wpG_region_k (fun K hK => ?_)
      refine @wpG_p _ _ _ _ _ (some 22) (.int .i64 (i : Int)) _ _ rfl (by rfl) (fun _ => rfl) ?_
      simp only [n1, n3, n4]
      obtain ⟨b22, o22, rfl⟩ := HGA.out.addr (by decide) (by omega)
      refine @wpG_p _ _ _ _ _ (some 23) (.pointer (some ⟨b22, o22 + i, none⟩)) _ _ rfl (by rfl) (fun W => by (go_simp <;> first | rfl | omega | (simp; omega))) ?_
      simp only [n1, n3, n4]
      refine @wpG_r _ _ _ _ _ (some 24) (.int .i64 (l.getD i 0)) _ _ rfl (by rfl) (fun W hg => by have c := (((HGA.out.gr ((S19.out.gr hg)).bel).int (l := l) i (by (have := HLEN.out; omega)))) 0 _ rfl; (try simp only [Nat.add_zero, Nat.zero_add] at c); go_simp) ?_
      simp only [n1, n3, n4]
      refine @wpG_p _ _ _ _ _ (some 8) (.int .i64 (i : Int)) _ _ rfl (by rfl) (fun _ => rfl) ?_
      simp only [n1, n3, n4]
      refine @wpG_p _ _ _ _ _ (some 9) (.int .i64 (l.getD i 0)) _ _ rfl (by rfl) (fun _ => rfl) ?_
      simp only [n1, n3, n4]
      refine wpG_done (fun V23 hv24 => ?_)
      have S25 : Hid (St w noB [own (.slice (some ⟨g8, 0, none⟩) (Pl.room n k) (Pl.room n k)) 5 1 (Pl.room n k) (bc (Pl.le (Pl.room n k) (Pl.S k f i)))] V23) := Lib.hid (S19.out.gr hv24)
      clear S19
      clear hv24
      refine ⟨rfl, hK _ _ ?_⟩
      clear hK
      go_upto_region 5 with fail
      refine wpG_region_k (fun K hK => ?_)
      refine @wpG_p _ _ _ _ _ (some 25) (.func (.func 31) #[] #[.pointer (some ⟨g, 0, none⟩)]) _ _ rfl (by rfl) (fun _ => rfl) ?_
      simp only [n1, n3, n4]
      refine @wpG_p _ _ _ _ _ (some 26) (.int .i64 (l.getD i 0)) _ _ rfl (by rfl) (fun _ => rfl) ?_
      simp only [n1, n3, n4]
      have hif_ := HF.out i (by omega)
      obtain ⟨⟨hc0_, hc1_, hfv_⟩, hfb_⟩ := hif_
      obtain ⟨q26, hq_⟩ : ∃ q_ : Nat, (l.getD i 0) = (q_ : Int) := ⟨((l.getD i 0)).toNat, by omega⟩
      rw [hq_]
      have HQq26 := Lib.hid hq_
      clear hq_
      have hqb : q26 < 256 := by have := HQq26.out; omega
      have hfq_ : pls.getD q26 0 = (f i : Int) := by rw [← hfv_, HQq26.out]; rfl
      have HFQ := Lib.hid hfq_
      clear hfq_ hfv_ hc0_ hc1_ hfb_
      refine @wpG_tk _ _ _ _ _ (some 27) (.int .i64 (f i : Int)) _ _ rfl (.call (f := 31) (args := #[.int .i64 (q26 : Int), .pointer (some ⟨g, 0, none⟩)]) (by rfl) (fun W => by go_simp) (fun W hg => HFQ.out ▸ pack1_any q26 g pls W (HPL.out.gr (S25.out.gr hg).bel) hqb)) ?_
      simp only [n1, n3, n4]
      refine @wpG_p _ _ _ _ _ (some 10) (.int .i64 (f i : Int)) _ _ rfl (by rfl) (fun _ => rfl) ?_
      simp only [n1, n3, n4]
      refine wpG_done (fun V27 hv28 => ?_)
      have S29 : Hid (St w noB [own (.slice (some ⟨g8, 0, none⟩) (Pl.room n k) (Pl.room n k)) 5 1 (Pl.room n k) (bc (Pl.le (Pl.room n k) (Pl.S k f i)))] V27) := Lib.hid (S25.out.gr hv28)
      clear S25
      clear hv28
      refine ⟨rfl, hK _ _ ?_⟩
      clear hK
      go_upto_region 6 with fail
      refine wpG_region_k (fun K hK => ?_)
      refine @wpG_p _ _ _ _ _ (some 28) (.int .i64 (k : Int)) _ _ rfl (by rfl) (fun _ => rfl) ?_
      simp only [n1, n3, n4]
      refine @wpG_p _ _ _ _ _ (some 29) (.int .i64 0) _ _ rfl (by rfl) (fun _ => rfl) ?_
      simp only [n1, n3, n4]
      refine wpG_done (fun V30 hv31 => ?_)
      have S32 : Hid (St w noB [own (.slice (some ⟨g8, 0, none⟩) (Pl.room n k) (Pl.room n k)) 5 1 (Pl.room n k) (bc (Pl.le (Pl.room n k) (Pl.S k f i)))] V30) := Lib.hid (S29.out.gr hv31)
      clear S29
      clear hv31
      refine ⟨rfl, hK _ _ ?_⟩
      clear hK
      have S33 : Hid (St w noB [own (.slice (some ⟨g8, 0, none⟩) (Pl.room n k) (Pl.room n k)) 5 1 (Pl.room n k) (bc (Pl.le (Pl.room n k) (Pl.S k f i + f i % 2 ^ 0 * 2 ^ (k * i))))] V30) := Lib.hid (by have h_ := S32.out; rw [show bc (Pl.le (Pl.room n k) (Pl.S k f i)) = bc (Pl.le (Pl.room n k) (Pl.S k f i + f i % 2 ^ 0 * 2 ^ (k * i))) from (by rw [Pl.bit_start])] at h_; exact h_)
      clear S32
      have hik_ : i < n := by omega
      go_wp2_with fail
      go_loopw [29] (fun v29 wr => ∃ (b : Nat), v29 = .int .i64 (b : Int) ∧ b ≤ k ∧ St w noB [own (.slice (some ⟨g8, 0, none⟩) (Pl.room n k) (Pl.room n k)) 5 1 (Pl.room n k) (bc (Pl.le (Pl.room n k) (Pl.S k f i + f i % 2 ^ b * 2 ^ (k * i))))] wr) (fun i _ => k - (intOf i).toNat)
      case atStart => exact ⟨0, rfl, Nat.zero_le _, S33.out⟩
      case round =>
        obtain ⟨b, rfl, hbk, hS⟩ := hrel
        have SL := Lib.hid hS
        clear S33 hS
        have S34 := SL
        clear SL
        go_upto_region 7 with fail
        refine wpG_region_k (fun K hK => ?_)
        refine @wpG_p _ _ _ _ _ (some 30) (.bool (decide ((b : Int) < (k : Int)))) _ _ rfl (by rfl) (fun W => op_int_lss W (b : Int) (k : Int) rfl rfl rfl Try.underlying3) ?_
        simp only [n1, n3, n4]
        refine wpG_done (fun V35 hv36 => ?_)
        have S37 : Hid (St w noB [own (.slice (some ⟨g8, 0, none⟩) (Pl.room n k) (Pl.room n k)) 5 1 (Pl.room n k) (bc (Pl.le (Pl.room n k) (Pl.S k f i + f i % 2 ^ b * 2 ^ (k * i))))] V35) := Lib.hid (S34.out.gr hv36)
        clear S34
        clear hv36
        refine ⟨rfl, hK _ _ ?_⟩
        clear hK
        obtain ⟨c38, hc38⟩ : ∃ q_, q_ = (decide ((b : Int) < (k : Int))) := ⟨_, rfl⟩
        rw [← hc38]
        have Hc38 := Lib.hid hc38
        clear hc38
        cases c38 with
        | true =>
          have f39 := of_decide_eq_true Hc38.out.symm
          go_upto_region 8 with fail
          refine wpG_region_k (fun K hK => ?_)
          refine @wpG_p _ _ _ _ _ (some 31) (.int .i64 (b : Int)) _ _ rfl (by rfl) (fun _ => rfl) ?_
          simp only [n1, n3, n4]
          refine @wpG_p _ _ _ _ _ (some 11) (.int .i64 (b : Int)) _ _ rfl (by rfl) (fun _ => rfl) ?_
          simp only [n1, n3, n4]
          refine wpG_done (fun V40 hv41 => ?_)
          have S42 : Hid (St w noB [own (.slice (some ⟨g8, 0, none⟩) (Pl.room n k) (Pl.room n k)) 5 1 (Pl.room n k) (bc (Pl.le (Pl.room n k) (Pl.S k f i + f i % 2 ^ b * 2 ^ (k * i))))] V40) := Lib.hid (S37.out.gr hv41)
          clear S37
          clear hv41
          refine ⟨rfl, hK _ _ ?_⟩
          clear hK
          go_upto_region 9 with fail
          refine wpG_region_k (fun K hK => ?_)
          refine @wpG_p _ _ _ _ _ (some 32) (.int .i64 (i : Int)) _ _ rfl (by rfl) (fun _ => rfl) ?_
          simp only [n1, n3, n4]
          refine @wpG_p _ _ _ _ _ (some 33) (.int .i64 (k : Int)) _ _ rfl (by rfl) (fun _ => rfl) ?_
          simp only [n1, n3, n4]
          obtain ⟨iw, h_iw⟩ : ∃ q_ : Nat, q_ = i * k := ⟨_, rfl⟩
          have hiwb : iw ≤ 64 * 8 := by rw [h_iw]; exact Nat.mul_le_mul (by omega) (by omega)
          have Hiw := Lib.hid h_iw
          clear h_iw
          refine @wpG_p _ _ _ _ _ (some 34) (.int .i64 (iw : Int)) _ _ rfl (by rfl) (fun W => op_n_mul i k iw Hiw.out.symm (by omega) rfl rfl rfl) ?_
          simp only [n1, n3, n4]
          refine @wpG_p _ _ _ _ _ (some 35) (.int .i64 (b : Int)) _ _ rfl (by rfl) (fun _ => rfl) ?_
          simp only [n1, n3, n4]
          obtain ⟨at_, h_at_⟩ : ∃ q_ : Nat, q_ = iw + b := ⟨_, rfl⟩
          have hbk_ : b < k := by omega
          have hatb : at_ < n * k := by rw [h_at_, Hiw.out]; exact Pl.at_lt hik_ hbk_
          have hat3 : at_ ≤ 1000 := by omega
          have Hat_ := Lib.hid h_at_
          clear h_at_
          refine @wpG_p _ _ _ _ _ (some 36) (.int .i64 (at_ : Int)) _ _ rfl (by rfl) (fun W => op_n_add iw b at_ Hat_.out.symm (by omega) rfl rfl rfl) ?_
          simp only [n1, n3, n4]
          refine @wpG_p _ _ _ _ _ (some 12) (.int .i64 (at_ : Int)) _ _ rfl (by rfl) (fun _ => rfl) ?_
          simp only [n1, n3, n4]
          refine wpG_done (fun V43 hv44 => ?_)
          have S45 : Hid (St w noB [own (.slice (some ⟨g8, 0, none⟩) (Pl.room n k) (Pl.room n k)) 5 1 (Pl.room n k) (bc (Pl.le (Pl.room n k) (Pl.S k f i + f i % 2 ^ b * 2 ^ (k * i))))] V43) := Lib.hid (S42.out.gr hv44)
          clear S42
          clear hv44
          refine ⟨rfl, hK _ _ ?_⟩
          clear hK
          go_upto_region 10 with fail
          refine wpK_region_k (by kernel_rfl) (fun K hK => ?_)
          refine wpK_ta (i := 0) (some 37) (v := .slice (some ⟨g8, 0, none⟩) (Pl.room n k) (Pl.room n k)) rfl rfl (by kernel_rfl) (fun _ _ _ h => onN_panic h) (Or.inl ⟨rfl, fun _ => rfl⟩) ?_
          simp only [n1, n3, n4]
          refine wpK_ta (i := 1) (some 38) (v := .int .i64 (at_ : Int)) rfl rfl (by kernel_rfl) (fun _ _ _ h => onN_panic h) (Or.inl ⟨rfl, fun _ => rfl⟩) ?_
          simp only [n1, n3, n4]
          obtain ⟨q8, h_q8⟩ : ∃ q_ : Nat, q_ = at_ / 8 := ⟨_, rfl⟩
          have hq8e : 8 * q8 ≤ at_ := by omega
          have Hq8 := Lib.hid h_q8
          clear h_q8
          refine wpK_ta (i := 2) (some 39) (v := .int .i64 (q8 : Int)) rfl rfl (by kernel_rfl) (fun _ _ _ h => onN_panic h) (Or.inl ⟨by rfl, fun W => by exact op_n_quo at_ 8 q8 Hq8.out.symm (by decide) (by omega) rfl rfl rfl⟩) ?_
          simp only [n1, n3, n4]
          have hqR_ : q8 < Pl.room n k := by have h1_ := Pl.at_room hatb; omega
          refine wpK_ta (i := 3) (some 40) (v := .pointer (some ⟨g8, q8, none⟩)) rfl rfl (by kernel_rfl) (fun _ _ _ h => onN_panic h) (Or.inl ⟨by rfl, fun W => by (go_simp <;> first | rfl | omega | (simp; omega))⟩) ?_
          simp only [n1, n3, n4]
          refine wpK_ta (i := 5) (some 42) (v := .int .i64 (f i : Int)) rfl rfl (by kernel_rfl) (fun _ _ _ h => onN_panic h) (Or.inl ⟨rfl, fun _ => rfl⟩) ?_
          simp only [n1, n3, n4]
          refine wpK_ta (i := 6) (some 43) (v := .int .i64 (b : Int)) rfl rfl (by kernel_rfl) (fun _ _ _ h => onN_panic h) (Or.inl ⟨rfl, fun _ => rfl⟩) ?_
          simp only [n1, n3, n4]
          obtain ⟨sh, h_sh⟩ : ∃ q_ : Nat, q_ = f i / 2 ^ b := ⟨_, rfl⟩
          have hshb : sh ≤ 256 := by rw [h_sh]; exact Nat.le_trans (Nat.div_le_self _ _) (Nat.le_trans (Nat.le_of_lt (HF.out i hik_).2) (Nat.pow_le_pow_right (n := 2) (by decide) hk))
          have Hsh := Lib.hid h_sh
          clear h_sh
          refine wpK_ta (i := 7) (some 44) (v := .int .i64 (sh : Int)) rfl rfl (by kernel_rfl) (fun _ _ _ h => onN_panic h) (Or.inl ⟨by rfl, fun W => by exact op_k_shr (f i) b sh Hsh.out.symm (by show b ≤ 64; omega) rfl rfl rfl⟩) ?_
          simp only [n1, n3, n4]
          obtain ⟨bt, h_bt⟩ : ∃ q_ : Nat, q_ = sh % 2 := ⟨_, rfl⟩
          have hbtb : bt < 2 := by omega
          have Hbt := Lib.hid h_bt
          clear h_bt
          refine wpK_ta (i := 8) (some 45) (v := .int .i64 (bt : Int)) rfl rfl (by kernel_rfl) (fun _ _ _ h => onN_panic h) (Or.inl ⟨by rfl, fun W => by exact op_n_and1 sh bt Hbt.out.symm (by omega) rfl rfl rfl⟩) ?_
          simp only [n1, n3, n4]
          refine wpK_ta (i := 9) (some 46) (v := .int .u8 (bt : Int)) rfl rfl (by kernel_rfl) (fun _ _ _ h => onN_panic h) (Or.inl ⟨by rfl, fun W => by exact op_conv_n8 bt (by omega) rfl rfl Try.underlying3 Try.underlying5⟩) ?_
          simp only [n1, n3, n4]
          refine wpK_ta (i := 10) (some 47) (v := .int .i64 (at_ : Int)) rfl rfl (by kernel_rfl) (fun _ _ _ h => onN_panic h) (Or.inl ⟨rfl, fun _ => rfl⟩) ?_
          simp only [n1, n3, n4]
          obtain ⟨r8, h_r8⟩ : ∃ q_ : Nat, q_ = at_ % 8 := ⟨_, rfl⟩
          have hr8b : r8 < 8 := by omega
          have Hr8 := Lib.hid h_r8
          clear h_r8
          refine wpK_ta (i := 11) (some 48) (v := .int .i64 (r8 : Int)) rfl rfl (by kernel_rfl) (fun _ _ _ h => onN_panic h) (Or.inl ⟨by rfl, fun W => by exact op_n_rem at_ 8 r8 Hr8.out.symm (by decide) rfl rfl rfl⟩) ?_
          simp only [n1, n3, n4]
          refine wpK_ta (i := 12) (some 49) (v := .int .u8 ((bt * 2 ^ r8 : Nat) : Int)) rfl rfl (by kernel_rfl) (fun _ _ _ h => onN_panic h) (Or.inl ⟨by rfl, fun W => by exact op_k_shl bt r8 _ rfl (by show r8 ≤ 8; omega) (wrap_n8 (by have h1_ : bt * 2 ^ r8 ≤ 1 * 2 ^ 7 := Nat.mul_le_mul (by omega) (Nat.pow_le_pow_right (by decide) (by omega)); omega)) rfl rfl rfl⟩) ?_
          simp only [n1, n3, n4]
          obtain ⟨hst1, hst2, hst3⟩ := Pl.bit_step (R := Pl.room n k) (x := f i) hbk_ (Pl.S_lt (w := k) (f := f) (n := i) (fun j hj => (HF.out j (by omega)).2)) (Pl.at_room (Pl.at_lt hik_ hbk_))
          obtain ⟨xo, h_xo⟩ : ∃ q_ : Nat, q_ = (Pl.S k f i + f i % 2 ^ b * 2 ^ (k * i)) / 2 ^ (8 * ((i * k + b) / 8)) % 256 := ⟨_, rfl⟩
          have Hxo := Lib.hid h_xo
          clear h_xo
          have hat_ : i * k + b = at_ := by rw [Hat_.out, Hiw.out]
          have HATE := Lib.hid hat_
          clear hat_
          have hx1_ : xo < 2 ^ (at_ % 8) := by rw [Hxo.out, ← HATE.out]; exact hst1
          have HX1 := Lib.hid hx1_
          clear hx1_ hst1
          have HX2 := Lib.hid hst2
          have HX3 := Lib.hid hst3
          clear hst2 hst3
          refine wpK_tk (i := 4) (some 41) (v := .int .u8 (xo : Int)) rfl rfl (by kernel_rfl) (fun _ _ _ h => onN_panic h) (.val (by rfl) (fun W hg => by have c := own_at (k := q8) (v := .int .u8 (xo : Int)) ((S45.out.gr (Gr.un hg)).ownr 0 rfl) (by have h1_ : q8 < Pl.room n k := hqR_; rw [Hxo.out, HATE.out, ← Hq8.out]; exact (bc_at (Pl.le_at _ _ _ h1_)).trans (by rw [Pl.u8n (Nat.mod_lt _ (by decide))])); go_simp)) ?_
          simp only [n1, n3, n4]
          obtain ⟨yo, h_yo⟩ : ∃ q_ : Nat, q_ = xo + bt * 2 ^ r8 := ⟨_, rfl⟩
          have hyo_ : yo < 256 := by have h1_ := HX2.out; rw [← Hxo.out, HATE.out, ← Hr8.out, ← Hsh.out, ← Hbt.out] at h1_; omega
          have Hyo := Lib.hid h_yo
          clear h_yo
          refine wpK_ta (i := 13) (some 50) (v := .int .u8 (yo : Int)) rfl rfl (by kernel_rfl) (fun _ _ _ h => onN_panic h) (Or.inl ⟨by rfl, fun W => by exact op_u8_or xo bt r8 yo (by rw [Hr8.out]; exact HX1.out) Hyo.out.symm hyo_ rfl rfl rfl⟩) ?_
          simp only [n1, n3, n4]
          refine wpK_ta (i := 14) (some 51) (v := .pointer (some ⟨g8, q8, none⟩)) rfl rfl (by kernel_rfl) (fun _ _ _ h => onN_panic h) (Or.inl ⟨by rfl, fun W => by (go_simp <;> first | rfl | omega | (simp; omega))⟩) ?_
          simp only [n1, n3, n4]
          refine wpK_store (i := 15) (none) rfl rfl (by kernel_rfl) (by rfl) (by rfl) (fun W46 hg47 => ⟨W46.setCell ⟨g8, q8, none⟩ (.int .u8 (yo : Int)), by obtain ⟨⟨_, c⟩, c2⟩ := own_cell (k := q8) ((S45.out.gr (Gr.un hg47)).ownr 0 rfl) (by omega); go_simp, ?_⟩)
          simp only [n2]
          obtain ⟨U48, hu_, hS_⟩ := ((S45.out.gr (Gr.un hg47)).ownPutAt 0 rfl (k := q8) (by omega) (.int .u8 (yo : Int))).named
          rw [← hu_]
          have S49 : Hid (St w noB [own (.slice (some ⟨g8, 0, none⟩) (Pl.room n k) (Pl.room n k)) 5 1 (Pl.room n k) ((bc (Pl.le (Pl.room n k) (Pl.S k f i + f i % 2 ^ b * 2 ^ (k * i)))).set q8 (.int .u8 (yo : Int)))] U48) := Lib.hid hS_
          clear S45
          clear hu_ hS_ hg47
          refine wpK_done (by kernel_rfl) (fun V50 hv51 => ?_) _
          have S52 : Hid (St w noB [own (.slice (some ⟨g8, 0, none⟩) (Pl.room n k) (Pl.room n k)) 5 1 (Pl.room n k) ((bc (Pl.le (Pl.room n k) (Pl.S k f i + f i % 2 ^ b * 2 ^ (k * i)))).set q8 (.int .u8 (yo : Int)))] V50) := Lib.hid (S49.out.gr hv51)
          clear S49
          clear hv51
          refine ⟨rfl, hK _ _ ?_⟩
          clear hK
          go_upto_region 11 with fail
          refine wpG_region_k (fun K hK => ?_)
          refine @wpG_p _ _ _ _ _ (some 52) (.int .i64 ((b : Int) + 1)) _ _ rfl (by rfl) (fun W => op_i_add W (b : Int) 1 (by omega) rfl rfl rfl Try.underlying3) ?_
          simp only [n1, n3, n4]
          refine @wpG_p _ _ _ _ _ (some 29) (.int .i64 ((b : Int) + 1)) _ _ rfl (by rfl) (fun _ => rfl) ?_
          simp only [n1, n3, n4]
          refine wpG_done (fun V53 hv54 => ?_)
          have S55 : Hid (St w noB [own (.slice (some ⟨g8, 0, none⟩) (Pl.room n k) (Pl.room n k)) 5 1 (Pl.room n k) ((bc (Pl.le (Pl.room n k) (Pl.S k f i + f i % 2 ^ b * 2 ^ (k * i)))).set q8 (.int .u8 (yo : Int)))] V53) := Lib.hid (S52.out.gr hv54)
          clear S52
          clear hv54
          refine ⟨rfl, hK _ _ ?_⟩
          clear hK
          go_wp2_with fail
          go_roundw
          case rel => exact ⟨b + 1, (by first | rfl | go_num), (by omega), (by have h_ := S55.out; have h1_ := HX3.out; rw [← Hxo.out, HATE.out, ← Hq8.out, ← Hr8.out, ← Hsh.out, ← Hbt.out, ← Hyo.out] at h1_; rw [show (bc (Pl.le (Pl.room n k) (Pl.S k f i + f i % 2 ^ b * 2 ^ (k * i)))).set q8 (.int .u8 (yo : Int)) = bc (Pl.le (Pl.room n k) (Pl.S k f i + f i % 2 ^ (b + 1) * 2 ^ (k * i))) from by rw [bv_n hyo_, bc_set, h1_]] at h_; exact h_)⟩
          case measure => first | (simp only [intOf]; omega) | (simp [intOf]; done) | (simp [intOf]; omega) | omega
        | false =>
          have f56 := of_decide_eq_false Hc38.out.symm
          go_upto_region 12 with fail
          refine wpG_region_k (fun K hK => ?_)
          refine @wpG_p _ _ _ _ _ (some 53) (.int .i64 ((i : Int) + 1)) _ _ rfl (by rfl) (fun W => op_i_add W (i : Int) 1 (by omega) rfl rfl rfl Try.underlying3) ?_
          simp only [n1, n3, n4]
          refine @wpG_p _ _ _ _ _ (some 20) (.int .i64 ((i : Int) + 1)) _ _ rfl (by rfl) (fun _ => rfl) ?_
          simp only [n1, n3, n4]
          refine wpG_done (fun V57 hv58 => ?_)
          have S59 : Hid (St w noB [own (.slice (some ⟨g8, 0, none⟩) (Pl.room n k) (Pl.room n k)) 5 1 (Pl.room n k) (bc (Pl.le (Pl.room n k) (Pl.S k f i + f i % 2 ^ b * 2 ^ (k * i))))] V57) := Lib.hid (S37.out.gr hv58)
          clear S37
          clear hv58
          refine ⟨rfl, hK _ _ ?_⟩
          clear hK
          go_wp2_with fail
          go_roundw
          case rel => exact ⟨i + 1, (by first | rfl | go_num), (by omega), (by have e_ : b = k := (by omega); have h_ := S59.out; rw [e_, Pl.bit_end (HF.out i (by omega)).2] at h_; exact h_)⟩
          case measure => first | (simp only [intOf]; omega) | (simp [intOf]; done) | (simp [intOf]; omega) | omega
    | false =>
      have f60 := of_decide_eq_false Hc20.out.symm
      go_upto_region 13 with fail
      refine wpG_region_k (fun K hK => ?_)
      refine @wpG_p _ _ _ _ _ (some 54) (.slice (some ⟨g8, 0, none⟩) (Pl.room n k) (Pl.room n k)) _ _ rfl (by rfl) (fun _ => rfl) ?_
      simp only [n1, n3, n4]
      refine @wpG_p _ _ _ _ _ (some 6) (.slice (some ⟨g8, 0, none⟩) (Pl.room n k) (Pl.room n k)) _ _ rfl (by rfl) (fun _ => rfl) ?_
      simp only [n1, n3, n4]
      refine wpG_done (fun V61 hv62 => ?_)
      have S63 : Hid (St w noB [own (.slice (some ⟨g8, 0, none⟩) (Pl.room n k) (Pl.room n k)) 5 1 (Pl.room n k) (bc (Pl.le (Pl.room n k) (Pl.S k f i)))] V61) := Lib.hid (S19.out.gr hv62)
      clear S19
      clear hv62
      refine ⟨rfl, hK _ _ ?_⟩
      clear hK
      go_wp2_with fail
      go_ret
      exact ⟨some ⟨g8, 0, none⟩, (Pl.room n k), rfl, (by have e_ : n = i := (by omega); have h_ := S63.out; rw [← e_] at h_; exact h_)⟩
set_option maxRecDepth 1000000 in
set_option maxHeartbeats 4000000 in
theorem spread_bool (A : Option Addr) (n c : Nat) (bs : List Bool) (k : Nat) (f : Nat → Nat) (w : World) (hG : SL w 1 A n c (blc bs)) (hn : n ≤ 64) (hk : k ≤ 8) (hf : ∀ i, i < n → ((bs.getD i false).toNat : Int) = (f i : Int) ∧ f i < 2 ^ k) :
    Calls Try.prog 51 #[.slice A n c, .int .i64 (k : Int), .func (.func 52) #[] #[]] w fun e w' => ∃ A c, e = .returned (.slice A (Pl.room n k) c) ∧ St w noB [own (.slice A (Pl.room n k) c) 5 1 (Pl.room n k) (bc (Pl.le (Pl.room n k) (Pl.S k f n)))] w' := by
  have HGA := Lib.hid hG
  have HF := Lib.hid hf
  have HLEN : Hid (bs.length = n) := Lib.hid (by have h_ := hG.len; rw [blc_len] at h_; omega)
  have hnk_ : n * k ≤ 64 * 8 := Nat.mul_le_mul hn hk
  have hroom_ : Pl.room n k ≤ 64 := Pl.room_le hn hk
  clear hG hf
  have S1 : Hid (St w noB [] w) := Lib.hid (St.start w)
  go_enter Try.func51, Try.ntmps51
  go_upto_region 0 with fail
  refine wpG_region_k (fun K hK => ?_)
  refine @wpG_p _ _ _ _ _ (some 6) (.slice none 0 0) _ _ rfl (by rfl) (fun _ => rfl) ?_
  simp only [n1, n3, n4]
  refine wpG_done (fun V2 hv3 => ?_)
  have S4 : Hid (St w noB [] V2) := Lib.hid (S1.out.gr hv3)
  clear S1
  clear hv3
  refine ⟨rfl, hK _ _ ?_⟩
  clear hK
  go_upto_region 1 with fail
  refine wpG_region_k (fun K hK => ?_)
  refine @wpG_p _ _ _ _ _ (some 13) (.slice A n c) _ _ rfl (by rfl) (fun _ => rfl) ?_
  simp only [n1, n3, n4]
  refine @wpG_p _ _ _ _ _ (some 14) (.int .i64 (n : Int)) _ _ rfl (by rfl) (fun W => by go_simp) ?_
  simp only [n1, n3, n4]
  refine @wpG_p _ _ _ _ _ (some 15) (.int .i64 (k : Int)) _ _ rfl (by rfl) (fun _ => rfl) ?_
  simp only [n1, n3, n4]
  refine @wpG_tk _ _ _ _ _ (some 16) (.int .i64 ((Pl.room n k : Nat) : Int)) _ _ rfl (.call (f := 37) (args := #[.int .i64 (n : Int), .int .i64 (k : Int)]) (by rfl) (fun W => by go_simp) (fun W hg => room_any n k W (by omega))) ?_
  simp only [n1, n3, n4]
  refine wpG_val (some 17) rfl (by rfl) (fun W5 hg6 => ?_)
  refine makez_ex 43 5 (.int .u8 0) rfl 1 (.tmp 16) (.tmp 16) rfl Try.underlying43 (by kernel_rfl) (Pl.room n k) (Pl.room n k) rfl rfl (by omega) (by omega) (by decide) W5 (S4.out.gr hg6) (fun g8 U7 hS_ => ?_)
  clear hg6
  simp only [n1, n3, n4]
  rw [show List.replicate (Pl.room n k) (.int .u8 0) = bc (Pl.le (Pl.room n k) (Pl.S k f 0)) from Pl.bc_zero _] at hS_
  have S9 : Hid (St w noB [own (.slice (some ⟨g8, 0, none⟩) (Pl.room n k) (Pl.room n k)) 5 1 (Pl.room n k) (bc (Pl.le (Pl.room n k) (Pl.S k f 0)))] U7) := Lib.hid hS_
  clear S4
  clear hS_
  refine @wpG_p _ _ _ _ _ (some 7) (.slice (some ⟨g8, 0, none⟩) (Pl.room n k) (Pl.room n k)) _ _ rfl (by rfl) (fun _ => rfl) ?_
  simp only [n1, n3, n4]
  refine wpG_done (fun V10 hv11 => ?_)
  have S12 : Hid (St w noB [own (.slice (some ⟨g8, 0, none⟩) (Pl.room n k) (Pl.room n k)) 5 1 (Pl.room n k) (bc (Pl.le (Pl.room n k) (Pl.S k f 0)))] V10) := Lib.hid (S9.out.gr hv11)
  clear S9
  clear hv11
  refine ⟨rfl, hK _ _ ?_⟩
  clear hK
  go_upto_region 2 with fail
  refine wpG_region_k (fun K hK => ?_)
  refine @wpG_p _ _ _ _ _ (some 18) (.slice A n c) _ _ rfl (by rfl) (fun _ => rfl) ?_
  simp only [n1, n3, n4]
  refine @wpG_p _ _ _ _ _ (some 19) (.int .i64 (n : Int)) _ _ rfl (by rfl) (fun W => by go_simp) ?_
  simp only [n1, n3, n4]
  refine @wpG_p _ _ _ _ _ (some 20) (.int .i64 0) _ _ rfl (by rfl) (fun _ => rfl) ?_
  simp only [n1, n3, n4]
  refine wpG_done (fun V13 hv14 => ?_)
  have S15 : Hid (St w noB [own (.slice (some ⟨g8, 0, none⟩) (Pl.room n k) (Pl.room n k)) 5 1 (Pl.room n k) (bc (Pl.le (Pl.room n k) (Pl.S k f 0)))] V13) := Lib.hid (S12.out.gr hv14)
  clear S12
  clear hv14
  refine ⟨rfl, hK _ _ ?_⟩
  clear hK
  go_wp2_with fail
  go_loopw [20] (fun v20 wr => ∃ (i : Nat), v20 = .int .i64 (i : Int) ∧ i ≤ n ∧ St w noB [own (.slice (some ⟨g8, 0, none⟩) (Pl.room n k) (Pl.room n k)) 5 1 (Pl.room n k) (bc (Pl.le (Pl.room n k) (Pl.S k f i)))] wr) (fun i _ => n - (intOf i).toNat)
  case atStart => exact ⟨0, rfl, Nat.zero_le _, S15.out⟩
  case round =>
    obtain ⟨i, rfl, hin, hS⟩ := hrel
    have SL := Lib.hid hS
    clear S15 hS
    have S16 := SL
    clear SL
    go_upto_region 3 with fail
    refine wpG_region_k (fun K hK => ?_)
    refine @wpG_p _ _ _ _ _ (some 21) (.bool (decide ((i : Int) < (n : Int)))) _ _ rfl (by rfl) (fun W => op_int_lss W (i : Int) (n : Int) rfl rfl rfl Try.underlying3) ?_
    simp only [n1, n3, n4]
    refine wpG_done (fun V17 hv18 => ?_)
    have S19 : Hid (St w noB [own (.slice (some ⟨g8, 0, none⟩) (Pl.room n k) (Pl.room n k)) 5 1 (Pl.room n k) (bc (Pl.le (Pl.room n k) (Pl.S k f i)))] V17) := Lib.hid (S16.out.gr hv18)
    clear S16
    clear hv18
    refine ⟨rfl, hK _ _ ?_⟩
    clear hK
    obtain ⟨c20, hc20⟩ : ∃ q_, q_ = (decide ((i : Int) < (n : Int))) := ⟨_, rfl⟩
    rw [← hc20]
    have Hc20 := Lib.hid hc20
    clear hc20
    cases c20 with
    | true =>
      have f21 := of_decide_eq_true Hc20.out.symm
      go_upto_region 4 with fail
      refine wpG_region_k (fun K hK => ?_)
      refine @wpG_p _ _ _ _ _ (some 22) (.int .i64 (i : Int)) _ _ rfl (by rfl) (fun _ => rfl) ?_
      simp only [n1, n3, n4]
      obtain ⟨b22, o22, rfl⟩ := HGA.out.addr (by decide) (by omega)
      refine @wpG_p _ _ _ _ _ (some 23) (.pointer (some ⟨b22, o22 + i, none⟩)) _ _ rfl (by rfl) (fun W => by (go_simp <;> first | rfl | omega | (simp; omega))) ?_
      simp only [n1, n3, n4]
      refine @wpG_r _ _ _ _ _ (some 24) (.bool (bs.getD i false)) _ _ rfl (by rfl) (fun W hg => by have c := (((HGA.out.gr ((S19.out.gr hg)).bel).bln (l := bs) i (by (have := HLEN.out; omega)))) 0 _ rfl; (try simp only [Nat.add_zero, Nat.zero_add] at c); go_simp) ?_
      simp only [n1, n3, n4]
      refine @wpG_p _ _ _ _ _ (some 8) (.int .i64 (i : Int)) _ _ rfl (by rfl) (fun _ => rfl) ?_
      simp only [n1, n3, n4]
      refine @wpG_p _ _ _ _ _ (some 9) (.bool (bs.getD i false)) _ _ rfl (by rfl) (fun _ => rfl) ?_
      simp only [n1, n3, n4]
      refine wpG_done (fun V23 hv24 => ?_)
      have S25 : Hid (St w noB [own (.slice (some ⟨g8, 0, none⟩) (Pl.room n k) (Pl.room n k)) 5 1 (Pl.room n k) (bc (Pl.le (Pl.room n k) (Pl.S k f i)))] V23) := Lib.hid (S19.out.gr hv24)
      clear S19
      clear hv24
      refine ⟨rfl, hK _ _ ?_⟩
      clear hK
      go_upto_region 5 with fail
      refine wpG_region_k (fun K hK => ?_)
      refine @wpG_p _ _ _ _ _ (some 25) (.func (.func 52) #[] #[]) _ _ rfl (by rfl) (fun _ => rfl) ?_
      simp only [n1, n3, n4]
      refine @wpG_p _ _ _ _ _ (some 26) (.bool (bs.getD i false)) _ _ rfl (by rfl) (fun _ => rfl) ?_
      simp only [n1, n3, n4]
      have hif_ := HF.out i (by omega)
      have HFQ : Hid (((bs.getD i false).toNat : Int) = (f i : Int)) := Lib.hid hif_.1
      clear hif_
      refine @wpG_tk _ _ _ _ _ (some 27) (.int .i64 (f i : Int)) _ _ rfl (.call (f := 52) (args := #[.bool (bs.getD i false)]) (by rfl) (fun W => by go_simp) (fun W hg => HFQ.out ▸ putMask1_any (bs.getD i false) W)) ?_
      simp only [n1, n3, n4]
      refine @wpG_p _ _ _ _ _ (some 10) (.int .i64 (f i : Int)) _ _ rfl (by rfl) (fun _ => rfl) ?_
      simp only [n1, n3, n4]
      refine wpG_done (fun V26 hv27 => ?_)
      have S28 : Hid (St w noB [own (.slice (some ⟨g8, 0, none⟩) (Pl.room n k) (Pl.room n k)) 5 1 (Pl.room n k) (bc (Pl.le (Pl.room n k) (Pl.S k f i)))] V26) := Lib.hid (S25.out.gr hv27)
      clear S25
      clear hv27
      refine ⟨rfl, hK _ _ ?_⟩
      clear hK
      go_upto_region 6 with fail
      refine wpG_region_k (fun K hK => ?_)
      refine @wpG_p _ _ _ _ _ (some 28) (.int .i64 (k : Int)) _ _ rfl (by rfl) (fun _ => rfl) ?_
      simp only [n1, n3, n4]
      refine @wpG_p _ _ _ _ _ (some 29) (.int .i64 0) _ _ rfl (by rfl) (fun _ => rfl) ?_
      simp only [n1, n3, n4]
      refine wpG_done (fun V29 hv30 => ?_)
      have S31 : Hid (St w noB [own (.slice (some ⟨g8, 0, none⟩) (Pl.room n k) (Pl.room n k)) 5 1 (Pl.room n k) (bc (Pl.le (Pl.room n k) (Pl.S k f i)))] V29) := Lib.hid (S28.out.gr hv30)
      clear S28
      clear hv30
      refine ⟨rfl, hK _ _ ?_⟩
      clear hK
      have S32 : Hid (St w noB [own (.slice (some ⟨g8, 0, none⟩) (Pl.room n k) (Pl.room n k)) 5 1 (Pl.room n k) (bc (Pl.le (Pl.room n k) (Pl.S k f i + f i % 2 ^ 0 * 2 ^ (k * i))))] V29) := Lib.hid (by have h_ := S31.out; rw [show bc (Pl.le (Pl.room n k) (Pl.S k f i)) = bc (Pl.le (Pl.room n k) (Pl.S k f i + f i % 2 ^ 0 * 2 ^ (k * i))) from (by rw [Pl.bit_start])] at h_; exact h_)
      clear S31
      have hik_ : i < n := by omega
      go_wp2_with fail
      go_loopw [29] (fun v29 wr => ∃ (b : Nat), v29 = .int .i64 (b : Int) ∧ b ≤ k ∧ St w noB [own (.slice (some ⟨g8, 0, none⟩) (Pl.room n k) (Pl.room n k)) 5 1 (Pl.room n k) (bc (Pl.le (Pl.room n k) (Pl.S k f i + f i % 2 ^ b * 2 ^ (k * i))))] wr) (fun i _ => k - (intOf i).toNat)
      case atStart => exact ⟨0, rfl, Nat.zero_le _, S32.out⟩
      case round =>
        obtain ⟨b, rfl, hbk, hS⟩ := hrel
        have SL := Lib.hid hS
        clear S32 hS
        have S33 := SL
        clear SL
        go_upto_region 7 with fail
        refine wpG_region_k (fun K hK => ?_)
        refine @wpG_p _ _ _ _ _ (some 30) (.bool (decide ((b : Int) < (k : Int)))) _ _ rfl (by rfl) (fun W => op_int_lss W (b : Int) (k : Int) rfl rfl rfl Try.underlying3) ?_
        simp only [n1, n3, n4]
        refine wpG_done (fun V34 hv35 => ?_)
        have S36 : Hid (St w noB [own (.slice (some ⟨g8, 0, none⟩) (Pl.room n k) (Pl.room n k)) 5 1 (Pl.room n k) (bc (Pl.le (Pl.room n k) (Pl.S k f i + f i % 2 ^ b * 2 ^ (k * i))))] V34) := Lib.hid (S33.out.gr hv35)
        clear S33
        clear hv35
        refine ⟨rfl, hK _ _ ?_⟩
        clear hK
        obtain ⟨c37, hc37⟩ : ∃ q_, q_ = (decide ((b : Int) < (k : Int))) := ⟨_, rfl⟩
        rw [← hc37]
        have Hc37 := Lib.hid hc37
        clear hc37
        cases c37 with
        | true =>
          have f38 := of_decide_eq_true Hc37.out.symm
          go_upto_region 8 with fail
          refine wpG_region_k (fun K hK => ?_)
          refine @wpG_p _ _ _ _ _ (some 31) (.int .i64 (b : Int)) _ _ rfl (by rfl) (fun _ => rfl) ?_
          simp only [n1, n3, n4]
          refine @wpG_p _ _ _ _ _ (some 11) (.int .i64 (b : Int)) _ _ rfl (by rfl) (fun _ => rfl) ?_
          simp only [n1, n3, n4]
          refine wpG_done (fun V39 hv40 => ?_)
          have S41 : Hid (St w noB [own (.slice (some ⟨g8, 0, none⟩) (Pl.room n k) (Pl.room n k)) 5 1 (Pl.room n k) (bc (Pl.le (Pl.room n k) (Pl.S k f i + f i % 2 ^ b * 2 ^ (k * i))))] V39) := Lib.hid (S36.out.gr hv40)
          clear S36
          clear hv40
          refine ⟨rfl, hK _ _ ?_⟩
          clear hK
          go_upto_region 9 with fail
          refine wpG_region_k (fun K hK => ?_)
          refine @wpG_p _ _ _ _ _ (some 32) (.int .i64 (i : Int)) _ _ rfl (by rfl) (fun _ => rfl) ?_
          simp only [n1, n3, n4]
          refine @wpG_p _ _ _ _ _ (some 33) (.int .i64 (k : Int)) _ _ rfl (by rfl) (fun _ => rfl) ?_
          simp only [n1, n3, n4]
          obtain ⟨iw, h_iw⟩ : ∃ q_ : Nat, q_ = i * k := ⟨_, rfl⟩
          have hiwb : iw ≤ 64 * 8 := by rw [h_iw]; exact Nat.mul_le_mul (by omega) (by omega)
          have Hiw := Lib.hid h_iw
          clear h_iw
          refine @wpG_p _ _ _ _ _ (some 34) (.int .i64 (iw : Int)) _ _ rfl (by rfl) (fun W => op_n_mul i k iw Hiw.out.symm (by omega) rfl rfl rfl) ?_
          simp only [n1, n3, n4]
          refine @wpG_p _ _ _ _ _ (some 35) (.int .i64 (b : Int)) _ _ rfl (by rfl) (fun _ => rfl) ?_
          simp only [n1, n3, n4]
          obtain ⟨at_, h_at_⟩ : ∃ q_ : Nat, q_ = iw + b := ⟨_, rfl⟩
          have hbk_ : b < k := by omega
          have hatb : at_ < n * k := by rw [h_at_, Hiw.out]; exact Pl.at_lt hik_ hbk_
          have hat3 : at_ ≤ 1000 := by omega
          have Hat_ := Lib.hid h_at_
          clear h_at_
          refine @wpG_p _ _ _ _ _ (some 36) (.int .i64 (at_ : Int)) _ _ rfl (by rfl) (fun W => op_n_add iw b at_ Hat_.out.symm (by omega) rfl rfl rfl) ?_
          simp only [n1, n3, n4]
          refine @wpG_p _ _ _ _ _ (some 12) (.int .i64 (at_ : Int)) _ _ rfl (by rfl) (fun _ => rfl) ?_
          simp only [n1, n3, n4]
          refine wpG_done (fun V42 hv43 => ?_)
          have S44 : Hid (St w noB [own (.slice (some ⟨g8, 0, none⟩) (Pl.room n k) (Pl.room n k)) 5 1 (Pl.room n k) (bc (Pl.le (Pl.room n k) (Pl.S k f i + f i % 2 ^ b * 2 ^ (k * i))))] V42) := Lib.hid (S41.out.gr hv43)
          clear S41
          clear hv43
          refine ⟨rfl, hK _ _ ?_⟩
          clear hK
          go_upto_region 10 with fail
          refine wpK_region_k (by kernel_rfl) (fun K hK => ?_)
          refine wpK_ta (i := 0) (some 37) (v := .slice (some ⟨g8, 0, none⟩) (Pl.room n k) (Pl.room n k)) rfl rfl (by kernel_rfl) (fun _ _ _ h => onN_panic h) (Or.inl ⟨rfl, fun _ => rfl⟩) ?_
          simp only [n1, n3, n4]
          refine wpK_ta (i := 1) (some 38) (v := .int .i64 (at_ : Int)) rfl rfl (by kernel_rfl) (fun _ _ _ h => onN_panic h) (Or.inl ⟨rfl, fun _ => rfl⟩) ?_
          simp only [n1, n3, n4]
          obtain ⟨q8, h_q8⟩ : ∃ q_ : Nat, q_ = at_ / 8 := ⟨_, rfl⟩
          have hq8e : 8 * q8 ≤ at_ := by omega
          have Hq8 := Lib.hid h_q8
          clear h_q8
          refine wpK_ta (i := 2) (some 39) (v := .int .i64 (q8 : Int)) rfl rfl (by kernel_rfl) (fun _ _ _ h => onN_panic h) (Or.inl ⟨by rfl, fun W => by exact op_n_quo at_ 8 q8 Hq8.out.symm (by decide) (by omega) rfl rfl rfl⟩) ?_
          simp only [n1, n3, n4]
          have hqR_ : q8 < Pl.room n k := by have h1_ := Pl.at_room hatb; omega
          refine wpK_ta (i := 3) (some 40) (v := .pointer (some ⟨g8, q8, none⟩)) rfl rfl (by kernel_rfl) (fun _ _ _ h => onN_panic h) (Or.inl ⟨by rfl, fun W => by (go_simp <;> first | rfl | omega | (simp; omega))⟩) ?_
          simp only [n1, n3, n4]
          refine wpK_ta (i := 5) (some 42) (v := .int .i64 (f i : Int)) rfl rfl (by kernel_rfl) (fun _ _ _ h => onN_panic h) (Or.inl ⟨rfl, fun _ => rfl⟩) ?_
          simp only [n1, n3, n4]
          refine wpK_ta (i := 6) (some 43) (v := .int .i64 (b : Int)) rfl rfl (by kernel_rfl) (fun _ _ _ h => onN_panic h) (Or.inl ⟨rfl, fun _ => rfl⟩) ?_
          simp only [n1, n3, n4]
          obtain ⟨sh, h_sh⟩ : ∃ q_ : Nat, q_ = f i / 2 ^ b := ⟨_, rfl⟩
          have hshb : sh ≤ 256 := by rw [h_sh]; exact Nat.le_trans (Nat.div_le_self _ _) (Nat.le_trans (Nat.le_of_lt (HF.out i hik_).2) (Nat.pow_le_pow_right (n := 2) (by decide) hk))
          have Hsh := Lib.hid h_sh
          clear h_sh
          refine wpK_ta (i := 7) (some 44) (v := .int .i64 (sh : Int)) rfl rfl (by kernel_rfl) (fun _ _ _ h => onN_panic h) (Or.inl ⟨by rfl, fun W => by exact op_k_shr (f i) b sh Hsh.out.symm (by show b ≤ 64; omega) rfl rfl rfl⟩) ?_
          simp only [n1, n3, n4]
          obtain ⟨bt, h_bt⟩ : ∃ q_ : Nat, q_ = sh % 2 := ⟨_, rfl⟩
          have hbtb : bt < 2 := by omega
          have Hbt := Lib.hid h_bt
          clear h_bt
          refine wpK_ta (i := 8) (some 45) (v := .int .i64 (bt : Int)) rfl rfl (by kernel_rfl) (fun _ _ _ h => onN_panic h) (Or.inl ⟨by rfl, fun W => by exact op_n_and1 sh bt Hbt.out.symm (by omega) rfl rfl rfl⟩) ?_
          simp only [n1, n3, n4]
          refine wpK_ta (i := 9) (some 46) (v := .int .u8 (bt : Int)) rfl rfl (by kernel_rfl) (fun _ _ _ h => onN_panic h) (Or.inl ⟨by rfl, fun W => by exact op_conv_n8 bt (by omega) rfl rfl Try.underlying3 Try.underlying5⟩) ?_
          simp only [n1, n3, n4]
          refine wpK_ta (i := 10) (some 47) (v := .int .i64 (at_ : Int)) rfl rfl (by kernel_rfl) (fun _ _ _ h => onN_panic h) (Or.inl ⟨rfl, fun _ => rfl⟩) ?_
          simp only [n1, n3, n4]
          obtain ⟨r8, h_r8⟩ : ∃ q_ : Nat, q_ = at_ % 8 := ⟨_, rfl⟩
          have hr8b : r8 < 8 := by omega
          have Hr8 := Lib.hid h_r8
          clear h_r8
          refine wpK_ta (i := 11) (some 48) (v := .int .i64 (r8 : Int)) rfl rfl (by kernel_rfl) (fun _ _ _ h => onN_panic h) (Or.inl ⟨by rfl, fun W => by exact op_n_rem at_ 8 r8 Hr8.out.symm (by decide) rfl rfl rfl⟩) ?_
          simp only [n1, n3, n4]
          refine wpK_ta (i := 12) (some 49) (v := .int .u8 ((bt * 2 ^ r8 : Nat) : Int)) rfl rfl (by kernel_rfl) (fun _ _ _ h => onN_panic h) (Or.inl ⟨by rfl, fun W => by exact op_k_shl bt r8 _ rfl (by show r8 ≤ 8; omega) (wrap_n8 (by have h1_ : bt * 2 ^ r8 ≤ 1 * 2 ^ 7 := Nat.mul_le_mul (by omega) (Nat.pow_le_pow_right (by decide) (by omega)); omega)) rfl rfl rfl⟩) ?_
          simp only [n1, n3, n4]
          obtain ⟨hst1, hst2, hst3⟩ := Pl.bit_step (R := Pl.room n k) (x := f i) hbk_ (Pl.S_lt (w := k) (f := f) (n := i) (fun j hj => (HF.out j (by omega)).2)) (Pl.at_room (Pl.at_lt hik_ hbk_))
          obtain ⟨xo, h_xo⟩ : ∃ q_ : Nat, q_ = (Pl.S k f i + f i % 2 ^ b * 2 ^ (k * i)) / 2 ^ (8 * ((i * k + b) / 8)) % 256 := ⟨_, rfl⟩
          have Hxo := Lib.hid h_xo
          clear h_xo
          have hat_ : i * k + b = at_ := by rw [Hat_.out, Hiw.out]
          have HATE := Lib.hid hat_
          clear hat_
          have hx1_ : xo < 2 ^ (at_ % 8) := by rw [Hxo.out, ← HATE.out]; exact hst1
          have HX1 := Lib.hid hx1_
          clear hx1_ hst1
          have HX2 := Lib.hid hst2
          have HX3 := Lib.hid hst3
          clear hst2 hst3
          refine wpK_tk (i := 4) (some 41) (v := .int .u8 (xo : Int)) rfl rfl (by kernel_rfl) (fun _ _ _ h => onN_panic h) (.val (by rfl) (fun W hg => by have c := own_at (k := q8) (v := .int .u8 (xo : Int)) ((S44.out.gr (Gr.un hg)).ownr 0 rfl) (by have h1_ : q8 < Pl.room n k := hqR_; rw [Hxo.out, HATE.out, ← Hq8.out]; exact (bc_at (Pl.le_at _ _ _ h1_)).trans (by rw [Pl.u8n (Nat.mod_lt _ (by decide))])); go_simp)) ?_
          simp only [n1, n3, n4]
          obtain ⟨yo, h_yo⟩ : ∃ q_ : Nat, q_ = xo + bt * 2 ^ r8 := ⟨_, rfl⟩
          have hyo_ : yo < 256 := by have h1_ := HX2.out; rw [← Hxo.out, HATE.out, ← Hr8.out, ← Hsh.out, ← Hbt.out] at h1_; omega
          have Hyo := Lib.hid h_yo
          clear h_yo
          refine wpK_ta (i := 13) (some 50) (v := .int .u8 (yo : Int)) rfl rfl (by kernel_rfl) (fun _ _ _ h => onN_panic h) (Or.inl ⟨by rfl, fun W => by exact op_u8_or xo bt r8 yo (by rw [Hr8.out]; exact HX1.out) Hyo.out.symm hyo_ rfl rfl rfl⟩) ?_
          simp only [n1, n3, n4]
          refine wpK_ta (i := 14) (some 51) (v := .pointer (some ⟨g8, q8, none⟩)) rfl rfl (by kernel_rfl) (fun _ _ _ h => onN_panic h) (Or.inl ⟨by rfl, fun W => by (go_simp <;> first | rfl | omega | (simp; omega))⟩) ?_
          simp only [n1, n3, n4]
          refine wpK_store (i := 15) (none) rfl rfl (by kernel_rfl) (by rfl) (by rfl) (fun W45 hg46 => ⟨W45.setCell ⟨g8, q8, none⟩ (.int .u8 (yo : Int)), by obtain ⟨⟨_, c⟩, c2⟩ := own_cell (k := q8) ((S44.out.gr (Gr.un hg46)).ownr 0 rfl) (by omega); go_simp, ?_⟩)
          simp only [n2]
          obtain ⟨U47, hu_, hS_⟩ := ((S44.out.gr (Gr.un hg46)).ownPutAt 0 rfl (k := q8) (by omega) (.int .u8 (yo : Int))).named
          rw [← hu_]
          have S48 : Hid (St w noB [own (.slice (some ⟨g8, 0, none⟩) (Pl.room n k) (Pl.room n k)) 5 1 (Pl.room n k) ((bc (Pl.le (Pl.room n k) (Pl.S k f i + f i % 2 ^ b * 2 ^ (k * i)))).set q8 (.int .u8 (yo : Int)))] U47) := Lib.hid hS_
          clear S44
          clear hu_ hS_ hg46
          refine wpK_done (by kernel_rfl) (fun V49 hv50 => ?_) _
          have S51 : Hid (St w noB [own (.slice (some ⟨g8, 0, none⟩) (Pl.room n k) (Pl.room n k)) 5 1 (Pl.room n k) ((bc (Pl.le (Pl.room n k) (Pl.S k f i + f i % 2 ^ b * 2 ^ (k * i)))).set q8 (.int .u8 (yo : Int)))] V49) := Lib.hid (S48.out.gr hv50)
          clear S48
          clear hv50
          refine ⟨rfl, hK _ _ ?_⟩
          clear hK
          go_upto_region 11 with fail
          refine wpG_region_k (fun K hK => ?_)
          refine @wpG_p _ _ _ _ _ (some 52) (.int .i64 ((b : Int) + 1)) _ _ rfl (by rfl) (fun W => op_i_add W (b : Int) 1 (by omega) rfl rfl rfl Try.underlying3) ?_
          simp only [n1, n3, n4]
          refine @wpG_p _ _ _ _ _ (some 29) (.int .i64 ((b : Int) + 1)) _ _ rfl (by rfl) (fun _ => rfl) ?_
          simp only [n1, n3, n4]
          refine wpG_done (fun V52 hv53 => ?_)
          have S54 : Hid (St w noB [own (.slice (some ⟨g8, 0, none⟩) (Pl.room n k) (Pl.room n k)) 5 1 (Pl.room n k) ((bc (Pl.le (Pl.room n k) (Pl.S k f i + f i % 2 ^ b * 2 ^ (k * i)))).set q8 (.int .u8 (yo : Int)))] V52) := Lib.hid (S51.out.gr hv53)
          clear S51
          clear hv53
          refine ⟨rfl, hK _ _ ?_⟩
          clear hK
          go_wp2_with fail
          go_roundw
          case rel => exact ⟨b + 1, (by first | rfl | go_num), (by omega), (by have h_ := S54.out; have h1_ := HX3.out; rw [← Hxo.out, HATE.out, ← Hq8.out, ← Hr8.out, ← Hsh.out, ← Hbt.out, ← Hyo.out] at h1_; rw [show (bc (Pl.le (Pl.room n k) (Pl.S k f i + f i % 2 ^ b * 2 ^ (k * i)))).set q8 (.int .u8 (yo : Int)) = bc (Pl.le (Pl.room n k) (Pl.S k f i + f i % 2 ^ (b + 1) * 2 ^ (k * i))) from by rw [bv_n hyo_, bc_set, h1_]] at h_; exact h_)⟩
          case measure => first | (simp only [intOf]; omega) | (simp [intOf]; done) | (simp [intOf]; omega) | omega
        | false =>
          have f55 := of_decide_eq_false Hc37.out.symm
          go_upto_region 12 with fail
          refine wpG_region_k (fun K hK => ?_)
          refine @wpG_p _ _ _ _ _ (some 53) (.int .i64 ((i : Int) + 1)) _ _ rfl (by rfl) (fun W => op_i_add W (i : Int) 1 (by omega) rfl rfl rfl Try.underlying3) ?_
          simp only [n1, n3, n4]
          refine @wpG_p _ _ _ _ _ (some 20) (.int .i64 ((i : Int) + 1)) _ _ rfl (by rfl) (fun _ => rfl) ?_
          simp only [n1, n3, n4]
          refine wpG_done (fun V56 hv57 => ?_)
          have S58 : Hid (St w noB [own (.slice (some ⟨g8, 0, none⟩) (Pl.room n k) (Pl.room n k)) 5 1 (Pl.room n k) (bc (Pl.le (Pl.room n k) (Pl.S k f i + f i % 2 ^ b * 2 ^ (k * i))))] V56) := Lib.hid (S36.out.gr hv57)
          clear S36
          clear hv57
          refine ⟨rfl, hK _ _ ?_⟩
          clear hK
          go_wp2_with fail
          go_roundw
          case rel => exact ⟨i + 1, (by first | rfl | go_num), (by omega), (by have e_ : b = k := (by omega); have h_ := S58.out; rw [e_, Pl.bit_end (HF.out i (by omega)).2] at h_; exact h_)⟩
          case measure => first | (simp only [intOf]; omega) | (simp [intOf]; done) | (simp [intOf]; omega) | omega
    | false =>
      have f59 := of_decide_eq_false Hc20.out.symm
      go_upto_region 13 with fail
      refine wpG_region_k (fun K hK => ?_)
      refine @wpG_p _ _ _ _ _ (some 54) (.slice (some ⟨g8, 0, none⟩) (Pl.room n k) (Pl.room n k)) _ _ rfl (by rfl) (fun _ => rfl) ?_
      simp only [n1, n3, n4]
      refine @wpG_p _ _ _ _ _ (some 6) (.slice (some ⟨g8, 0, none⟩) (Pl.room n k) (Pl.room n k)) _ _ rfl (by rfl) (fun _ => rfl) ?_
      simp only [n1, n3, n4]
      refine wpG_done (fun V60 hv61 => ?_)
      have S62 : Hid (St w noB [own (.slice (some ⟨g8, 0, none⟩) (Pl.room n k) (Pl.room n k)) 5 1 (Pl.room n k) (bc (Pl.le (Pl.room n k) (Pl.S k f i)))] V60) := Lib.hid (S19.out.gr hv61)
      clear S19
      clear hv61
      refine ⟨rfl, hK _ _ ?_⟩
      clear hK
      go_wp2_with fail
      go_ret
      exact ⟨some ⟨g8, 0, none⟩, (Pl.room n k), rfl, (by have e_ : n = i := (by omega); have h_ := S62.out; rw [← e_] at h_; exact h_)⟩

end Go.Proofs.Ytfomieekdbkcnaa
