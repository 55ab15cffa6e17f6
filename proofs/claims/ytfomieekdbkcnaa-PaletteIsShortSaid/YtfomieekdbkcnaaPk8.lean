/-
  Contracts of package palette: rooms, bits, palettes.
-/
import Derived.Test.YtfomieekdbkcnaaPk7
import Derived.Handy
namespace Go.Proofs.Ytfomieekdbkcnaa
open Go Go.RowKit
set_option linter.unusedVariables false
set_option linter.unusedSimpArgs false
set_option maxRecDepth 1000000 in
set_option maxHeartbeats 4000000 in
theorem room_any (n k : Nat) (w : World) (hb : n * k ≤ 1000000) :
    Calls Try.prog 37 #[.int .i64 (n : Int), .int .i64 (k : Int)] w fun e w' => e = .returned (.int .i64 ((Pl.room n k : Nat) : Int)) ∧ Below w.heap.size w w' := by
  have S1 : Hid (St w noB [] w) := Lib.hid (St.start w)
  go_enter Try.func37, Try.ntmps37
  go_upto_region 0 with fail
  refine wpG_region_k (fun K hK => ?_)
  refine @wpG_p _ _ _ _ _ (some 4) (.int .i64 0) _ _ rfl (by rfl) (fun _ => rfl) ?_
  simp only [n1, n3, n4]
  refine wpG_done (fun V2 hv3 => ?_)
  have S4 : Hid (St w noB [] V2) := Lib.hid (S1.out.gr hv3)
  clear S1
  clear hv3
  refine ⟨rfl, hK _ _ ?_⟩
  clear hK
  go_upto_region 1 with fail
  refine wpG_region_k (fun K hK => ?_)
  refine @wpG_p _ _ _ _ _ (some 5) (.int .i64 (n : Int)) _ _ rfl (by rfl) (fun _ => rfl) ?_
  simp only [n1, n3, n4]
  refine @wpG_p _ _ _ _ _ (some 6) (.int .i64 (k : Int)) _ _ rfl (by rfl) (fun _ => rfl) ?_
  simp only [n1, n3, n4]
  obtain ⟨nw, h_nw⟩ : ∃ q_ : Nat, q_ = n * k := ⟨_, rfl⟩
  have hnwb : nw ≤ 1000000 := by rw [h_nw]; exact hb
  have Hnw := Lib.hid h_nw
  clear h_nw
  refine @wpG_p _ _ _ _ _ (some 7) (.int .i64 (nw : Int)) _ _ rfl (by rfl) (fun W => op_n_mul n k nw Hnw.out.symm (by omega) rfl rfl rfl) ?_
  simp only [n1, n3, n4]
  obtain ⟨nw8, h_nw8⟩ : ∃ q_ : Nat, q_ = nw + 8 := ⟨_, rfl⟩
  have hnw8b : nw8 ≤ 1000008 ∧ 8 ≤ nw8 := by omega
  have Hnw8 := Lib.hid h_nw8
  clear h_nw8
  refine @wpG_p _ _ _ _ _ (some 8) (.int .i64 (nw8 : Int)) _ _ rfl (by rfl) (fun W => op_n_add nw 8 nw8 Hnw8.out.symm (by omega) rfl rfl rfl) ?_
  simp only [n1, n3, n4]
  obtain ⟨nw7, h_nw7⟩ : ∃ q_ : Nat, q_ = nw8 - 1 := ⟨_, rfl⟩
  have hnw7b : nw7 ≤ 1000008 := by omega
  have Hnw7 := Lib.hid h_nw7
  clear h_nw7
  refine @wpG_p _ _ _ _ _ (some 9) (.int .i64 (nw7 : Int)) _ _ rfl (by rfl) (fun W => op_n_sub nw8 1 nw7 (by have := Hnw7.out; omega) (by omega) rfl rfl rfl) ?_
  simp only [n1, n3, n4]
  obtain ⟨rm, h_rm⟩ : ∃ q_ : Nat, q_ = nw7 / 8 := ⟨_, rfl⟩
  have Hrm := Lib.hid h_rm
  clear h_rm
  refine @wpG_p _ _ _ _ _ (some 10) (.int .i64 (rm : Int)) _ _ rfl (by rfl) (fun W => op_n_quo nw7 8 rm Hrm.out.symm (by decide) (by omega) rfl rfl rfl) ?_
  simp only [n1, n3, n4]
  refine @wpG_p _ _ _ _ _ (some 4) (.int .i64 (rm : Int)) _ _ rfl (by rfl) (fun _ => rfl) ?_
  simp only [n1, n3, n4]
  refine wpG_done (fun V5 hv6 => ?_)
  have S7 : Hid (St w noB [] V5) := Lib.hid (S4.out.gr hv6)
  clear S4
  clear hv6
  refine ⟨rfl, hK _ _ ?_⟩
  clear hK
  go_wp2_with fail
  go_ret
  refine ⟨?_, S7.out.bel⟩
  show Ending.returned (.int .i64 (rm : Int)) = _
  (first | rfl | (rw [show Pl.room n k = rm from by rw [Hrm.out, Hnw7.out, Hnw8.out, Hnw.out]; rfl]))
set_option maxRecDepth 1000000 in
set_option maxHeartbeats 4000000 in
theorem bit_any (x : List UInt8) (a : Nat) (w : World) (hx : a / 8 < x.length) (ha : a ≤ 1000000) :
    Calls Try.prog 49 #[.string (bstr x), .int .i64 (a : Int)] w fun e w' => e = .returned (.int .i64 ((Pl.V x / 2 ^ a % 2 : Nat) : Int)) ∧ Below w.heap.size w w' := by
  have S1 : Hid (St w noB [] w) := Lib.hid (St.start w)
  go_enter Try.func49, Try.ntmps49
  go_upto_region 0 with fail
  refine wpG_region_k (fun K hK => ?_)
  refine @wpG_p _ _ _ _ _ (some 4) (.int .i64 0) _ _ rfl (by rfl) (fun _ => rfl) ?_
  simp only [n1, n3, n4]
  refine wpG_done (fun V2 hv3 => ?_)
  have S4 : Hid (St w noB [] V2) := Lib.hid (S1.out.gr hv3)
  clear S1
  clear hv3
  refine ⟨rfl, hK _ _ ?_⟩
  clear hK
  go_upto_region 1 with fail
  refine wpG_region_k (fun K hK => ?_)
  refine @wpG_p _ _ _ _ _ (some 5) (.string (bstr x)) _ _ rfl (by rfl) (fun _ => rfl) ?_
  simp only [n1, n3, n4]
  refine @wpG_p _ _ _ _ _ (some 6) (.int .i64 (a : Int)) _ _ rfl (by rfl) (fun _ => rfl) ?_
  simp only [n1, n3, n4]
  obtain ⟨q8, h_q8⟩ : ∃ q_ : Nat, q_ = a / 8 := ⟨_, rfl⟩
  have hq8b : q8 < x.length := by omega
  have Hq8 := Lib.hid h_q8
  clear h_q8
  refine @wpG_p _ _ _ _ _ (some 7) (.int .i64 (q8 : Int)) _ _ rfl (by rfl) (fun W => op_n_quo a 8 q8 Hq8.out.symm (by decide) (by omega) rfl rfl rfl) ?_
  simp only [n1, n3, n4]
  obtain ⟨by_, h_by_⟩ : ∃ q_ : Nat, q_ = (x.getD q8 0).toNat := ⟨_, rfl⟩
  have hbyb : by_ < 256 := by rw [h_by_]; exact (x.getD q8 0).toNat_lt
  have Hby_ := Lib.hid h_by_
  clear h_by_
  refine @wpG_p _ _ _ _ _ (some 8) (.int .u8 (by_ : Int)) _ _ rfl (by rfl) (fun W => (op_str_idx W x q8 hq8b rfl rfl rfl Try.underlying9).trans (by rw [Hby_.out]; rfl)) ?_
  simp only [n1, n3, n4]
  refine @wpG_p _ _ _ _ _ (some 9) (.int .i64 (a : Int)) _ _ rfl (by rfl) (fun _ => rfl) ?_
  simp only [n1, n3, n4]
  obtain ⟨r8, h_r8⟩ : ∃ q_ : Nat, q_ = a % 8 := ⟨_, rfl⟩
  have hr8b : r8 < 8 := by omega
  have Hr8 := Lib.hid h_r8
  clear h_r8
  refine @wpG_p _ _ _ _ _ (some 10) (.int .i64 (r8 : Int)) _ _ rfl (by rfl) (fun W => op_n_rem a 8 r8 Hr8.out.symm (by decide) rfl rfl rfl) ?_
  simp only [n1, n3, n4]
  obtain ⟨sh, h_sh⟩ : ∃ q_ : Nat, q_ = by_ / 2 ^ r8 := ⟨_, rfl⟩
  have hshb : sh < 256 := by rw [h_sh]; exact Nat.lt_of_le_of_lt (Nat.div_le_self _ _) hbyb
  have Hsh := Lib.hid h_sh
  clear h_sh
  refine @wpG_p _ _ _ _ _ (some 11) (.int .u8 (sh : Int)) _ _ rfl (by rfl) (fun W => op_k_shr by_ r8 sh Hsh.out.symm (by show r8 ≤ 8; omega) rfl rfl rfl) ?_
  simp only [n1, n3, n4]
  refine @wpG_p _ _ _ _ _ (some 12) (.int .i64 (sh : Int)) _ _ rfl (by rfl) (fun W => op_conv_i64 W (sh : Int) (by omega) rfl rfl Try.underlying5 Try.underlying3) ?_
  simp only [n1, n3, n4]
  obtain ⟨bt, h_bt⟩ : ∃ q_ : Nat, q_ = sh % 2 := ⟨_, rfl⟩
  have Hbt := Lib.hid h_bt
  clear h_bt
  refine @wpG_p _ _ _ _ _ (some 13) (.int .i64 (bt : Int)) _ _ rfl (by rfl) (fun W => op_n_and1 sh bt Hbt.out.symm (by omega) rfl rfl rfl) ?_
  simp only [n1, n3, n4]
  refine @wpG_p _ _ _ _ _ (some 4) (.int .i64 (bt : Int)) _ _ rfl (by rfl) (fun _ => rfl) ?_
  simp only [n1, n3, n4]
  refine wpG_done (fun V5 hv6 => ?_)
  have S7 : Hid (St w noB [] V5) := Lib.hid (S4.out.gr hv6)
  clear S4
  clear hv6
  refine ⟨rfl, hK _ _ ?_⟩
  clear hK
  go_wp2_with fail
  go_ret
  refine ⟨?_, S7.out.bel⟩
  show Ending.returned (.int .i64 (bt : Int)) = _
  (first | rfl | (rw [show Pl.V x / 2 ^ a % 2 = bt from by rw [Hbt.out, Hsh.out, Hby_.out, Hr8.out, Hq8.out]; exact Pl.bit_at (by omega)]))
set_option maxRecDepth 1000000 in
set_option maxHeartbeats 4000000 in
theorem palette_any (A : Option Addr) (n c : Nat) (l : List Int) (w : World) (hG : SL w 1 A n c (ic l)) (hb : n ≤ 1000) :
    Calls Try.prog 33 #[.slice A n c] w fun e w' => ∃ A n c, e = .returned (.slice A n c) ∧ St w noB [own (.slice A n c) 3 1 n (ic (Pl.pal l))] w' := by
  have HGA := Lib.hid hG
  have HLEN : Hid (l.length = n) := Lib.hid (by have h_ := hG.len; rw [ic_len] at h_; omega)
  have hnbHGA : n ≤ 9223372036854775807 := Nat.le_trans hG.cap hG.bnd
  clear hG
  have S1 : Hid (St w noB [] w) := Lib.hid (St.start w)
  go_enter Try.func33, Try.ntmps33
  go_upto_region 0 with fail
  refine wpG_region_k (fun K hK => ?_)
  refine @wpG_p _ _ _ _ _ (some 2) (.slice none 0 0) _ _ rfl (by rfl) (fun _ => rfl) ?_
  simp only [n1, n3, n4]
  refine wpG_done (fun V2 hv3 => ?_)
  have S4 : Hid (St w noB [] V2) := Lib.hid (S1.out.gr hv3)
  clear S1
  clear hv3
  refine ⟨rfl, hK _ _ ?_⟩
  clear hK
  go_upto_region 1 with fail
  refine wpG_region_k (fun K hK => ?_)
  refine @wpG_p _ _ _ _ _ (some 3) (.slice none 0 0) _ _ rfl (by rfl) (fun _ => rfl) ?_
  simp only [n1, n3, n4]
  refine wpG_done (fun V5 hv6 => ?_)
  have S7 : Hid (St w noB [] V5) := Lib.hid (S4.out.gr hv6)
  clear S4
  clear hv6
  refine ⟨rfl, hK _ _ ?_⟩
  clear hK
  go_upto_region 2 with fail
  refine wpG_region_k (fun K hK => ?_)
  refine @wpG_p _ _ _ _ _ (some 4) (.int .i64 0) _ _ rfl (by rfl) (fun _ => rfl) ?_
  simp only [n1, n3, n4]
  refine wpG_done (fun V8 hv9 => ?_)
  have S10 : Hid (St w noB [] V8) := Lib.hid (S7.out.gr hv9)
  clear S7
  clear hv9
  refine ⟨rfl, hK _ _ ?_⟩
  clear hK
  have S11 : Hid (St w noB [own (.slice none 0 0) 3 1 0 (ic (Pl.pal (l.take 0)))] V8) := Lib.hid (S10.out.nilOwn 3 1)
  clear S10
  go_wp2_with fail
  go_loopw [3, 4] (fun v3 v4 wr => ∃ (E : Option Addr) (d k m : Nat), v3 = .slice E m d ∧ v4 = .int .i64 (k : Int) ∧ k ≤ n ∧ m ≤ k ∧ m = (Pl.pal (l.take k)).length ∧ St w noB [own (.slice E m d) 3 1 m (ic (Pl.pal (l.take k)))] wr) (fun a i _ => n - (intOf i).toNat)
  case atStart => exact ⟨none, 0, 0, 0, rfl, rfl, Nat.zero_le _, Nat.le_refl _, rfl, S11.out⟩
  case round =>
    obtain ⟨E, d, k, m, rfl, rfl, hkn, hmk, hml, hS⟩ := hrel
    have HML := Lib.hid hml
    clear hml
    have SL := Lib.hid hS
    clear S11 hS
    have S12 := SL
    clear SL
    go_upto_region 3 with fail
    refine wpG_region_k (fun K hK => ?_)
    refine @wpG_p _ _ _ _ _ (some 5) (.int .i64 (k : Int)) _ _ rfl (by rfl) (fun _ => rfl) ?_
    simp only [n1, n3, n4]
    refine @wpG_p _ _ _ _ _ (some 6) (.slice A n c) _ _ rfl (by rfl) (fun _ => rfl) ?_
    simp only [n1, n3, n4]
    refine @wpG_p _ _ _ _ _ (some 7) (.int .i64 (n : Int)) _ _ rfl (by rfl) (fun W => by go_simp) ?_
    simp only [n1, n3, n4]
    refine @wpG_p _ _ _ _ _ (some 8) (.bool (decide ((k : Int) < (n : Int)))) _ _ rfl (by rfl) (fun W => op_int_lss W (k : Int) (n : Int) rfl rfl rfl Try.underlying3) ?_
    simp only [n1, n3, n4]
    refine wpG_done (fun V13 hv14 => ?_)
    have S15 : Hid (St w noB [own (.slice E m d) 3 1 m (ic (Pl.pal (l.take k)))] V13) := Lib.hid (S12.out.gr hv14)
    clear S12
    clear hv14
    refine ⟨rfl, hK _ _ ?_⟩
    clear hK
    obtain ⟨c16, hc16⟩ : ∃ q_, q_ = (decide ((k : Int) < (n : Int))) := ⟨_, rfl⟩
    rw [← hc16]
    have Hc16 := Lib.hid hc16
    clear hc16
    cases c16 with
    | true =>
      have f17 := of_decide_eq_true Hc16.out.symm
      go_upto_region 5 with fail
      refine wpG_region_k (fun K hK => ?_)
      refine @wpG_p _ _ _ _ _ (some 11) (.slice E m d) _ _ rfl (by rfl) (fun _ => rfl) ?_
      simp only [n1, n3, n4]
      refine @wpG_p _ _ _ _ _ (some 12) (.slice A n c) _ _ rfl (by rfl) (fun _ => rfl) ?_
      simp only [n1, n3, n4]
      refine @wpG_p _ _ _ _ _ (some 13) (.int .i64 (k : Int)) _ _ rfl (by rfl) (fun _ => rfl) ?_
      simp only [n1, n3, n4]
      obtain ⟨b18, o18, rfl⟩ := HGA.out.addr (by decide) (by omega)
      refine @wpG_p _ _ _ _ _ (some 14) (.pointer (some ⟨b18, o18 + k, none⟩)) _ _ rfl (by rfl) (fun W => by (go_simp <;> first | rfl | omega | (simp; omega))) ?_
      simp only [n1, n3, n4]
      refine @wpG_r _ _ _ _ _ (some 15) (.int .i64 (l.getD k 0)) _ _ rfl (by rfl) (fun W hg => by have c := (((HGA.out.gr ((S15.out.gr hg)).bel).int (l := l) k (by (have := HLEN.out; omega)))) 0 _ rfl; (try simp only [Nat.add_zero, Nat.zero_add] at c); go_simp) ?_
      simp only [n1, n3, n4]
      refine @wpG_tk _ _ _ _ _ (some 16) (.int .i64 (List.idxOf (l.getD k 0) (Pl.pal (l.take k)) : Int)) _ _ rfl (.call (f := 35) (args := #[.slice E m d, .int .i64 (l.getD k 0)]) (by rfl) (fun W => by go_simp) (fun W hg => index_any _ _ _ (Pl.pal (l.take k)) (l.getD k 0) W (SL.ofOwn ((S15.out.gr hg).ownr 0 rfl)))) ?_
      simp only [n1, n3, n4]
      refine @wpG_p _ _ _ _ _ (some 17) (.slice E m d) _ _ rfl (by rfl) (fun _ => rfl) ?_
      simp only [n1, n3, n4]
      refine @wpG_p _ _ _ _ _ (some 18) (.int .i64 (m : Int)) _ _ rfl (by rfl) (fun W => by go_simp) ?_
      simp only [n1, n3, n4]
      refine @wpG_p _ _ _ _ _ (some 19) (.bool (decide ((List.idxOf (l.getD k 0) (Pl.pal (l.take k)) : Int) = (m : Int)))) _ _ rfl (by rfl) (fun W => op_int_eql W (List.idxOf (l.getD k 0) (Pl.pal (l.take k)) : Int) (m : Int) rfl rfl rfl Try.underlying3) ?_
      simp only [n1, n3, n4]
      refine wpG_done (fun V19 hv20 => ?_)
      have S21 : Hid (St w noB [own (.slice E m d) 3 1 m (ic (Pl.pal (l.take k)))] V19) := Lib.hid (S15.out.gr hv20)
      clear S15
      clear hv20
      refine ⟨rfl, hK _ _ ?_⟩
      clear hK
      obtain ⟨c22, hc22⟩ : ∃ q_, q_ = (decide ((List.idxOf (l.getD k 0) (Pl.pal (l.take k)) : Int) = (m : Int))) := ⟨_, rfl⟩
      rw [← hc22]
      have Hc22 := Lib.hid hc22
      clear hc22
      cases c22 with
      | true =>
        have f23 := Lib.hid (of_decide_eq_true Hc22.out.symm)
        have f23a := Int.le_of_eq f23.out
        have f23b := Int.le_of_eq f23.out.symm
        go_upto_region 6 with fail
        refine wpG_region_k (fun K hK => ?_)
        refine @wpG_p _ _ _ _ _ (some 20) (.slice E m d) _ _ rfl (by rfl) (fun _ => rfl) ?_
        simp only [n1, n3, n4]
        refine @wpG_p _ _ _ _ _ (some 21) (.slice (some ⟨b18, o18, none⟩) n c) _ _ rfl (by rfl) (fun _ => rfl) ?_
        simp only [n1, n3, n4]
        refine @wpG_p _ _ _ _ _ (some 22) (.int .i64 (k : Int)) _ _ rfl (by rfl) (fun _ => rfl) ?_
        simp only [n1, n3, n4]
        refine @wpG_p _ _ _ _ _ (some 23) (.pointer (some ⟨b18, o18 + k, none⟩)) _ _ rfl (by rfl) (fun W => by (go_simp <;> first | rfl | omega | (simp; omega))) ?_
        simp only [n1, n3, n4]
        refine @wpG_r _ _ _ _ _ (some 24) (.int .i64 (l.getD k 0)) _ _ rfl (by rfl) (fun W hg => by have c := (((HGA.out.gr ((S21.out.gr hg)).bel).int (l := l) k (by (have := HLEN.out; omega)))) 0 _ rfl; (try simp only [Nat.add_zero, Nat.zero_add] at c); go_simp) ?_
        simp only [n1, n3, n4]
        refine wpG_val (some 25) rfl (by rfl) (fun W24 hg25 => ⟨.slice (some ⟨W24.heap.size, 0, none⟩) 1 1, W24.alloc (.cells #[.int .i64 (l.getD k 0)] 3), by (go_simp <;> rfl), ?_⟩)
        simp only [n1, n3, n4]
        obtain ⟨g26, U27, hg_, hu_, hS_⟩ := (S21.out.gr hg25).made [.int .i64 (l.getD k 0)] 3
        rw [← hu_, ← hg_]
        have S28 : Hid (St w noB [blk g26 3 [.int .i64 (l.getD k 0)], own (.slice E m d) 3 1 m (ic (Pl.pal (l.take k)))] U27) := Lib.hid hS_
        clear S21
        clear hg_ hu_ hS_ hg25
        have S29 : Hid (St w noB [own (.slice E m d) 3 1 m (ic (Pl.pal (l.take k))), blk g26 3 [.int .i64 (l.getD k 0)]] U27) := Lib.hid (S28.out.front 1 rfl)
        clear S28
        refine wpG_appS (some 26) rfl rfl (.tmp 20) (.tmp 25) 22 22 rfl 3 1 8 Try.underlying22 (by kernel_rfl) (.slice E m d) m (ic (Pl.pal (l.take k))) S29.out (.slice (some ⟨g26, 0, none⟩) 1 1) 1 [.int .i64 (l.getD k 0)] (fun W hg => src_lies Try.underlying22 1 rfl (fun h => by cases h) (by intro u hu; simp at hu; rcases hu with rfl <;> rfl) ((S29.out.gr hg).liesBlk 1 rfl)) rfl rfl (by simp only [maxLen]; omega) (by omega) (fun v30 W31 hS_ => ?_)
        simp only [n1, n3, n4]
        rw [show ic (Pl.pal (l.take k)) ++ [.int .i64 (l.getD k 0)] = ic ((Pl.pal (l.take k)) ++ [(l.getD k 0)]) by simp [ic]] at hS_
        obtain ⟨A32, k33, rfl, hle_, hcap_, _⟩ := own_shape (hS_.ownr 0 rfl)
        have S34 : Hid (St w noB [own (.slice A32 (m + 1) k33) 3 1 (m + 1) (ic ((Pl.pal (l.take k)) ++ [(l.getD k 0)])), blk g26 3 [.int .i64 (l.getD k 0)]] W31) := Lib.hid hS_
        clear S29
        clear hS_
        refine @wpG_p _ _ _ _ _ (some 3) (.slice A32 (m + 1) k33) _ _ rfl (by rfl) (fun _ => rfl) ?_
        simp only [n1, n3, n4]
        refine wpG_done (fun V35 hv36 => ?_)
        have S37 : Hid (St w noB [own (.slice A32 (m + 1) k33) 3 1 (m + 1) (ic ((Pl.pal (l.take k)) ++ [(l.getD k 0)])), blk g26 3 [.int .i64 (l.getD k 0)]] V35) := Lib.hid (S34.out.gr hv36)
        clear S34
        clear hv36
        refine ⟨rfl, hK _ _ ?_⟩
        clear hK
        go_upto_region 4 with fail
        refine wpG_region_k (fun K hK => ?_)
        refine @wpG_p _ _ _ _ _ (some 9) (.int .i64 (k : Int)) _ _ rfl (by rfl) (fun _ => rfl) ?_
        simp only [n1, n3, n4]
        refine @wpG_p _ _ _ _ _ (some 10) (.int .i64 ((k : Int) + 1)) _ _ rfl (by rfl) (fun W => op_i_add W (k : Int) 1 (by omega) rfl rfl rfl Try.underlying3) ?_
        simp only [n1, n3, n4]
        refine @wpG_p _ _ _ _ _ (some 4) (.int .i64 ((k : Int) + 1)) _ _ rfl (by rfl) (fun _ => rfl) ?_
        simp only [n1, n3, n4]
        refine wpG_done (fun V38 hv39 => ?_)
        have S40 : Hid (St w noB [own (.slice A32 (m + 1) k33) 3 1 (m + 1) (ic ((Pl.pal (l.take k)) ++ [(l.getD k 0)])), blk g26 3 [.int .i64 (l.getD k 0)]] V38) := Lib.hid (S37.out.gr hv39)
        clear S37
        clear hv39
        refine ⟨rfl, hK _ _ ?_⟩
        clear hK
        go_wp2_with fail
        go_roundw
        have S41 : Hid (St w noB [own (.slice A32 (m + 1) k33) 3 1 (m + 1) (ic ((Pl.pal (l.take k)) ++ [(l.getD k 0)]))] V38) := Lib.hid (S40.out.sub (.cons_cons _ (.cons _ .slnil)))
        clear S40
        case rel => exact ⟨A32, k33, k + 1, m + 1, (by first | rfl | go_num), (by first | rfl | go_num), (by omega), (by omega), (by have e_f23 := f23.out; have hml_ := HML.out; rw [Pl.pal_new (by have := HLEN.out; omega) HML.out e_f23, List.length_append, ← hml_]; rfl), (by have e_f23 := f23.out; rw [Pl.pal_new (by have := HLEN.out; omega) HML.out e_f23]; exact S41.out)⟩
        case measure => first | (simp only [intOf]; omega) | (simp [intOf]; done) | (simp [intOf]; omega) | omega
      | false =>
        have f42 := of_decide_eq_false Hc22.out.symm
        go_upto_region 4 with fail
        refine wpG_region_k (fun K hK => ?_)
        refine @wpG_p _ _ _ _ _ (some 9) (.int .i64 (k : Int)) _ _ rfl (by rfl) (fun _ => rfl) ?_
        simp only [n1, n3, n4]
        refine @wpG_p _ _ _ _ _ (some 10) (.int .i64 ((k : Int) + 1)) _ _ rfl (by rfl) (fun W => op_i_add W (k : Int) 1 (by omega) rfl rfl rfl Try.underlying3) ?_
        simp only [n1, n3, n4]
        refine @wpG_p _ _ _ _ _ (some 4) (.int .i64 ((k : Int) + 1)) _ _ rfl (by rfl) (fun _ => rfl) ?_
        simp only [n1, n3, n4]
        refine wpG_done (fun V43 hv44 => ?_)
        have S45 : Hid (St w noB [own (.slice E m d) 3 1 m (ic (Pl.pal (l.take k)))] V43) := Lib.hid (S21.out.gr hv44)
        clear S21
        clear hv44
        refine ⟨rfl, hK _ _ ?_⟩
        clear hK
        go_wp2_with fail
        go_roundw
        case rel => exact ⟨E, d, k + 1, m, (by first | rfl | go_num), (by first | rfl | go_num), (by omega), (by omega), (by have hml_ := HML.out; rw [Pl.pal_old (by have := HLEN.out; omega) HML.out f42]; exact hml_), (by rw [Pl.pal_old (by have := HLEN.out; omega) HML.out f42]; exact S45.out)⟩
        case measure => first | (simp only [intOf]; omega) | (simp [intOf]; done) | (simp [intOf]; omega) | omega
    | false =>
      have f46 := of_decide_eq_false Hc16.out.symm
      go_upto_region 7 with fail
      refine wpG_region_k (fun K hK => ?_)
      refine @wpG_p _ _ _ _ _ (some 27) (.slice E m d) _ _ rfl (by rfl) (fun _ => rfl) ?_
      simp only [n1, n3, n4]
      refine @wpG_p _ _ _ _ _ (some 2) (.slice E m d) _ _ rfl (by rfl) (fun _ => rfl) ?_
      simp only [n1, n3, n4]
      refine wpG_done (fun V47 hv48 => ?_)
      have S49 : Hid (St w noB [own (.slice E m d) 3 1 m (ic (Pl.pal (l.take k)))] V47) := Lib.hid (S15.out.gr hv48)
      clear S15
      clear hv48
      refine ⟨rfl, hK _ _ ?_⟩
      clear hK
      go_wp2_with fail
      go_ret
      exact ⟨E, m, d, rfl, (by have e_ : Pl.pal l = Pl.pal (l.take k) := (by rw [List.take_of_length_le (by have := HLEN.out; omega)]); rw [e_]; exact S49.out.sub (.cons_cons _ .slnil))⟩

end Go.Proofs.Ytfomieekdbkcnaa
