/-
  Contracts of package palette: different cells, numbers, texts.
-/
import Derived.Test.YtfomieekdbkcnaaPk8
import Derived.Handy
namespace Go.Proofs.Ytfomieekdbkcnaa
open Go Go.RowKit
set_option linter.unusedVariables false
set_option linter.unusedSimpArgs false
namespace Pl
/-- the first k bytes as numbers, zeros behind -/
def nums (x : List UInt8) (k : Nat) : List Int := ints (x.take k) ++ List.replicate (x.length - k) 0
theorem nums_zero (x : List UInt8) : List.replicate x.length (0 : Int) = nums x 0 := by simp [nums, ints]
theorem nums_all (x : List UInt8) : nums x x.length = ints x := by simp [nums]
theorem nums_set {x : List UInt8} {k : Nat} (h : k < x.length) : (nums x k).set k ((Ma.byt x k).toNat : Int) = nums x (k + 1) := by
  unfold nums
  have hl : (ints (x.take k)).length = k := by rw [ints_len, List.length_take]; omega
  rw [List.set_append, if_neg (by omega), hl, Nat.sub_self, show x.length - k = (x.length - (k + 1)) + 1 by omega, List.replicate_succ, List.set_cons_zero, List.take_succ_eq_append_getElem h]
  unfold ints Ma.byt
  rw [List.map_append, show x.getD k 0 = x[k] by simp [List.getD, h]]
  simp
end Pl
theorem blc_at {l : List Bool} {k : Nat} (h : k < l.length) : (blc l)[k]? = some (.bool (l.getD k false)) := by simp [blc, List.getD, h]
theorem SL.bln {w : World} {b o n c : Nat} {l : List Bool} (h : SL w 1 (some ⟨b, o, none⟩) n c (blc l)) (k : Nat) (hk : k < l.length) : w.rangeAt b (o + k) [.bool (l.getD k false)] := h.elem k (ds := [.bool (l.getD k false)]) (by
  have h1 := blc_at hk
  have h2 : k < (blc l).length := by rw [blc_len]; exact hk
  rw [List.getElem?_eq_getElem h2, Option.some.injEq] at h1
  rw [List.drop_eq_getElem_cons h2, h1]; rfl)
theorem ic_at1 {l : List Int} {k : Nat} (h : k < l.length) : (ic l)[k]? = some (.int .i64 (l.getD k 0)) := by simp [ic, List.getD, h]
set_option maxRecDepth 1000000 in
set_option maxHeartbeats 4000000 in
theorem different_any (A : Option Addr) (n c : Nat) (l : List Int) (w : World) (hG : SL w 1 A n c (ic l)) (hb : n ≤ 1000) (hv : ∀ c ∈ l, Pl.cell c) :
    Calls Try.prog 28 #[.slice A n c] w fun e w' => ∃ A n c, e = .returned (.slice A n c) ∧ St w noB [own (.slice A n c) 3 1 n (ic (Pl.pal l))] w' := by
  have HGA := Lib.hid hG
  have HLEN : Hid (l.length = n) := Lib.hid (by have h_ := hG.len; rw [ic_len] at h_; omega)
  have hnbHGA : n ≤ 9223372036854775807 := Nat.le_trans hG.cap hG.bnd
  clear hG
  have HV := Lib.hid hv
  clear hv
  have S1 : Hid (St w noB [] w) := Lib.hid (St.start w)
  go_enter Try.func28, Try.ntmps28
  go_upto_region 0 with fail
  refine wpG_region_k (fun K hK => ?_)
  refine @wpG_p _ _ _ _ _ (some 2) (.slice none 0 0) _ _ rfl (by rfl) (fun _ => rfl) ?_
  simp only [n1, n3, n4]
  refine wpG_done (fun V2 hv3 => ?_)
  have S4 : Hid (St w noB [] V2) := Lib.hid (S1.out.gr hv3)
  clear S1
  clear hv3
  refine ⟨rfl, hK _ _ ?_⟩
  clear hK
  go_upto_region 1 with fail
  refine wpG_region_k (fun K hK => ?_)
  refine @wpG_p _ _ _ _ _ (some 3) (.slice none 0 0) _ _ rfl (by rfl) (fun _ => rfl) ?_
  simp only [n1, n3, n4]
  refine wpG_done (fun V5 hv6 => ?_)
  have S7 : Hid (St w noB [] V5) := Lib.hid (S4.out.gr hv6)
  clear S4
  clear hv6
  refine ⟨rfl, hK _ _ ?_⟩
  clear hK
  go_upto_region 2 with fail
  refine wpG_region_k (fun K hK => ?_)
  have ez_ : (List.replicate 256 (.bool false)).toArray = (blc (Pl.seen (Pl.pal (l.take 0)))).toArray := by rw [show Pl.pal (l.take 0) = [] from rfl, Pl.seen_nil]
  refine wpG_val (some 4) rfl (by rfl) (fun W8 hg9 => ⟨.pointer (some ⟨W8.heap.size, 0, none⟩), W8.alloc (.cells (blc (Pl.seen (Pl.pal (l.take 0)))).toArray 63), by rw [← ez_]; first | kernel_rfl | (go_simp; done) | (go_simp <;> rfl), ?_⟩)
  simp only [n1, n3, n4]
  obtain ⟨g10, U11, hg_, hu_, hS_⟩ := (S7.out.gr hg9).made (blc (Pl.seen (Pl.pal (l.take 0)))) 63
  rw [← hu_, ← hg_]
  have S12 : Hid (St w noB [blk g10 63 (blc (Pl.seen (Pl.pal (l.take 0))))] U11) := Lib.hid hS_
  clear S7
  clear hg_ hu_ hS_ hg9 ez_
  refine wpG_done (fun V13 hv14 => ?_)
  have S15 : Hid (St w noB [blk g10 63 (blc (Pl.seen (Pl.pal (l.take 0))))] V13) := Lib.hid (S12.out.gr hv14)
  clear S12
  clear hv14
  refine ⟨rfl, hK _ _ ?_⟩
  clear hK
  go_upto_region 3 with fail
  refine wpG_region_k (fun K hK => ?_)
  refine @wpG_p _ _ _ _ _ (some 7) (.slice A n c) _ _ rfl (by rfl) (fun _ => rfl) ?_
  simp only [n1, n3, n4]
  refine @wpG_p _ _ _ _ _ (some 8) (.int .i64 (n : Int)) _ _ rfl (by rfl) (fun W => by go_simp) ?_
  simp only [n1, n3, n4]
  refine @wpG_p _ _ _ _ _ (some 9) (.int .i64 0) _ _ rfl (by rfl) (fun _ => rfl) ?_
  simp only [n1, n3, n4]
  refine wpG_done (fun V16 hv17 => ?_)
  have S18 : Hid (St w noB [blk g10 63 (blc (Pl.seen (Pl.pal (l.take 0))))] V16) := Lib.hid (S15.out.gr hv17)
  clear S15
  clear hv17
  refine ⟨rfl, hK _ _ ?_⟩
  clear hK
  have S19 : Hid (St w noB [own (.slice none 0 0) 3 1 0 (ic (Pl.pal (l.take 0))), blk g10 63 (blc (Pl.seen (Pl.pal (l.take 0))))] V16) := Lib.hid (S18.out.nilOwn 3 1)
  clear S18
  go_wp2_with fail
  go_loopw [3, 9] (fun v3 v9 wr => ∃ (E : Option Addr) (d k m : Nat), v3 = .slice E m d ∧ v9 = .int .i64 (k : Int) ∧ k ≤ n ∧ m ≤ k ∧ St w noB [own (.slice E m d) 3 1 m (ic (Pl.pal (l.take k))), blk g10 63 (blc (Pl.seen (Pl.pal (l.take k))))] wr) (fun a i _ => n - (intOf i).toNat)
  case atStart => exact ⟨none, 0, 0, 0, rfl, rfl, Nat.zero_le _, Nat.le_refl _, S19.out⟩
  case round =>
    obtain ⟨E, d, k, m, rfl, rfl, hkn, hmk, hS⟩ := hrel
    have SL := Lib.hid hS
    clear S19 hS
    have S20 := SL
    clear SL
    go_upto_region 4 with fail
    refine wpG_region_k (fun K hK => ?_)
    refine @wpG_p _ _ _ _ _ (some 10) (.bool (decide ((k : Int) < (n : Int)))) _ _ rfl (by rfl) (fun W => op_int_lss W (k : Int) (n : Int) rfl rfl rfl Try.underlying3) ?_
    simp only [n1, n3, n4]
    refine wpG_done (fun V21 hv22 => ?_)
    have S23 : Hid (St w noB [own (.slice E m d) 3 1 m (ic (Pl.pal (l.take k))), blk g10 63 (blc (Pl.seen (Pl.pal (l.take k))))] V21) := Lib.hid (S20.out.gr hv22)
    clear S20
    clear hv22
    refine ⟨rfl, hK _ _ ?_⟩
    clear hK
    obtain ⟨c24, hc24⟩ : ∃ q_, q_ = (decide ((k : Int) < (n : Int))) := ⟨_, rfl⟩
    rw [← hc24]
    have Hc24 := Lib.hid hc24
    clear hc24
    cases c24 with
    | true =>
      have f25 := of_decide_eq_true Hc24.out.symm
      go_upto_region 5 with fail
      refine wpG_region_k (fun K hK => ?_)
      obtain ⟨b26, o26, rfl⟩ := HGA.out.addr (by decide) (by omega)
      refine @wpG_p _ _ _ _ _ (some 11) (.pointer (some ⟨b26, o26 + k, none⟩)) _ _ rfl (by rfl) (fun W => by (go_simp <;> first | rfl | omega | (simp; omega))) ?_
      simp only [n1, n3, n4]
      refine @wpG_r _ _ _ _ _ (some 12) (.int .i64 (l.getD k 0)) _ _ rfl (by rfl) (fun W hg => by have c := (((HGA.out.gr ((S23.out.gr hg)).bel).int (l := l) k (by (have := HLEN.out; omega)))) 0 _ rfl; (try simp only [Nat.add_zero, Nat.zero_add] at c); go_simp) ?_
      simp only [n1, n3, n4]
      refine @wpG_p _ _ _ _ _ (some 6) (.int .i64 (l.getD k 0)) _ _ rfl (by rfl) (fun _ => rfl) ?_
      simp only [n1, n3, n4]
      refine wpG_done (fun V27 hv28 => ?_)
      have S29 : Hid (St w noB [own (.slice E m d) 3 1 m (ic (Pl.pal (l.take k))), blk g10 63 (blc (Pl.seen (Pl.pal (l.take k))))] V27) := Lib.hid (S23.out.gr hv28)
      clear S23
      clear hv28
      refine ⟨rfl, hK _ _ ?_⟩
      clear hK
      go_upto_region 6 with fail
      refine wpG_region_k (fun K hK => ?_)
      refine @wpG_p _ _ _ _ _ (some 13) (.int .i64 (l.getD k 0)) _ _ rfl (by rfl) (fun _ => rfl) ?_
      simp only [n1, n3, n4]
      obtain ⟨hc0_, hc1_⟩ : _ ∧ _ := Pl.getD_cell HV.out (k := k) (by have := HLEN.out; omega)
      obtain ⟨q30, hq_⟩ : ∃ q_ : Nat, (l.getD k 0) = (q_ : Int) := ⟨((l.getD k 0)).toNat, by omega⟩
      rw [hq_]
      have HQq30 := Lib.hid hq_
      clear hq_
      have hqb : q30 < 256 := by have := HQq30.out; omega
      refine @wpG_p _ _ _ _ _ (some 14) (.pointer (some ⟨g10, q30, none⟩)) _ _ rfl (by rfl) (fun W => by (go_simp <;> first | rfl | omega | (simp; omega))) ?_
      simp only [n1, n3, n4]
      refine @wpG_r _ _ _ _ _ (some 15) (.bool (decide ((q30 : Int) ∈ Pl.pal (l.take k)))) _ _ rfl (by rfl) (fun W hg => by have c := ((S29.out.gr hg).row 1 rfl q30 (.bool (decide ((q30 : Int) ∈ Pl.pal (l.take k)))) (Pl.seen_at hqb)).1; go_simp) ?_
      simp only [n1, n3, n4]
      refine @wpG_p _ _ _ _ _ (some 16) (.bool (!(decide ((q30 : Int) ∈ Pl.pal (l.take k))))) _ _ rfl (by rfl) (fun W => by go_simp) ?_
      simp only [n1, n3, n4]
      refine wpG_done (fun V31 hv32 => ?_)
      have S33 : Hid (St w noB [own (.slice E m d) 3 1 m (ic (Pl.pal (l.take k))), blk g10 63 (blc (Pl.seen (Pl.pal (l.take k))))] V31) := Lib.hid (S29.out.gr hv32)
      clear S29
      clear hv32
      refine ⟨rfl, hK _ _ ?_⟩
      clear hK
      obtain ⟨c34, hc34⟩ : ∃ q_, q_ = (!(decide ((q30 : Int) ∈ Pl.pal (l.take k)))) := ⟨_, rfl⟩
      rw [← hc34]
      have Hc34 := Lib.hid hc34
      clear hc34
      cases c34 with
      | true =>
        have f35 := Lib.hid (of_decide_eq_false (bnt Hc34.out))
        go_upto_region 7 with fail
        refine wpG_region_k (fun K hK => ?_)
        refine @wpG_p _ _ _ _ _ (some 17) (.int .i64 (q30 : Int)) _ _ rfl (by rfl) (fun _ => rfl) ?_
        simp only [n1, n3, n4]
        refine @wpG_p _ _ _ _ _ (some 18) (.pointer (some ⟨g10, q30, none⟩)) _ _ rfl (by rfl) (fun W => by (go_simp <;> first | rfl | omega | (simp; omega))) ?_
        simp only [n1, n3, n4]
        refine wpG_store (none) rfl (by rfl) (fun W36 hg37 => ⟨W36.setCell ⟨g10, q30, none⟩ (.bool true), by have c_ := (S33.out.gr hg37).row 1 rfl q30 _ (Pl.seen_at hqb); have c := c_.1; have c2 := c_.2; go_simp, ?_⟩)
        simp only [n2]
        obtain ⟨U38, hu_, hS_⟩ := ((S33.out.gr hg37).put1 1 rfl q30 (.bool true)).named
        rw [← hu_]
        have hS2_ : St w noB [own (.slice E m d) 3 1 m (ic (Pl.pal (l.take k))), blk g10 63 (blc (Pl.seen (Pl.pal (l.take k) ++ [(q30 : Int)])))] U38 := by have h_ := hS_; simp only [List.set_cons_zero, List.set_cons_succ] at h_; rw [show (blc (Pl.seen (Pl.pal (l.take k)))).set q30 (.bool true) = blc (Pl.seen (Pl.pal (l.take k) ++ [(q30 : Int)])) from Pl.seen_set hqb] at h_; exact h_
        have S39 : Hid (St w noB [own (.slice E m d) 3 1 m (ic (Pl.pal (l.take k))), blk g10 63 (blc (Pl.seen (Pl.pal (l.take k) ++ [(q30 : Int)])))] U38) := Lib.hid hS2_
        clear S33
        clear hu_ hS_ hS2_ hg37
        refine wpG_done (fun V40 hv41 => ?_)
        have S42 : Hid (St w noB [own (.slice E m d) 3 1 m (ic (Pl.pal (l.take k))), blk g10 63 (blc (Pl.seen (Pl.pal (l.take k) ++ [(q30 : Int)])))] V40) := Lib.hid (S39.out.gr hv41)
        clear S39
        clear hv41
        refine ⟨rfl, hK _ _ ?_⟩
        clear hK
        go_upto_region 8 with fail
        refine wpG_region_k (fun K hK => ?_)
        refine @wpG_p _ _ _ _ _ (some 19) (.slice E m d) _ _ rfl (by rfl) (fun _ => rfl) ?_
        simp only [n1, n3, n4]
        refine @wpG_p _ _ _ _ _ (some 20) (.int .i64 (q30 : Int)) _ _ rfl (by rfl) (fun _ => rfl) ?_
        simp only [n1, n3, n4]
        refine wpG_val (some 21) rfl (by rfl) (fun W43 hg44 => ⟨.slice (some ⟨W43.heap.size, 0, none⟩) 1 1, W43.alloc (.cells #[.int .i64 (q30 : Int)] 3), by (go_simp <;> rfl), ?_⟩)
        simp only [n1, n3, n4]
        obtain ⟨g45, U46, hg_, hu_, hS_⟩ := (S42.out.gr hg44).made [.int .i64 (q30 : Int)] 3
        rw [← hu_, ← hg_]
        have S47 : Hid (St w noB [blk g45 3 [.int .i64 (q30 : Int)], own (.slice E m d) 3 1 m (ic (Pl.pal (l.take k))), blk g10 63 (blc (Pl.seen (Pl.pal (l.take k) ++ [(q30 : Int)])))] U46) := Lib.hid hS_
        clear S42
        clear hg_ hu_ hS_ hg44
        have S48 : Hid (St w noB [own (.slice E m d) 3 1 m (ic (Pl.pal (l.take k))), blk g45 3 [.int .i64 (q30 : Int)], blk g10 63 (blc (Pl.seen (Pl.pal (l.take k) ++ [(q30 : Int)])))] U46) := Lib.hid (S47.out.front 1 rfl)
        clear S47
        refine wpG_appS (some 22) rfl rfl (.tmp 19) (.tmp 21) 22 22 rfl 3 1 8 Try.underlying22 (by kernel_rfl) (.slice E m d) m (ic (Pl.pal (l.take k))) S48.out (.slice (some ⟨g45, 0, none⟩) 1 1) 1 [.int .i64 (q30 : Int)] (fun W hg => src_lies Try.underlying22 1 rfl (fun h => by cases h) (by intro u hu; simp at hu; rcases hu with rfl <;> rfl) ((S48.out.gr hg).liesBlk 1 rfl)) rfl rfl (by simp only [maxLen]; omega) (by omega) (fun v49 W50 hS_ => ?_)
        simp only [n1, n3, n4]
        rw [show ic (Pl.pal (l.take k)) ++ [.int .i64 (q30 : Int)] = ic ((Pl.pal (l.take k)) ++ [(q30 : Int)]) by simp [ic]] at hS_
        obtain ⟨A51, k52, rfl, hle_, hcap_, _⟩ := own_shape (hS_.ownr 0 rfl)
        have S53 : Hid (St w noB [own (.slice A51 (m + 1) k52) 3 1 (m + 1) (ic ((Pl.pal (l.take k)) ++ [(q30 : Int)])), blk g45 3 [.int .i64 (q30 : Int)], blk g10 63 (blc (Pl.seen (Pl.pal (l.take k) ++ [(q30 : Int)])))] W50) := Lib.hid hS_
        clear S48
        clear hS_
        refine @wpG_p _ _ _ _ _ (some 3) (.slice A51 (m + 1) k52) _ _ rfl (by rfl) (fun _ => rfl) ?_
        simp only [n1, n3, n4]
        refine wpG_done (fun V54 hv55 => ?_)
        have S56 : Hid (St w noB [own (.slice A51 (m + 1) k52) 3 1 (m + 1) (ic ((Pl.pal (l.take k)) ++ [(q30 : Int)])), blk g45 3 [.int .i64 (q30 : Int)], blk g10 63 (blc (Pl.seen (Pl.pal (l.take k) ++ [(q30 : Int)])))] V54) := Lib.hid (S53.out.gr hv55)
        clear S53
        clear hv55
        refine ⟨rfl, hK _ _ ?_⟩
        clear hK
        go_upto_region 9 with fail
        refine wpG_region_k (fun K hK => ?_)
        refine @wpG_p _ _ _ _ _ (some 23) (.int .i64 ((k : Int) + 1)) _ _ rfl (by rfl) (fun W => op_i_add W (k : Int) 1 (by omega) rfl rfl rfl Try.underlying3) ?_
        simp only [n1, n3, n4]
        refine @wpG_p _ _ _ _ _ (some 9) (.int .i64 ((k : Int) + 1)) _ _ rfl (by rfl) (fun _ => rfl) ?_
        simp only [n1, n3, n4]
        refine wpG_done (fun V57 hv58 => ?_)
        have S59 : Hid (St w noB [own (.slice A51 (m + 1) k52) 3 1 (m + 1) (ic ((Pl.pal (l.take k)) ++ [(q30 : Int)])), blk g45 3 [.int .i64 (q30 : Int)], blk g10 63 (blc (Pl.seen (Pl.pal (l.take k) ++ [(q30 : Int)])))] V57) := Lib.hid (S56.out.gr hv58)
        clear S56
        clear hv58
        refine ⟨rfl, hK _ _ ?_⟩
        clear hK
        go_wp2_with fail
        go_roundw
        have S60 : Hid (St w noB [own (.slice A51 (m + 1) k52) 3 1 (m + 1) (ic ((Pl.pal (l.take k)) ++ [(q30 : Int)])), blk g10 63 (blc (Pl.seen (Pl.pal (l.take k) ++ [(q30 : Int)])))] V57) := Lib.hid (S59.out.sub (.cons_cons _ (.cons _ (.cons_cons _ .slnil))))
        clear S59
        case rel => exact ⟨A51, k52, k + 1, m + 1, (by first | rfl | go_num), (by first | rfl | go_num), (by omega), (by omega), (by have e_f35 := f35.out; rw [Pl.pal_seen_no (by have := HLEN.out; omega) HQq30.out (decide_eq_false e_f35)]; exact S60.out)⟩
        case measure => first | (simp only [intOf]; omega) | (simp [intOf]; done) | (simp [intOf]; omega) | omega
      | false =>
        have f61 := Lib.hid (of_decide_eq_true (bnf Hc34.out))
        go_upto_region 9 with fail
        refine wpG_region_k (fun K hK => ?_)
        refine @wpG_p _ _ _ _ _ (some 23) (.int .i64 ((k : Int) + 1)) _ _ rfl (by rfl) (fun W => op_i_add W (k : Int) 1 (by omega) rfl rfl rfl Try.underlying3) ?_
        simp only [n1, n3, n4]
        refine @wpG_p _ _ _ _ _ (some 9) (.int .i64 ((k : Int) + 1)) _ _ rfl (by rfl) (fun _ => rfl) ?_
        simp only [n1, n3, n4]
        refine wpG_done (fun V62 hv63 => ?_)
        have S64 : Hid (St w noB [own (.slice E m d) 3 1 m (ic (Pl.pal (l.take k))), blk g10 63 (blc (Pl.seen (Pl.pal (l.take k))))] V62) := Lib.hid (S33.out.gr hv63)
        clear S33
        clear hv63
        refine ⟨rfl, hK _ _ ?_⟩
        clear hK
        go_wp2_with fail
        go_roundw
        case rel => exact ⟨E, d, k + 1, m, (by first | rfl | go_num), (by first | rfl | go_num), (by omega), (by omega), (by have e_f61 := f61.out; rw [Pl.pal_seen_yes (by have := HLEN.out; omega) HQq30.out (decide_eq_true e_f61)]; exact S64.out)⟩
        case measure => first | (simp only [intOf]; omega) | (simp [intOf]; done) | (simp [intOf]; omega) | omega
    | false =>
      have f65 := of_decide_eq_false Hc24.out.symm
      go_upto_region 10 with fail
      refine wpG_region_k (fun K hK => ?_)
      refine @wpG_p _ _ _ _ _ (some 24) (.slice E m d) _ _ rfl (by rfl) (fun _ => rfl) ?_
      simp only [n1, n3, n4]
      refine @wpG_p _ _ _ _ _ (some 2) (.slice E m d) _ _ rfl (by rfl) (fun _ => rfl) ?_
      simp only [n1, n3, n4]
      refine wpG_done (fun V66 hv67 => ?_)
      have S68 : Hid (St w noB [own (.slice E m d) 3 1 m (ic (Pl.pal (l.take k))), blk g10 63 (blc (Pl.seen (Pl.pal (l.take k))))] V66) := Lib.hid (S23.out.gr hv67)
      clear S23
      clear hv67
      refine ⟨rfl, hK _ _ ?_⟩
      clear hK
      go_wp2_with fail
      go_ret
      exact ⟨E, m, d, rfl, (by have e_ : Pl.pal l = Pl.pal (l.take k) := (by rw [List.take_of_length_le (by have := HLEN.out; omega)]); rw [e_]; exact S68.out.sub (.cons_cons _ (.cons _ .slnil)))⟩
set_option maxRecDepth 1000000 in
set_option maxHeartbeats 4000000 in
theorem numbers_any (x : List UInt8) (w : World) (hx : x.length ≤ 1000) :
    Calls Try.prog 48 #[.string (bstr x)] w fun e w' => ∃ A n c, e = .returned (.slice A n c) ∧ St w noB [own (.slice A n c) 3 1 n (ic (Pl.ints x))] w' := by
  have S1 : Hid (St w noB [] w) := Lib.hid (St.start w)
  go_enter Try.func48, Try.ntmps48
  go_upto_region 0 with fail
  refine wpG_region_k (fun K hK => ?_)
  refine @wpG_p _ _ _ _ _ (some 2) (.slice none 0 0) _ _ rfl (by rfl) (fun _ => rfl) ?_
  simp only [n1, n3, n4]
  refine wpG_done (fun V2 hv3 => ?_)
  have S4 : Hid (St w noB [] V2) := Lib.hid (S1.out.gr hv3)
  clear S1
  clear hv3
  refine ⟨rfl, hK _ _ ?_⟩
  clear hK
  go_upto_region 1 with fail
  refine wpG_region_k (fun K hK => ?_)
  refine @wpG_p _ _ _ _ _ (some 5) (.string (bstr x)) _ _ rfl (by rfl) (fun _ => rfl) ?_
  simp only [n1, n3, n4]
  refine @wpG_p _ _ _ _ _ (some 6) (.int .i64 (x.length : Int)) _ _ rfl (by rfl) (fun W => op_str_len W x rfl rfl Try.underlying9) ?_
  simp only [n1, n3, n4]
  refine wpG_val (some 7) rfl (by rfl) (fun W5 hg6 => ?_)
  refine makez_ex 22 3 (.int .i64 0) rfl 8 (.tmp 6) (.tmp 6) rfl Try.underlying22 (by kernel_rfl) x.length x.length rfl rfl (by omega) (by omega) (by decide) W5 (S4.out.gr hg6) (fun g8 U7 hS_ => ?_)
  clear hg6
  simp only [n1, n3, n4]
  rw [show List.replicate x.length (.int .i64 0) = ic (List.replicate x.length 0) from (by simp [ic])] at hS_
  have S9 : Hid (St w noB [own (.slice (some ⟨g8, 0, none⟩) x.length x.length) 3 1 x.length (ic (List.replicate x.length 0))] U7) := Lib.hid hS_
  clear S4
  clear hS_
  refine @wpG_p _ _ _ _ _ (some 3) (.slice (some ⟨g8, 0, none⟩) x.length x.length) _ _ rfl (by rfl) (fun _ => rfl) ?_
  simp only [n1, n3, n4]
  refine wpG_done (fun V10 hv11 => ?_)
  have S12 : Hid (St w noB [own (.slice (some ⟨g8, 0, none⟩) x.length x.length) 3 1 x.length (ic (List.replicate x.length 0))] V10) := Lib.hid (S9.out.gr hv11)
  clear S9
  clear hv11
  refine ⟨rfl, hK _ _ ?_⟩
  clear hK
  go_upto_region 2 with fail
  refine wpG_region_k (fun K hK => ?_)
  refine @wpG_p _ _ _ _ _ (some 8) (.slice (some ⟨g8, 0, none⟩) x.length x.length) _ _ rfl (by rfl) (fun _ => rfl) ?_
  simp only [n1, n3, n4]
  refine @wpG_p _ _ _ _ _ (some 9) (.int .i64 (x.length : Int)) _ _ rfl (by rfl) (fun W => by go_simp) ?_
  simp only [n1, n3, n4]
  refine @wpG_p _ _ _ _ _ (some 10) (.int .i64 0) _ _ rfl (by rfl) (fun _ => rfl) ?_
  simp only [n1, n3, n4]
  refine wpG_done (fun V13 hv14 => ?_)
  have S15 : Hid (St w noB [own (.slice (some ⟨g8, 0, none⟩) x.length x.length) 3 1 x.length (ic (List.replicate x.length 0))] V13) := Lib.hid (S12.out.gr hv14)
  clear S12
  clear hv14
  refine ⟨rfl, hK _ _ ?_⟩
  clear hK
  have S16 : Hid (St w noB [own (.slice (some ⟨g8, 0, none⟩) x.length x.length) 3 1 x.length (ic (Pl.nums x 0))] V13) := Lib.hid (by have h_ := S15.out; rw [show ic (List.replicate x.length 0) = ic (Pl.nums x 0) from congrArg ic (Pl.nums_zero x)] at h_; exact h_)
  clear S15
  go_wp2_with fail
  go_loopw [10] (fun v10 wr => ∃ (k : Nat), v10 = .int .i64 (k : Int) ∧ k ≤ x.length ∧ St w noB [own (.slice (some ⟨g8, 0, none⟩) x.length x.length) 3 1 x.length (ic (Pl.nums x k))] wr) (fun i _ => x.length - (intOf i).toNat)
  case atStart => exact ⟨0, rfl, Nat.zero_le _, S16.out⟩
  case round =>
    obtain ⟨k, rfl, hkn, hS⟩ := hrel
    have SL := Lib.hid hS
    clear S16 hS
    have S17 := SL
    clear SL
    go_upto_region 3 with fail
    refine wpG_region_k (fun K hK => ?_)
    refine @wpG_p _ _ _ _ _ (some 11) (.bool (decide ((k : Int) < (x.length : Int)))) _ _ rfl (by rfl) (fun W => op_int_lss W (k : Int) (x.length : Int) rfl rfl rfl Try.underlying3) ?_
    simp only [n1, n3, n4]
    refine wpG_done (fun V18 hv19 => ?_)
    have S20 : Hid (St w noB [own (.slice (some ⟨g8, 0, none⟩) x.length x.length) 3 1 x.length (ic (Pl.nums x k))] V18) := Lib.hid (S17.out.gr hv19)
    clear S17
    clear hv19
    refine ⟨rfl, hK _ _ ?_⟩
    clear hK
    obtain ⟨c21, hc21⟩ : ∃ q_, q_ = (decide ((k : Int) < (x.length : Int))) := ⟨_, rfl⟩
    rw [← hc21]
    have Hc21 := Lib.hid hc21
    clear hc21
    cases c21 with
    | true =>
      have f22 := of_decide_eq_true Hc21.out.symm
      go_upto_region 4 with fail
      refine wpG_region_k (fun K hK => ?_)
      refine @wpG_p _ _ _ _ _ (some 12) (.int .i64 (k : Int)) _ _ rfl (by rfl) (fun _ => rfl) ?_
      simp only [n1, n3, n4]
      refine @wpG_p _ _ _ _ _ (some 4) (.int .i64 (k : Int)) _ _ rfl (by rfl) (fun _ => rfl) ?_
      simp only [n1, n3, n4]
      refine wpG_done (fun V23 hv24 => ?_)
      have S25 : Hid (St w noB [own (.slice (some ⟨g8, 0, none⟩) x.length x.length) 3 1 x.length (ic (Pl.nums x k))] V23) := Lib.hid (S20.out.gr hv24)
      clear S20
      clear hv24
      refine ⟨rfl, hK _ _ ?_⟩
      clear hK
      go_upto_region 5 with fail
      refine wpG_region_k (fun K hK => ?_)
      refine @wpG_p _ _ _ _ _ (some 13) (.slice (some ⟨g8, 0, none⟩) x.length x.length) _ _ rfl (by rfl) (fun _ => rfl) ?_
      simp only [n1, n3, n4]
      refine @wpG_p _ _ _ _ _ (some 14) (.int .i64 (k : Int)) _ _ rfl (by rfl) (fun _ => rfl) ?_
      simp only [n1, n3, n4]
      refine @wpG_p _ _ _ _ _ (some 15) (.string (bstr x)) _ _ rfl (by rfl) (fun _ => rfl) ?_
      simp only [n1, n3, n4]
      refine @wpG_p _ _ _ _ _ (some 16) (.int .i64 (k : Int)) _ _ rfl (by rfl) (fun _ => rfl) ?_
      simp only [n1, n3, n4]
      refine @wpG_p _ _ _ _ _ (some 17) (.int .u8 ((Ma.byt x k).toNat : Int)) _ _ rfl (by rfl) (fun W => op_str_idx W x k (by omega) rfl rfl rfl Try.underlying9) ?_
      simp only [n1, n3, n4]
      have hby_ := (Ma.byt x k).toNat_lt
      refine @wpG_p _ _ _ _ _ (some 18) (.int .i64 ((Ma.byt x k).toNat : Int)) _ _ rfl (by rfl) (fun W => op_conv_i64 W ((Ma.byt x k).toNat : Int) (by omega) rfl rfl Try.underlying5 Try.underlying3) ?_
      simp only [n1, n3, n4]
      have hix_ : k < x.length := by omega
      refine @wpG_p _ _ _ _ _ (some 19) (.pointer (some ⟨g8, k, none⟩)) _ _ rfl (by rfl) (fun W => by (go_simp <;> first | rfl | omega | (simp; omega))) ?_
      simp only [n1, n3, n4]
      refine wpG_store (none) rfl (by rfl) (fun W26 hg27 => ⟨W26.setCell ⟨g8, k, none⟩ (.int .i64 ((Ma.byt x k).toNat : Int)), by obtain ⟨⟨_, c⟩, c2⟩ := own_cell (k := k) ((S25.out.gr hg27).ownr 0 rfl) (by omega); go_simp, ?_⟩)
      simp only [n2]
      obtain ⟨U28, hu_, hS_⟩ := ((S25.out.gr hg27).ownPutAt 0 rfl (k := k) (by omega) (.int .i64 ((Ma.byt x k).toNat : Int))).named
      rw [← hu_]
      have hS2_ : St w noB [own (.slice (some ⟨g8, 0, none⟩) x.length x.length) 3 1 x.length (ic ((Pl.nums x k).set k ((Ma.byt x k).toNat : Int)))] U28 := by have h_ := hS_; rw [show (ic (Pl.nums x k)).set k (.int .i64 ((Ma.byt x k).toNat : Int)) = ic ((Pl.nums x k).set k ((Ma.byt x k).toNat : Int)) from ic_set _ _ _] at h_; exact h_
      clear hS_
      have hS_ := hS2_
      clear hS2_
      have S29 : Hid (St w noB [own (.slice (some ⟨g8, 0, none⟩) x.length x.length) 3 1 x.length (ic ((Pl.nums x k).set k ((Ma.byt x k).toNat : Int)))] U28) := Lib.hid hS_
      clear S25
      clear hu_ hS_ hg27
      refine wpG_done (fun V30 hv31 => ?_)
      have S32 : Hid (St w noB [own (.slice (some ⟨g8, 0, none⟩) x.length x.length) 3 1 x.length (ic ((Pl.nums x k).set k ((Ma.byt x k).toNat : Int)))] V30) := Lib.hid (S29.out.gr hv31)
      clear S29
      clear hv31
      refine ⟨rfl, hK _ _ ?_⟩
      clear hK
      go_upto_region 6 with fail
      refine wpG_region_k (fun K hK => ?_)
      refine @wpG_p _ _ _ _ _ (some 20) (.int .i64 ((k : Int) + 1)) _ _ rfl (by rfl) (fun W => op_i_add W (k : Int) 1 (by omega) rfl rfl rfl Try.underlying3) ?_
      simp only [n1, n3, n4]
      refine @wpG_p _ _ _ _ _ (some 10) (.int .i64 ((k : Int) + 1)) _ _ rfl (by rfl) (fun _ => rfl) ?_
      simp only [n1, n3, n4]
      refine wpG_done (fun V33 hv34 => ?_)
      have S35 : Hid (St w noB [own (.slice (some ⟨g8, 0, none⟩) x.length x.length) 3 1 x.length (ic ((Pl.nums x k).set k ((Ma.byt x k).toNat : Int)))] V33) := Lib.hid (S32.out.gr hv34)
      clear S32
      clear hv34
      refine ⟨rfl, hK _ _ ?_⟩
      clear hK
      go_wp2_with fail
      have hk_ : k < x.length := by omega
      go_roundw
      case rel => exact ⟨k + 1, (by first | rfl | go_num), (by omega), (by rw [← Pl.nums_set hk_]; exact S35.out)⟩
      case measure => first | (simp only [intOf]; omega) | (simp [intOf]; done) | (simp [intOf]; omega) | omega
    | false =>
      have f36 := of_decide_eq_false Hc21.out.symm
      go_upto_region 7 with fail
      refine wpG_region_k (fun K hK => ?_)
      refine @wpG_p _ _ _ _ _ (some 21) (.slice (some ⟨g8, 0, none⟩) x.length x.length) _ _ rfl (by rfl) (fun _ => rfl) ?_
      simp only [n1, n3, n4]
      refine @wpG_p _ _ _ _ _ (some 2) (.slice (some ⟨g8, 0, none⟩) x.length x.length) _ _ rfl (by rfl) (fun _ => rfl) ?_
      simp only [n1, n3, n4]
      refine wpG_done (fun V37 hv38 => ?_)
      have S39 : Hid (St w noB [own (.slice (some ⟨g8, 0, none⟩) x.length x.length) 3 1 x.length (ic (Pl.nums x k))] V37) := Lib.hid (S20.out.gr hv38)
      clear S20
      clear hv38
      refine ⟨rfl, hK _ _ ?_⟩
      clear hK
      go_wp2_with fail
      go_ret
      exact ⟨some ⟨g8, 0, none⟩, x.length, x.length, rfl, (by have e_ : Pl.ints x = Pl.nums x k := (by rw [← Pl.nums_all x, show x.length = k by omega]); rw [e_]; exact S39.out)⟩
set_option maxRecDepth 1000000 in
set_option maxHeartbeats 4000000 in
theorem text_any (A : Option Addr) (n c : Nat) (x : List UInt8) (w : World) (hG : SL w 1 A n c (bc x)) :
    Calls Try.prog 26 #[.slice A n c] w fun e w' => e = .returned (.string (bstr x)) ∧ Below w.heap.size w w' := by
  have HGA := Lib.hid hG
  clear hG
  have S1 : Hid (St w noB [] w) := Lib.hid (St.start w)
  go_enter Try.func26, Try.ntmps26
  go_upto_region 0 with fail
  refine wpG_region_k (fun K hK => ?_)
  refine @wpG_p _ _ _ _ _ (some 2) (.string ⟨#[]⟩) _ _ rfl (by rfl) (fun _ => rfl) ?_
  simp only [n1, n3, n4]
  refine wpG_done (fun V2 hv3 => ?_)
  have S4 : Hid (St w noB [] V2) := Lib.hid (S1.out.gr hv3)
  clear S1
  clear hv3
  refine ⟨rfl, hK _ _ ?_⟩
  clear hK
  go_upto_region 1 with fail
  refine wpG_region_k (fun K hK => ?_)
  refine @wpG_p _ _ _ _ _ (some 3) (.slice A n c) _ _ rfl (by rfl) (fun _ => rfl) ?_
  simp only [n1, n3, n4]
  refine @wpG_r _ _ _ _ _ (some 4) (.string (bstr x)) _ _ rfl (by rfl) (fun W hg => by exact op_conv_str (HGA.out.gr (S4.out.gr hg).bel) rfl rfl Try.underlying43 Try.underlying5 Try.underlying9) ?_
  simp only [n1, n3, n4]
  refine @wpG_p _ _ _ _ _ (some 2) (.string (bstr x)) _ _ rfl (by rfl) (fun _ => rfl) ?_
  simp only [n1, n3, n4]
  refine wpG_done (fun V5 hv6 => ?_)
  have S7 : Hid (St w noB [] V5) := Lib.hid (S4.out.gr hv6)
  clear S4
  clear hv6
  refine ⟨rfl, hK _ _ ?_⟩
  clear hK
  go_wp2_with fail
  go_ret
  refine ⟨?_, S7.out.bel⟩
  show Ending.returned (.string (bstr x)) = _
  (first | rfl | (rfl))
set_option maxRecDepth 1000000 in
set_option maxHeartbeats 4000000 in
theorem putMask1_any (b : Bool) (w : World) :
    Calls Try.prog 52 #[.bool b] w fun e w' => e = .returned (.int .i64 ((b.toNat : Nat) : Int)) ∧ Below w.heap.size w w' := by
  have S1 : Hid (St w noB [] w) := Lib.hid (St.start w)
  go_enter Try.func52, Try.ntmps52
  go_upto_region 0 with fail
  refine wpG_region_k (fun K hK => ?_)
  refine @wpG_p _ _ _ _ _ (some 2) (.int .i64 0) _ _ rfl (by rfl) (fun _ => rfl) ?_
  simp only [n1, n3, n4]
  refine wpG_done (fun V2 hv3 => ?_)
  have S4 : Hid (St w noB [] V2) := Lib.hid (S1.out.gr hv3)
  clear S1
  clear hv3
  refine ⟨rfl, hK _ _ ?_⟩
  clear hK
  go_upto_region 1 with fail
  refine wpG_region_k (fun K hK => ?_)
  refine @wpG_p _ _ _ _ _ (some 3) (.bool b) _ _ rfl (by rfl) (fun _ => rfl) ?_
  simp only [n1, n3, n4]
  refine wpG_done (fun V5 hv6 => ?_)
  have S7 : Hid (St w noB [] V5) := Lib.hid (S4.out.gr hv6)
  clear S4
  clear hv6
  refine ⟨rfl, hK _ _ ?_⟩
  clear hK
  cases b with
  | true =>
    go_upto_region 2 with fail
    refine wpG_region_k (fun K hK => ?_)
    refine @wpG_p _ _ _ _ _ (some 2) (.int .i64 1) _ _ rfl (by rfl) (fun _ => rfl) ?_
    simp only [n1, n3, n4]
    refine wpG_done (fun V8 hv9 => ?_)
    have S10 : Hid (St w noB [] V8) := Lib.hid (S7.out.gr hv9)
    clear S7
    clear hv9
    refine ⟨rfl, hK _ _ ?_⟩
    clear hK
    go_wp2_with fail
    go_ret
    refine ⟨?_, S10.out.bel⟩
    show Ending.returned (.int .i64 1) = _
    (first | rfl | (rfl))
  | false =>
    go_upto_region 3 with fail
    refine wpG_region_k (fun K hK => ?_)
    refine @wpG_p _ _ _ _ _ (some 2) (.int .i64 0) _ _ rfl (by rfl) (fun _ => rfl) ?_
    simp only [n1, n3, n4]
    refine wpG_done (fun V11 hv12 => ?_)
    have S13 : Hid (St w noB [] V11) := Lib.hid (S7.out.gr hv12)
    clear S7
    clear hv12
    refine ⟨rfl, hK _ _ ?_⟩
    clear hK
    go_wp2_with fail
    go_ret
    refine ⟨?_, S13.out.bel⟩
    show Ending.returned (.int .i64 0) = _
    (first | rfl | (rfl))
set_option maxRecDepth 1000000 in
set_option maxHeartbeats 4000000 in
theorem pack1_any (v g : Nat) (pls : List Int) (w : World) (hP : SL w 1 (some ⟨g, 0, none⟩) 256 256 (ic pls)) (hv : v < 256) :
    Calls Try.prog 31 #[.int .i64 (v : Int), .pointer (some ⟨g, 0, none⟩)] w fun e w' => e = .returned (.int .i64 (pls.getD v 0)) ∧ Below w.heap.size w w' := by
  have HPL := Lib.hid hP
  have hpl : pls.length = 256 := by have := hP.len; rw [ic_len] at this; omega
  clear hP
  have S1 : Hid (St w noB [] w) := Lib.hid (St.start w)
  go_enter Try.func31, Try.ntmps31
  go_upto_region 0 with fail
  refine wpG_region_k (fun K hK => ?_)
  refine @wpG_p _ _ _ _ _ (some 3) (.int .i64 0) _ _ rfl (by rfl) (fun _ => rfl) ?_
  simp only [n1, n3, n4]
  refine wpG_done (fun V2 hv3 => ?_)
  have S4 : Hid (St w noB [] V2) := Lib.hid (S1.out.gr hv3)
  clear S1
  clear hv3
  refine ⟨rfl, hK _ _ ?_⟩
  clear hK
  go_upto_region 1 with fail
  refine wpG_region_k (fun K hK => ?_)
  refine @wpG_p _ _ _ _ _ (some 4) (.int .i64 (v : Int)) _ _ rfl (by rfl) (fun _ => rfl) ?_
  simp only [n1, n3, n4]
  refine @wpG_p _ _ _ _ _ (some 5) (.pointer (some ⟨g, v, none⟩)) _ _ rfl (by rfl) (fun W => by (go_simp <;> first | rfl | omega | (simp; omega))) ?_
  simp only [n1, n3, n4]
  refine @wpG_r _ _ _ _ _ (some 6) (.int .i64 (pls.getD v 0)) _ _ rfl (by rfl) (fun W hg => by have c := (HPL.out.gr (S4.out.gr hg).bel).at_ (k := v) (ic_at1 (by omega)); (try simp only [Nat.zero_add] at c); go_simp) ?_
  simp only [n1, n3, n4]
  refine @wpG_p _ _ _ _ _ (some 3) (.int .i64 (pls.getD v 0)) _ _ rfl (by rfl) (fun _ => rfl) ?_
  simp only [n1, n3, n4]
  refine wpG_done (fun V5 hv6 => ?_)
  have S7 : Hid (St w noB [] V5) := Lib.hid (S4.out.gr hv6)
  clear S4
  clear hv6
  refine ⟨rfl, hK _ _ ?_⟩
  clear hK
  go_wp2_with fail
  go_ret
  refine ⟨?_, S7.out.bel⟩
  show Ending.returned (.int .i64 (pls.getD v 0)) = _
  (first | rfl | (rfl))

end Go.Proofs.Ytfomieekdbkcnaa
