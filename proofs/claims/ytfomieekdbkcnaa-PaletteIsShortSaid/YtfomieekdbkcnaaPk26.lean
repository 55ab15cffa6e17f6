/-
  Contracts of package palette: Delta, Patch.
-/
import Derived.Test.YtfomieekdbkcnaaPk25
import Derived.Handy
namespace Go.Proofs.Ytfomieekdbkcnaa
open Go Go.RowKit
set_option linter.unusedVariables false
set_option linter.unusedSimpArgs false
set_option maxRecDepth 1000000 in
set_option maxHeartbeats 4000000 in
theorem delta_any (A : Option Addr) (n c : Nat) (l : List Int) (A2 : Option Addr) (m2 c2 : Nat) (l2 : List Int) (w : World) (hG : SL w 1 A n c (ic l)) (hG2 : SL w 1 A2 m2 c2 (ic l2)) (hb : n ≤ 1000) (hb2 : m2 ≤ 1000) :
    Calls Try.prog 22 #[.slice A n c, .slice A2 m2 c2] w fun e w' => e = .returned (.tuple #[.string (bstr (Pl.dS l l2)), .int .i64 (Pl.dE l l2)]) ∧ Below w.heap.size w w' := by
  have HGA := Lib.hid hG
  have HLEN : Hid (l.length = n) := Lib.hid (by have h_ := hG.len; rw [ic_len] at h_; omega)
  have hnbHGA : n ≤ 9223372036854775807 := Nat.le_trans hG.cap hG.bnd
  clear hG
  have HGB := Lib.hid hG2
  have HLEN2 : Hid (l2.length = m2) := Lib.hid (by have h_ := hG2.len; rw [ic_len] at h_; omega)
  have hnbHGB : m2 ≤ 9223372036854775807 := Nat.le_trans hG2.cap hG2.bnd
  clear hG2
  have S1 : Hid (St w noB [] w) := Lib.hid (St.start w)
  go_enter Try.func22, Try.ntmps22
  go_upto_region 0 with fail
  refine wpG_region_k (fun K hK => ?_)
  refine @wpG_p _ _ _ _ _ (some 4) (.string ⟨#[]⟩) _ _ rfl (by rfl) (fun _ => rfl) ?_
  simp only [n1, n3, n4]
  refine @wpG_p _ _ _ _ _ (some 5) (.int .i64 0) _ _ rfl (by rfl) (fun _ => rfl) ?_
  simp only [n1, n3, n4]
  refine wpG_done (fun V2 hv3 => ?_)
  have S4 : Hid (St w noB [] V2) := Lib.hid (S1.out.gr hv3)
  clear S1
  clear hv3
  refine ⟨rfl, hK _ _ ?_⟩
  clear hK
  go_upto_region 1 with fail
  refine wpG_region_k (fun K hK => ?_)
  refine @wpG_p _ _ _ _ _ (some 12) (.slice A n c) _ _ rfl (by rfl) (fun _ => rfl) ?_
  simp only [n1, n3, n4]
  refine @wpG_tk _ _ _ _ _ (some 13) (.bool (Pl.bk l)) _ _ rfl (.call (f := 40) (args := #[.slice A n c]) (by rfl) (fun W => by go_simp) (fun W hg => brick_any _ _ _ l W (HGA.out.gr (S4.out.gr hg).bel))) ?_
  simp only [n1, n3, n4]
  refine @wpG_p _ _ _ _ _ (some 14) (.bool (!(Pl.bk l))) _ _ rfl (by rfl) (fun W => by go_simp) ?_
  simp only [n1, n3, n4]
  refine @wpG_p _ _ _ _ _ (some 15) (.bool (!(Pl.bk l))) _ _ rfl (by rfl) (fun _ => rfl) ?_
  simp only [n1, n3, n4]
  obtain ⟨c5, hc5⟩ : ∃ q_, q_ = (!(Pl.bk l)) := ⟨_, rfl⟩
  rw [← hc5]
  have Hc5 := Lib.hid hc5
  clear hc5
  cases c5 with
  | true =>
    have f6 := Lib.hid ((bnt Hc5.out))
    refine @wpG_no _ _ _ _ _ (some 16) _ _ rfl (by rfl) ?_
    simp only [n1, n3, n4]
    refine @wpG_no _ _ _ _ _ (some 17) _ _ rfl (by rfl) ?_
    simp only [n1, n3, n4]
    refine @wpG_no _ _ _ _ _ (some 18) _ _ rfl (by rfl) ?_
    simp only [n1, n3, n4]
    refine @wpG_p _ _ _ _ _ (some 19) (.bool true) _ _ rfl (by rfl) (fun W => by go_simp) ?_
    simp only [n1, n3, n4]
    refine wpG_done (fun V7 hv8 => ?_)
    have S9 : Hid (St w noB [] V7) := Lib.hid (S4.out.gr hv8)
    clear S4
    clear hv8
    refine ⟨rfl, hK _ _ ?_⟩
    clear hK
    go_upto_region 2 with fail
    refine wpG_region_k (fun K hK => ?_)
    refine @wpG_p _ _ _ _ _ (some 4) (.string ⟨#[]⟩) _ _ rfl (by rfl) (fun _ => rfl) ?_
    simp only [n1, n3, n4]
    refine @wpG_p _ _ _ _ _ (some 5) (.int .i64 1) _ _ rfl (by rfl) (fun _ => rfl) ?_
    simp only [n1, n3, n4]
    refine wpG_done (fun V10 hv11 => ?_)
    have S12 : Hid (St w noB [] V10) := Lib.hid (S9.out.gr hv11)
    clear S9
    clear hv11
    refine ⟨rfl, hK _ _ ?_⟩
    clear hK
    go_wp2_with fail
    go_ret2
    refine ⟨?_, S12.out.bel⟩
    show Ending.returned (.tuple #[.string ⟨#[]⟩, .int .i64 1]) = _
    (have e_f6 := f6.out; obtain ⟨e1_, e2_⟩ := Pl.d_no (a := l) (b := l2) (by first | exact .inl (by simpa using e_f6) | exact .inr (by simpa using e_f6)); rw [e1_, e2_]; rfl)
  | false =>
    have f13 := Lib.hid ((bnf Hc5.out))
    have HB1 : Hid (Pl.bk l = true) := Lib.hid (by have h_ := f13.out; simpa using h_)
    have h64a_ : n ≤ 64 ∧ 64 ≤ n := by have h_ := (Pl.bk_vc HB1.out).1; have h2_ := HLEN.out; omega
    refine @wpG_p _ _ _ _ _ (some 16) (.slice A2 m2 c2) _ _ rfl (by rfl) (fun _ => rfl) ?_
    simp only [n1, n3, n4]
    refine @wpG_tk _ _ _ _ _ (some 17) (.bool (Pl.bk l2)) _ _ rfl (.call (f := 40) (args := #[.slice A2 m2 c2]) (by rfl) (fun W => by go_simp) (fun W hg => brick_any _ _ _ l2 W (HGB.out.gr (S4.out.gr hg).bel))) ?_
    simp only [n1, n3, n4]
    refine @wpG_p _ _ _ _ _ (some 18) (.bool (!(Pl.bk l2))) _ _ rfl (by rfl) (fun W => by go_simp) ?_
    simp only [n1, n3, n4]
    refine @wpG_p _ _ _ _ _ (some 19) (.bool (!(Pl.bk l2))) _ _ rfl (by rfl) (fun W => by go_simp) ?_
    simp only [n1, n3, n4]
    refine wpG_done (fun V14 hv15 => ?_)
    have S16 : Hid (St w noB [] V14) := Lib.hid (S4.out.gr hv15)
    clear S4
    clear hv15
    refine ⟨rfl, hK _ _ ?_⟩
    clear hK
    obtain ⟨c17, hc17⟩ : ∃ q_, q_ = (!(Pl.bk l2)) := ⟨_, rfl⟩
    rw [← hc17]
    have Hc17 := Lib.hid hc17
    clear hc17
    cases c17 with
    | true =>
      have f18 := Lib.hid ((bnt Hc17.out))
      go_upto_region 2 with fail
      refine wpG_region_k (fun K hK => ?_)
      refine @wpG_p _ _ _ _ _ (some 4) (.string ⟨#[]⟩) _ _ rfl (by rfl) (fun _ => rfl) ?_
      simp only [n1, n3, n4]
      refine @wpG_p _ _ _ _ _ (some 5) (.int .i64 1) _ _ rfl (by rfl) (fun _ => rfl) ?_
      simp only [n1, n3, n4]
      refine wpG_done (fun V19 hv20 => ?_)
      have S21 : Hid (St w noB [] V19) := Lib.hid (S16.out.gr hv20)
      clear S16
      clear hv20
      refine ⟨rfl, hK _ _ ?_⟩
      clear hK
      go_wp2_with fail
      go_ret2
      refine ⟨?_, S21.out.bel⟩
      show Ending.returned (.tuple #[.string ⟨#[]⟩, .int .i64 1]) = _
      (have e_f13 := f13.out; have e_f18 := f18.out; obtain ⟨e1_, e2_⟩ := Pl.d_no (a := l) (b := l2) (by first | exact .inl (by simpa using e_f18) | exact .inr (by simpa using e_f18)); rw [e1_, e2_]; rfl)
    | false =>
      have f22 := Lib.hid ((bnf Hc17.out))
      have HB2 : Hid (Pl.bk l2 = true) := Lib.hid (by have h_ := f22.out; simpa using h_)
      have h64b_ : m2 ≤ 64 ∧ 64 ≤ m2 := by have h_ := (Pl.bk_vc HB2.out).1; have h2_ := HLEN2.out; omega
      go_upto_region 3 with fail
      refine wpG_region_k (fun K hK => ?_)
      have ez_ : (List.replicate 64 (.bool false)).toArray = (blc (Pl.dfs l l2 0)).toArray := by rw [Pl.dfs_zero]
      refine wpG_val (some 6) rfl (by rfl) (fun W23 hg24 => ⟨.pointer (some ⟨W23.heap.size, 0, none⟩), W23.alloc (.cells (blc (Pl.dfs l l2 0)).toArray 57), by rw [← ez_]; first | kernel_rfl | (go_simp; done) | (go_simp <;> rfl), ?_⟩)
      simp only [n1, n3, n4]
      obtain ⟨g25, U26, hg_, hu_, hS_⟩ := (S16.out.gr hg24).made (blc (Pl.dfs l l2 0)) 57
      rw [← hu_, ← hg_]
      have S27 : Hid (St w noB [blk g25 57 (blc (Pl.dfs l l2 0))] U26) := Lib.hid hS_
      clear S16
      clear hg_ hu_ hS_ hg24 ez_
      refine wpG_done (fun V28 hv29 => ?_)
      have S30 : Hid (St w noB [blk g25 57 (blc (Pl.dfs l l2 0))] V28) := Lib.hid (S27.out.gr hv29)
      clear S27
      clear hv29
      refine ⟨rfl, hK _ _ ?_⟩
      clear hK
      go_upto_region 4 with fail
      refine wpG_region_k (fun K hK => ?_)
      refine @wpG_p _ _ _ _ _ (some 7) (.slice none 0 0) _ _ rfl (by rfl) (fun _ => rfl) ?_
      simp only [n1, n3, n4]
      refine wpG_done (fun V31 hv32 => ?_)
      have S33 : Hid (St w noB [blk g25 57 (blc (Pl.dfs l l2 0))] V31) := Lib.hid (S30.out.gr hv32)
      clear S30
      clear hv32
      refine ⟨rfl, hK _ _ ?_⟩
      clear hK
      go_upto_region 5 with fail
      refine wpG_region_k (fun K hK => ?_)
      refine @wpG_p _ _ _ _ _ (some 20) (.slice A2 m2 c2) _ _ rfl (by rfl) (fun _ => rfl) ?_
      simp only [n1, n3, n4]
      refine @wpG_p _ _ _ _ _ (some 21) (.int .i64 (m2 : Int)) _ _ rfl (by rfl) (fun W => by go_simp) ?_
      simp only [n1, n3, n4]
      refine @wpG_p _ _ _ _ _ (some 22) (.int .i64 0) _ _ rfl (by rfl) (fun _ => rfl) ?_
      simp only [n1, n3, n4]
      refine wpG_done (fun V34 hv35 => ?_)
      have S36 : Hid (St w noB [blk g25 57 (blc (Pl.dfs l l2 0))] V34) := Lib.hid (S33.out.gr hv35)
      clear S33
      clear hv35
      refine ⟨rfl, hK _ _ ?_⟩
      clear hK
      have S37 : Hid (St w noB [own (.slice none 0 0) 3 1 0 (ic (Pl.dc l l2 0)), blk g25 57 (blc (Pl.dfs l l2 0))] V34) := Lib.hid (S36.out.nilOwn 3 1)
      clear S36
      go_wp2_with fail
      go_loopw [7, 22] (fun v7 v22 wr => ∃ (E : Option Addr) (q d k : Nat), v7 = .slice E q d ∧ v22 = .int .i64 (k : Int) ∧ k ≤ 64 ∧ q ≤ k ∧ St w noB [own (.slice E q d) 3 1 q (ic (Pl.dc l l2 k)), blk g25 57 (blc (Pl.dfs l l2 k))] wr) (fun a i _ => 64 - (intOf i).toNat)
      case atStart => exact ⟨none, 0, 0, 0, rfl, rfl, (by decide), Nat.le_refl _, S37.out⟩
      case round =>
        obtain ⟨E, q, d, k, rfl, rfl, hk64, hqk, hS⟩ := hrel
        have SL := Lib.hid hS
        clear S37 hS
        have S38 := SL
        clear SL
        go_upto_region 6 with fail
        refine wpG_region_k (fun K hK => ?_)
        refine @wpG_p _ _ _ _ _ (some 23) (.bool (decide ((k : Int) < (m2 : Int)))) _ _ rfl (by rfl) (fun W => op_int_lss W (k : Int) (m2 : Int) rfl rfl rfl Try.underlying3) ?_
        simp only [n1, n3, n4]
        refine wpG_done (fun V39 hv40 => ?_)
        have S41 : Hid (St w noB [own (.slice E q d) 3 1 q (ic (Pl.dc l l2 k)), blk g25 57 (blc (Pl.dfs l l2 k))] V39) := Lib.hid (S38.out.gr hv40)
        clear S38
        clear hv40
        refine ⟨rfl, hK _ _ ?_⟩
        clear hK
        obtain ⟨c42, hc42⟩ : ∃ q_, q_ = (decide ((k : Int) < (m2 : Int))) := ⟨_, rfl⟩
        rw [← hc42]
        have Hc42 := Lib.hid hc42
        clear hc42
        cases c42 with
        | true =>
          have f43 := of_decide_eq_true Hc42.out.symm
          go_upto_region 7 with fail
          refine wpG_region_k (fun K hK => ?_)
          refine @wpG_p _ _ _ _ _ (some 24) (.int .i64 (k : Int)) _ _ rfl (by rfl) (fun _ => rfl) ?_
          simp only [n1, n3, n4]
          obtain ⟨b44, o44, rfl⟩ := HGB.out.addr (by decide) (by omega)
          refine @wpG_p _ _ _ _ _ (some 25) (.pointer (some ⟨b44, o44 + k, none⟩)) _ _ rfl (by rfl) (fun W => by (go_simp <;> first | rfl | omega | (simp; omega))) ?_
          simp only [n1, n3, n4]
          refine @wpG_r _ _ _ _ _ (some 26) (.int .i64 (l2.getD k 0)) _ _ rfl (by rfl) (fun W hg => by have c := (((HGB.out.gr ((S41.out.gr hg)).bel).int (l := l2) k (by (first | (have := HLEN.out; omega) | (have := HLEN2.out; omega))))) 0 _ rfl; (try simp only [Nat.add_zero, Nat.zero_add] at c); go_simp) ?_
          simp only [n1, n3, n4]
          refine @wpG_p _ _ _ _ _ (some 8) (.int .i64 (k : Int)) _ _ rfl (by rfl) (fun _ => rfl) ?_
          simp only [n1, n3, n4]
          refine @wpG_p _ _ _ _ _ (some 9) (.int .i64 (l2.getD k 0)) _ _ rfl (by rfl) (fun _ => rfl) ?_
          simp only [n1, n3, n4]
          refine wpG_done (fun V45 hv46 => ?_)
          have S47 : Hid (St w noB [own (.slice E q d) 3 1 q (ic (Pl.dc l l2 k)), blk g25 57 (blc (Pl.dfs l l2 k))] V45) := Lib.hid (S41.out.gr hv46)
          clear S41
          clear hv46
          refine ⟨rfl, hK _ _ ?_⟩
          clear hK
          go_upto_region 8 with fail
          refine wpG_region_k (fun K hK => ?_)
          refine @wpG_p _ _ _ _ _ (some 27) (.int .i64 (l2.getD k 0)) _ _ rfl (by rfl) (fun _ => rfl) ?_
          simp only [n1, n3, n4]
          refine @wpG_p _ _ _ _ _ (some 28) (.slice A n c) _ _ rfl (by rfl) (fun _ => rfl) ?_
          simp only [n1, n3, n4]
          refine @wpG_p _ _ _ _ _ (some 29) (.int .i64 (k : Int)) _ _ rfl (by rfl) (fun _ => rfl) ?_
          simp only [n1, n3, n4]
          obtain ⟨b48, o48, rfl⟩ := HGA.out.addr (by decide) (by omega)
          refine @wpG_p _ _ _ _ _ (some 30) (.pointer (some ⟨b48, o48 + k, none⟩)) _ _ rfl (by rfl) (fun W => by (go_simp <;> first | rfl | omega | (simp; omega))) ?_
          simp only [n1, n3, n4]
          refine @wpG_r _ _ _ _ _ (some 31) (.int .i64 (l.getD k 0)) _ _ rfl (by rfl) (fun W hg => by have c := (((HGA.out.gr ((S47.out.gr hg)).bel).int (l := l) k (by (first | (have := HLEN.out; omega) | (have := HLEN2.out; omega))))) 0 _ rfl; (try simp only [Nat.add_zero, Nat.zero_add] at c); go_simp) ?_
          simp only [n1, n3, n4]
          refine @wpG_p _ _ _ _ _ (some 32) (.bool (decide ((l2.getD k 0) ≠ (l.getD k 0)))) _ _ rfl (by rfl) (fun W => op_int_neq W (l2.getD k 0) (l.getD k 0) rfl rfl rfl Try.underlying3) ?_
          simp only [n1, n3, n4]
          refine wpG_done (fun V49 hv50 => ?_)
          have S51 : Hid (St w noB [own (.slice E q d) 3 1 q (ic (Pl.dc l l2 k)), blk g25 57 (blc (Pl.dfs l l2 k))] V49) := Lib.hid (S47.out.gr hv50)
          clear S47
          clear hv50
          refine ⟨rfl, hK _ _ ?_⟩
          clear hK
          obtain ⟨c52, hc52⟩ : ∃ q_, q_ = (decide ((l2.getD k 0) ≠ (l.getD k 0))) := ⟨_, rfl⟩
          rw [← hc52]
          have Hc52 := Lib.hid hc52
          clear hc52
          cases c52 with
          | true =>
            have f53 := of_decide_eq_true Hc52.out.symm
            go_upto_region 9 with fail
            refine wpG_region_k (fun K hK => ?_)
            refine @wpG_p _ _ _ _ _ (some 33) (.int .i64 (k : Int)) _ _ rfl (by rfl) (fun _ => rfl) ?_
            simp only [n1, n3, n4]
            refine @wpG_p _ _ _ _ _ (some 34) (.pointer (some ⟨g25, k, none⟩)) _ _ rfl (by rfl) (fun W => by (go_simp <;> first | rfl | omega | (simp; omega))) ?_
            simp only [n1, n3, n4]
            refine wpG_store (none) rfl (by rfl) (fun W54 hg55 => ⟨W54.setCell ⟨g25, k, none⟩ (.bool true), by have c_ := (S51.out.gr hg55).row 1 rfl k _ (Pl.dfs_at (by omega)); have c := c_.1; have c2 := c_.2; go_simp, ?_⟩)
            simp only [n2]
            obtain ⟨U56, hu_, hS_⟩ := ((S51.out.gr hg55).put1 1 rfl k (.bool true)).named
            rw [← hu_]
            have hS2_ : St w noB [own (.slice E q d) 3 1 q (ic (Pl.dc l l2 k)), blk g25 57 (blc (Pl.dfs l l2 (k + 1)))] U56 := by have h_ := hS_; simp only [List.set_cons_zero, List.set_cons_succ] at h_; rw [show (blc (Pl.dfs l l2 k)).set k (.bool true) = blc (Pl.dfs l l2 (k + 1)) from Pl.dfs_set (by omega) (Pl.df_ne f53)] at h_; exact h_
            have S57 : Hid (St w noB [own (.slice E q d) 3 1 q (ic (Pl.dc l l2 k)), blk g25 57 (blc (Pl.dfs l l2 (k + 1)))] U56) := Lib.hid hS2_
            clear S51
            clear hu_ hS_ hS2_ hg55
            refine wpG_done (fun V58 hv59 => ?_)
            have S60 : Hid (St w noB [own (.slice E q d) 3 1 q (ic (Pl.dc l l2 k)), blk g25 57 (blc (Pl.dfs l l2 (k + 1)))] V58) := Lib.hid (S57.out.gr hv59)
            clear S57
            clear hv59
            refine ⟨rfl, hK _ _ ?_⟩
            clear hK
            go_upto_region 10 with fail
            refine wpG_region_k (fun K hK => ?_)
            refine @wpG_p _ _ _ _ _ (some 35) (.slice E q d) _ _ rfl (by rfl) (fun _ => rfl) ?_
            simp only [n1, n3, n4]
            refine @wpG_p _ _ _ _ _ (some 36) (.int .i64 (l2.getD k 0)) _ _ rfl (by rfl) (fun _ => rfl) ?_
            simp only [n1, n3, n4]
            refine wpG_val (some 37) rfl (by rfl) (fun W61 hg62 => ⟨.slice (some ⟨W61.heap.size, 0, none⟩) 1 1, W61.alloc (.cells #[.int .i64 (l2.getD k 0)] 3), by (go_simp <;> rfl), ?_⟩)
            simp only [n1, n3, n4]
            obtain ⟨g63, U64, hg_, hu_, hS_⟩ := (S60.out.gr hg62).made [.int .i64 (l2.getD k 0)] 3
            rw [← hu_, ← hg_]
            have S65 : Hid (St w noB [blk g63 3 [.int .i64 (l2.getD k 0)], own (.slice E q d) 3 1 q (ic (Pl.dc l l2 k)), blk g25 57 (blc (Pl.dfs l l2 (k + 1)))] U64) := Lib.hid hS_
            clear S60
            clear hg_ hu_ hS_ hg62
            have S66 : Hid (St w noB [own (.slice E q d) 3 1 q (ic (Pl.dc l l2 k)), blk g63 3 [.int .i64 (l2.getD k 0)], blk g25 57 (blc (Pl.dfs l l2 (k + 1)))] U64) := Lib.hid (S65.out.front 1 rfl)
            clear S65
            refine wpG_appS (some 38) rfl rfl (.tmp 35) (.tmp 37) 22 22 rfl 3 1 8 Try.underlying22 (by kernel_rfl) (.slice E q d) q (ic (Pl.dc l l2 k)) S66.out (.slice (some ⟨g63, 0, none⟩) 1 1) 1 [.int .i64 (l2.getD k 0)] (fun W hg => src_lies Try.underlying22 1 rfl (fun h => by cases h) (by intro u hu; simp at hu; rcases hu with rfl <;> rfl) ((S66.out.gr hg).liesBlk 1 rfl)) rfl rfl (by simp only [maxLen]; omega) (by omega) (fun v67 W68 hS_ => ?_)
            simp only [n1, n3, n4]
            rw [show ic (Pl.dc l l2 k) ++ [.int .i64 (l2.getD k 0)] = ic ((Pl.dc l l2 k) ++ [(l2.getD k 0)]) by simp [ic]] at hS_
            obtain ⟨A69, k70, rfl, hle_, hcap_, _⟩ := own_shape (hS_.ownr 0 rfl)
            have S71 : Hid (St w noB [own (.slice A69 (q + 1) k70) 3 1 (q + 1) (ic ((Pl.dc l l2 k) ++ [(l2.getD k 0)])), blk g63 3 [.int .i64 (l2.getD k 0)], blk g25 57 (blc (Pl.dfs l l2 (k + 1)))] W68) := Lib.hid hS_
            clear S66
            clear hS_
            refine @wpG_p _ _ _ _ _ (some 7) (.slice A69 (q + 1) k70) _ _ rfl (by rfl) (fun _ => rfl) ?_
            simp only [n1, n3, n4]
            refine wpG_done (fun V72 hv73 => ?_)
            have S74 : Hid (St w noB [own (.slice A69 (q + 1) k70) 3 1 (q + 1) (ic ((Pl.dc l l2 k) ++ [(l2.getD k 0)])), blk g63 3 [.int .i64 (l2.getD k 0)], blk g25 57 (blc (Pl.dfs l l2 (k + 1)))] V72) := Lib.hid (S71.out.gr hv73)
            clear S71
            clear hv73
            refine ⟨rfl, hK _ _ ?_⟩
            clear hK
            go_upto_region 11 with fail
            refine wpG_region_k (fun K hK => ?_)
            refine @wpG_p _ _ _ _ _ (some 39) (.int .i64 ((k : Int) + 1)) _ _ rfl (by rfl) (fun W => op_i_add W (k : Int) 1 (by omega) rfl rfl rfl Try.underlying3) ?_
            simp only [n1, n3, n4]
            refine @wpG_p _ _ _ _ _ (some 22) (.int .i64 ((k : Int) + 1)) _ _ rfl (by rfl) (fun _ => rfl) ?_
            simp only [n1, n3, n4]
            refine wpG_done (fun V75 hv76 => ?_)
            have S77 : Hid (St w noB [own (.slice A69 (q + 1) k70) 3 1 (q + 1) (ic ((Pl.dc l l2 k) ++ [(l2.getD k 0)])), blk g63 3 [.int .i64 (l2.getD k 0)], blk g25 57 (blc (Pl.dfs l l2 (k + 1)))] V75) := Lib.hid (S74.out.gr hv76)
            clear S74
            clear hv76
            refine ⟨rfl, hK _ _ ?_⟩
            clear hK
            go_wp2_with fail
            go_roundw
            have S78 : Hid (St w noB [own (.slice A69 (q + 1) k70) 3 1 (q + 1) (ic ((Pl.dc l l2 k) ++ [(l2.getD k 0)])), blk g25 57 (blc (Pl.dfs l l2 (k + 1)))] V75) := Lib.hid (S77.out.sub (.cons_cons _ (.cons _ (.cons_cons _ .slnil))))
            clear S77
            case rel => exact ⟨A69, q + 1, k70, k + 1, (by first | rfl | go_num), (by first | rfl | go_num), (by omega), (by omega), (by have e_f13 := f13.out; have e_f22 := f22.out; have hd_ := Pl.df_ne (a := l) (b := l2) (k := k) f53; rw [Pl.dc_yes hd_]; exact S78.out)⟩
            case measure => first | (simp only [intOf]; omega) | (simp [intOf]; done) | (simp [intOf]; omega) | omega
          | false =>
            have f79 := Lib.hid (Decidable.not_not.1 (of_decide_eq_false Hc52.out.symm))
            have f79a := Int.le_of_eq f79.out
            have f79b := Int.le_of_eq f79.out.symm
            go_upto_region 11 with fail
            refine wpG_region_k (fun K hK => ?_)
            refine @wpG_p _ _ _ _ _ (some 39) (.int .i64 ((k : Int) + 1)) _ _ rfl (by rfl) (fun W => op_i_add W (k : Int) 1 (by omega) rfl rfl rfl Try.underlying3) ?_
            simp only [n1, n3, n4]
            refine @wpG_p _ _ _ _ _ (some 22) (.int .i64 ((k : Int) + 1)) _ _ rfl (by rfl) (fun _ => rfl) ?_
            simp only [n1, n3, n4]
            refine wpG_done (fun V80 hv81 => ?_)
            have S82 : Hid (St w noB [own (.slice E q d) 3 1 q (ic (Pl.dc l l2 k)), blk g25 57 (blc (Pl.dfs l l2 k))] V80) := Lib.hid (S51.out.gr hv81)
            clear S51
            clear hv81
            refine ⟨rfl, hK _ _ ?_⟩
            clear hK
            go_wp2_with fail
            go_roundw
            case rel => exact ⟨E, q, d, k + 1, (by first | rfl | go_num), (by first | rfl | go_num), (by omega), (by omega), (by have e_f13 := f13.out; have e_f22 := f22.out; have e_f79 := f79.out; have hd_ := Pl.df_eq (a := l) (b := l2) (k := k) (by first | exact e_f79 | exact Decidable.not_not.1 e_f79); rw [Pl.dc_no hd_, Pl.dfs_stay hd_]; exact S82.out)⟩
            case measure => first | (simp only [intOf]; omega) | (simp [intOf]; done) | (simp [intOf]; omega) | omega
        | false =>
          have f83 := of_decide_eq_false Hc42.out.symm
          go_upto_region 12 with fail
          refine wpG_region_k (fun K hK => ?_)
          refine @wpG_p _ _ _ _ _ (some 41) (.slice E q d) _ _ rfl (by rfl) (fun _ => rfl) ?_
          simp only [n1, n3, n4]
          refine @wpG_tk _ _ _ _ _ (some 42) (.tuple #[.string (bstr (Pl.pS (Pl.dc l l2 k))), .int .i64 (Pl.pE (Pl.dc l l2 k))]) _ _ rfl (.call (f := 11) (args := #[.slice E q d]) (by rfl) (fun W => by go_simp) (fun W hg => pack_any _ _ _ (Pl.dc l l2 k) W (SL.ofOwn ((S41.out.gr hg).ownr 0 rfl)) (by omega))) ?_
          simp only [n1, n3, n4]
          refine @wpG_p _ _ _ _ _ (some 40) (.tuple #[.string (bstr (Pl.pS (Pl.dc l l2 k))), .int .i64 (Pl.pE (Pl.dc l l2 k))]) _ _ rfl (by rfl) (fun _ => rfl) ?_
          simp only [n1, n3, n4]
          refine @wpG_p _ _ _ _ _ (some 43) (.string (bstr (Pl.pS (Pl.dc l l2 k)))) _ _ rfl (by rfl) (fun W => by go_simp) ?_
          simp only [n1, n3, n4]
          refine @wpG_p _ _ _ _ _ (some 44) (.int .i64 (Pl.pE (Pl.dc l l2 k))) _ _ rfl (by rfl) (fun W => by go_simp) ?_
          simp only [n1, n3, n4]
          refine @wpG_p _ _ _ _ _ (some 10) (.string (bstr (Pl.pS (Pl.dc l l2 k)))) _ _ rfl (by rfl) (fun _ => rfl) ?_
          simp only [n1, n3, n4]
          refine @wpG_p _ _ _ _ _ (some 11) (.int .i64 (Pl.pE (Pl.dc l l2 k))) _ _ rfl (by rfl) (fun _ => rfl) ?_
          simp only [n1, n3, n4]
          refine wpG_done (fun V84 hv85 => ?_)
          have S86 : Hid (St w noB [own (.slice E q d) 3 1 q (ic (Pl.dc l l2 k)), blk g25 57 (blc (Pl.dfs l l2 k))] V84) := Lib.hid (S41.out.gr hv85)
          clear S41
          clear hv85
          refine ⟨rfl, hK _ _ ?_⟩
          clear hK
          go_upto_region 13 with fail
          refine wpG_region_k (fun K hK => ?_)
          refine @wpG_tk _ _ _ _ _ (some 45) (.agg (blc (Pl.dfs l l2 k)).toArray) _ _ rfl (.load_mid (by rfl) 57 (.tmp 6) rfl g25 0 rfl (blc (Pl.dfs l l2 k)) _ (fun W hg => ((S86.out.gr hg).row 1 rfl).range) Try.underlying57 rfl (by rw [blc_len, Pl.dfs_len]; kernel_rfl)) ?_
          simp only [n1, n3, n4]
          refine @wpG_tk _ _ _ _ _ (some 46) (.string (bstr (Pl.mB (Pl.dfs l l2 k)))) _ _ rfl (.call (f := 41) (args := #[.agg (blc (Pl.dfs l l2 k)).toArray]) (by rfl) (fun W => by go_simp) (fun W hg => putMask_any (Pl.dfs l l2 k) W (Pl.dfs_len _ _ _))) ?_
          simp only [n1, n3, n4]
          refine @wpG_p _ _ _ _ _ (some 47) (.string (bstr (Pl.pS (Pl.dc l l2 k)))) _ _ rfl (by rfl) (fun _ => rfl) ?_
          simp only [n1, n3, n4]
          refine @wpG_p _ _ _ _ _ (some 48) (.string (bstr ((Pl.mB (Pl.dfs l l2 k)) ++ (Pl.pS (Pl.dc l l2 k))))) _ _ rfl (by rfl) (fun W => op_str_add W (Pl.mB (Pl.dfs l l2 k)) (Pl.pS (Pl.dc l l2 k)) (by (rw [Pl.mB_len]; have h_ := Pl.pS_len (Pl.dc l l2 k) (by rw [Pl.dc_len]; have := Pl.pc_le (b := Pl.df l l2) k; omega); omega)) rfl rfl rfl Try.underlying9) ?_
          simp only [n1, n3, n4]
          refine @wpG_p _ _ _ _ _ (some 49) (.int .i64 (Pl.pE (Pl.dc l l2 k))) _ _ rfl (by rfl) (fun _ => rfl) ?_
          simp only [n1, n3, n4]
          refine @wpG_p _ _ _ _ _ (some 4) (.string (bstr ((Pl.mB (Pl.dfs l l2 k)) ++ (Pl.pS (Pl.dc l l2 k))))) _ _ rfl (by rfl) (fun _ => rfl) ?_
          simp only [n1, n3, n4]
          refine @wpG_p _ _ _ _ _ (some 5) (.int .i64 (Pl.pE (Pl.dc l l2 k))) _ _ rfl (by rfl) (fun _ => rfl) ?_
          simp only [n1, n3, n4]
          refine wpG_done (fun V87 hv88 => ?_)
          have S89 : Hid (St w noB [own (.slice E q d) 3 1 q (ic (Pl.dc l l2 k)), blk g25 57 (blc (Pl.dfs l l2 k))] V87) := Lib.hid (S86.out.gr hv88)
          clear S86
          clear hv88
          refine ⟨rfl, hK _ _ ?_⟩
          clear hK
          go_wp2_with fail
          go_ret2
          refine ⟨?_, S89.out.bel⟩
          show Ending.returned (.tuple #[.string (bstr ((Pl.mB (Pl.dfs l l2 k)) ++ (Pl.pS (Pl.dc l l2 k)))), .int .i64 (Pl.pE (Pl.dc l l2 k))]) = _
          (have hk_ : k = 64 := (by omega); obtain ⟨e1_, e2_⟩ := Pl.d_ok HB1.out HB2.out; obtain ⟨e3_, e4_⟩ := Pl.pS_dc (a := l) HB2.out; rw [e1_, e2_, hk_, e3_, e4_, Pl.mB_dfs]; rfl)
set_option maxRecDepth 1000000 in
set_option maxHeartbeats 4000000 in
theorem patch_any (A : Option Addr) (n c : Nat) (l : List Int) (x : List UInt8) (w : World) (hG : SL w 1 A n c (ic l)) (hb : n ≤ 1000) (hx : x.length ≤ 1000) :
    Calls Try.prog 24 #[.slice A n c, .string (bstr x)] w fun e w' => ∃ A q c, e = .returned (.tuple #[.slice A q c, .int .i64 ((Pl.pP l x).2 : Int)]) ∧ St w noB [own (.slice A q c) 3 1 q (ic (Pl.pP l x).1)] w' := by
  have HGA := Lib.hid hG
  have HLEN : Hid (l.length = n) := Lib.hid (by have h_ := hG.len; rw [ic_len] at h_; omega)
  have hnbHGA : n ≤ 9223372036854775807 := Nat.le_trans hG.cap hG.bnd
  clear hG
  have S1 : Hid (St w noB [] w) := Lib.hid (St.start w)
  go_enter Try.func24, Try.ntmps24
  go_upto_region 0 with fail
  refine wpG_region_k (fun K hK => ?_)
  refine @wpG_p _ _ _ _ _ (some 4) (.slice none 0 0) _ _ rfl (by rfl) (fun _ => rfl) ?_
  simp only [n1, n3, n4]
  refine @wpG_p _ _ _ _ _ (some 5) (.int .i64 0) _ _ rfl (by rfl) (fun _ => rfl) ?_
  simp only [n1, n3, n4]
  refine wpG_done (fun V2 hv3 => ?_)
  have S4 : Hid (St w noB [] V2) := Lib.hid (S1.out.gr hv3)
  clear S1
  clear hv3
  refine ⟨rfl, hK _ _ ?_⟩
  clear hK
  go_upto_region 1 with fail
  refine wpG_region_k (fun K hK => ?_)
  refine @wpG_p _ _ _ _ _ (some 14) (.slice A n c) _ _ rfl (by rfl) (fun _ => rfl) ?_
  simp only [n1, n3, n4]
  refine @wpG_tk _ _ _ _ _ (some 15) (.bool (Pl.bk l)) _ _ rfl (.call (f := 40) (args := #[.slice A n c]) (by rfl) (fun W => by go_simp) (fun W hg => brick_any _ _ _ l W (HGA.out.gr (S4.out.gr hg).bel))) ?_
  simp only [n1, n3, n4]
  refine @wpG_p _ _ _ _ _ (some 16) (.bool (!(Pl.bk l))) _ _ rfl (by rfl) (fun W => by go_simp) ?_
  simp only [n1, n3, n4]
  refine @wpG_p _ _ _ _ _ (some 13) (.bool (!(Pl.bk l))) _ _ rfl (by rfl) (fun _ => rfl) ?_
  simp only [n1, n3, n4]
  refine wpG_done (fun V5 hv6 => ?_)
  have S7 : Hid (St w noB [] V5) := Lib.hid (S4.out.gr hv6)
  clear S4
  clear hv6
  refine ⟨rfl, hK _ _ ?_⟩
  clear hK
  obtain ⟨c8, hc8⟩ : ∃ q_, q_ = (!(Pl.bk l)) := ⟨_, rfl⟩
  rw [← hc8]
  have Hc8 := Lib.hid hc8
  clear hc8
  cases c8 with
  | true =>
    have f9 := Lib.hid ((bnt Hc8.out))
    go_upto_region 2 with fail
    refine wpG_region_k (fun K hK => ?_)
    refine @wpG_p _ _ _ _ _ (some 4) (.slice none 0 0) _ _ rfl (by rfl) (fun _ => rfl) ?_
    simp only [n1, n3, n4]
    refine @wpG_p _ _ _ _ _ (some 5) (.int .i64 1) _ _ rfl (by rfl) (fun _ => rfl) ?_
    simp only [n1, n3, n4]
    refine wpG_done (fun V10 hv11 => ?_)
    have S12 : Hid (St w noB [] V10) := Lib.hid (S7.out.gr hv11)
    clear S7
    clear hv11
    refine ⟨rfl, hK _ _ ?_⟩
    clear hK
    go_wp2_with fail
    go_ret2
    (have e_f9 := f9.out; have hu_ := Pl.pP_no (a := l) (x := x) (by simpa using e_f9); exact ⟨none, 0, 0, by rw [hu_]; rfl, by rw [hu_]; exact S12.out.dropAll.nilOwn _ _⟩)
  | false =>
    have f13 := Lib.hid ((bnf Hc8.out))
    have HB1 : Hid (Pl.bk l = true) := Lib.hid (by have h_ := f13.out; simpa using h_)
    have h64a_ : n ≤ 64 ∧ 64 ≤ n := by have h_ := (Pl.bk_vc HB1.out).1; have h2_ := HLEN.out; omega
    go_upto_region 3 with fail
    refine wpG_region_k (fun K hK => ?_)
    refine @wpG_p _ _ _ _ _ (some 18) (.string (bstr x)) _ _ rfl (by rfl) (fun _ => rfl) ?_
    simp only [n1, n3, n4]
    refine @wpG_p _ _ _ _ _ (some 19) (.int .i64 (x.length : Int)) _ _ rfl (by rfl) (fun W => op_str_len W x rfl rfl Try.underlying9) ?_
    simp only [n1, n3, n4]
    refine @wpG_p _ _ _ _ _ (some 20) (.bool (decide ((x.length : Int) < 8))) _ _ rfl (by rfl) (fun W => op_int_lss W (x.length : Int) 8 rfl rfl rfl Try.underlying3) ?_
    simp only [n1, n3, n4]
    refine @wpG_p _ _ _ _ _ (some 17) (.bool (decide ((x.length : Int) < 8))) _ _ rfl (by rfl) (fun _ => rfl) ?_
    simp only [n1, n3, n4]
    refine wpG_done (fun V14 hv15 => ?_)
    have S16 : Hid (St w noB [] V14) := Lib.hid (S7.out.gr hv15)
    clear S7
    clear hv15
    refine ⟨rfl, hK _ _ ?_⟩
    clear hK
    obtain ⟨c17, hc17⟩ : ∃ q_, q_ = (decide ((x.length : Int) < 8)) := ⟨_, rfl⟩
    rw [← hc17]
    have Hc17 := Lib.hid hc17
    clear hc17
    cases c17 with
    | true =>
      have f18 := of_decide_eq_true Hc17.out.symm
      go_upto_region 4 with fail
      refine wpG_region_k (fun K hK => ?_)
      refine @wpG_p _ _ _ _ _ (some 4) (.slice none 0 0) _ _ rfl (by rfl) (fun _ => rfl) ?_
      simp only [n1, n3, n4]
      refine @wpG_p _ _ _ _ _ (some 5) (.int .i64 5) _ _ rfl (by rfl) (fun _ => rfl) ?_
      simp only [n1, n3, n4]
      refine wpG_done (fun V19 hv20 => ?_)
      have S21 : Hid (St w noB [] V19) := Lib.hid (S16.out.gr hv20)
      clear S16
      clear hv20
      refine ⟨rfl, hK _ _ ?_⟩
      clear hK
      go_wp2_with fail
      go_ret2
      (have e_f13 := f13.out; have hy_ := Pl.pP_yes (x := x) HB1.out; have hu_ := hy_.trans (Pl.pt_short (by omega)); exact ⟨none, 0, 0, by rw [hu_]; rfl, by rw [hu_]; exact S21.out.dropAll.nilOwn _ _⟩)
    | false =>
      have f22 := of_decide_eq_false Hc17.out.symm
      go_upto_region 5 with fail
      refine wpK_region_k (by kernel_rfl) (fun K hK => ?_)
      refine wpK_ta (i := 0) (some 21) (v := .string (bstr x)) rfl rfl (by kernel_rfl) (fun _ _ _ h => onN_panic h) (Or.inl ⟨rfl, fun _ => rfl⟩) ?_
      simp only [n1, n3, n4]
      refine wpK_ta (i := 1) (some 22) (v := .string (bstr (x.take 8))) rfl rfl (by kernel_rfl) (fun _ _ _ h => onN_panic h) (Or.inl ⟨by rfl, fun W => by exact op_str_upto W x 8 (by omega) rfl rfl rfl Try.underlying9⟩) ?_
      simp only [n1, n3, n4]
      refine wpK_ta (i := 3) (some 24) (v := .string (bstr x)) rfl rfl (by kernel_rfl) (fun _ _ _ h => onN_panic h) (Or.inl ⟨rfl, fun _ => rfl⟩) ?_
      simp only [n1, n3, n4]
      refine wpK_ta (i := 4) (some 25) (v := .string (bstr (x.drop 8))) rfl rfl (by kernel_rfl) (fun _ _ _ h => onN_panic h) (Or.inl ⟨by rfl, fun W => by exact op_str_from W x 8 (by omega) rfl rfl rfl Try.underlying9⟩) ?_
      simp only [n1, n3, n4]
      refine wpK_tk (i := 2) (some 23) (v := .agg (blc (Pl.mbs (x.take 8) 64)).toArray) rfl rfl (by kernel_rfl) (fun _ _ _ h => onN_panic h) (.call (f := 43) (args := #[.string (bstr (x.take 8))]) (by rfl) (fun W => by go_simp) (fun W hg => getMask_any (x.take 8) W (by rw [List.length_take]; omega))) ?_
      simp only [n1, n3, n4]
      have ez_ : (List.replicate 64 (.bool false)).toArray = (blc (List.replicate 64 false)).toArray := by rw [show blc (List.replicate 64 false) = List.replicate 64 (Value.bool false) from by simp only [blc, List.map_replicate]]
      refine wpK_val (i := 5) (some 6) rfl rfl (by kernel_rfl) (by rfl) (fun W23 hg24 => ⟨.pointer (some ⟨W23.heap.size, 0, none⟩), W23.alloc (.cells (blc (List.replicate 64 false)).toArray 57), by rw [← ez_]; first | kernel_rfl | (go_simp; done) | (go_simp <;> rfl), Gr.al _ _, ?_⟩)
      simp only [n1, n3, n4]
      obtain ⟨g25, U26, hg_, hu_, hS_⟩ := (S16.out.gr (Gr.un hg24)).made (blc (List.replicate 64 false)) 57
      rw [← hu_, ← hg_]
      have S27 : Hid (St w noB [blk g25 57 (blc (List.replicate 64 false))] U26) := Lib.hid hS_
      clear S16
      clear hg_ hu_ hS_ hg24 ez_
      refine wpK_store (i := 6) (none) rfl rfl (by kernel_rfl) (by rfl) (by rfl) (fun W28 hg29 => ⟨_, run_store_mid 57 (.tmp 6) (.tmp 23) rfl g25 0 (blc (Pl.mbs (x.take 8) 64)).toArray rfl rfl ((S27.out.gr hg29).room 0 rfl 0 _ (by show 0 + (blc (Pl.mbs (x.take 8) 64)).length ≤ _; rw [blc_len, blc_len, Pl.mbs_len]; simp)) (by show _ = some (blc (Pl.mbs (x.take 8) 64)).length; rw [blc_len, Pl.mbs_len]; kernel_rfl) (blc_all _), ?_⟩)
      simp only [n2]
      obtain ⟨U30, hu_, hS_⟩ := ((S27.out.gr hg29).put 0 rfl 0 ((blc (Pl.mbs (x.take 8) 64)).toArray).toList (ds := blc (Pl.mbs (x.take 8) 64)) (by rw [setFrom_full _ _ (by show (blc (Pl.mbs (x.take 8) 64)).length = _; rw [blc_len, blc_len, Pl.mbs_len]; simp)])).named
      rw [← hu_]
      have S31 : Hid (St w noB [blk g25 57 (blc (Pl.mbs (x.take 8) 64))] U30) := Lib.hid hS_
      clear S27
      clear hu_ hS_ hg29
      refine wpK_ta (i := 7) (some 7) (v := .string (bstr (x.drop 8))) rfl rfl (by kernel_rfl) (fun _ _ _ h => onN_panic h) (Or.inl ⟨rfl, fun _ => rfl⟩) ?_
      simp only [n1, n3, n4]
      refine wpK_done (by kernel_rfl) (fun V32 hv33 => ?_) _
      have S34 : Hid (St w noB [blk g25 57 (blc (Pl.mbs (x.take 8) 64))] V32) := Lib.hid (S31.out.gr hv33)
      clear S31
      clear hv33
      refine ⟨rfl, hK _ _ ?_⟩
      clear hK
      go_upto_region 6 with fail
      refine wpG_region_k (fun K hK => ?_)
      refine @wpG_p _ _ _ _ _ (some 27) (.string (bstr (x.drop 8))) _ _ rfl (by rfl) (fun _ => rfl) ?_
      simp only [n1, n3, n4]
      refine wpG_call (some 28) 13 #[.string (bstr (x.drop 8))] rfl (by rfl) (fun W => by go_simp) (fun W35 hg36 => ?_)
      refine (unpack_any (x.drop 8) W35 (by (rw [List.length_drop]; omega))).mono ?_
      rintro e w37 ⟨D, m, dc, rfl, hS_⟩
      refine ⟨_, rfl, ?_⟩
      have hT_ := (S34.out.gr hg36).got hS_
      simp only [n1, n3, n4]
      have S38 : Hid (St w noB [own (.slice D m dc) 3 1 m (ic ((Pl.un (x.drop 8)).1)), blk g25 57 (blc (Pl.mbs (x.take 8) 64))] w37) := Lib.hid hT_
      clear S34
      clear hT_ hS_ hg36
      have HML : Hid (m = ((Pl.un (x.drop 8)).1).length) := Lib.hid (own_icl (S38.out.ownr 0 rfl))
      refine @wpG_p _ _ _ _ _ (some 26) (.tuple #[.slice D m dc, .int .i64 ((Pl.un (x.drop 8)).2.1 : Int), .int .i64 ((Pl.un (x.drop 8)).2.2 : Int)]) _ _ rfl (by rfl) (fun _ => rfl) ?_
      simp only [n1, n3, n4]
      refine @wpG_p _ _ _ _ _ (some 29) (.slice D m dc) _ _ rfl (by rfl) (fun W => by go_simp) ?_
      simp only [n1, n3, n4]
      refine @wpG_p _ _ _ _ _ (some 30) (.int .i64 ((Pl.un (x.drop 8)).2.1 : Int)) _ _ rfl (by rfl) (fun W => by go_simp) ?_
      simp only [n1, n3, n4]
      refine @wpG_p _ _ _ _ _ (some 31) (.int .i64 ((Pl.un (x.drop 8)).2.2 : Int)) _ _ rfl (by rfl) (fun W => by go_simp) ?_
      simp only [n1, n3, n4]
      refine @wpG_p _ _ _ _ _ (some 8) (.slice D m dc) _ _ rfl (by rfl) (fun _ => rfl) ?_
      simp only [n1, n3, n4]
      refine @wpG_p _ _ _ _ _ (some 9) (.int .i64 ((Pl.un (x.drop 8)).2.1 : Int)) _ _ rfl (by rfl) (fun _ => rfl) ?_
      simp only [n1, n3, n4]
      refine @wpG_p _ _ _ _ _ (some 10) (.int .i64 ((Pl.un (x.drop 8)).2.2 : Int)) _ _ rfl (by rfl) (fun _ => rfl) ?_
      simp only [n1, n3, n4]
      refine wpG_done (fun V39 hv40 => ?_)
      have S41 : Hid (St w noB [own (.slice D m dc) 3 1 m (ic ((Pl.un (x.drop 8)).1)), blk g25 57 (blc (Pl.mbs (x.take 8) 64))] V39) := Lib.hid (S38.out.gr hv40)
      clear S38
      clear hv40
      refine ⟨rfl, hK _ _ ?_⟩
      clear hK
      go_upto_region 7 with fail
      refine wpG_region_k (fun K hK => ?_)
      refine @wpG_p _ _ _ _ _ (some 32) (.int .i64 ((Pl.un (x.drop 8)).2.2 : Int)) _ _ rfl (by rfl) (fun _ => rfl) ?_
      simp only [n1, n3, n4]
      refine @wpG_p _ _ _ _ _ (some 33) (.bool (decide (((Pl.un (x.drop 8)).2.2 : Int) ≠ 0))) _ _ rfl (by rfl) (fun W => op_int_neq W ((Pl.un (x.drop 8)).2.2 : Int) 0 rfl rfl rfl Try.underlying24) ?_
      simp only [n1, n3, n4]
      refine wpG_done (fun V42 hv43 => ?_)
      have S44 : Hid (St w noB [own (.slice D m dc) 3 1 m (ic ((Pl.un (x.drop 8)).1)), blk g25 57 (blc (Pl.mbs (x.take 8) 64))] V42) := Lib.hid (S41.out.gr hv43)
      clear S41
      clear hv43
      refine ⟨rfl, hK _ _ ?_⟩
      clear hK
      obtain ⟨c45, hc45⟩ : ∃ q_, q_ = (decide (((Pl.un (x.drop 8)).2.2 : Int) ≠ 0)) := ⟨_, rfl⟩
      rw [← hc45]
      have Hc45 := Lib.hid hc45
      clear hc45
      cases c45 with
      | true =>
        have f46 := of_decide_eq_true Hc45.out.symm
        go_upto_region 8 with fail
        refine wpG_region_k (fun K hK => ?_)
        refine @wpG_p _ _ _ _ _ (some 34) (.int .i64 ((Pl.un (x.drop 8)).2.2 : Int)) _ _ rfl (by rfl) (fun _ => rfl) ?_
        simp only [n1, n3, n4]
        refine @wpG_p _ _ _ _ _ (some 4) (.slice none 0 0) _ _ rfl (by rfl) (fun _ => rfl) ?_
        simp only [n1, n3, n4]
        refine @wpG_p _ _ _ _ _ (some 5) (.int .i64 ((Pl.un (x.drop 8)).2.2 : Int)) _ _ rfl (by rfl) (fun _ => rfl) ?_
        simp only [n1, n3, n4]
        refine wpG_done (fun V47 hv48 => ?_)
        have S49 : Hid (St w noB [own (.slice D m dc) 3 1 m (ic ((Pl.un (x.drop 8)).1)), blk g25 57 (blc (Pl.mbs (x.take 8) 64))] V47) := Lib.hid (S44.out.gr hv48)
        clear S44
        clear hv48
        refine ⟨rfl, hK _ _ ?_⟩
        clear hK
        go_wp2_with fail
        go_ret2
        (have e_f13 := f13.out; have hy_ := Pl.pP_yes (x := x) HB1.out; have hu_ := hy_.trans (Pl.pt_err (by omega) (show (Pl.un (x.drop 8)).2.2 ≠ 0 by omega)); exact ⟨none, 0, 0, by rw [hu_]; rfl, by rw [hu_]; exact S49.out.dropAll.nilOwn _ _⟩)
      | false =>
        have f50 := Lib.hid (Decidable.not_not.1 (of_decide_eq_false Hc45.out.symm))
        have f50a := Int.le_of_eq f50.out
        have f50b := Int.le_of_eq f50.out.symm
        go_upto_region 9 with fail
        refine wpG_region_k (fun K hK => ?_)
        have hE0_ : (Pl.un (x.drop 8)).2.2 = 0 := by have e_f13 := f13.out; have e_f50 := f50.out; have h_ := e_f50; omega
        have HE0 := Lib.hid hE0_
        clear hE0_
        have hm64_ : m ≤ 64 := by have h1_ := (Pl.un_bd (x.drop 8)).1; have h2_ := HML.out; omega
        refine @wpG_p _ _ _ _ _ (some 36) (.slice A n c) _ _ rfl (by rfl) (fun _ => rfl) ?_
        simp only [n1, n3, n4]
        refine @wpG_tk _ _ _ _ _ (some 37) (.agg (blc (Pl.mbs (x.take 8) 64)).toArray) _ _ rfl (.load_mid (by rfl) 57 (.tmp 6) rfl g25 0 rfl (blc (Pl.mbs (x.take 8) 64)) _ (fun W hg => ((S44.out.gr hg).row 1 rfl).range) Try.underlying57 rfl (by rw [blc_len, Pl.mbs_len]; kernel_rfl)) ?_
        simp only [n1, n3, n4]
        refine @wpG_p _ _ _ _ _ (some 38) (.slice D m dc) _ _ rfl (by rfl) (fun _ => rfl) ?_
        simp only [n1, n3, n4]
        refine wpG_call (some 39) 44 #[.slice A n c, .agg (blc (Pl.mbs (x.take 8) 64)).toArray, .slice D m dc] rfl (by rfl) (fun W => by go_simp) (fun W51 hg52 => ?_)
        refine (replace_any _ _ _ l (Pl.mbs (x.take 8) 64) _ _ _ ((Pl.un (x.drop 8)).1) W51 (HGA.out.gr (S44.out.gr hg52).bel) (SL.ofOwn ((S44.out.gr hg52).ownr 0 rfl)) (by omega) (by omega) (Pl.mbs_len _ _)).mono ?_
        rintro e w53 ⟨R, rq, rc, RL, rfl, hrl_, hS_⟩
        refine ⟨_, rfl, ?_⟩
        have hT_ := (S44.out.gr hg52).got hS_
        simp only [n1, n3, n4]
        have S54 : Hid (St w noB [own (.slice R rq rc) 3 1 rq (ic RL), own (.slice D m dc) 3 1 m (ic ((Pl.un (x.drop 8)).1)), blk g25 57 (blc (Pl.mbs (x.take 8) 64))] w53) := Lib.hid hT_
        clear S44
        clear hT_ hS_ hg52
        have HRE := Lib.hid hrl_
        clear hrl_
        refine @wpG_p _ _ _ _ _ (some 35) (.tuple #[.slice R rq rc, .bool (Pl.rOk l (Pl.bt (Pl.mbs (x.take 8) 64)) ((Pl.un (x.drop 8)).1))]) _ _ rfl (by rfl) (fun _ => rfl) ?_
        simp only [n1, n3, n4]
        refine @wpG_p _ _ _ _ _ (some 40) (.slice R rq rc) _ _ rfl (by rfl) (fun W => by go_simp) ?_
        simp only [n1, n3, n4]
        refine @wpG_p _ _ _ _ _ (some 41) (.bool (Pl.rOk l (Pl.bt (Pl.mbs (x.take 8) 64)) ((Pl.un (x.drop 8)).1))) _ _ rfl (by rfl) (fun W => by go_simp) ?_
        simp only [n1, n3, n4]
        refine @wpG_p _ _ _ _ _ (some 11) (.slice R rq rc) _ _ rfl (by rfl) (fun _ => rfl) ?_
        simp only [n1, n3, n4]
        refine @wpG_p _ _ _ _ _ (some 12) (.bool (Pl.rOk l (Pl.bt (Pl.mbs (x.take 8) 64)) ((Pl.un (x.drop 8)).1))) _ _ rfl (by rfl) (fun _ => rfl) ?_
        simp only [n1, n3, n4]
        refine wpG_done (fun V55 hv56 => ?_)
        have S57 : Hid (St w noB [own (.slice R rq rc) 3 1 rq (ic RL), own (.slice D m dc) 3 1 m (ic ((Pl.un (x.drop 8)).1)), blk g25 57 (blc (Pl.mbs (x.take 8) 64))] V55) := Lib.hid (S54.out.gr hv56)
        clear S54
        clear hv56
        refine ⟨rfl, hK _ _ ?_⟩
        clear hK
        go_upto_region 10 with fail
        refine wpG_region_k (fun K hK => ?_)
        refine @wpG_p _ _ _ _ _ (some 42) (.bool (Pl.rOk l (Pl.bt (Pl.mbs (x.take 8) 64)) ((Pl.un (x.drop 8)).1))) _ _ rfl (by rfl) (fun _ => rfl) ?_
        simp only [n1, n3, n4]
        refine @wpG_p _ _ _ _ _ (some 43) (.bool (!(Pl.rOk l (Pl.bt (Pl.mbs (x.take 8) 64)) ((Pl.un (x.drop 8)).1)))) _ _ rfl (by rfl) (fun W => by go_simp) ?_
        simp only [n1, n3, n4]
        refine @wpG_p _ _ _ _ _ (some 44) (.bool (!(Pl.rOk l (Pl.bt (Pl.mbs (x.take 8) 64)) ((Pl.un (x.drop 8)).1)))) _ _ rfl (by rfl) (fun _ => rfl) ?_
        simp only [n1, n3, n4]
        obtain ⟨c58, hc58⟩ : ∃ q_, q_ = (!(Pl.rOk l (Pl.bt (Pl.mbs (x.take 8) 64)) ((Pl.un (x.drop 8)).1))) := ⟨_, rfl⟩
        rw [← hc58]
        have Hc58 := Lib.hid hc58
        clear hc58
        cases c58 with
        | true =>
          have f59 := Lib.hid ((bnt Hc58.out))
          refine @wpG_no _ _ _ _ _ (some 45) _ _ rfl (by rfl) ?_
          simp only [n1, n3, n4]
          refine @wpG_no _ _ _ _ _ (some 46) _ _ rfl (by rfl) ?_
          simp only [n1, n3, n4]
          refine @wpG_no _ _ _ _ _ (some 47) _ _ rfl (by rfl) ?_
          simp only [n1, n3, n4]
          refine @wpG_no _ _ _ _ _ (some 48) _ _ rfl (by rfl) ?_
          simp only [n1, n3, n4]
          refine @wpG_p _ _ _ _ _ (some 49) (.bool true) _ _ rfl (by rfl) (fun W => by go_simp) ?_
          simp only [n1, n3, n4]
          refine wpG_done (fun V60 hv61 => ?_)
          have S62 : Hid (St w noB [own (.slice R rq rc) 3 1 rq (ic RL), own (.slice D m dc) 3 1 m (ic ((Pl.un (x.drop 8)).1)), blk g25 57 (blc (Pl.mbs (x.take 8) 64))] V60) := Lib.hid (S57.out.gr hv61)
          clear S57
          clear hv61
          refine ⟨rfl, hK _ _ ?_⟩
          clear hK
          go_upto_region 11 with fail
          refine wpG_region_k (fun K hK => ?_)
          refine @wpG_p _ _ _ _ _ (some 4) (.slice none 0 0) _ _ rfl (by rfl) (fun _ => rfl) ?_
          simp only [n1, n3, n4]
          refine @wpG_p _ _ _ _ _ (some 5) (.int .i64 6) _ _ rfl (by rfl) (fun _ => rfl) ?_
          simp only [n1, n3, n4]
          refine wpG_done (fun V63 hv64 => ?_)
          have S65 : Hid (St w noB [own (.slice R rq rc) 3 1 rq (ic RL), own (.slice D m dc) 3 1 m (ic ((Pl.un (x.drop 8)).1)), blk g25 57 (blc (Pl.mbs (x.take 8) 64))] V63) := Lib.hid (S62.out.gr hv64)
          clear S62
          clear hv64
          refine ⟨rfl, hK _ _ ?_⟩
          clear hK
          go_wp2_with fail
          go_ret2
          (have e_f13 := f13.out; have e_f50 := f50.out; have e_f59 := f59.out; have hy_ := Pl.pP_yes (x := x) HB1.out; have hrm_ := Pl.r_mask (a := l) (x := x.take 8) (cs := (Pl.un (x.drop 8)).1); have hbd_ := (Pl.un_bd (x.drop 8)).2.2 HE0.out; have hdl_ : (x.drop 8).length = x.length - 8 := List.length_drop; have hu_ := hy_.trans (Pl.pt_bad (by omega) HE0.out (fun h_ => by have h2_ := e_f59; rw [hrm_.1, h_.1] at h2_; simp at h2_)); exact ⟨none, 0, 0, by rw [hu_]; rfl, by rw [hu_]; exact S65.out.dropAll.nilOwn _ _⟩)
        | false =>
          have f66 := Lib.hid ((bnf Hc58.out))
          refine @wpG_p _ _ _ _ _ (some 45) (.int .i64 ((Pl.un (x.drop 8)).2.1 : Int)) _ _ rfl (by rfl) (fun _ => rfl) ?_
          simp only [n1, n3, n4]
          refine @wpG_p _ _ _ _ _ (some 46) (.string (bstr (x.drop 8))) _ _ rfl (by rfl) (fun _ => rfl) ?_
          simp only [n1, n3, n4]
          refine @wpG_p _ _ _ _ _ (some 47) (.int .i64 ((x.drop 8).length : Int)) _ _ rfl (by rfl) (fun W => op_str_len W (x.drop 8) rfl rfl Try.underlying9) ?_
          simp only [n1, n3, n4]
          refine @wpG_p _ _ _ _ _ (some 48) (.bool (decide (((Pl.un (x.drop 8)).2.1 : Int) < ((x.drop 8).length : Int)))) _ _ rfl (by rfl) (fun W => op_int_lss W ((Pl.un (x.drop 8)).2.1 : Int) ((x.drop 8).length : Int) rfl rfl rfl Try.underlying3) ?_
          simp only [n1, n3, n4]
          refine @wpG_p _ _ _ _ _ (some 49) (.bool (decide (((Pl.un (x.drop 8)).2.1 : Int) < ((x.drop 8).length : Int)))) _ _ rfl (by rfl) (fun W => by go_simp) ?_
          simp only [n1, n3, n4]
          refine wpG_done (fun V67 hv68 => ?_)
          have S69 : Hid (St w noB [own (.slice R rq rc) 3 1 rq (ic RL), own (.slice D m dc) 3 1 m (ic ((Pl.un (x.drop 8)).1)), blk g25 57 (blc (Pl.mbs (x.take 8) 64))] V67) := Lib.hid (S57.out.gr hv68)
          clear S57
          clear hv68
          refine ⟨rfl, hK _ _ ?_⟩
          clear hK
          obtain ⟨c70, hc70⟩ : ∃ q_, q_ = (decide (((Pl.un (x.drop 8)).2.1 : Int) < ((x.drop 8).length : Int))) := ⟨_, rfl⟩
          rw [← hc70]
          have Hc70 := Lib.hid hc70
          clear hc70
          cases c70 with
          | true =>
            have f71 := of_decide_eq_true Hc70.out.symm
            go_upto_region 11 with fail
            refine wpG_region_k (fun K hK => ?_)
            refine @wpG_p _ _ _ _ _ (some 4) (.slice none 0 0) _ _ rfl (by rfl) (fun _ => rfl) ?_
            simp only [n1, n3, n4]
            refine @wpG_p _ _ _ _ _ (some 5) (.int .i64 6) _ _ rfl (by rfl) (fun _ => rfl) ?_
            simp only [n1, n3, n4]
            refine wpG_done (fun V72 hv73 => ?_)
            have S74 : Hid (St w noB [own (.slice R rq rc) 3 1 rq (ic RL), own (.slice D m dc) 3 1 m (ic ((Pl.un (x.drop 8)).1)), blk g25 57 (blc (Pl.mbs (x.take 8) 64))] V72) := Lib.hid (S69.out.gr hv73)
            clear S69
            clear hv73
            refine ⟨rfl, hK _ _ ?_⟩
            clear hK
            go_wp2_with fail
            go_ret2
            (have e_f13 := f13.out; have e_f50 := f50.out; have e_f66 := f66.out; have hy_ := Pl.pP_yes (x := x) HB1.out; have hrm_ := Pl.r_mask (a := l) (x := x.take 8) (cs := (Pl.un (x.drop 8)).1); have hbd_ := (Pl.un_bd (x.drop 8)).2.2 HE0.out; have hdl_ : (x.drop 8).length = x.length - 8 := List.length_drop; have hu_ := hy_.trans (Pl.pt_bad (by omega) HE0.out (fun h_ => by have h2_ := h_.2; omega)); exact ⟨none, 0, 0, by rw [hu_]; rfl, by rw [hu_]; exact S74.out.dropAll.nilOwn _ _⟩)
          | false =>
            have f75 := of_decide_eq_false Hc70.out.symm
            go_upto_region 12 with fail
            refine wpG_region_k (fun K hK => ?_)
            refine @wpG_p _ _ _ _ _ (some 50) (.slice R rq rc) _ _ rfl (by rfl) (fun _ => rfl) ?_
            simp only [n1, n3, n4]
            refine @wpG_p _ _ _ _ _ (some 4) (.slice R rq rc) _ _ rfl (by rfl) (fun _ => rfl) ?_
            simp only [n1, n3, n4]
            refine @wpG_p _ _ _ _ _ (some 5) (.int .i64 0) _ _ rfl (by rfl) (fun _ => rfl) ?_
            simp only [n1, n3, n4]
            refine wpG_done (fun V76 hv77 => ?_)
            have S78 : Hid (St w noB [own (.slice R rq rc) 3 1 rq (ic RL), own (.slice D m dc) 3 1 m (ic ((Pl.un (x.drop 8)).1)), blk g25 57 (blc (Pl.mbs (x.take 8) 64))] V76) := Lib.hid (S69.out.gr hv77)
            clear S69
            clear hv77
            refine ⟨rfl, hK _ _ ?_⟩
            clear hK
            go_wp2_with fail
            go_ret2
            (have e_f13 := f13.out; have e_f50 := f50.out; have e_f66 := f66.out; have hy_ := Pl.pP_yes (x := x) HB1.out; have hrm_ := Pl.r_mask (a := l) (x := x.take 8) (cs := (Pl.un (x.drop 8)).1); have hbd_ := (Pl.un_bd (x.drop 8)).2.2 HE0.out; have hdl_ : (x.drop 8).length = x.length - 8 := List.length_drop; have hro_ : Pl.rOk l (Pl.bt (Pl.mbs (x.take 8) 64)) (Pl.un (x.drop 8)).1 = true := (by have h_ := e_f66; simpa using h_); have hrl_ := HRE.out hro_; rw [hrm_.2] at hrl_; rw [hrm_.1] at hro_; have hu_ := hy_.trans (Pl.pt_ok (by omega) HE0.out ⟨hro_, by omega⟩); exact ⟨R, rq, rc, by rw [hu_]; rfl, by rw [hu_]; have h_ := S78.out.sub (.cons_cons _ (.cons _ (.cons _ .slnil))); rw [hrl_] at h_; exact h_⟩)

end Go.Proofs.Ytfomieekdbkcnaa
