/-
  Contracts of package palette: replace, Delta, Patch.
-/
import Derived.Test.YtfomieekdbkcnaaPk24
import Derived.Test.YtfomieekdbkcnaaPk22
import Derived.Laws.Cover3
import Derived.Handy
namespace Go.Proofs.Ytfomieekdbkcnaa
open Go Go.RowKit
set_option linter.unusedVariables false
set_option linter.unusedSimpArgs false
set_option maxRecDepth 1000000 in
set_option maxHeartbeats 4000000 in
theorem clone_some (a : Addr) (n c : Nat) (l : List Int) (w : World) (hG : SL w 1 (some a) n c (ic l)) (hb : n ≤ 2097152) :
    Calls Try.prog 55 #[.slice (some a) n c] w fun e w' => ∃ A c, e = .returned (.slice A n c) ∧ St w noB [own (.slice A n c) 3 1 n (ic l)] w' := by
  have HGA := Lib.hid hG
  have HLEN : Hid (l.length = n) := Lib.hid (by have h_ := hG.len; rw [ic_len] at h_; omega)
  have hnbHGA : n ≤ 9223372036854775807 := Nat.le_trans hG.cap hG.bnd
  clear hG
  have HNB := Lib.hid hb
  have S1 : Hid (St w noB [] w) := Lib.hid (St.start w)
  go_enter Try.func55, Try.ntmps55
  go_upto_region 0 with fail
  refine wpG_region_k (fun K hK => ?_)
  refine @wpG_p _ _ _ _ _ (some 2) (.slice none 0 0) _ _ rfl (by rfl) (fun _ => rfl) ?_
  simp only [n1, n3, n4]
  refine wpG_done (fun V2 hv3 => ?_)
  have S4 : Hid (St w noB [] V2) := Lib.hid (S1.out.gr hv3)
  clear S1
  clear hv3
  refine ⟨rfl, hK _ _ ?_⟩
  clear hK
  go_upto_region 1 with fail
  refine wpG_region_k (fun K hK => ?_)
  refine @wpG_p _ _ _ _ _ (some 3) (.slice (some a) n c) _ _ rfl (by rfl) (fun _ => rfl) ?_
  simp only [n1, n3, n4]
  refine @wpG_p _ _ _ _ _ (some 4) (.bool false) _ _ rfl (by rfl) (fun W => by (have e1_ := run_equal_slice_nil (P := Try.prog) W 22 3 (some a) n c Try.underlying22; have e_ : (binOp .eql 22 (.slice (some a) n c) (.slice none 0 0)).run Try.prog W = .ok (.bool false) W := (by simp [binOp, e1_]); go_simp)) ?_
  simp only [n1, n3, n4]
  refine wpG_done (fun V5 hv6 => ?_)
  have S7 : Hid (St w noB [] V5) := Lib.hid (S4.out.gr hv6)
  clear S4
  clear hv6
  refine ⟨rfl, hK _ _ ?_⟩
  clear hK
  go_upto_region 3 with fail
  refine wpG_region_k (fun K hK => ?_)
  refine wpG_val (some 5) rfl (by rfl) (fun W8 hg9 => ⟨.slice (some ⟨W8.heap.size, 0, none⟩) 0 0, W8.alloc (.cells #[] 3), by (go_simp <;> rfl), ?_⟩)
  simp only [n1, n3, n4]
  obtain ⟨g10, U11, hg_, hu_, hS_⟩ := (S7.out.gr hg9).made [] 3
  rw [← hu_, ← hg_]
  have S12 : Hid (St w noB [blk g10 3 []] U11) := Lib.hid hS_
  clear S7
  clear hg_ hu_ hS_ hg9
  refine @wpG_p _ _ _ _ _ (some 6) (.slice (some a) n c) _ _ rfl (by rfl) (fun _ => rfl) ?_
  simp only [n1, n3, n4]
  have S13 : Hid (St w noB [own (.slice (some ⟨g10, 0, none⟩) 0 0) 3 1 0 []] U11) := Lib.hid ((S12.out.front 0 rfl).toOwn 1 0 (by rfl) (by simp [maxLen]))
  clear S12
  refine wpG_appS (some 7) rfl rfl (.tmp 5) (.tmp 6) 22 22 rfl 3 1 8 Try.underlying22 (by kernel_rfl) (.slice (some ⟨g10, 0, none⟩) 0 0) 0 [] S13.out (.slice (some a) n c) n (ic l) (fun W hg => src_lies Try.underlying22 c (by rw [ic_len]; have := HGA.out.len; rw [ic_len] at this; omega) HGA.out.none0 (ic_one _) ((HGA.out.gr ((S13.out.gr hg)).bel).lies)) rfl rfl (by simp only [maxLen]; (have := HNB.out; omega)) (by (have := HNB.out; omega)) (fun v14 W15 hS_ => ?_)
  simp only [n1, n3, n4]
  rw [Nat.zero_add] at hS_
  obtain ⟨A16, k17, rfl, hle_, hcap_, _⟩ := own_shape (hS_.ownr 0 rfl)
  have S18 : Hid (St w noB [own (.slice A16 n k17) 3 1 n (ic l)] W15) := Lib.hid hS_
  clear S13
  clear hS_
  refine @wpG_p _ _ _ _ _ (some 2) (.slice A16 n k17) _ _ rfl (by rfl) (fun _ => rfl) ?_
  simp only [n1, n3, n4]
  refine wpG_done (fun V19 hv20 => ?_)
  have S21 : Hid (St w noB [own (.slice A16 n k17) 3 1 n (ic l)] V19) := Lib.hid (S18.out.gr hv20)
  clear S18
  clear hv20
  refine ⟨rfl, hK _ _ ?_⟩
  clear hK
  go_wp2_with fail
  go_ret
  exact ⟨A16, k17, rfl, S21.out.sub (.cons_cons _ .slnil)⟩
theorem clone_any (A : Option Addr) (n c : Nat) (l : List Int) (w : World) (hG : SL w 1 A n c (ic l)) (hb : 0 < n ∧ n ≤ 2097152) :
    Calls Try.prog 55 #[.slice A n c] w fun e w' => ∃ A c, e = .returned (.slice A n c) ∧ St w noB [own (.slice A n c) 3 1 n (ic l)] w' := by
  obtain ⟨b, o, rfl⟩ := hG.addr (by decide) hb.1
  exact clone_some _ n c l w hG hb.2
namespace Pl
def bt (bs : List Bool) (i : Nat) : Bool := bs.getD i false
def dO (a b : List Int) : Bool := bk a && bk b
def dS (a b : List Int) : List UInt8 := if dO a b = true then dl a b else []
def dE (a b : List Int) : Int := if dO a b = true then 0 else 1
theorem d_ok {a b : List Int} (h1 : bk a = true) (h2 : bk b = true) : dS a b = dl a b ∧ dE a b = 0 := by
  have e : dO a b = true := by unfold dO; rw [h1, h2]; rfl
  exact ⟨if_pos e, if_pos e⟩
theorem d_no {a b : List Int} (h : bk a = false ∨ bk b = false) : dS a b = [] ∧ dE a b = 1 := by
  have e : ¬ dO a b = true := by unfold dO; rcases h with h | h <;> rw [h] <;> simp
  exact ⟨if_neg e, if_neg e⟩
def pP (a : List Int) (x : List UInt8) : List Int × Nat := if bk a = true then pt a x else ([], 1)
theorem pP_no {a : List Int} {x : List UInt8} (h : bk a = false) : pP a x = ([], 1) := by unfold pP; rw [if_neg (by rw [h]; simp)]
theorem pP_yes {a : List Int} {x : List UInt8} (h : bk a = true) : pP a x = pt a x := by unfold pP; rw [if_pos h]
theorem dc_yes {a b : List Int} {k : Nat} (h : df a b k = true) : dc a b (k + 1) = dc a b k ++ [b.getD k 0] := by rw [dc, if_pos h]
theorem dc_no {a b : List Int} {k : Nat} (h : df a b k = false) : dc a b (k + 1) = dc a b k := by rw [dc, if_neg (by rw [h]; simp)]
theorem bk_vc {l : List Int} (h : bk l = true) : l.length = 64 ∧ ∀ c ∈ l, cell c := bk_iff.1 h
theorem pS_dc {a b : List Int} (hb : bk b = true) : pS (dc a b 64) = pk (dc a b 64) ∧ pE (dc a b 64) = 0 :=
  p_ok (dc_le a b) (vc_iff.2 (dc_cell (bk_iff.1 hb) (Nat.le_refl _)))
theorem mB_len (bs : List Bool) : (mB bs).length = 8 := by unfold mB; rw [le_len]
theorem pS_len (l : List Int) (h : l.length ≤ 64) : (pS l).length ≤ 1000 := by
  unfold pS
  split
  · by_cases h0 : l = []
    · rw [h0]; simp [pk]
    · rw [pk_len h0]
      have h1 := pal_len l
      have h2 : room l.length (wd (pal l).length) ≤ 64 := room_le h (by rcases wd_cases (pal l).length with e | e | e | e | e <;> omega)
      omega
  · simp
/-- what replace says of the mask's bits -/
theorem r_mask {a : List Int} {x : List UInt8} {cs : List Int} : rOk a (bt (mbs x 64)) cs = rOk a (mb x) cs ∧ pl a (bt (mbs x 64)) cs = pl a (mb x) cs := bits_congr (fun i hi => mbs_get hi)
end Pl
set_option maxRecDepth 1000000 in
set_option maxHeartbeats 4000000 in
theorem replace_any (A : Option Addr) (n c : Nat) (l : List Int)  (bs : List Bool) (A2 : Option Addr) (m2 c2 : Nat) (l2 : List Int) (w : World) (hG : SL w 1 A n c (ic l)) (hG2 : SL w 1 A2 m2 c2 (ic l2)) (hn : 64 ≤ n ∧ n ≤ 64) (hn2 : m2 ≤ 64) (hbs : bs.length = 64) :
    Calls Try.prog 44 #[.slice A n c, .agg (blc bs).toArray, .slice A2 m2 c2] w fun e w' => ∃ A q c L, e = .returned (.tuple #[.slice A q c, .bool (Pl.rOk l (Pl.bt bs) l2)]) ∧ (Pl.rOk l (Pl.bt bs) l2 = true → L = Pl.pl l (Pl.bt bs) l2) ∧ St w noB [own (.slice A q c) 3 1 q (ic L)] w' := by
  have HGA := Lib.hid hG
  have HLEN : Hid (l.length = n) := Lib.hid (by have h_ := hG.len; rw [ic_len] at h_; omega)
  have hnbHGA : n ≤ 9223372036854775807 := Nat.le_trans hG.cap hG.bnd
  clear hG
  have HGB := Lib.hid hG2
  have HLEN2 : Hid (l2.length = m2) := Lib.hid (by have h_ := hG2.len; rw [ic_len] at h_; omega)
  have hnbHGB : m2 ≤ 9223372036854775807 := Nat.le_trans hG2.cap hG2.bnd
  clear hG2
  have S1 : Hid (St w noB [] w) := Lib.hid (St.start w)
  go_enter Try.func44, Try.ntmps44
  go_upto_region 0 with fail
  refine wpG_region_k (fun K hK => ?_)
  refine wpG_val (some 4) rfl (by rfl) (fun W2 hg3 => ⟨.pointer (some ⟨W2.heap.size, 0, none⟩), W2.alloc (.cells (blc bs).toArray 57), by first | (go_simp; done) | (go_simp <;> rfl), ?_⟩)
  simp only [n1, n3, n4]
  obtain ⟨g4, U5, hg_, hu_, hS_⟩ := (S1.out.gr hg3).made (blc bs) 57
  rw [← hu_, ← hg_]
  have S6 : Hid (St w noB [blk g4 57 (blc bs)] U5) := Lib.hid hS_
  clear S1
  clear hg_ hu_ hS_ hg3
  refine @wpG_p _ _ _ _ _ (some 6) (.slice none 0 0) _ _ rfl (by rfl) (fun _ => rfl) ?_
  simp only [n1, n3, n4]
  refine @wpG_p _ _ _ _ _ (some 7) (.bool false) _ _ rfl (by rfl) (fun _ => rfl) ?_
  simp only [n1, n3, n4]
  refine wpG_done (fun V7 hv8 => ?_)
  have S9 : Hid (St w noB [blk g4 57 (blc bs)] V7) := Lib.hid (S6.out.gr hv8)
  clear S6
  clear hv8
  refine ⟨rfl, hK _ _ ?_⟩
  clear hK
  go_upto_region 1 with fail
  refine wpG_region_k (fun K hK => ?_)
  refine @wpG_p _ _ _ _ _ (some 11) (.slice A n c) _ _ rfl (by rfl) (fun _ => rfl) ?_
  simp only [n1, n3, n4]
  refine wpG_call (some 12) 55 #[.slice A n c] rfl (by rfl) (fun W => by go_simp) (fun W10 hg11 => ?_)
  refine (clone_any _ _ _ l W10 (HGA.out.gr (S9.out.gr hg11).bel) (by omega)).mono ?_
  rintro e w12 ⟨KA, kc, rfl, hS_⟩
  refine ⟨_, rfl, ?_⟩
  have hT_ := (S9.out.gr hg11).got hS_
  simp only [n1, n3, n4]
  have S13 : Hid (St w noB [own (.slice KA n kc) 3 1 n (ic l), blk g4 57 (blc bs)] w12) := Lib.hid hT_
  clear S9
  clear hT_ hS_ hg11
  refine @wpG_p _ _ _ _ _ (some 8) (.slice KA n kc) _ _ rfl (by rfl) (fun _ => rfl) ?_
  simp only [n1, n3, n4]
  refine wpG_done (fun V14 hv15 => ?_)
  have S16 : Hid (St w noB [own (.slice KA n kc) 3 1 n (ic l), blk g4 57 (blc bs)] V14) := Lib.hid (S13.out.gr hv15)
  clear S13
  clear hv15
  refine ⟨rfl, hK _ _ ?_⟩
  clear hK
  go_upto_region 2 with fail
  refine wpG_region_k (fun K hK => ?_)
  refine @wpG_tk _ _ _ _ _ (some 13) (.agg (blc bs).toArray) _ _ rfl (.load_mid (by rfl) 57 (.tmp 4) rfl g4 0 rfl (blc bs) _ (fun W hg => ((S16.out.gr hg).row 1 rfl).range) Try.underlying57 rfl (by rw [blc_len, hbs]; kernel_rfl)) ?_
  simp only [n1, n3, n4]
  refine @wpG_p _ _ _ _ _ (some 14) (.int .i64 0) _ _ rfl (by rfl) (fun _ => rfl) ?_
  simp only [n1, n3, n4]
  refine wpG_done (fun V17 hv18 => ?_)
  have S19 : Hid (St w noB [own (.slice KA n kc) 3 1 n (ic l), blk g4 57 (blc bs)] V17) := Lib.hid (S16.out.gr hv18)
  clear S16
  clear hv18
  refine ⟨rfl, hK _ _ ?_⟩
  clear hK
  have S20 : Hid (St w noB [own (.slice KA n kc) 3 1 n (ic (Pl.plk l (Pl.bt bs) l2 0)), blk g4 57 (blc bs)] V17) := Lib.hid (by have h_ := S19.out; rw [show ic l = ic (Pl.plk l (Pl.bt bs) l2 0) from (by rw [Pl.plk_zero (by have := HLEN.out; omega)])] at h_; exact h_)
  clear S19
  go_wp2_with fail
  go_loopw [2, 14] (fun v2 v14 wr => ∃ (G : Option Addr) (r gc k : Nat), v2 = .slice G r gc ∧ v14 = .int .i64 (k : Int) ∧ k ≤ 64 ∧ SL w 1 G r gc (ic (l2.drop (Pl.pc (Pl.bt bs) k))) ∧ r = l2.length - Pl.pc (Pl.bt bs) k ∧ Pl.pc (Pl.bt bs) k ≤ l2.length ∧ (∀ i, i < k → Pl.pOk l (Pl.bt bs) l2 i) ∧ St w noB [own (.slice KA n kc) 3 1 n (ic (Pl.plk l (Pl.bt bs) l2 k)), blk g4 57 (blc bs)] wr) (fun a i _ => 64 - (intOf i).toNat)
  case atStart => exact ⟨A2, m2, c2, 0, rfl, rfl, (by decide), HGB.out, (by have := HLEN2.out; show m2 = l2.length - 0; omega), (Nat.zero_le _), (fun i hi => absurd hi (Nat.not_lt_zero _)), S20.out⟩
  case round =>
    obtain ⟨G, r, gc, k, rfl, rfl, hk64, hgg, hrl, hpl, hpo, hS⟩ := hrel
    have HGG := Lib.hid hgg
    clear hgg
    have HRL := Lib.hid hrl
    clear hrl
    have HPO := Lib.hid hpo
    clear hpo
    have SL := Lib.hid hS
    clear S20 hS
    have S21 := SL
    clear SL
    have hr64_ : r ≤ 64 ∧ r ≤ gc ∧ gc ≤ 9223372036854775807 := by have h1_ := HRL.out; have h2_ := HGG.out.cap; have h3_ := HGG.out.bnd; have h4_ := HLEN2.out; omega
    go_upto_region 3 with fail
    refine wpG_region_k (fun K hK => ?_)
    refine @wpG_p _ _ _ _ _ (some 15) (.bool (decide ((k : Int) < 64))) _ _ rfl (by rfl) (fun W => op_int_lss W (k : Int) 64 rfl rfl rfl Try.underlying3) ?_
    simp only [n1, n3, n4]
    refine wpG_done (fun V22 hv23 => ?_)
    have S24 : Hid (St w noB [own (.slice KA n kc) 3 1 n (ic (Pl.plk l (Pl.bt bs) l2 k)), blk g4 57 (blc bs)] V22) := Lib.hid (S21.out.gr hv23)
    clear S21
    clear hv23
    refine ⟨rfl, hK _ _ ?_⟩
    clear hK
    obtain ⟨c25, hc25⟩ : ∃ q_, q_ = (decide ((k : Int) < 64)) := ⟨_, rfl⟩
    rw [← hc25]
    have Hc25 := Lib.hid hc25
    clear hc25
    cases c25 with
    | true =>
      have f26 := of_decide_eq_true Hc25.out.symm
      go_upto_region 4 with fail
      refine wpG_region_k (fun K hK => ?_)
      refine @wpG_p _ _ _ _ _ (some 16) (.int .i64 (k : Int)) _ _ rfl (by rfl) (fun _ => rfl) ?_
      simp only [n1, n3, n4]
      refine @wpG_p _ _ _ _ _ (some 17) (.bool (bs.getD k false)) _ _ rfl (by rfl) (fun W => op_arr_idx (by omega) hbs rfl rfl rfl Try.underlying57 (by go_simp) (by go_simp)) ?_
      simp only [n1, n3, n4]
      refine @wpG_p _ _ _ _ _ (some 9) (.int .i64 (k : Int)) _ _ rfl (by rfl) (fun _ => rfl) ?_
      simp only [n1, n3, n4]
      refine @wpG_p _ _ _ _ _ (some 10) (.bool (bs.getD k false)) _ _ rfl (by rfl) (fun _ => rfl) ?_
      simp only [n1, n3, n4]
      refine wpG_done (fun V27 hv28 => ?_)
      have S29 : Hid (St w noB [own (.slice KA n kc) 3 1 n (ic (Pl.plk l (Pl.bt bs) l2 k)), blk g4 57 (blc bs)] V27) := Lib.hid (S24.out.gr hv28)
      clear S24
      clear hv28
      refine ⟨rfl, hK _ _ ?_⟩
      clear hK
      go_upto_region 5 with fail
      refine wpG_region_k (fun K hK => ?_)
      refine @wpG_p _ _ _ _ _ (some 18) (.bool (bs.getD k false)) _ _ rfl (by rfl) (fun _ => rfl) ?_
      simp only [n1, n3, n4]
      refine @wpG_p _ _ _ _ _ (some 19) (.bool (!(bs.getD k false))) _ _ rfl (by rfl) (fun W => by go_simp) ?_
      simp only [n1, n3, n4]
      refine wpG_done (fun V30 hv31 => ?_)
      have S32 : Hid (St w noB [own (.slice KA n kc) 3 1 n (ic (Pl.plk l (Pl.bt bs) l2 k)), blk g4 57 (blc bs)] V30) := Lib.hid (S29.out.gr hv31)
      clear S29
      clear hv31
      refine ⟨rfl, hK _ _ ?_⟩
      clear hK
      obtain ⟨c33, hc33⟩ : ∃ q_, q_ = (!(bs.getD k false)) := ⟨_, rfl⟩
      rw [← hc33]
      have Hc33 := Lib.hid hc33
      clear hc33
      cases c33 with
      | true =>
        have f34 := Lib.hid ((bnt Hc33.out))
        go_upto_region 9 with fail
        refine wpG_region_k (fun K hK => ?_)
        refine @wpG_p _ _ _ _ _ (some 41) (.int .i64 ((k : Int) + 1)) _ _ rfl (by rfl) (fun W => op_i_add W (k : Int) 1 (by omega) rfl rfl rfl Try.underlying3) ?_
        simp only [n1, n3, n4]
        refine @wpG_p _ _ _ _ _ (some 14) (.int .i64 ((k : Int) + 1)) _ _ rfl (by rfl) (fun _ => rfl) ?_
        simp only [n1, n3, n4]
        refine wpG_done (fun V35 hv36 => ?_)
        have S37 : Hid (St w noB [own (.slice KA n kc) 3 1 n (ic (Pl.plk l (Pl.bt bs) l2 k)), blk g4 57 (blc bs)] V35) := Lib.hid (S32.out.gr hv36)
        clear S32
        clear hv36
        refine ⟨rfl, hK _ _ ?_⟩
        clear hK
        go_wp2_with fail
        go_roundw
        case rel => exact ⟨G, r, gc, k + 1, (by first | rfl | go_num), (by first | rfl | go_num), (by omega), (by rw [Pl.pc_no (show (Pl.bt bs) k = false by have e_f34 := f34.out; have h_ := e_f34; simpa [Pl.bt] using h_)]; exact HGG.out), (by rw [Pl.pc_no (show (Pl.bt bs) k = false by have e_f34 := f34.out; have h_ := e_f34; simpa [Pl.bt] using h_)]; exact HRL.out), (by rw [Pl.pc_no (show (Pl.bt bs) k = false by have e_f34 := f34.out; have h_ := e_f34; simpa [Pl.bt] using h_)]; exact hpl), (Pl.pOk_step HPO.out (fun h_ => absurd h_ (by rw [(show (Pl.bt bs) k = false by have e_f34 := f34.out; have h_ := e_f34; simpa [Pl.bt] using h_)]; decide))), (by rw [Pl.plk_stay (show (Pl.bt bs) k = false by have e_f34 := f34.out; have h_ := e_f34; simpa [Pl.bt] using h_)]; exact S37.out)⟩
        case measure => first | (simp only [intOf]; omega) | (simp [intOf]; done) | (simp [intOf]; omega) | omega
      | false =>
        have f38 := Lib.hid ((bnf Hc33.out))
        go_upto_region 6 with fail
        refine wpK_region_k (by kernel_rfl) (fun K hK => ?_)
        refine wpK_ta (i := 0) (some 20) (v := .slice G r gc) rfl rfl (by kernel_rfl) (fun _ _ _ h => onN_panic h) (Or.inl ⟨rfl, fun _ => rfl⟩) ?_
        simp only [n1, n3, n4]
        refine wpK_ta (i := 1) (some 21) (v := .int .i64 (r : Int)) rfl rfl (by kernel_rfl) (fun _ _ _ h => onN_panic h) (Or.inl ⟨by rfl, fun W => by go_simp⟩) ?_
        simp only [n1, n3, n4]
        refine wpK_ta (i := 2) (some 22) (v := .bool (decide ((r : Int) = 0))) rfl rfl (by kernel_rfl) (fun _ _ _ h => onN_panic h) (Or.inl ⟨by rfl, fun W => by exact op_int_eql W (r : Int) 0 rfl rfl rfl Try.underlying3⟩) ?_
        simp only [n1, n3, n4]
        refine wpK_ta (i := 3) (some 23) (v := .bool (decide ((r : Int) = 0))) rfl rfl (by kernel_rfl) (fun _ _ _ h => onN_panic h) (Or.inl ⟨rfl, fun _ => rfl⟩) ?_
        simp only [n1, n3, n4]
        obtain ⟨c39, hc39⟩ : ∃ q_, q_ = (decide ((r : Int) = 0)) := ⟨_, rfl⟩
        rw [← hc39]
        have Hc39 := Lib.hid hc39
        clear hc39
        cases c39 with
        | true =>
          have f40 := Lib.hid (of_decide_eq_true Hc39.out.symm)
          have f40a := Int.le_of_eq f40.out
          have f40b := Int.le_of_eq f40.out.symm
          refine wpK_ta (i := 4) (some 24) rfl rfl (by kernel_rfl) (fun _ _ _ h => onN_panic h) (Or.inr ⟨by rfl, rfl⟩) ?_
          simp only [n1, n3, n4]
          refine wpK_ta (i := 5) (some 25) rfl rfl (by kernel_rfl) (fun _ _ _ h => onN_panic h) (Or.inr ⟨by rfl, rfl⟩) ?_
          simp only [n1, n3, n4]
          refine wpK_ta (i := 6) (some 26) rfl rfl (by kernel_rfl) (fun _ _ _ h => onN_panic h) (Or.inr ⟨by rfl, rfl⟩) ?_
          simp only [n1, n3, n4]
          refine wpK_ta (i := 7) (some 27) rfl rfl (by kernel_rfl) (fun _ _ _ h => onN_panic h) (Or.inr ⟨by rfl, rfl⟩) ?_
          simp only [n1, n3, n4]
          refine wpK_ta (i := 8) (some 28) rfl rfl (by kernel_rfl) (fun _ _ _ h => onN_panic h) (Or.inr ⟨by rfl, rfl⟩) ?_
          simp only [n1, n3, n4]
          refine wpK_ta (i := 9) (some 29) rfl rfl (by kernel_rfl) (fun _ _ _ h => onN_panic h) (Or.inr ⟨by rfl, rfl⟩) ?_
          simp only [n1, n3, n4]
          refine wpK_ta (i := 10) (some 30) rfl rfl (by kernel_rfl) (fun _ _ _ h => onN_panic h) (Or.inr ⟨by rfl, rfl⟩) ?_
          simp only [n1, n3, n4]
          refine wpK_ta (i := 11) (some 31) rfl rfl (by kernel_rfl) (fun _ _ _ h => onN_panic h) (Or.inr ⟨by rfl, rfl⟩) ?_
          simp only [n1, n3, n4]
          refine wpK_ta (i := 12) (some 32) (v := .bool true) rfl rfl (by kernel_rfl) (fun _ _ _ h => onN_panic h) (Or.inl ⟨by rfl, fun W => by go_simp⟩) ?_
          simp only [n1, n3, n4]
          refine wpK_done (by kernel_rfl) (fun V41 hv42 => ?_) _
          have S43 : Hid (St w noB [own (.slice KA n kc) 3 1 n (ic (Pl.plk l (Pl.bt bs) l2 k)), blk g4 57 (blc bs)] V41) := Lib.hid (S32.out.gr (Gr.un hv42))
          clear S32
          clear hv42
          refine ⟨rfl, hK _ _ ?_⟩
          clear hK
          go_upto_region 7 with fail
          refine wpG_region_k (fun K hK => ?_)
          refine @wpG_p _ _ _ _ _ (some 6) (.slice none 0 0) _ _ rfl (by rfl) (fun _ => rfl) ?_
          simp only [n1, n3, n4]
          refine @wpG_p _ _ _ _ _ (some 7) (.bool false) _ _ rfl (by rfl) (fun _ => rfl) ?_
          simp only [n1, n3, n4]
          refine wpG_done (fun V44 hv45 => ?_)
          have S46 : Hid (St w noB [own (.slice KA n kc) 3 1 n (ic (Pl.plk l (Pl.bt bs) l2 k)), blk g4 57 (blc bs)] V44) := Lib.hid (S43.out.gr hv45)
          clear S43
          clear hv45
          refine ⟨rfl, hK _ _ ?_⟩
          clear hK
          go_wp2_with fail
          go_ret2
          (have e_f38 := f38.out; have e_f40 := f40.out; have hr_ := Pl.rOk_bad (a := l) (b := (Pl.bt bs)) (cs := l2) (show k < 64 by omega) (fun h_ => by have h2_ := (h_ (show (Pl.bt bs) k = true by have e_f38 := f38.out; have e_f40 := f40.out; have h_ := e_f38; simpa [Pl.bt] using h_)).1; have h3_ := HRL.out; omega); exact ⟨none, 0, 0, [], by rw [hr_]; rfl, fun h_ => absurd h_ (by rw [hr_]; decide), S46.out.dropAll.nilOwn _ _⟩)
        | false =>
          have f47 := of_decide_eq_false Hc39.out.symm
          refine wpK_ta (i := 4) (some 24) (v := .slice G r gc) rfl rfl (by kernel_rfl) (fun _ _ _ h => onN_panic h) (Or.inl ⟨rfl, fun _ => rfl⟩) ?_
          simp only [n1, n3, n4]
          obtain ⟨b48, o48, rfl⟩ := HGG.out.addr (by decide) (by omega)
          refine wpK_ta (i := 5) (some 25) (v := .pointer (some ⟨b48, o48 + 0, none⟩)) rfl rfl (by kernel_rfl) (fun _ _ _ h => onN_panic h) (Or.inl ⟨by rfl, fun W => by (go_simp <;> first | rfl | omega | (simp; omega))⟩) ?_
          simp only [n1, n3, n4]
          refine wpK_ta (i := 7) (some 27) (v := .slice A n c) rfl rfl (by kernel_rfl) (fun _ _ _ h => onN_panic h) (Or.inl ⟨rfl, fun _ => rfl⟩) ?_
          simp only [n1, n3, n4]
          refine wpK_ta (i := 8) (some 28) (v := .int .i64 (k : Int)) rfl rfl (by kernel_rfl) (fun _ _ _ h => onN_panic h) (Or.inl ⟨rfl, fun _ => rfl⟩) ?_
          simp only [n1, n3, n4]
          obtain ⟨b49, o49, rfl⟩ := HGA.out.addr (by decide) (by omega)
          refine wpK_ta (i := 9) (some 29) (v := .pointer (some ⟨b49, o49 + k, none⟩)) rfl rfl (by kernel_rfl) (fun _ _ _ h => onN_panic h) (Or.inl ⟨by rfl, fun W => by (go_simp <;> first | rfl | omega | (simp; omega))⟩) ?_
          simp only [n1, n3, n4]
          refine wpK_tk (i := 6) (some 26) (v := .int .i64 ((l2.drop (Pl.pc (Pl.bt bs) k)).getD 0 0)) rfl rfl (by kernel_rfl) (fun _ _ _ h => onN_panic h) (.val (by rfl) (fun W hg => by have c := (((HGG.out.gr ((S32.out.gr (Gr.un hg))).bel).int (l := (l2.drop (Pl.pc (Pl.bt bs) k))) 0 (by (first | (have := HLEN.out; omega) | (have := HRL.out; rw [List.length_drop]; omega))))) 0 _ rfl; (try simp only [Nat.add_zero, Nat.zero_add] at c); go_simp)) ?_
          simp only [n1, n3, n4]
          refine wpK_tk (i := 10) (some 30) (v := .int .i64 (l.getD k 0)) rfl rfl (by kernel_rfl) (fun _ _ _ h => onN_panic h) (.val (by rfl) (fun W hg => by have c := (((HGA.out.gr ((S32.out.gr (Gr.un hg))).bel).int (l := l) k (by (first | (have := HLEN.out; omega) | (have := HRL.out; rw [List.length_drop]; omega))))) 0 _ rfl; (try simp only [Nat.add_zero, Nat.zero_add] at c); go_simp)) ?_
          simp only [n1, n3, n4]
          refine wpK_ta (i := 11) (some 31) (v := .bool (decide (((l2.drop (Pl.pc (Pl.bt bs) k)).getD 0 0) = (l.getD k 0)))) rfl rfl (by kernel_rfl) (fun _ _ _ h => onN_panic h) (Or.inl ⟨by rfl, fun W => by exact op_int_eql W ((l2.drop (Pl.pc (Pl.bt bs) k)).getD 0 0) (l.getD k 0) rfl rfl rfl Try.underlying3⟩) ?_
          simp only [n1, n3, n4]
          refine wpK_ta (i := 12) (some 32) (v := .bool (decide (((l2.drop (Pl.pc (Pl.bt bs) k)).getD 0 0) = (l.getD k 0)))) rfl rfl (by kernel_rfl) (fun _ _ _ h => onN_panic h) (Or.inl ⟨by rfl, fun W => by go_simp⟩) ?_
          simp only [n1, n3, n4]
          refine wpK_done (by kernel_rfl) (fun V50 hv51 => ?_) _
          have S52 : Hid (St w noB [own (.slice KA n kc) 3 1 n (ic (Pl.plk l (Pl.bt bs) l2 k)), blk g4 57 (blc bs)] V50) := Lib.hid (S32.out.gr (Gr.un hv51))
          clear S32
          clear hv51
          refine ⟨rfl, hK _ _ ?_⟩
          clear hK
          obtain ⟨c53, hc53⟩ : ∃ q_, q_ = (decide (((l2.drop (Pl.pc (Pl.bt bs) k)).getD 0 0) = (l.getD k 0))) := ⟨_, rfl⟩
          rw [← hc53]
          have Hc53 := Lib.hid hc53
          clear hc53
          cases c53 with
          | true =>
            have f54 := Lib.hid (of_decide_eq_true Hc53.out.symm)
            have f54a := Int.le_of_eq f54.out
            have f54b := Int.le_of_eq f54.out.symm
            go_upto_region 7 with fail
            refine wpG_region_k (fun K hK => ?_)
            refine @wpG_p _ _ _ _ _ (some 6) (.slice none 0 0) _ _ rfl (by rfl) (fun _ => rfl) ?_
            simp only [n1, n3, n4]
            refine @wpG_p _ _ _ _ _ (some 7) (.bool false) _ _ rfl (by rfl) (fun _ => rfl) ?_
            simp only [n1, n3, n4]
            refine wpG_done (fun V55 hv56 => ?_)
            have S57 : Hid (St w noB [own (.slice KA n kc) 3 1 n (ic (Pl.plk l (Pl.bt bs) l2 k)), blk g4 57 (blc bs)] V55) := Lib.hid (S52.out.gr hv56)
            clear S52
            clear hv56
            refine ⟨rfl, hK _ _ ?_⟩
            clear hK
            go_wp2_with fail
            go_ret2
            (have e_f38 := f38.out; have e_f54 := f54.out; have hr_ := Pl.rOk_bad (a := l) (b := (Pl.bt bs)) (cs := l2) (show k < 64 by omega) (fun h_ => (h_ (show (Pl.bt bs) k = true by have e_f38 := f38.out; have e_f54 := f54.out; have h_ := e_f38; simpa [Pl.bt] using h_)).2 (by have h2_ := e_f54; rw [Pl.getD_drop0] at h2_; exact h2_)); exact ⟨none, 0, 0, [], by rw [hr_]; rfl, fun h_ => absurd h_ (by rw [hr_]; decide), S57.out.dropAll.nilOwn _ _⟩)
          | false =>
            have f58 := of_decide_eq_false Hc53.out.symm
            go_upto_region 8 with fail
            refine wpK_region_k (by kernel_rfl) (fun K hK => ?_)
            refine wpK_ta (i := 0) (some 33) (v := .slice KA n kc) rfl rfl (by kernel_rfl) (fun _ _ _ h => onN_panic h) (Or.inl ⟨rfl, fun _ => rfl⟩) ?_
            simp only [n1, n3, n4]
            refine wpK_ta (i := 1) (some 34) (v := .int .i64 (k : Int)) rfl rfl (by kernel_rfl) (fun _ _ _ h => onN_panic h) (Or.inl ⟨rfl, fun _ => rfl⟩) ?_
            simp only [n1, n3, n4]
            refine wpK_ta (i := 2) (some 35) (v := .slice (some ⟨b48, o48, none⟩) r gc) rfl rfl (by kernel_rfl) (fun _ _ _ h => onN_panic h) (Or.inl ⟨rfl, fun _ => rfl⟩) ?_
            simp only [n1, n3, n4]
            refine wpK_ta (i := 3) (some 36) (v := .pointer (some ⟨b48, o48 + 0, none⟩)) rfl rfl (by kernel_rfl) (fun _ _ _ h => onN_panic h) (Or.inl ⟨by rfl, fun W => by (go_simp <;> first | rfl | omega | (simp; omega))⟩) ?_
            simp only [n1, n3, n4]
            refine wpK_ta (i := 5) (some 38) (v := .slice (some ⟨b48, o48, none⟩) r gc) rfl rfl (by kernel_rfl) (fun _ _ _ h => onN_panic h) (Or.inl ⟨rfl, fun _ => rfl⟩) ?_
            simp only [n1, n3, n4]
            refine wpK_ta (i := 6) (some 39) (v := .slice (if gc = 1 then some ⟨b48, o48, none⟩ else some ⟨b48, o48 + 1, none⟩) (r - 1) (gc - 1)) rfl rfl (by kernel_rfl) (fun _ _ _ h => onN_panic h) (Or.inl ⟨by rfl, fun W => by exact op_slice_tail b48 o48 r gc (by omega) (by omega) rfl rfl rfl Try.underlying22 (by kernel_rfl)⟩) ?_
            simp only [n1, n3, n4]
            refine wpK_tk (i := 4) (some 37) (v := .int .i64 ((l2.drop (Pl.pc (Pl.bt bs) k)).getD 0 0)) rfl rfl (by kernel_rfl) (fun _ _ _ h => onN_panic h) (.val (by rfl) (fun W hg => by have c := (((HGG.out.gr ((S52.out.gr (Gr.un hg))).bel).int (l := (l2.drop (Pl.pc (Pl.bt bs) k))) 0 (by (first | (have := HLEN.out; omega) | (have := HRL.out; rw [List.length_drop]; omega))))) 0 _ rfl; (try simp only [Nat.add_zero, Nat.zero_add] at c); go_simp)) ?_
            simp only [n1, n3, n4]
            obtain ⟨og59, rfl⟩ := ownAdr (S52.out.ownr 0 rfl) (by omega)
            have hix_ : k < n := by omega
            refine wpK_ta (i := 7) (some 40) (v := .pointer (some ⟨og59, k, none⟩)) rfl rfl (by kernel_rfl) (fun _ _ _ h => onN_panic h) (Or.inl ⟨by rfl, fun W => by (go_simp <;> first | rfl | omega | (simp; omega))⟩) ?_
            simp only [n1, n3, n4]
            refine wpK_store (i := 8) (none) rfl rfl (by kernel_rfl) (by rfl) (by rfl) (fun W60 hg61 => ⟨W60.setCell ⟨og59, k, none⟩ (.int .i64 ((l2.drop (Pl.pc (Pl.bt bs) k)).getD 0 0)), by obtain ⟨⟨_, c⟩, c2⟩ := own_cell (k := k) ((S52.out.gr (Gr.un hg61)).ownr 0 rfl) (by omega); go_simp, ?_⟩)
            simp only [n2]
            obtain ⟨U62, hu_, hS_⟩ := ((S52.out.gr (Gr.un hg61)).ownPutAt 0 rfl (k := k) (by omega) (.int .i64 ((l2.drop (Pl.pc (Pl.bt bs) k)).getD 0 0))).named
            rw [← hu_]
            have hS2_ : St w noB [own (.slice (some ⟨og59, 0, none⟩) n kc) 3 1 n (ic ((Pl.plk l (Pl.bt bs) l2 k).set k ((l2.drop (Pl.pc (Pl.bt bs) k)).getD 0 0))), blk g4 57 (blc bs)] U62 := by have h_ := hS_; rw [show (ic (Pl.plk l (Pl.bt bs) l2 k)).set k (.int .i64 ((l2.drop (Pl.pc (Pl.bt bs) k)).getD 0 0)) = ic ((Pl.plk l (Pl.bt bs) l2 k).set k ((l2.drop (Pl.pc (Pl.bt bs) k)).getD 0 0)) from ic_set _ _ _] at h_; exact h_
            clear hS_
            have hS_ := hS2_
            clear hS2_
            have S63 : Hid (St w noB [own (.slice (some ⟨og59, 0, none⟩) n kc) 3 1 n (ic ((Pl.plk l (Pl.bt bs) l2 k).set k ((l2.drop (Pl.pc (Pl.bt bs) k)).getD 0 0))), blk g4 57 (blc bs)] U62) := Lib.hid hS_
            clear S52
            clear hu_ hS_ hg61
            refine wpK_ta (i := 9) (some 2) (v := .slice (if gc = 1 then some ⟨b48, o48, none⟩ else some ⟨b48, o48 + 1, none⟩) (r - 1) (gc - 1)) rfl rfl (by kernel_rfl) (fun _ _ _ h => onN_panic h) (Or.inl ⟨rfl, fun _ => rfl⟩) ?_
            simp only [n1, n3, n4]
            refine wpK_done (by kernel_rfl) (fun V64 hv65 => ?_) _
            have S66 : Hid (St w noB [own (.slice (some ⟨og59, 0, none⟩) n kc) 3 1 n (ic ((Pl.plk l (Pl.bt bs) l2 k).set k ((l2.drop (Pl.pc (Pl.bt bs) k)).getD 0 0))), blk g4 57 (blc bs)] V64) := Lib.hid (S63.out.gr hv65)
            clear S63
            clear hv65
            refine ⟨rfl, hK _ _ ?_⟩
            clear hK
            go_upto_region 9 with fail
            refine wpG_region_k (fun K hK => ?_)
            refine @wpG_p _ _ _ _ _ (some 41) (.int .i64 ((k : Int) + 1)) _ _ rfl (by rfl) (fun W => op_i_add W (k : Int) 1 (by omega) rfl rfl rfl Try.underlying3) ?_
            simp only [n1, n3, n4]
            refine @wpG_p _ _ _ _ _ (some 14) (.int .i64 ((k : Int) + 1)) _ _ rfl (by rfl) (fun _ => rfl) ?_
            simp only [n1, n3, n4]
            refine wpG_done (fun V67 hv68 => ?_)
            have S69 : Hid (St w noB [own (.slice (some ⟨og59, 0, none⟩) n kc) 3 1 n (ic ((Pl.plk l (Pl.bt bs) l2 k).set k ((l2.drop (Pl.pc (Pl.bt bs) k)).getD 0 0))), blk g4 57 (blc bs)] V67) := Lib.hid (S66.out.gr hv68)
            clear S66
            clear hv68
            refine ⟨rfl, hK _ _ ?_⟩
            clear hK
            go_wp2_with fail
            go_roundw
            case rel => exact ⟨_, _, _, k + 1, (by first | rfl | go_num), (by first | rfl | go_num), (by omega), (by have h_ := SL.tail HGG.out (by omega); rw [List.drop_drop] at h_; rw [Pl.pc_yes (show (Pl.bt bs) k = true by have e_f38 := f38.out; have h_ := e_f38; simpa [Pl.bt] using h_)]; exact h_), (by have h_ := HRL.out; rw [Pl.pc_yes (show (Pl.bt bs) k = true by have e_f38 := f38.out; have h_ := e_f38; simpa [Pl.bt] using h_)]; omega), (by have h_ := HRL.out; rw [Pl.pc_yes (show (Pl.bt bs) k = true by have e_f38 := f38.out; have h_ := e_f38; simpa [Pl.bt] using h_)]; omega), (Pl.pOk_step HPO.out (fun _ => ⟨by have h_ := HRL.out; omega, by have e_f38 := f38.out; have h_ := f58; rw [Pl.getD_drop0] at h_; first | exact h_ | exact fun e_ => h_ e_⟩)), (by have h_ := S69.out; rw [Pl.getD_drop0, Pl.plk_set (by omega) (show (Pl.bt bs) k = true by have e_f38 := f38.out; have h_ := e_f38; simpa [Pl.bt] using h_)] at h_; exact h_)⟩
            case measure => first | (simp only [intOf]; omega) | (simp [intOf]; done) | (simp [intOf]; omega) | omega
    | false =>
      have f70 := of_decide_eq_false Hc25.out.symm
      go_upto_region 10 with fail
      refine wpG_region_k (fun K hK => ?_)
      refine @wpG_p _ _ _ _ _ (some 42) (.slice KA n kc) _ _ rfl (by rfl) (fun _ => rfl) ?_
      simp only [n1, n3, n4]
      refine @wpG_p _ _ _ _ _ (some 43) (.slice G r gc) _ _ rfl (by rfl) (fun _ => rfl) ?_
      simp only [n1, n3, n4]
      refine @wpG_p _ _ _ _ _ (some 44) (.int .i64 (r : Int)) _ _ rfl (by rfl) (fun W => by go_simp) ?_
      simp only [n1, n3, n4]
      refine @wpG_p _ _ _ _ _ (some 45) (.bool (decide ((r : Int) = 0))) _ _ rfl (by rfl) (fun W => op_int_eql W (r : Int) 0 rfl rfl rfl Try.underlying3) ?_
      simp only [n1, n3, n4]
      refine @wpG_p _ _ _ _ _ (some 6) (.slice KA n kc) _ _ rfl (by rfl) (fun _ => rfl) ?_
      simp only [n1, n3, n4]
      refine @wpG_p _ _ _ _ _ (some 7) (.bool (decide ((r : Int) = 0))) _ _ rfl (by rfl) (fun _ => rfl) ?_
      simp only [n1, n3, n4]
      refine wpG_done (fun V71 hv72 => ?_)
      have S73 : Hid (St w noB [own (.slice KA n kc) 3 1 n (ic (Pl.plk l (Pl.bt bs) l2 k)), blk g4 57 (blc bs)] V71) := Lib.hid (S24.out.gr hv72)
      clear S24
      clear hv72
      refine ⟨rfl, hK _ _ ?_⟩
      clear hK
      go_wp2_with fail
      go_ret2
      have hk_ : k = 64 := by omega
      have hr_ := Pl.rOk_end (a := l) (b := (Pl.bt bs)) (cs := l2) (fun i hi => HPO.out i (by omega))
      have hdN_ : decide (Pl.pc (Pl.bt bs) 64 = l2.length) = decide (r = 0) := by (rw [decide_eq_decide]; have h1_ := HRL.out; rw [hk_] at h1_ hpl; omega)
      have hdI_ : decide (Pl.pc (Pl.bt bs) 64 = l2.length) = decide ((r : Int) = 0) := by (rw [decide_eq_decide]; have h1_ := HRL.out; rw [hk_] at h1_ hpl; omega)
      first | exact ⟨KA, n, kc, by first | (rw [hr_, hdN_]; rfl) | (rw [hr_, hdI_]; rfl), Pl.plk l (Pl.bt bs) l2 k, fun _ => by rw [hk_, Pl.plk_all], S73.out.sub (.cons_cons _ (.cons _ .slnil))⟩ | exact ⟨KA, n, kc, Pl.plk l (Pl.bt bs) l2 k, by first | (rw [hr_, hdN_]; rfl) | (rw [hr_, hdI_]; rfl), fun _ => by rw [hk_, Pl.plk_all], S73.out.sub (.cons_cons _ (.cons _ .slnil))⟩

end Go.Proofs.Ytfomieekdbkcnaa
