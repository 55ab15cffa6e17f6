/-
  Contracts of package palette: Pack, Encode.
-/
import Derived.Test.YtfomieekdbkcnaaPk10
import Derived.Handy
namespace Go.Proofs.Ytfomieekdbkcnaa
open Go Go.RowKit
set_option linter.unusedVariables false
set_option linter.unusedSimpArgs false
theorem SL.ofBlkx {w0 w : World} {F : Nat → Prop} {L : List HP} {g : Nat} {t : TypeId} {cs : List Value} (h : St w0 F L w) (i : Nat) (hL : L[i]? = some (blk g t cs)) (n : Nat) (hn : cs.length = n) (hb : n ≤ 9223372036854775807 := by decide) : SL w 1 (some ⟨g, 0, none⟩) n n cs :=
  ⟨by rw [Nat.mul_one]; exact hn, by
    by_cases h0 : cs = []
    · exact .inl h0
    · exact .inr ⟨g, 0, rfl, fun j v hj => by rw [Nat.zero_add]; exact (h.row i hL j v hj).1⟩, Nat.le_refl _, hb⟩
namespace Pl
def pO (l : List Int) : Bool := decide (l.length ≤ 64) && vc l
def pS (l : List Int) : List UInt8 := if pO l = true then pk l else []
def pE (l : List Int) : Int := if pO l = true then 0 else 1
theorem p_ok {l : List Int} (h : l.length ≤ 64) (hv : vc l = true) : pS l = pk l ∧ pE l = 0 := by
  have e : pO l = true := by unfold pO; rw [decide_eq_true h, hv]; rfl
  exact ⟨if_pos e, if_pos e⟩
theorem p_long {l : List Int} (h : ¬ l.length ≤ 64) : pS l = [] ∧ pE l = 1 := by
  have e : ¬ pO l = true := by unfold pO; rw [decide_eq_false h]; simp
  exact ⟨if_neg e, if_neg e⟩
theorem p_bad {l : List Int} (hv : vc l = false) : pS l = [] ∧ pE l = 1 := by
  have e : ¬ pO l = true := by unfold pO; rw [hv]; simp
  exact ⟨if_neg e, if_neg e⟩
/-- the head of a packed form, k cells of the palette long -/
def hd (l : List Int) (k : Nat) : List UInt8 := UInt8.ofNat l.length :: UInt8.ofNat (pal l).length :: bts ((pal l).take k)
theorem hd_succ {l : List Int} {k q : Nat} (hk : k < (pal l).length) (hq : (pal l).getD k 0 = (q : Int)) : hd l (k + 1) = hd l k ++ [UInt8.ofNat q] := by
  unfold hd
  have e : (pal l)[k] = (q : Int) := by rw [← hq]; simp [List.getD, hk]
  rw [List.take_succ_eq_append_getElem hk, e]
  simp [bts]
theorem pk_hd {l : List Int} (h : l ≠ []) {m : Nat} (hm : m = (pal l).length) : pk l = hd l m ++ le (room l.length (wd m)) (S (wd m) (ix (pal l) l) l.length) := by
  unfold pk hd sx
  rw [if_neg h, hm, List.take_length]
/-- what the places give -/
theorem plc_ix {l : List Int} (hc : ∀ c ∈ l, cell c) (hl : l.length ≤ 64) {m : Nat} (hm : m = (pal l).length) : ∀ i, i < l.length → (0 ≤ l.getD i 0 ∧ l.getD i 0 ≤ 255 ∧ (plc (pal l) m).getD (l.getD i 0).toNat 0 = (ix (pal l) l i : Int)) ∧ ix (pal l) l i < 2 ^ wd m := by
  intro i hi
  obtain ⟨h1, h2⟩ := getD_cell hc hi
  refine ⟨⟨h1, h2, ?_⟩, by rw [hm]; exact ix_pow hl hi⟩
  have hmem : l.getD i 0 ∈ pal l := by rw [mem_pal, show l.getD i 0 = l[i] by simp [List.getD, hi]]; exact List.getElem_mem _
  have e : ((l.getD i 0).toNat : Int) = l.getD i 0 := by omega
  rw [hm, plc_at (by omega) (by rw [e]; exact hmem), e]; rfl
def eS (l : List Int) : List UInt8 := if l.length = 64 then pS l else []
def eE (l : List Int) : Int := if l.length = 64 then pE l else 1
end Pl
set_option maxRecDepth 1000000 in
set_option maxHeartbeats 4000000 in
theorem pack_any (A : Option Addr) (n c : Nat) (l : List Int) (w : World) (hG : SL w 1 A n c (ic l)) (hb : n ≤ 1000) :
    Calls Try.prog 11 #[.slice A n c] w fun e w' => e = .returned (.tuple #[.string (bstr (Pl.pS l)), .int .i64 (Pl.pE l)]) ∧ Below w.heap.size w w' := by
  have HGA := Lib.hid hG
  have HLEN : Hid (l.length = n) := Lib.hid (by have h_ := hG.len; rw [ic_len] at h_; omega)
  have hnbHGA : n ≤ 9223372036854775807 := Nat.le_trans hG.cap hG.bnd
  clear hG
  have S1 : Hid (St w noB [] w) := Lib.hid (St.start w)
  go_enter Try.func11, Try.ntmps11
  go_upto_region 0 with fail
  refine wpG_region_k (fun K hK => ?_)
  refine @wpG_p _ _ _ _ _ (some 2) (.string ⟨#[]⟩) _ _ rfl (by rfl) (fun _ => rfl) ?_
  simp only [n1, n3, n4]
  refine @wpG_p _ _ _ _ _ (some 3) (.int .i64 0) _ _ rfl (by rfl) (fun _ => rfl) ?_
  simp only [n1, n3, n4]
  refine wpG_done (fun V2 hv3 => ?_)
  have S4 : Hid (St w noB [] V2) := Lib.hid (S1.out.gr hv3)
  clear S1
  clear hv3
  refine ⟨rfl, hK _ _ ?_⟩
  clear hK
  go_upto_region 1 with fail
  refine wpG_region_k (fun K hK => ?_)
  refine @wpG_p _ _ _ _ _ (some 10) (.slice A n c) _ _ rfl (by rfl) (fun _ => rfl) ?_
  simp only [n1, n3, n4]
  refine @wpG_p _ _ _ _ _ (some 11) (.int .i64 (n : Int)) _ _ rfl (by rfl) (fun W => by go_simp) ?_
  simp only [n1, n3, n4]
  refine @wpG_p _ _ _ _ _ (some 12) (.bool (decide ((n : Int) > 64))) _ _ rfl (by rfl) (fun W => op_int_gtr W (n : Int) 64 rfl rfl rfl Try.underlying3) ?_
  simp only [n1, n3, n4]
  refine @wpG_p _ _ _ _ _ (some 13) (.bool (decide ((n : Int) > 64))) _ _ rfl (by rfl) (fun _ => rfl) ?_
  simp only [n1, n3, n4]
  obtain ⟨c5, hc5⟩ : ∃ q_, q_ = (decide ((n : Int) > 64)) := ⟨_, rfl⟩
  rw [← hc5]
  have Hc5 := Lib.hid hc5
  clear hc5
  cases c5 with
  | true =>
    have f6 := of_decide_eq_true Hc5.out.symm
    refine @wpG_no _ _ _ _ _ (some 14) _ _ rfl (by rfl) ?_
    simp only [n1, n3, n4]
    refine @wpG_no _ _ _ _ _ (some 15) _ _ rfl (by rfl) ?_
    simp only [n1, n3, n4]
    refine @wpG_no _ _ _ _ _ (some 16) _ _ rfl (by rfl) ?_
    simp only [n1, n3, n4]
    refine @wpG_p _ _ _ _ _ (some 17) (.bool true) _ _ rfl (by rfl) (fun W => by go_simp) ?_
    simp only [n1, n3, n4]
    refine wpG_done (fun V7 hv8 => ?_)
    have S9 : Hid (St w noB [] V7) := Lib.hid (S4.out.gr hv8)
    clear S4
    clear hv8
    refine ⟨rfl, hK _ _ ?_⟩
    clear hK
    go_upto_region 2 with fail
    refine wpG_region_k (fun K hK => ?_)
    refine @wpG_p _ _ _ _ _ (some 2) (.string ⟨#[]⟩) _ _ rfl (by rfl) (fun _ => rfl) ?_
    simp only [n1, n3, n4]
    refine @wpG_p _ _ _ _ _ (some 3) (.int .i64 1) _ _ rfl (by rfl) (fun _ => rfl) ?_
    simp only [n1, n3, n4]
    refine wpG_done (fun V10 hv11 => ?_)
    have S12 : Hid (St w noB [] V10) := Lib.hid (S9.out.gr hv11)
    clear S9
    clear hv11
    refine ⟨rfl, hK _ _ ?_⟩
    clear hK
    go_wp2_with fail
    go_ret2
    refine ⟨?_, S12.out.bel⟩
    show Ending.returned (.tuple #[.string ⟨#[]⟩, .int .i64 1]) = _
    (obtain ⟨e1_, e2_⟩ := Pl.p_long (l := l) (by have := HLEN.out; omega); rw [e1_, e2_]; rfl)
  | false =>
    have f13 := of_decide_eq_false Hc5.out.symm
    refine @wpG_p _ _ _ _ _ (some 14) (.slice A n c) _ _ rfl (by rfl) (fun _ => rfl) ?_
    simp only [n1, n3, n4]
    refine @wpG_tk _ _ _ _ _ (some 15) (.bool (Pl.vc l)) _ _ rfl (.call (f := 27) (args := #[.slice A n c]) (by rfl) (fun W => by go_simp) (fun W hg => mats_any _ _ _ l W (HGA.out.gr (S4.out.gr hg).bel))) ?_
    simp only [n1, n3, n4]
    refine @wpG_p _ _ _ _ _ (some 16) (.bool (!(Pl.vc l))) _ _ rfl (by rfl) (fun W => by go_simp) ?_
    simp only [n1, n3, n4]
    refine @wpG_p _ _ _ _ _ (some 17) (.bool (!(Pl.vc l))) _ _ rfl (by rfl) (fun W => by go_simp) ?_
    simp only [n1, n3, n4]
    refine wpG_done (fun V14 hv15 => ?_)
    have S16 : Hid (St w noB [] V14) := Lib.hid (S4.out.gr hv15)
    clear S4
    clear hv15
    refine ⟨rfl, hK _ _ ?_⟩
    clear hK
    obtain ⟨c17, hc17⟩ : ∃ q_, q_ = (!(Pl.vc l)) := ⟨_, rfl⟩
    rw [← hc17]
    have Hc17 := Lib.hid hc17
    clear hc17
    cases c17 with
    | true =>
      have f18 := Lib.hid ((bnt Hc17.out))
      go_upto_region 2 with fail
      refine wpG_region_k (fun K hK => ?_)
      refine @wpG_p _ _ _ _ _ (some 2) (.string ⟨#[]⟩) _ _ rfl (by rfl) (fun _ => rfl) ?_
      simp only [n1, n3, n4]
      refine @wpG_p _ _ _ _ _ (some 3) (.int .i64 1) _ _ rfl (by rfl) (fun _ => rfl) ?_
      simp only [n1, n3, n4]
      refine wpG_done (fun V19 hv20 => ?_)
      have S21 : Hid (St w noB [] V19) := Lib.hid (S16.out.gr hv20)
      clear S16
      clear hv20
      refine ⟨rfl, hK _ _ ?_⟩
      clear hK
      go_wp2_with fail
      go_ret2
      refine ⟨?_, S21.out.bel⟩
      show Ending.returned (.tuple #[.string ⟨#[]⟩, .int .i64 1]) = _
      (have e_f18 := f18.out; obtain ⟨e1_, e2_⟩ := Pl.p_bad (l := l) (by simpa using e_f18); rw [e1_, e2_]; rfl)
    | false =>
      have f22 := Lib.hid ((bnf Hc17.out))
      have HVC : Hid (Pl.vc l = true) := Lib.hid (by have h_ := f22.out; simpa using h_)
      go_upto_region 3 with fail
      refine wpG_region_k (fun K hK => ?_)
      refine @wpG_p _ _ _ _ _ (some 18) (.slice A n c) _ _ rfl (by rfl) (fun _ => rfl) ?_
      simp only [n1, n3, n4]
      refine @wpG_p _ _ _ _ _ (some 19) (.int .i64 (n : Int)) _ _ rfl (by rfl) (fun W => by go_simp) ?_
      simp only [n1, n3, n4]
      refine @wpG_p _ _ _ _ _ (some 20) (.int .u8 (n : Int)) _ _ rfl (by rfl) (fun W => op_conv_n8 n (by first | omega | (have := HML.out; have := Pl.pal_len l; have := HLEN.out; omega)) rfl rfl Try.underlying3 Try.underlying5) ?_
      simp only [n1, n3, n4]
      refine wpG_val (some 21) rfl (by rfl) (fun W23 hg24 => ⟨.slice (some ⟨W23.heap.size, 0, none⟩) 1 1, W23.alloc (.cells #[.int .u8 (n : Int)] 5), by (go_simp <;> rfl), ?_⟩)
      simp only [n1, n3, n4]
      obtain ⟨g25, U26, hg_, hu_, hS_⟩ := (S16.out.gr hg24).made [.int .u8 (n : Int)] 5
      rw [← hu_, ← hg_]
      have S27 : Hid (St w noB [blk g25 5 [.int .u8 (n : Int)]] U26) := Lib.hid hS_
      clear S16
      clear hg_ hu_ hS_ hg24
      refine @wpG_p _ _ _ _ _ (some 4) (.slice (some ⟨g25, 0, none⟩) 1 1) _ _ rfl (by rfl) (fun _ => rfl) ?_
      simp only [n1, n3, n4]
      refine wpG_done (fun V28 hv29 => ?_)
      have S30 : Hid (St w noB [blk g25 5 [.int .u8 (n : Int)]] V28) := Lib.hid (S27.out.gr hv29)
      clear S27
      clear hv29
      refine ⟨rfl, hK _ _ ?_⟩
      clear hK
      go_upto_region 4 with fail
      refine wpG_region_k (fun K hK => ?_)
      refine @wpG_p _ _ _ _ _ (some 22) (.slice A n c) _ _ rfl (by rfl) (fun _ => rfl) ?_
      simp only [n1, n3, n4]
      refine @wpG_p _ _ _ _ _ (some 23) (.int .i64 (n : Int)) _ _ rfl (by rfl) (fun W => by go_simp) ?_
      simp only [n1, n3, n4]
      refine @wpG_p _ _ _ _ _ (some 24) (.bool (decide ((n : Int) = 0))) _ _ rfl (by rfl) (fun W => op_int_eql W (n : Int) 0 rfl rfl rfl Try.underlying3) ?_
      simp only [n1, n3, n4]
      refine wpG_done (fun V31 hv32 => ?_)
      have S33 : Hid (St w noB [blk g25 5 [.int .u8 (n : Int)]] V31) := Lib.hid (S30.out.gr hv32)
      clear S30
      clear hv32
      refine ⟨rfl, hK _ _ ?_⟩
      clear hK
      obtain ⟨c34, hc34⟩ : ∃ q_, q_ = (decide ((n : Int) = 0)) := ⟨_, rfl⟩
      rw [← hc34]
      have Hc34 := Lib.hid hc34
      clear hc34
      cases c34 with
      | true =>
        have f35 := Lib.hid (of_decide_eq_true Hc34.out.symm)
        have f35a := Int.le_of_eq f35.out
        have f35b := Int.le_of_eq f35.out.symm
        go_upto_region 5 with fail
        refine wpG_region_k (fun K hK => ?_)
        refine @wpG_p _ _ _ _ _ (some 25) (.slice (some ⟨g25, 0, none⟩) 1 1) _ _ rfl (by rfl) (fun _ => rfl) ?_
        simp only [n1, n3, n4]
        refine @wpG_r _ _ _ _ _ (some 26) (.string (bstr [UInt8.ofNat n])) _ _ rfl (by rfl) (fun W hg => by exact op_conv_str (l := [UInt8.ofNat n]) (by have h_ := SL.ofBlkx (S33.out.gr hg) 0 rfl 1 rfl; exact (by rw [show bc [UInt8.ofNat n] = [.int .u8 (n : Int)] from by rw [bv_n (show n < 256 by omega)]; rfl]; exact h_)) rfl rfl Try.underlying43 Try.underlying5 Try.underlying9) ?_
        simp only [n1, n3, n4]
        refine @wpG_p _ _ _ _ _ (some 2) (.string (bstr [UInt8.ofNat n])) _ _ rfl (by rfl) (fun _ => rfl) ?_
        simp only [n1, n3, n4]
        refine @wpG_p _ _ _ _ _ (some 3) (.int .i64 0) _ _ rfl (by rfl) (fun _ => rfl) ?_
        simp only [n1, n3, n4]
        refine wpG_done (fun V36 hv37 => ?_)
        have S38 : Hid (St w noB [blk g25 5 [.int .u8 (n : Int)]] V36) := Lib.hid (S33.out.gr hv37)
        clear S33
        clear hv37
        refine ⟨rfl, hK _ _ ?_⟩
        clear hK
        go_wp2_with fail
        go_ret2
        refine ⟨?_, S38.out.bel⟩
        show Ending.returned (.tuple #[.string (bstr [UInt8.ofNat n]), .int .i64 0]) = _
        (have e_f22 := f22.out; have e_f35 := f35.out; obtain ⟨e1_, e2_⟩ := Pl.p_ok (l := l) (by have := HLEN.out; omega) HVC.out; rw [e1_, e2_]; (have e3_ : l = [] := List.eq_nil_of_length_eq_zero (by have := HLEN.out; omega); have e4_ : n = 0 := (by omega); rw [e3_, e4_]; rfl))
      | false =>
        have f39 := of_decide_eq_false Hc34.out.symm
        go_upto_region 6 with fail
        refine wpG_region_k (fun K hK => ?_)
        refine @wpG_p _ _ _ _ _ (some 27) (.slice A n c) _ _ rfl (by rfl) (fun _ => rfl) ?_
        simp only [n1, n3, n4]
        refine wpG_call (some 28) 28 #[.slice A n c] rfl (by rfl) (fun W => by go_simp) (fun W40 hg41 => ?_)
        refine (different_any _ _ _ l W40 (HGA.out.gr (S33.out.gr hg41).bel) (by omega) (Pl.vc_iff.1 HVC.out)).mono ?_
        rintro e w42 ⟨D, m, dc, rfl, hS_⟩
        refine ⟨_, rfl, ?_⟩
        have hT_ := (S33.out.gr hg41).got hS_
        simp only [n1, n3, n4]
        have S43 : Hid (St w noB [own (.slice D m dc) 3 1 m (ic (Pl.pal l)), blk g25 5 [.int .u8 (n : Int)]] w42) := Lib.hid hT_
        clear S33
        clear hT_ hS_ hg41
        have hlm : Hid (m = (Pl.pal l).length) := Lib.hid (own_icl (S43.out.ownr 0 rfl))
        have HML := hlm
        have hm64_ : m ≤ 64 := by have := HML.out; have := Pl.pal_len l; have := HLEN.out; omega
        refine @wpG_p _ _ _ _ _ (some 5) (.slice D m dc) _ _ rfl (by rfl) (fun _ => rfl) ?_
        simp only [n1, n3, n4]
        refine wpG_done (fun V44 hv45 => ?_)
        have S46 : Hid (St w noB [own (.slice D m dc) 3 1 m (ic (Pl.pal l)), blk g25 5 [.int .u8 (n : Int)]] V44) := Lib.hid (S43.out.gr hv45)
        clear S43
        clear hv45
        refine ⟨rfl, hK _ _ ?_⟩
        clear hK
        go_upto_region 7 with fail
        refine wpG_region_k (fun K hK => ?_)
        have S47 : Hid (St w noB [own (.slice (some ⟨g25, 0, none⟩) 1 1) 5 1 1 [.int .u8 (n : Int)], own (.slice D m dc) 3 1 m (ic (Pl.pal l))] V44) := Lib.hid ((S46.out.front 1 rfl).toOwn 1 1 (by rfl) (by simp [maxLen]))
        clear S46
        have S48 : Hid (St w noB [own (.slice (some ⟨g25, 0, none⟩) 1 1) 5 1 1 (bc [UInt8.ofNat n]), own (.slice D m dc) 3 1 m (ic (Pl.pal l))] V44) := Lib.hid (by have h_ := S47.out; rw [show [.int .u8 (n : Int)] = bc [UInt8.ofNat n] from (by rw [bv_n (show n < 256 by omega)]; rfl)] at h_; exact h_)
        clear S47
        refine @wpG_p _ _ _ _ _ (some 29) (.slice (some ⟨g25, 0, none⟩) 1 1) _ _ rfl (by rfl) (fun _ => rfl) ?_
        simp only [n1, n3, n4]
        refine @wpG_p _ _ _ _ _ (some 30) (.slice D m dc) _ _ rfl (by rfl) (fun _ => rfl) ?_
        simp only [n1, n3, n4]
        refine @wpG_p _ _ _ _ _ (some 31) (.int .i64 (m : Int)) _ _ rfl (by rfl) (fun W => by go_simp) ?_
        simp only [n1, n3, n4]
        refine @wpG_p _ _ _ _ _ (some 32) (.int .u8 (m : Int)) _ _ rfl (by rfl) (fun W => op_conv_n8 m (by first | omega | (have := HML.out; have := Pl.pal_len l; have := HLEN.out; omega)) rfl rfl Try.underlying3 Try.underlying5) ?_
        simp only [n1, n3, n4]
        refine wpG_val (some 33) rfl (by rfl) (fun W49 hg50 => ⟨.slice (some ⟨W49.heap.size, 0, none⟩) 1 1, W49.alloc (.cells #[.int .u8 (m : Int)] 5), by (go_simp <;> rfl), ?_⟩)
        simp only [n1, n3, n4]
        obtain ⟨g51, U52, hg_, hu_, hS_⟩ := (S48.out.gr hg50).made [.int .u8 (m : Int)] 5
        rw [← hu_, ← hg_]
        have S53 : Hid (St w noB [blk g51 5 [.int .u8 (m : Int)], own (.slice (some ⟨g25, 0, none⟩) 1 1) 5 1 1 (bc [UInt8.ofNat n]), own (.slice D m dc) 3 1 m (ic (Pl.pal l))] U52) := Lib.hid hS_
        clear S48
        clear hg_ hu_ hS_ hg50
        have S54 : Hid (St w noB [own (.slice (some ⟨g25, 0, none⟩) 1 1) 5 1 1 (bc [UInt8.ofNat n]), blk g51 5 [.int .u8 (m : Int)], own (.slice D m dc) 3 1 m (ic (Pl.pal l))] U52) := Lib.hid (S53.out.front 1 rfl)
        clear S53
        refine wpG_appS (some 34) rfl rfl (.tmp 29) (.tmp 33) 43 43 rfl 5 1 1 Try.underlying43 (by kernel_rfl) (.slice (some ⟨g25, 0, none⟩) 1 1) 1 (bc [UInt8.ofNat n]) S54.out (.slice (some ⟨g51, 0, none⟩) 1 1) 1 [.int .u8 (m : Int)] (fun W hg => src_lies Try.underlying43 1 rfl (fun h => by cases h) (by intro u hu; simp at hu; rcases hu with rfl <;> rfl) ((S54.out.gr hg).liesBlk 1 rfl)) rfl rfl (by simp only [maxLen]; omega) (by omega) (fun v55 W56 hS_ => ?_)
        simp only [n1, n3, n4]
        obtain ⟨A57, k58, rfl, hle_, hcap_, _⟩ := own_shape (hS_.ownr 0 rfl)
        have S59 : Hid (St w noB [own (.slice A57 2 k58) 5 1 2 (bc [UInt8.ofNat n] ++ [.int .u8 (m : Int)]), blk g51 5 [.int .u8 (m : Int)], own (.slice D m dc) 3 1 m (ic (Pl.pal l))] W56) := Lib.hid hS_
        clear S54
        clear hS_
        have S60 : Hid (St w noB [own (.slice A57 2 k58) 5 1 2 (bc ([UInt8.ofNat n] ++ [UInt8.ofNat m])), blk g51 5 [.int .u8 (m : Int)], own (.slice D m dc) 3 1 m (ic (Pl.pal l))] W56) := Lib.hid (by have h_ := S59.out; rw [show bc [UInt8.ofNat n] ++ [.int .u8 (m : Int)] = bc ([UInt8.ofNat n] ++ [UInt8.ofNat m]) from (by rw [bv_n (show m < 256 by have := HML.out; have := Pl.pal_len l; have := HLEN.out; omega), ← bc_app]; rfl)] at h_; exact h_)
        clear S59
        refine @wpG_p _ _ _ _ _ (some 4) (.slice A57 2 k58) _ _ rfl (by rfl) (fun _ => rfl) ?_
        simp only [n1, n3, n4]
        refine wpG_done (fun V61 hv62 => ?_)
        have S63 : Hid (St w noB [own (.slice A57 2 k58) 5 1 2 (bc ([UInt8.ofNat n] ++ [UInt8.ofNat m])), blk g51 5 [.int .u8 (m : Int)], own (.slice D m dc) 3 1 m (ic (Pl.pal l))] V61) := Lib.hid (S60.out.gr hv62)
        clear S60
        clear hv62
        refine ⟨rfl, hK _ _ ?_⟩
        clear hK
        go_upto_region 8 with fail
        refine wpG_region_k (fun K hK => ?_)
        have ez_ : (List.replicate 256 (.int .i64 0)).toArray = (ic (Pl.plc (Pl.pal l) 0)).toArray := by rw [Pl.plc_zero]
        refine wpG_val (some 6) rfl (by rfl) (fun W64 hg65 => ⟨.pointer (some ⟨W64.heap.size, 0, none⟩), W64.alloc (.cells (ic (Pl.plc (Pl.pal l) 0)).toArray 45), by rw [← ez_]; first | kernel_rfl | (go_simp; done) | (go_simp <;> rfl), ?_⟩)
        simp only [n1, n3, n4]
        obtain ⟨g66, U67, hg_, hu_, hS_⟩ := (S63.out.gr hg65).made (ic (Pl.plc (Pl.pal l) 0)) 45
        rw [← hu_, ← hg_]
        have S68 : Hid (St w noB [blk g66 45 (ic (Pl.plc (Pl.pal l) 0)), own (.slice A57 2 k58) 5 1 2 (bc ([UInt8.ofNat n] ++ [UInt8.ofNat m])), blk g51 5 [.int .u8 (m : Int)], own (.slice D m dc) 3 1 m (ic (Pl.pal l))] U67) := Lib.hid hS_
        clear S63
        clear hg_ hu_ hS_ hg65 ez_
        refine wpG_done (fun V69 hv70 => ?_)
        have S71 : Hid (St w noB [blk g66 45 (ic (Pl.plc (Pl.pal l) 0)), own (.slice A57 2 k58) 5 1 2 (bc ([UInt8.ofNat n] ++ [UInt8.ofNat m])), blk g51 5 [.int .u8 (m : Int)], own (.slice D m dc) 3 1 m (ic (Pl.pal l))] V69) := Lib.hid (S68.out.gr hv70)
        clear S68
        clear hv70
        refine ⟨rfl, hK _ _ ?_⟩
        clear hK
        go_upto_region 9 with fail
        refine wpG_region_k (fun K hK => ?_)
        refine @wpG_p _ _ _ _ _ (some 35) (.slice D m dc) _ _ rfl (by rfl) (fun _ => rfl) ?_
        simp only [n1, n3, n4]
        refine @wpG_p _ _ _ _ _ (some 36) (.int .i64 (m : Int)) _ _ rfl (by rfl) (fun W => by go_simp) ?_
        simp only [n1, n3, n4]
        refine @wpG_p _ _ _ _ _ (some 37) (.int .i64 0) _ _ rfl (by rfl) (fun _ => rfl) ?_
        simp only [n1, n3, n4]
        refine wpG_done (fun V72 hv73 => ?_)
        have S74 : Hid (St w noB [blk g66 45 (ic (Pl.plc (Pl.pal l) 0)), own (.slice A57 2 k58) 5 1 2 (bc ([UInt8.ofNat n] ++ [UInt8.ofNat m])), blk g51 5 [.int .u8 (m : Int)], own (.slice D m dc) 3 1 m (ic (Pl.pal l))] V72) := Lib.hid (S71.out.gr hv73)
        clear S71
        clear hv73
        refine ⟨rfl, hK _ _ ?_⟩
        clear hK
        have S75 : Hid (St w noB [blk g66 45 (ic (Pl.plc (Pl.pal l) 0)), own (.slice A57 2 k58) 5 1 2 (bc (Pl.hd l 0)), blk g51 5 [.int .u8 (m : Int)], own (.slice D m dc) 3 1 m (ic (Pl.pal l))] V72) := Lib.hid (by have h_ := S74.out; rw [show bc ([UInt8.ofNat n] ++ [UInt8.ofNat m]) = bc (Pl.hd l 0) from (by unfold Pl.hd; rw [HLEN.out, ← HML.out]; rfl)] at h_; exact h_)
        clear S74
        have S76 : Hid (St w noB [own (.slice A57 2 k58) 5 1 2 (bc (Pl.hd l 0)), blk g66 45 (ic (Pl.plc (Pl.pal l) 0)), blk g51 5 [.int .u8 (m : Int)], own (.slice D m dc) 3 1 m (ic (Pl.pal l))] V72) := Lib.hid (S75.out.front 1 rfl)
        clear S75
        go_wp2_with fail
        go_loopw [4, 37] (fun v4 v37 wr => ∃ (E : Option Addr) (q d k : Nat), v4 = .slice E q d ∧ v37 = .int .i64 (k : Int) ∧ k ≤ m ∧ q ≤ k + 2 ∧ St w noB [own (.slice E q d) 5 1 q (bc (Pl.hd l k)), blk g66 45 (ic (Pl.plc (Pl.pal l) k)), blk g51 5 [.int .u8 (m : Int)], own (.slice D m dc) 3 1 m (ic (Pl.pal l))] wr) (fun a i _ => m - (intOf i).toNat)
        case atStart => exact ⟨A57, 2, k58, 0, rfl, rfl, Nat.zero_le _, (by omega), S76.out⟩
        case round =>
          obtain ⟨E, q, d, k, rfl, rfl, hkm, hqk, hS⟩ := hrel
          have SL := Lib.hid hS
          clear S76 hS
          have S77 := SL
          clear SL
          go_upto_region 10 with fail
          refine wpG_region_k (fun K hK => ?_)
          refine @wpG_p _ _ _ _ _ (some 38) (.bool (decide ((k : Int) < (m : Int)))) _ _ rfl (by rfl) (fun W => op_int_lss W (k : Int) (m : Int) rfl rfl rfl Try.underlying3) ?_
          simp only [n1, n3, n4]
          refine wpG_done (fun V78 hv79 => ?_)
          have S80 : Hid (St w noB [own (.slice E q d) 5 1 q (bc (Pl.hd l k)), blk g66 45 (ic (Pl.plc (Pl.pal l) k)), blk g51 5 [.int .u8 (m : Int)], own (.slice D m dc) 3 1 m (ic (Pl.pal l))] V78) := Lib.hid (S77.out.gr hv79)
          clear S77
          clear hv79
          refine ⟨rfl, hK _ _ ?_⟩
          clear hK
          obtain ⟨c81, hc81⟩ : ∃ q_, q_ = (decide ((k : Int) < (m : Int))) := ⟨_, rfl⟩
          rw [← hc81]
          have Hc81 := Lib.hid hc81
          clear hc81
          cases c81 with
          | true =>
            have f82 := of_decide_eq_true Hc81.out.symm
            go_upto_region 11 with fail
            refine wpG_region_k (fun K hK => ?_)
            refine @wpG_p _ _ _ _ _ (some 39) (.int .i64 (k : Int)) _ _ rfl (by rfl) (fun _ => rfl) ?_
            simp only [n1, n3, n4]
            obtain ⟨og83, rfl⟩ := ownAdr (S80.out.ownr 3 rfl) (by omega)
            have hix_ : k < m := by omega
            refine @wpG_p _ _ _ _ _ (some 40) (.pointer (some ⟨og83, k, none⟩)) _ _ rfl (by rfl) (fun W => by (go_simp <;> first | rfl | omega | (simp; omega))) ?_
            simp only [n1, n3, n4]
            refine @wpG_r _ _ _ _ _ (some 41) (.int .i64 ((Pl.pal l).getD k 0)) _ _ rfl (by rfl) (fun W hg => by have c := (SL.ofOwn ((S80.out.gr hg).ownr 3 rfl)).int (l := (Pl.pal l)) k (by (first | (have := HLEN.out; omega) | (have := HML.out; omega))) 0 _ rfl; (try simp only [Nat.add_zero, Nat.zero_add] at c); go_simp) ?_
            simp only [n1, n3, n4]
            refine @wpG_p _ _ _ _ _ (some 7) (.int .i64 (k : Int)) _ _ rfl (by rfl) (fun _ => rfl) ?_
            simp only [n1, n3, n4]
            refine @wpG_p _ _ _ _ _ (some 8) (.int .i64 ((Pl.pal l).getD k 0)) _ _ rfl (by rfl) (fun _ => rfl) ?_
            simp only [n1, n3, n4]
            refine wpG_done (fun V84 hv85 => ?_)
            have S86 : Hid (St w noB [own (.slice E q d) 5 1 q (bc (Pl.hd l k)), blk g66 45 (ic (Pl.plc (Pl.pal l) k)), blk g51 5 [.int .u8 (m : Int)], own (.slice (some ⟨og83, 0, none⟩) m dc) 3 1 m (ic (Pl.pal l))] V84) := Lib.hid (S80.out.gr hv85)
            clear S80
            clear hv85
            refine ⟨rfl, hK _ _ ?_⟩
            clear hK
            go_upto_region 12 with fail
            refine wpG_region_k (fun K hK => ?_)
            refine @wpG_p _ _ _ _ _ (some 42) (.int .i64 ((Pl.pal l).getD k 0)) _ _ rfl (by rfl) (fun _ => rfl) ?_
            simp only [n1, n3, n4]
            refine @wpG_p _ _ _ _ _ (some 43) (.int .i64 (k : Int)) _ _ rfl (by rfl) (fun _ => rfl) ?_
            simp only [n1, n3, n4]
            obtain ⟨hc0_, hc1_⟩ : _ ∧ _ := Pl.getD_cell (Pl.pal_cell (Pl.vc_iff.1 HVC.out)) (k := k) (by have := HML.out; omega)
            obtain ⟨q87, hq_⟩ : ∃ q_ : Nat, ((Pl.pal l).getD k 0) = (q_ : Int) := ⟨(((Pl.pal l).getD k 0)).toNat, by omega⟩
            rw [hq_]
            have HQq87 := Lib.hid hq_
            clear hq_
            have hqb : q87 < 256 := by have := HQq87.out; omega
            refine @wpG_p _ _ _ _ _ (some 44) (.pointer (some ⟨g66, q87, none⟩)) _ _ rfl (by rfl) (fun W => by (go_simp <;> first | rfl | omega | (simp; omega))) ?_
            simp only [n1, n3, n4]
            refine wpG_store (none) rfl (by rfl) (fun W88 hg89 => ⟨W88.setCell ⟨g66, q87, none⟩ (.int .i64 (k : Int)), by have c_ := (S86.out.gr hg89).row 1 rfl q87 _ (by rw [ic_at1 (by rw [Pl.plc_len]; exact hqb)]); have c := c_.1; have c2 := c_.2; go_simp, ?_⟩)
            simp only [n2]
            obtain ⟨U90, hu_, hS_⟩ := ((S86.out.gr hg89).put1 1 rfl q87 (.int .i64 (k : Int))).named
            rw [← hu_]
            have hS2_ : St w noB [own (.slice E q d) 5 1 q (bc (Pl.hd l k)), blk g66 45 (ic (Pl.plc (Pl.pal l) (k + 1))), blk g51 5 [.int .u8 (m : Int)], own (.slice (some ⟨og83, 0, none⟩) m dc) 3 1 m (ic (Pl.pal l))] U90 := by have h_ := hS_; simp only [List.set_cons_zero, List.set_cons_succ] at h_; rw [show (ic (Pl.plc (Pl.pal l) k)).set q87 (.int .i64 (k : Int)) = ic (Pl.plc (Pl.pal l) (k + 1)) from Pl.plc_set (Pl.pal_nodup l) (by have := HML.out; omega) HQq87.out hqb] at h_; exact h_
            have S91 : Hid (St w noB [own (.slice E q d) 5 1 q (bc (Pl.hd l k)), blk g66 45 (ic (Pl.plc (Pl.pal l) (k + 1))), blk g51 5 [.int .u8 (m : Int)], own (.slice (some ⟨og83, 0, none⟩) m dc) 3 1 m (ic (Pl.pal l))] U90) := Lib.hid hS2_
            clear S86
            clear hu_ hS_ hS2_ hg89
            refine wpG_done (fun V92 hv93 => ?_)
            have S94 : Hid (St w noB [own (.slice E q d) 5 1 q (bc (Pl.hd l k)), blk g66 45 (ic (Pl.plc (Pl.pal l) (k + 1))), blk g51 5 [.int .u8 (m : Int)], own (.slice (some ⟨og83, 0, none⟩) m dc) 3 1 m (ic (Pl.pal l))] V92) := Lib.hid (S91.out.gr hv93)
            clear S91
            clear hv93
            refine ⟨rfl, hK _ _ ?_⟩
            clear hK
            go_upto_region 13 with fail
            refine wpG_region_k (fun K hK => ?_)
            refine @wpG_p _ _ _ _ _ (some 45) (.slice E q d) _ _ rfl (by rfl) (fun _ => rfl) ?_
            simp only [n1, n3, n4]
            refine @wpG_p _ _ _ _ _ (some 46) (.int .i64 (q87 : Int)) _ _ rfl (by rfl) (fun _ => rfl) ?_
            simp only [n1, n3, n4]
            refine @wpG_p _ _ _ _ _ (some 47) (.int .u8 (q87 : Int)) _ _ rfl (by rfl) (fun W => op_conv_n8 q87 (by first | omega | (have := HML.out; have := Pl.pal_len l; have := HLEN.out; omega)) rfl rfl Try.underlying3 Try.underlying5) ?_
            simp only [n1, n3, n4]
            refine wpG_val (some 48) rfl (by rfl) (fun W95 hg96 => ⟨.slice (some ⟨W95.heap.size, 0, none⟩) 1 1, W95.alloc (.cells #[.int .u8 (q87 : Int)] 5), by (go_simp <;> rfl), ?_⟩)
            simp only [n1, n3, n4]
            obtain ⟨g97, U98, hg_, hu_, hS_⟩ := (S94.out.gr hg96).made [.int .u8 (q87 : Int)] 5
            rw [← hu_, ← hg_]
            have S99 : Hid (St w noB [blk g97 5 [.int .u8 (q87 : Int)], own (.slice E q d) 5 1 q (bc (Pl.hd l k)), blk g66 45 (ic (Pl.plc (Pl.pal l) (k + 1))), blk g51 5 [.int .u8 (m : Int)], own (.slice (some ⟨og83, 0, none⟩) m dc) 3 1 m (ic (Pl.pal l))] U98) := Lib.hid hS_
            clear S94
            clear hg_ hu_ hS_ hg96
            have S100 : Hid (St w noB [own (.slice E q d) 5 1 q (bc (Pl.hd l k)), blk g97 5 [.int .u8 (q87 : Int)], blk g66 45 (ic (Pl.plc (Pl.pal l) (k + 1))), blk g51 5 [.int .u8 (m : Int)], own (.slice (some ⟨og83, 0, none⟩) m dc) 3 1 m (ic (Pl.pal l))] U98) := Lib.hid (S99.out.front 1 rfl)
            clear S99
            refine wpG_appS (some 49) rfl rfl (.tmp 45) (.tmp 48) 43 43 rfl 5 1 1 Try.underlying43 (by kernel_rfl) (.slice E q d) q (bc (Pl.hd l k)) S100.out (.slice (some ⟨g97, 0, none⟩) 1 1) 1 [.int .u8 (q87 : Int)] (fun W hg => src_lies Try.underlying43 1 rfl (fun h => by cases h) (by intro u hu; simp at hu; rcases hu with rfl <;> rfl) ((S100.out.gr hg).liesBlk 1 rfl)) rfl rfl (by simp only [maxLen]; omega) (by omega) (fun v101 W102 hS_ => ?_)
            simp only [n1, n3, n4]
            obtain ⟨A103, k104, rfl, hle_, hcap_, _⟩ := own_shape (hS_.ownr 0 rfl)
            have S105 : Hid (St w noB [own (.slice A103 (q + 1) k104) 5 1 (q + 1) (bc (Pl.hd l k) ++ [.int .u8 (q87 : Int)]), blk g97 5 [.int .u8 (q87 : Int)], blk g66 45 (ic (Pl.plc (Pl.pal l) (k + 1))), blk g51 5 [.int .u8 (m : Int)], own (.slice (some ⟨og83, 0, none⟩) m dc) 3 1 m (ic (Pl.pal l))] W102) := Lib.hid hS_
            clear S100
            clear hS_
            have S106 : Hid (St w noB [own (.slice A103 (q + 1) k104) 5 1 (q + 1) (bc (Pl.hd l k ++ [UInt8.ofNat q87])), blk g97 5 [.int .u8 (q87 : Int)], blk g66 45 (ic (Pl.plc (Pl.pal l) (k + 1))), blk g51 5 [.int .u8 (m : Int)], own (.slice (some ⟨og83, 0, none⟩) m dc) 3 1 m (ic (Pl.pal l))] W102) := Lib.hid (by have h_ := S105.out; rw [show bc (Pl.hd l k) ++ [.int .u8 (q87 : Int)] = bc (Pl.hd l k ++ [UInt8.ofNat q87]) from (by rw [bv_n hqb, show [bv (UInt8.ofNat q87)] = bc [UInt8.ofNat q87] from rfl, bc_app])] at h_; exact h_)
            clear S105
            refine @wpG_p _ _ _ _ _ (some 4) (.slice A103 (q + 1) k104) _ _ rfl (by rfl) (fun _ => rfl) ?_
            simp only [n1, n3, n4]
            refine wpG_done (fun V107 hv108 => ?_)
            have S109 : Hid (St w noB [own (.slice A103 (q + 1) k104) 5 1 (q + 1) (bc (Pl.hd l k ++ [UInt8.ofNat q87])), blk g97 5 [.int .u8 (q87 : Int)], blk g66 45 (ic (Pl.plc (Pl.pal l) (k + 1))), blk g51 5 [.int .u8 (m : Int)], own (.slice (some ⟨og83, 0, none⟩) m dc) 3 1 m (ic (Pl.pal l))] V107) := Lib.hid (S106.out.gr hv108)
            clear S106
            clear hv108
            refine ⟨rfl, hK _ _ ?_⟩
            clear hK
            go_upto_region 14 with fail
            refine wpG_region_k (fun K hK => ?_)
            refine @wpG_p _ _ _ _ _ (some 50) (.int .i64 ((k : Int) + 1)) _ _ rfl (by rfl) (fun W => op_i_add W (k : Int) 1 (by omega) rfl rfl rfl Try.underlying3) ?_
            simp only [n1, n3, n4]
            refine @wpG_p _ _ _ _ _ (some 37) (.int .i64 ((k : Int) + 1)) _ _ rfl (by rfl) (fun _ => rfl) ?_
            simp only [n1, n3, n4]
            refine wpG_done (fun V110 hv111 => ?_)
            have S112 : Hid (St w noB [own (.slice A103 (q + 1) k104) 5 1 (q + 1) (bc (Pl.hd l k ++ [UInt8.ofNat q87])), blk g97 5 [.int .u8 (q87 : Int)], blk g66 45 (ic (Pl.plc (Pl.pal l) (k + 1))), blk g51 5 [.int .u8 (m : Int)], own (.slice (some ⟨og83, 0, none⟩) m dc) 3 1 m (ic (Pl.pal l))] V110) := Lib.hid (S109.out.gr hv111)
            clear S109
            clear hv111
            refine ⟨rfl, hK _ _ ?_⟩
            clear hK
            go_wp2_with fail
            go_roundw
            have S113 : Hid (St w noB [own (.slice A103 (q + 1) k104) 5 1 (q + 1) (bc (Pl.hd l k ++ [UInt8.ofNat q87])), blk g66 45 (ic (Pl.plc (Pl.pal l) (k + 1))), blk g51 5 [.int .u8 (m : Int)], own (.slice (some ⟨og83, 0, none⟩) m dc) 3 1 m (ic (Pl.pal l))] V110) := Lib.hid (S112.out.sub (.cons_cons _ (.cons _ (.cons_cons _ (.cons_cons _ (.cons_cons _ .slnil))))))
            clear S112
            case rel => exact ⟨A103, q + 1, k104, k + 1, (by first | rfl | go_num), (by first | rfl | go_num), (by omega), (by omega), (by rw [Pl.hd_succ (by have := HML.out; omega) HQq87.out]; exact S113.out)⟩
            case measure => first | (simp only [intOf]; omega) | (simp [intOf]; done) | (simp [intOf]; omega) | omega
          | false =>
            have f114 := of_decide_eq_false Hc81.out.symm
            go_upto_region 15 with fail
            refine wpG_region_k (fun K hK => ?_)
            have hkm_ : k = m := by omega
            have S115 : Hid (St w noB [own (.slice E q d) 5 1 q (bc (Pl.hd l m)), blk g66 45 (ic (Pl.plc (Pl.pal l) k)), blk g51 5 [.int .u8 (m : Int)], own (.slice D m dc) 3 1 m (ic (Pl.pal l))] V78) := Lib.hid (by have h_ := S80.out; rw [show bc (Pl.hd l k) = bc (Pl.hd l m) from (by rw [hkm_])] at h_; exact h_)
            clear S80
            have S116 : Hid (St w noB [own (.slice E q d) 5 1 q (bc (Pl.hd l m)), blk g66 45 (ic (Pl.plc (Pl.pal l) m)), blk g51 5 [.int .u8 (m : Int)], own (.slice D m dc) 3 1 m (ic (Pl.pal l))] V78) := Lib.hid (by have h_ := S115.out; rw [show ic (Pl.plc (Pl.pal l) k) = ic (Pl.plc (Pl.pal l) m) from (by rw [hkm_])] at h_; exact h_)
            clear S115
            clear hkm_
            refine @wpG_p _ _ _ _ _ (some 51) (.slice A n c) _ _ rfl (by rfl) (fun _ => rfl) ?_
            simp only [n1, n3, n4]
            refine @wpG_p _ _ _ _ _ (some 52) (.slice D m dc) _ _ rfl (by rfl) (fun _ => rfl) ?_
            simp only [n1, n3, n4]
            refine @wpG_p _ _ _ _ _ (some 53) (.int .i64 (m : Int)) _ _ rfl (by rfl) (fun W => by go_simp) ?_
            simp only [n1, n3, n4]
            refine @wpG_tk _ _ _ _ _ (some 54) (.int .i64 (Pl.wd m : Int)) _ _ rfl (.call (f := 30) (args := #[.int .i64 (m : Int)]) (by rfl) (fun W => by go_simp) (fun W hg => width_any m W (by have := HML.out; have h_ := Pl.pal_pos (l := l) (fun e_ => by have h_ := HLEN.out; rw [e_] at h_; simp at h_; omega); omega))) ?_
            simp only [n1, n3, n4]
            refine @wpG_p _ _ _ _ _ (some 55) (.func (.func 31) #[] #[.pointer (some ⟨g66, 0, none⟩)]) _ _ rfl (by rfl) (fun W => by go_simp) ?_
            simp only [n1, n3, n4]
            refine wpG_call (some 56) 29 #[.slice A n c, .int .i64 (Pl.wd m : Int), .func (.func 31) #[] #[.pointer (some ⟨g66, 0, none⟩)]] rfl (by rfl) (fun W => by go_simp) (fun W119 hg120 => ?_)
            refine (spread_int _ n _ l (Pl.wd m) g66 (Pl.plc (Pl.pal l) m) (Pl.ix (Pl.pal l) l) W119 (HGA.out.gr (S116.out.gr hg120).bel) (SL.ofBlkx (S116.out.gr hg120) 1 rfl 256 (by rw [ic_len, Pl.plc_len])) (by first | omega | (rcases Pl.wd_cases m with e_ | e_ | e_ | e_ | e_ <;> omega)) (by first | omega | (rcases Pl.wd_cases m with e_ | e_ | e_ | e_ | e_ <;> omega)) (fun i hi => Pl.plc_ix (Pl.vc_iff.1 HVC.out) (by have := HLEN.out; omega) HML.out i (by have := HLEN.out; omega))).mono ?_
            rintro e w121 ⟨A117, c118, rfl, hS_⟩
            refine ⟨_, rfl, ?_⟩
            have hT_ := (S116.out.gr hg120).got hS_
            simp only [n1, n3, n4]
            have S122 : Hid (St w noB [own (.slice A117 (Pl.room n (Pl.wd m)) c118) 5 1 (Pl.room n (Pl.wd m)) (bc (Pl.le (Pl.room n (Pl.wd m)) (Pl.S (Pl.wd m) (Pl.ix (Pl.pal l) l) n))), own (.slice E q d) 5 1 q (bc (Pl.hd l m)), blk g66 45 (ic (Pl.plc (Pl.pal l) m)), blk g51 5 [.int .u8 (m : Int)], own (.slice D m dc) 3 1 m (ic (Pl.pal l))] w121) := Lib.hid hT_
            clear S116
            clear hT_ hS_ hg120
            refine @wpG_p _ _ _ _ _ (some 9) (.slice A117 (Pl.room n (Pl.wd m)) c118) _ _ rfl (by rfl) (fun _ => rfl) ?_
            simp only [n1, n3, n4]
            refine wpG_done (fun V123 hv124 => ?_)
            have S125 : Hid (St w noB [own (.slice A117 (Pl.room n (Pl.wd m)) c118) 5 1 (Pl.room n (Pl.wd m)) (bc (Pl.le (Pl.room n (Pl.wd m)) (Pl.S (Pl.wd m) (Pl.ix (Pl.pal l) l) n))), own (.slice E q d) 5 1 q (bc (Pl.hd l m)), blk g66 45 (ic (Pl.plc (Pl.pal l) m)), blk g51 5 [.int .u8 (m : Int)], own (.slice D m dc) 3 1 m (ic (Pl.pal l))] V123) := Lib.hid (S122.out.gr hv124)
            clear S122
            clear hv124
            refine ⟨rfl, hK _ _ ?_⟩
            clear hK
            go_upto_region 16 with fail
            refine wpG_region_k (fun K hK => ?_)
            refine @wpG_p _ _ _ _ _ (some 57) (.slice E q d) _ _ rfl (by rfl) (fun _ => rfl) ?_
            simp only [n1, n3, n4]
            refine @wpG_p _ _ _ _ _ (some 58) (.slice A117 (Pl.room n (Pl.wd m)) c118) _ _ rfl (by rfl) (fun _ => rfl) ?_
            simp only [n1, n3, n4]
            have hroom_ : (Pl.room n (Pl.wd m)) ≤ 64 := Pl.room_le (by omega) (by rcases Pl.wd_cases m with e_ | e_ | e_ | e_ | e_ <;> omega)
            have S126 : Hid (St w noB [own (.slice E q d) 5 1 q (bc (Pl.hd l m)), own (.slice A117 (Pl.room n (Pl.wd m)) c118) 5 1 (Pl.room n (Pl.wd m)) (bc (Pl.le (Pl.room n (Pl.wd m)) (Pl.S (Pl.wd m) (Pl.ix (Pl.pal l) l) n))), blk g66 45 (ic (Pl.plc (Pl.pal l) m)), blk g51 5 [.int .u8 (m : Int)], own (.slice D m dc) 3 1 m (ic (Pl.pal l))] V123) := Lib.hid (S125.out.front 1 rfl)
            clear S125
            refine wpG_appS (some 59) rfl rfl (.tmp 57) (.tmp 58) 43 43 rfl 5 1 1 Try.underlying43 (by kernel_rfl) (.slice E q d) q (bc (Pl.hd l m)) S126.out (.slice A117 (Pl.room n (Pl.wd m)) c118) (Pl.room n (Pl.wd m)) (bc (Pl.le (Pl.room n (Pl.wd m)) (Pl.S (Pl.wd m) (Pl.ix (Pl.pal l) l) n))) (fun W hg => src_lies Try.underlying43 c118 (by rw [bc_len, Pl.le_len, Nat.mul_one]) (SL.ofOwn ((S126.out.gr hg).ownr 1 rfl)).none0 (bc_one _) (SL.ofOwn ((S126.out.gr hg).ownr 1 rfl)).lies) rfl rfl (by simp only [maxLen]; omega) (by omega) (fun v127 W128 hS_ => ?_)
            simp only [n1, n3, n4]
            obtain ⟨A129, k130, rfl, hle_, hcap_, _⟩ := own_shape (hS_.ownr 0 rfl)
            have S131 : Hid (St w noB [own (.slice A129 (q + (Pl.room n (Pl.wd m))) k130) 5 1 (q + (Pl.room n (Pl.wd m))) (bc (Pl.hd l m) ++ (bc (Pl.le (Pl.room n (Pl.wd m)) (Pl.S (Pl.wd m) (Pl.ix (Pl.pal l) l) n)))), own (.slice A117 (Pl.room n (Pl.wd m)) c118) 5 1 (Pl.room n (Pl.wd m)) (bc (Pl.le (Pl.room n (Pl.wd m)) (Pl.S (Pl.wd m) (Pl.ix (Pl.pal l) l) n))), blk g66 45 (ic (Pl.plc (Pl.pal l) m)), blk g51 5 [.int .u8 (m : Int)], own (.slice D m dc) 3 1 m (ic (Pl.pal l))] W128) := Lib.hid hS_
            clear S126
            clear hS_
            have S132 : Hid (St w noB [own (.slice A129 (q + (Pl.room n (Pl.wd m))) k130) 5 1 (q + (Pl.room n (Pl.wd m))) (bc (Pl.hd l m ++ (Pl.le (Pl.room n (Pl.wd m)) (Pl.S (Pl.wd m) (Pl.ix (Pl.pal l) l) n)))), own (.slice A117 (Pl.room n (Pl.wd m)) c118) 5 1 (Pl.room n (Pl.wd m)) (bc (Pl.le (Pl.room n (Pl.wd m)) (Pl.S (Pl.wd m) (Pl.ix (Pl.pal l) l) n))), blk g66 45 (ic (Pl.plc (Pl.pal l) m)), blk g51 5 [.int .u8 (m : Int)], own (.slice D m dc) 3 1 m (ic (Pl.pal l))] W128) := Lib.hid (by have h_ := S131.out; rw [show bc (Pl.hd l m) ++ (bc (Pl.le (Pl.room n (Pl.wd m)) (Pl.S (Pl.wd m) (Pl.ix (Pl.pal l) l) n))) = bc (Pl.hd l m ++ (Pl.le (Pl.room n (Pl.wd m)) (Pl.S (Pl.wd m) (Pl.ix (Pl.pal l) l) n))) from bc_app _ _] at h_; exact h_)
            clear S131
            refine @wpG_r _ _ _ _ _ (some 60) (.string (bstr (Pl.hd l m ++ (Pl.le (Pl.room n (Pl.wd m)) (Pl.S (Pl.wd m) (Pl.ix (Pl.pal l) l) n))))) _ _ rfl (by rfl) (fun W hg => by exact op_conv_str (SL.ofOwn ((S132.out.gr hg).ownr 0 rfl)) rfl rfl Try.underlying43 Try.underlying5 Try.underlying9) ?_
            simp only [n1, n3, n4]
            refine @wpG_p _ _ _ _ _ (some 2) (.string (bstr (Pl.hd l m ++ (Pl.le (Pl.room n (Pl.wd m)) (Pl.S (Pl.wd m) (Pl.ix (Pl.pal l) l) n))))) _ _ rfl (by rfl) (fun _ => rfl) ?_
            simp only [n1, n3, n4]
            refine @wpG_p _ _ _ _ _ (some 3) (.int .i64 0) _ _ rfl (by rfl) (fun _ => rfl) ?_
            simp only [n1, n3, n4]
            refine wpG_done (fun V133 hv134 => ?_)
            have S135 : Hid (St w noB [own (.slice A129 (q + (Pl.room n (Pl.wd m))) k130) 5 1 (q + (Pl.room n (Pl.wd m))) (bc (Pl.hd l m ++ (Pl.le (Pl.room n (Pl.wd m)) (Pl.S (Pl.wd m) (Pl.ix (Pl.pal l) l) n)))), own (.slice A117 (Pl.room n (Pl.wd m)) c118) 5 1 (Pl.room n (Pl.wd m)) (bc (Pl.le (Pl.room n (Pl.wd m)) (Pl.S (Pl.wd m) (Pl.ix (Pl.pal l) l) n))), blk g66 45 (ic (Pl.plc (Pl.pal l) m)), blk g51 5 [.int .u8 (m : Int)], own (.slice D m dc) 3 1 m (ic (Pl.pal l))] V133) := Lib.hid (S132.out.gr hv134)
            clear S132
            clear hv134
            refine ⟨rfl, hK _ _ ?_⟩
            clear hK
            go_wp2_with fail
            go_ret2
            refine ⟨?_, S135.out.bel⟩
            show Ending.returned (.tuple #[.string (bstr (Pl.hd l m ++ (Pl.le (Pl.room n (Pl.wd m)) (Pl.S (Pl.wd m) (Pl.ix (Pl.pal l) l) n)))), .int .i64 0]) = _
            (have e_f22 := f22.out; obtain ⟨e1_, e2_⟩ := Pl.p_ok (l := l) (by have := HLEN.out; omega) HVC.out; rw [e1_, e2_]; (rw [Pl.pk_hd (fun e_ => by have h_ := HLEN.out; rw [e_] at h_; simp at h_; omega) HML.out, HLEN.out]))
set_option maxRecDepth 1000000 in
set_option maxHeartbeats 4000000 in
theorem encode_any (A : Option Addr) (n c : Nat) (l : List Int) (w : World) (hG : SL w 1 A n c (ic l)) (hb : n ≤ 1000) :
    Calls Try.prog 16 #[.slice A n c] w fun e w' => e = .returned (.tuple #[.string (bstr (Pl.eS l)), .int .i64 (Pl.eE l)]) ∧ Below w.heap.size w w' := by
  have HGA := Lib.hid hG
  have HLEN : Hid (l.length = n) := Lib.hid (by have h_ := hG.len; rw [ic_len] at h_; omega)
  have hnbHGA : n ≤ 9223372036854775807 := Nat.le_trans hG.cap hG.bnd
  clear hG
  have S1 : Hid (St w noB [] w) := Lib.hid (St.start w)
  go_enter Try.func16, Try.ntmps16
  go_upto_region 0 with fail
  refine wpG_region_k (fun K hK => ?_)
  refine @wpG_p _ _ _ _ _ (some 2) (.string ⟨#[]⟩) _ _ rfl (by rfl) (fun _ => rfl) ?_
  simp only [n1, n3, n4]
  refine @wpG_p _ _ _ _ _ (some 3) (.int .i64 0) _ _ rfl (by rfl) (fun _ => rfl) ?_
  simp only [n1, n3, n4]
  refine wpG_done (fun V2 hv3 => ?_)
  have S4 : Hid (St w noB [] V2) := Lib.hid (S1.out.gr hv3)
  clear S1
  clear hv3
  refine ⟨rfl, hK _ _ ?_⟩
  clear hK
  go_upto_region 1 with fail
  refine wpG_region_k (fun K hK => ?_)
  refine @wpG_p _ _ _ _ _ (some 4) (.slice A n c) _ _ rfl (by rfl) (fun _ => rfl) ?_
  simp only [n1, n3, n4]
  refine @wpG_p _ _ _ _ _ (some 5) (.int .i64 (n : Int)) _ _ rfl (by rfl) (fun W => by go_simp) ?_
  simp only [n1, n3, n4]
  refine @wpG_p _ _ _ _ _ (some 6) (.bool (decide ((n : Int) ≠ 64))) _ _ rfl (by rfl) (fun W => op_int_neq W (n : Int) 64 rfl rfl rfl Try.underlying3) ?_
  simp only [n1, n3, n4]
  refine wpG_done (fun V5 hv6 => ?_)
  have S7 : Hid (St w noB [] V5) := Lib.hid (S4.out.gr hv6)
  clear S4
  clear hv6
  refine ⟨rfl, hK _ _ ?_⟩
  clear hK
  obtain ⟨c8, hc8⟩ : ∃ q_, q_ = (decide ((n : Int) ≠ 64)) := ⟨_, rfl⟩
  rw [← hc8]
  have Hc8 := Lib.hid hc8
  clear hc8
  cases c8 with
  | true =>
    have f9 := of_decide_eq_true Hc8.out.symm
    go_upto_region 2 with fail
    refine wpG_region_k (fun K hK => ?_)
    refine @wpG_p _ _ _ _ _ (some 2) (.string ⟨#[]⟩) _ _ rfl (by rfl) (fun _ => rfl) ?_
    simp only [n1, n3, n4]
    refine @wpG_p _ _ _ _ _ (some 3) (.int .i64 1) _ _ rfl (by rfl) (fun _ => rfl) ?_
    simp only [n1, n3, n4]
    refine wpG_done (fun V10 hv11 => ?_)
    have S12 : Hid (St w noB [] V10) := Lib.hid (S7.out.gr hv11)
    clear S7
    clear hv11
    refine ⟨rfl, hK _ _ ?_⟩
    clear hK
    go_wp2_with fail
    go_ret2
    refine ⟨?_, S12.out.bel⟩
    show Ending.returned (.tuple #[.string ⟨#[]⟩, .int .i64 1]) = _
    (have e_ : ¬ l.length = 64 := (by have := HLEN.out; omega); unfold Pl.eS Pl.eE; rw [if_neg e_, if_neg e_]; rfl)
  | false =>
    have f13 := Lib.hid (Decidable.not_not.1 (of_decide_eq_false Hc8.out.symm))
    have f13a := Int.le_of_eq f13.out
    have f13b := Int.le_of_eq f13.out.symm
    go_upto_region 3 with fail
    refine wpG_region_k (fun K hK => ?_)
    refine @wpG_p _ _ _ _ _ (some 7) (.slice A n c) _ _ rfl (by rfl) (fun _ => rfl) ?_
    simp only [n1, n3, n4]
    refine @wpG_tk _ _ _ _ _ (some 8) (.tuple #[.string (bstr (Pl.pS l)), .int .i64 (Pl.pE l)]) _ _ rfl (.call (f := 11) (args := #[.slice A n c]) (by rfl) (fun W => by go_simp) (fun W hg => pack_any _ _ _ l W (HGA.out.gr (S7.out.gr hg).bel) (by omega))) ?_
    simp only [n1, n3, n4]
    refine @wpG_p _ _ _ _ _ (some 9) (.string (bstr (Pl.pS l))) _ _ rfl (by rfl) (fun W => by go_simp) ?_
    simp only [n1, n3, n4]
    refine @wpG_p _ _ _ _ _ (some 10) (.int .i64 (Pl.pE l)) _ _ rfl (by rfl) (fun W => by go_simp) ?_
    simp only [n1, n3, n4]
    refine @wpG_p _ _ _ _ _ (some 2) (.string (bstr (Pl.pS l))) _ _ rfl (by rfl) (fun _ => rfl) ?_
    simp only [n1, n3, n4]
    refine @wpG_p _ _ _ _ _ (some 3) (.int .i64 (Pl.pE l)) _ _ rfl (by rfl) (fun _ => rfl) ?_
    simp only [n1, n3, n4]
    refine wpG_done (fun V14 hv15 => ?_)
    have S16 : Hid (St w noB [] V14) := Lib.hid (S7.out.gr hv15)
    clear S7
    clear hv15
    refine ⟨rfl, hK _ _ ?_⟩
    clear hK
    go_wp2_with fail
    go_ret2
    refine ⟨?_, S16.out.bel⟩
    show Ending.returned (.tuple #[.string (bstr (Pl.pS l)), .int .i64 (Pl.pE l)]) = _
    (have e_ : l.length = 64 := (by have := HLEN.out; omega); unfold Pl.eS Pl.eE; rw [if_pos e_, if_pos e_])

end Go.Proofs.Ytfomieekdbkcnaa
