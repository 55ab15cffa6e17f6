/-
  Contracts of package palette and its specification: cells, lists of cells, widths.
-/
import Derived.Test.YtfomieekdbkcnaaPk0
import Derived.Test.YtfomieekdbkcnaaFf
import Derived.Handy
namespace Go.Proofs.Ytfomieekdbkcnaa
open Go Go.RowKit
set_option linter.unusedVariables false
set_option linter.unusedSimpArgs false
open Ff (ff ff_step ff_hit ff_end al al_yes al_no)
namespace Pl
def ck (l : List Int) (k : Nat) : Bool := decide (cell (l.getD k 0))
def vc (l : List Int) : Bool := al (ck l) l.length
def bk (l : List Int) : Bool := decide (l.length = 64) && vc l
def ixf (l : List Int) : Int := if al (ck l) l.length then -1 else (ff (ck l) l.length : Nat)
theorem ixf_yes {l : List Int} {k : Nat} (hk : k ≤ ff (ck l) l.length) (h : k < l.length) (hp : ck l k = false) : ixf l = (k : Int) := by
  unfold ixf; rw [al_no hk h hp, ff_hit hk h hp]; rfl
theorem ixf_no {l : List Int} (h : l.length ≤ ff (ck l) l.length) : ixf l = -1 := by unfold ixf; rw [al_yes h]; rfl
theorem ixf_ge {l : List Int} : decide (0 ≤ ixf l) = !(vc l) := by
  unfold ixf vc
  cases al (ck l) l.length
  · exact decide_eq_true (by simp)
  · rfl
theorem vc_iff {l : List Int} : vc l = true ↔ ∀ c ∈ l, cell c := by
  constructor
  · intro h c hc
    obtain ⟨i, hi, rfl⟩ := List.getElem_of_mem hc
    have h2 : ff (ck l) l.length = l.length := by
      by_cases h3 : ff (ck l) l.length < l.length
      · exfalso
        have := al_no (Nat.le_refl _) h3 (Ff.ff_at h3)
        unfold vc at h
        rw [this] at h; cases h
      · exact ff_end (by omega)
    have := Ff.ff_all.1 h2 i hi
    unfold ck at this
    rw [show l.getD i 0 = l[i] by simp [List.getD, hi]] at this
    exact of_decide_eq_true this
  · intro h
    refine al_yes ?_
    rw [Ff.ff_all.2]
    · exact Nat.le_refl _
    · intro i hi
      unfold ck
      rw [show l.getD i 0 = l[i] by simp [List.getD, hi]]
      exact decide_eq_true (h _ (List.getElem_mem _))
theorem bk_iff {l : List Int} : bk l = true ↔ brk l := by
  unfold bk brk
  rw [Bool.and_eq_true, vc_iff, decide_eq_true_eq]
theorem idx_step {p : List Int} {c : Int} {k : Nat} (h : k ≤ p.idxOf c) (hk : k < p.length) (hn : ¬ p.getD k 0 = c) : k + 1 ≤ p.idxOf c := by
  rcases Nat.lt_or_ge k (p.idxOf c) with h1 | h1
  · exact h1
  · exfalso
    have e : p.idxOf c = k := by omega
    have h2 : p.idxOf c < p.length := by omega
    have := List.getElem_idxOf h2
    apply hn
    rw [show p.getD k 0 = p[k] by simp [List.getD, hk], ← this]
    congr 1; exact e.symm
theorem idx_hit {p : List Int} {c : Int} {k : Nat} (h : k ≤ p.idxOf c) (hk : k < p.length) (hn : p.getD k 0 = c) : p.idxOf c = k := by
  rcases Nat.lt_or_ge k (p.idxOf c) with h1 | h1
  · exfalso
    rw [show p.getD k 0 = p[k] by simp [List.getD, hk]] at hn
    have h3 := List.not_of_lt_findIdx h1
    rw [hn] at h3; simp at h3
  · omega
theorem idx_end {p : List Int} {c : Int} (h : p.length ≤ p.idxOf c) : p.idxOf c = p.length := by have := List.idxOf_le_length (a := c) (l := p); omega
theorem eqk_same {l m : List Int} (h : l.length = m.length) (hk : l.length ≤ ff (fun k => decide (l.getD k 0 = m.getD k 0)) l.length) : l = m := by
  apply List.ext_getElem h
  intro i h1 h2
  have := of_decide_eq_true (Ff.ff_before (p := fun k => decide (l.getD k 0 = m.getD k 0)) (n := l.length) (j := i) (by omega))
  simpa [List.getD, h1, h2] using this
end Pl
set_option maxRecDepth 1000000 in
set_option maxHeartbeats 4000000 in
theorem cell_any (v : Int) (w : World) :
    Calls Try.prog 47 #[.int .i64 v] w fun e w' => e = .returned (.bool (decide (Pl.cell v))) ∧ Below w.heap.size w w' := by
  have S1 : Hid (St w noB [] w) := Lib.hid (St.start w)
  go_enter Try.func47, Try.ntmps47
  go_upto_region 0 with fail
  refine wpG_region_k (fun K hK => ?_)
  refine @wpG_p _ _ _ _ _ (some 2) (.bool false) _ _ rfl (by rfl) (fun _ => rfl) ?_
  simp only [n1, n3, n4]
  refine wpG_done (fun V2 hv3 => ?_)
  have S4 : Hid (St w noB [] V2) := Lib.hid (S1.out.gr hv3)
  clear S1
  clear hv3
  refine ⟨rfl, hK _ _ ?_⟩
  clear hK
  go_upto_region 1 with fail
  refine wpG_region_k (fun K hK => ?_)
  refine @wpG_p _ _ _ _ _ (some 3) (.int .i64 v) _ _ rfl (by rfl) (fun _ => rfl) ?_
  simp only [n1, n3, n4]
  refine @wpG_p _ _ _ _ _ (some 4) (.bool (decide (v ≥ 0))) _ _ rfl (by rfl) (fun W => op_int_geq W v 0 rfl rfl rfl Try.underlying3) ?_
  simp only [n1, n3, n4]
  refine @wpG_p _ _ _ _ _ (some 5) (.bool (decide (v ≥ 0))) _ _ rfl (by rfl) (fun _ => rfl) ?_
  simp only [n1, n3, n4]
  obtain ⟨c5, hc5⟩ : ∃ q_, q_ = (decide (v ≥ 0)) := ⟨_, rfl⟩
  rw [← hc5]
  have Hc5 := Lib.hid hc5
  clear hc5
  refine @wpG_tk _ _ _ _ _ (some 6) ((bif c5 then .int .i64 v else undef)) _ _ rfl (by cases c5 with | false => exact .no (by rfl) | true => exact (.val (by rfl) (fun _ _ => rfl))) ?_
  simp only [n1, n3, n4]
  refine @wpG_tk _ _ _ _ _ (some 7) ((bif c5 then .bool (decide (v ≤ 255)) else undef)) _ _ rfl (by cases c5 with | false => exact .no (by rfl) | true => exact (.val (by rfl) (fun W hg => by exact op_int_leq W v 255 rfl rfl rfl Try.underlying3))) ?_
  simp only [n1, n3, n4]
  refine @wpG_p _ _ _ _ _ (some 8) (.bool (c5 && (decide (v ≤ 255)))) _ _ rfl (by rfl) (fun W => by cases c5 <;> go_simp) ?_
  simp only [n1, n3, n4]
  obtain ⟨c6, hc6⟩ : ∃ q_, q_ = (c5 && (decide (v ≤ 255))) := ⟨_, rfl⟩
  rw [← hc6]
  have Hc6 := Lib.hid hc6
  clear hc6
  refine @wpG_p _ _ _ _ _ (some 2) (.bool c6) _ _ rfl (by rfl) (fun _ => rfl) ?_
  simp only [n1, n3, n4]
  refine wpG_done (fun V7 hv8 => ?_)
  have S9 : Hid (St w noB [] V7) := Lib.hid (S4.out.gr hv8)
  clear S4
  clear hv8
  refine ⟨rfl, hK _ _ ?_⟩
  clear hK
  go_wp2_with fail
  go_ret
  refine ⟨?_, S9.out.bel⟩
  show Ending.returned (.bool c6) = _
  (first | rfl | (obtain rfl := Hc5.out; obtain rfl := Hc6.out; (congr 2; rw [Bool.eq_iff_iff, decide_eq_true_iff]; unfold Pl.cell; (try simp); (try omega))))
set_option maxRecDepth 1000000 in
set_option maxHeartbeats 4000000 in
theorem mat1_any (v : Int) (w : World) :
    Calls Try.prog 46 #[.int .i64 v] w fun e w' => e = .returned (.bool (!decide (Pl.cell v))) ∧ Below w.heap.size w w' := by
  have S1 : Hid (St w noB [] w) := Lib.hid (St.start w)
  go_enter Try.func46, Try.ntmps46
  go_upto_region 0 with fail
  refine wpG_region_k (fun K hK => ?_)
  refine @wpG_p _ _ _ _ _ (some 2) (.bool false) _ _ rfl (by rfl) (fun _ => rfl) ?_
  simp only [n1, n3, n4]
  refine wpG_done (fun V2 hv3 => ?_)
  have S4 : Hid (St w noB [] V2) := Lib.hid (S1.out.gr hv3)
  clear S1
  clear hv3
  refine ⟨rfl, hK _ _ ?_⟩
  clear hK
  go_upto_region 1 with fail
  refine wpG_region_k (fun K hK => ?_)
  refine @wpG_p _ _ _ _ _ (some 3) (.int .i64 v) _ _ rfl (by rfl) (fun _ => rfl) ?_
  simp only [n1, n3, n4]
  refine @wpG_p _ _ _ _ _ (some 4) (.bool (decide (v < 0))) _ _ rfl (by rfl) (fun W => op_int_lss W v 0 rfl rfl rfl Try.underlying3) ?_
  simp only [n1, n3, n4]
  refine @wpG_p _ _ _ _ _ (some 5) (.bool (decide (v < 0))) _ _ rfl (by rfl) (fun _ => rfl) ?_
  simp only [n1, n3, n4]
  obtain ⟨c5, hc5⟩ : ∃ q_, q_ = (decide (v < 0)) := ⟨_, rfl⟩
  rw [← hc5]
  have Hc5 := Lib.hid hc5
  clear hc5
  refine @wpG_tk _ _ _ _ _ (some 6) ((bif c5 then undef else .int .i64 v)) _ _ rfl (by cases c5 with | true => exact .no (by rfl) | false => exact (.val (by rfl) (fun _ _ => rfl))) ?_
  simp only [n1, n3, n4]
  refine @wpG_tk _ _ _ _ _ (some 7) ((bif c5 then undef else .bool (decide (v ≥ 256)))) _ _ rfl (by cases c5 with | true => exact .no (by rfl) | false => exact (.val (by rfl) (fun W hg => by exact op_int_geq W v 256 rfl rfl rfl Try.underlying3))) ?_
  simp only [n1, n3, n4]
  refine @wpG_p _ _ _ _ _ (some 8) (.bool (c5 || (decide (v ≥ 256)))) _ _ rfl (by rfl) (fun W => by cases c5 <;> go_simp) ?_
  simp only [n1, n3, n4]
  obtain ⟨c6, hc6⟩ : ∃ q_, q_ = (c5 || (decide (v ≥ 256))) := ⟨_, rfl⟩
  rw [← hc6]
  have Hc6 := Lib.hid hc6
  clear hc6
  refine @wpG_p _ _ _ _ _ (some 2) (.bool c6) _ _ rfl (by rfl) (fun _ => rfl) ?_
  simp only [n1, n3, n4]
  refine wpG_done (fun V7 hv8 => ?_)
  have S9 : Hid (St w noB [] V7) := Lib.hid (S4.out.gr hv8)
  clear S4
  clear hv8
  refine ⟨rfl, hK _ _ ?_⟩
  clear hK
  go_wp2_with fail
  go_ret
  refine ⟨?_, S9.out.bel⟩
  show Ending.returned (.bool c6) = _
  (first | rfl | (obtain rfl := Hc5.out; obtain rfl := Hc6.out; (congr 2; rw [Bool.eq_iff_iff, Bool.not_eq_true', decide_eq_false_iff_not]; unfold Pl.cell; (try simp); (try omega))))
set_option maxRecDepth 1000000 in
set_option maxHeartbeats 4000000 in
theorem ixf_any (A : Option Addr) (n c : Nat) (l : List Int) (w : World) (hG : SL w 1 A n c (ic l)) :
    Calls Try.prog 56 #[.slice A n c, .func (.func 46) #[] #[]] w fun e w' => e = .returned (.int .i64 (Pl.ixf l)) ∧ Below w.heap.size w w' := by
  have HGA := Lib.hid hG
  have HLEN : Hid (l.length = n) := Lib.hid (by have h_ := hG.len; rw [ic_len] at h_; omega)
  have hnbHGA : n ≤ 9223372036854775807 := Nat.le_trans hG.cap hG.bnd
  clear hG
  have S1 : Hid (St w noB [] w) := Lib.hid (St.start w)
  go_enter Try.func56, Try.ntmps56
  go_upto_region 0 with fail
  refine wpG_region_k (fun K hK => ?_)
  refine @wpG_p _ _ _ _ _ (some 4) (.int .i64 0) _ _ rfl (by rfl) (fun _ => rfl) ?_
  simp only [n1, n3, n4]
  refine wpG_done (fun V2 hv3 => ?_)
  have S4 : Hid (St w noB [] V2) := Lib.hid (S1.out.gr hv3)
  clear S1
  clear hv3
  refine ⟨rfl, hK _ _ ?_⟩
  clear hK
  go_upto_region 1 with fail
  refine wpG_region_k (fun K hK => ?_)
  refine @wpG_p _ _ _ _ _ (some 6) (.slice A n c) _ _ rfl (by rfl) (fun _ => rfl) ?_
  simp only [n1, n3, n4]
  refine @wpG_p _ _ _ _ _ (some 7) (.int .i64 (n : Int)) _ _ rfl (by rfl) (fun W => by go_simp) ?_
  simp only [n1, n3, n4]
  refine @wpG_p _ _ _ _ _ (some 8) (.int .i64 0) _ _ rfl (by rfl) (fun _ => rfl) ?_
  simp only [n1, n3, n4]
  refine wpG_done (fun V5 hv6 => ?_)
  have S7 : Hid (St w noB [] V5) := Lib.hid (S4.out.gr hv6)
  clear S4
  clear hv6
  refine ⟨rfl, hK _ _ ?_⟩
  clear hK
  go_wp2_with fail
  go_loopw [8] (fun v8 wr => ∃ (k : Nat), v8 = .int .i64 (k : Int) ∧ k ≤ ff (Pl.ck l) l.length ∧ k ≤ n ∧ St w noB [] wr) (fun i _ => n - (intOf i).toNat)
  case atStart => exact ⟨0, rfl, Nat.zero_le _, Nat.zero_le _, S7.out⟩
  case round =>
    obtain ⟨k, rfl, hk_, hkn, hS⟩ := hrel
    have HK_ := Lib.hid hk_
    clear hk_
    have SL := Lib.hid hS
    clear S7 hS
    have S8 := SL
    clear SL
    go_upto_region 2 with fail
    refine wpG_region_k (fun K hK => ?_)
    refine @wpG_p _ _ _ _ _ (some 9) (.bool (decide ((k : Int) < (n : Int)))) _ _ rfl (by rfl) (fun W => op_int_lss W (k : Int) (n : Int) rfl rfl rfl Try.underlying3) ?_
    simp only [n1, n3, n4]
    refine wpG_done (fun V9 hv10 => ?_)
    have S11 : Hid (St w noB [] V9) := Lib.hid (S8.out.gr hv10)
    clear S8
    clear hv10
    refine ⟨rfl, hK _ _ ?_⟩
    clear hK
    obtain ⟨c12, hc12⟩ : ∃ q_, q_ = (decide ((k : Int) < (n : Int))) := ⟨_, rfl⟩
    rw [← hc12]
    have Hc12 := Lib.hid hc12
    clear hc12
    cases c12 with
    | true =>
      have f13 := of_decide_eq_true Hc12.out.symm
      go_upto_region 3 with fail
      refine wpG_region_k (fun K hK => ?_)
      refine @wpG_p _ _ _ _ _ (some 10) (.int .i64 (k : Int)) _ _ rfl (by rfl) (fun _ => rfl) ?_
      simp only [n1, n3, n4]
      refine @wpG_p _ _ _ _ _ (some 5) (.int .i64 (k : Int)) _ _ rfl (by rfl) (fun _ => rfl) ?_
      simp only [n1, n3, n4]
      refine wpG_done (fun V14 hv15 => ?_)
      have S16 : Hid (St w noB [] V14) := Lib.hid (S11.out.gr hv15)
      clear S11
      clear hv15
      refine ⟨rfl, hK _ _ ?_⟩
      clear hK
      go_upto_region 4 with fail
      refine wpG_region_k (fun K hK => ?_)
      refine @wpG_p _ _ _ _ _ (some 11) (.func (.func 46) #[] #[]) _ _ rfl (by rfl) (fun _ => rfl) ?_
      simp only [n1, n3, n4]
      refine @wpG_p _ _ _ _ _ (some 12) (.slice A n c) _ _ rfl (by rfl) (fun _ => rfl) ?_
      simp only [n1, n3, n4]
      refine @wpG_p _ _ _ _ _ (some 13) (.int .i64 (k : Int)) _ _ rfl (by rfl) (fun _ => rfl) ?_
      simp only [n1, n3, n4]
      obtain ⟨b17, o17, rfl⟩ := HGA.out.addr (by decide) (by omega)
      refine @wpG_p _ _ _ _ _ (some 14) (.pointer (some ⟨b17, o17 + k, none⟩)) _ _ rfl (by rfl) (fun W => by (go_simp <;> first | rfl | omega | (simp; omega))) ?_
      simp only [n1, n3, n4]
      refine @wpG_r _ _ _ _ _ (some 15) (.int .i64 (l.getD k 0)) _ _ rfl (by rfl) (fun W hg => by have c := (((HGA.out.gr ((S16.out.gr hg)).bel).int (l := l) k (by (have := HLEN.out; omega)))) 0 _ rfl; (try simp only [Nat.add_zero, Nat.zero_add] at c); go_simp) ?_
      simp only [n1, n3, n4]
      refine @wpG_tk _ _ _ _ _ (some 16) (.bool (!decide (Pl.cell (l.getD k 0)))) _ _ rfl (.call (f := 46) (args := #[.int .i64 (l.getD k 0)]) (by rfl) (fun W => by go_simp) (fun W hg => mat1_any (l.getD k 0) W)) ?_
      simp only [n1, n3, n4]
      refine wpG_done (fun V18 hv19 => ?_)
      have S20 : Hid (St w noB [] V18) := Lib.hid (S16.out.gr hv19)
      clear S16
      clear hv19
      refine ⟨rfl, hK _ _ ?_⟩
      clear hK
      obtain ⟨c21, hc21⟩ : ∃ q_, q_ = (!decide (Pl.cell (l.getD k 0))) := ⟨_, rfl⟩
      rw [← hc21]
      have Hc21 := Lib.hid hc21
      clear hc21
      cases c21 with
      | true =>
        have f22 := Lib.hid (of_decide_eq_false (bnt Hc21.out))
        go_upto_region 5 with fail
        refine wpG_region_k (fun K hK => ?_)
        refine @wpG_p _ _ _ _ _ (some 17) (.int .i64 (k : Int)) _ _ rfl (by rfl) (fun _ => rfl) ?_
        simp only [n1, n3, n4]
        refine @wpG_p _ _ _ _ _ (some 4) (.int .i64 (k : Int)) _ _ rfl (by rfl) (fun _ => rfl) ?_
        simp only [n1, n3, n4]
        refine wpG_done (fun V23 hv24 => ?_)
        have S25 : Hid (St w noB [] V23) := Lib.hid (S20.out.gr hv24)
        clear S20
        clear hv24
        refine ⟨rfl, hK _ _ ?_⟩
        clear hK
        go_wp2_with fail
        go_ret
        refine ⟨?_, S25.out.bel⟩
        show Ending.returned (.int .i64 (k : Int)) = _
        (first | rfl | (have e_f22 := f22.out; rw [Pl.ixf_yes HK_.out (by have := HLEN.out; omega) (by unfold Pl.ck; simpa using e_f22)]))
      | false =>
        have f26 := Lib.hid (of_decide_eq_true (bnf Hc21.out))
        go_upto_region 6 with fail
        refine wpG_region_k (fun K hK => ?_)
        refine @wpG_p _ _ _ _ _ (some 18) (.int .i64 ((k : Int) + 1)) _ _ rfl (by rfl) (fun W => op_i_add W (k : Int) 1 (by omega) rfl rfl rfl Try.underlying3) ?_
        simp only [n1, n3, n4]
        refine @wpG_p _ _ _ _ _ (some 8) (.int .i64 ((k : Int) + 1)) _ _ rfl (by rfl) (fun _ => rfl) ?_
        simp only [n1, n3, n4]
        refine wpG_done (fun V27 hv28 => ?_)
        have S29 : Hid (St w noB [] V27) := Lib.hid (S20.out.gr hv28)
        clear S20
        clear hv28
        refine ⟨rfl, hK _ _ ?_⟩
        clear hK
        go_wp2_with fail
        go_roundw
        case rel => exact ⟨k + 1, (by first | rfl | go_num), (by have e_f26 := f26.out; exact ff_step HK_.out (by have := HLEN.out; omega) (by unfold Pl.ck; simpa using e_f26)), (by omega), S29.out⟩
        case measure => first | (simp only [intOf]; omega) | (simp [intOf]; done) | (simp [intOf]; omega) | omega
    | false =>
      have f30 := of_decide_eq_false Hc12.out.symm
      go_upto_region 7 with fail
      refine wpG_region_k (fun K hK => ?_)
      refine @wpG_p _ _ _ _ _ (some 4) (.int .i64 (-1)) _ _ rfl (by rfl) (fun _ => rfl) ?_
      simp only [n1, n3, n4]
      refine wpG_done (fun V31 hv32 => ?_)
      have S33 : Hid (St w noB [] V31) := Lib.hid (S11.out.gr hv32)
      clear S11
      clear hv32
      refine ⟨rfl, hK _ _ ?_⟩
      clear hK
      go_wp2_with fail
      go_ret
      refine ⟨?_, S33.out.bel⟩
      show Ending.returned (.int .i64 (-1)) = _
      (first | rfl | (rw [Pl.ixf_no (by have h_ := HK_.out; have e_ : k = l.length := (by have := HLEN.out; omega); rw [e_] at h_; exact h_)]))
set_option maxRecDepth 1000000 in
set_option maxHeartbeats 4000000 in
theorem cnf_any (A : Option Addr) (n c : Nat) (l : List Int) (w : World) (hG : SL w 1 A n c (ic l)) :
    Calls Try.prog 45 #[.slice A n c, .func (.func 46) #[] #[]] w fun e w' => e = .returned (.bool (!(Pl.vc l))) ∧ Below w.heap.size w w' := by
  have HGA := Lib.hid hG
  have HLEN : Hid (l.length = n) := Lib.hid (by have h_ := hG.len; rw [ic_len] at h_; omega)
  have hnbHGA : n ≤ 9223372036854775807 := Nat.le_trans hG.cap hG.bnd
  clear hG
  have S1 : Hid (St w noB [] w) := Lib.hid (St.start w)
  go_enter Try.func45, Try.ntmps45
  go_upto_region 0 with fail
  refine wpG_region_k (fun K hK => ?_)
  refine @wpG_p _ _ _ _ _ (some 4) (.bool false) _ _ rfl (by rfl) (fun _ => rfl) ?_
  simp only [n1, n3, n4]
  refine wpG_done (fun V2 hv3 => ?_)
  have S4 : Hid (St w noB [] V2) := Lib.hid (S1.out.gr hv3)
  clear S1
  clear hv3
  refine ⟨rfl, hK _ _ ?_⟩
  clear hK
  go_upto_region 1 with fail
  refine wpG_region_k (fun K hK => ?_)
  refine @wpG_p _ _ _ _ _ (some 5) (.slice A n c) _ _ rfl (by rfl) (fun _ => rfl) ?_
  simp only [n1, n3, n4]
  refine @wpG_p _ _ _ _ _ (some 6) (.func (.func 46) #[] #[]) _ _ rfl (by rfl) (fun _ => rfl) ?_
  simp only [n1, n3, n4]
  refine @wpG_tk _ _ _ _ _ (some 7) (.int .i64 (Pl.ixf l)) _ _ rfl (.call (f := 56) (args := #[.slice A n c, .func (.func 46) #[] #[]]) (by rfl) (fun W => by go_simp) (fun W hg => ixf_any _ _ _ l W (HGA.out.gr (S4.out.gr hg).bel))) ?_
  simp only [n1, n3, n4]
  refine @wpG_p _ _ _ _ _ (some 8) (.bool (decide (Pl.ixf l ≥ 0))) _ _ rfl (by rfl) (fun W => op_int_geq W (Pl.ixf l) 0 rfl rfl rfl Try.underlying3) ?_
  simp only [n1, n3, n4]
  refine @wpG_p _ _ _ _ _ (some 4) (.bool (decide (Pl.ixf l ≥ 0))) _ _ rfl (by rfl) (fun _ => rfl) ?_
  simp only [n1, n3, n4]
  refine wpG_done (fun V5 hv6 => ?_)
  have S7 : Hid (St w noB [] V5) := Lib.hid (S4.out.gr hv6)
  clear S4
  clear hv6
  refine ⟨rfl, hK _ _ ?_⟩
  clear hK
  go_wp2_with fail
  go_ret
  refine ⟨?_, S7.out.bel⟩
  show Ending.returned (.bool (decide (Pl.ixf l ≥ 0))) = _
  (first | rfl | (rw [← Pl.ixf_ge]))
set_option maxRecDepth 1000000 in
set_option maxHeartbeats 4000000 in
theorem mats_any (A : Option Addr) (n c : Nat) (l : List Int) (w : World) (hG : SL w 1 A n c (ic l)) :
    Calls Try.prog 27 #[.slice A n c] w fun e w' => e = .returned (.bool (Pl.vc l)) ∧ Below w.heap.size w w' := by
  have HGA := Lib.hid hG
  have HLEN : Hid (l.length = n) := Lib.hid (by have h_ := hG.len; rw [ic_len] at h_; omega)
  have hnbHGA : n ≤ 9223372036854775807 := Nat.le_trans hG.cap hG.bnd
  clear hG
  have S1 : Hid (St w noB [] w) := Lib.hid (St.start w)
  go_enter Try.func27, Try.ntmps27
  go_upto_region 0 with fail
  refine wpG_region_k (fun K hK => ?_)
  refine @wpG_p _ _ _ _ _ (some 2) (.bool false) _ _ rfl (by rfl) (fun _ => rfl) ?_
  simp only [n1, n3, n4]
  refine wpG_done (fun V2 hv3 => ?_)
  have S4 : Hid (St w noB [] V2) := Lib.hid (S1.out.gr hv3)
  clear S1
  clear hv3
  refine ⟨rfl, hK _ _ ?_⟩
  clear hK
  go_upto_region 1 with fail
  refine wpG_region_k (fun K hK => ?_)
  refine @wpG_p _ _ _ _ _ (some 3) (.slice A n c) _ _ rfl (by rfl) (fun _ => rfl) ?_
  simp only [n1, n3, n4]
  refine @wpG_tk _ _ _ _ _ (some 4) (.bool (!Pl.vc l)) _ _ rfl (.call (f := 45) (args := #[.slice A n c, .func (.func 46) #[] #[]]) (by rfl) (fun W => by go_simp) (fun W hg => cnf_any _ _ _ l W (HGA.out.gr (S4.out.gr hg).bel))) ?_
  simp only [n1, n3, n4]
  refine @wpG_p _ _ _ _ _ (some 5) (.bool (Pl.vc l)) _ _ rfl (by rfl) (fun W => by go_simp) ?_
  simp only [n1, n3, n4]
  refine @wpG_p _ _ _ _ _ (some 2) (.bool (Pl.vc l)) _ _ rfl (by rfl) (fun _ => rfl) ?_
  simp only [n1, n3, n4]
  refine wpG_done (fun V5 hv6 => ?_)
  have S7 : Hid (St w noB [] V5) := Lib.hid (S4.out.gr hv6)
  clear S4
  clear hv6
  refine ⟨rfl, hK _ _ ?_⟩
  clear hK
  go_wp2_with fail
  go_ret
  refine ⟨?_, S7.out.bel⟩
  show Ending.returned (.bool (Pl.vc l)) = _
  (first | rfl | (rfl))
set_option maxRecDepth 1000000 in
set_option maxHeartbeats 4000000 in
theorem rcells_any (A : Option Addr) (n c : Nat) (l : List Int) (w : World) (hG : SL w 1 A n c (ic l)) :
    Calls Try.prog 32 #[.slice A n c] w fun e w' => e = .returned (.bool (Pl.vc l)) ∧ Below w.heap.size w w' := by
  have HGA := Lib.hid hG
  have HLEN : Hid (l.length = n) := Lib.hid (by have h_ := hG.len; rw [ic_len] at h_; omega)
  have hnbHGA : n ≤ 9223372036854775807 := Nat.le_trans hG.cap hG.bnd
  clear hG
  have S1 : Hid (St w noB [] w) := Lib.hid (St.start w)
  go_enter Try.func32, Try.ntmps32
  go_upto_region 0 with fail
  refine wpG_region_k (fun K hK => ?_)
  refine @wpG_p _ _ _ _ _ (some 2) (.bool false) _ _ rfl (by rfl) (fun _ => rfl) ?_
  simp only [n1, n3, n4]
  refine wpG_done (fun V2 hv3 => ?_)
  have S4 : Hid (St w noB [] V2) := Lib.hid (S1.out.gr hv3)
  clear S1
  clear hv3
  refine ⟨rfl, hK _ _ ?_⟩
  clear hK
  go_upto_region 1 with fail
  refine wpG_region_k (fun K hK => ?_)
  refine @wpG_p _ _ _ _ _ (some 3) (.int .i64 0) _ _ rfl (by rfl) (fun _ => rfl) ?_
  simp only [n1, n3, n4]
  refine wpG_done (fun V5 hv6 => ?_)
  have S7 : Hid (St w noB [] V5) := Lib.hid (S4.out.gr hv6)
  clear S4
  clear hv6
  refine ⟨rfl, hK _ _ ?_⟩
  clear hK
  go_wp2_with fail
  go_loopw [3] (fun v3 wr => ∃ (k : Nat), v3 = .int .i64 (k : Int) ∧ k ≤ ff (Pl.ck l) l.length ∧ k ≤ n ∧ St w noB [] wr) (fun i _ => n - (intOf i).toNat)
  case atStart => exact ⟨0, rfl, Nat.zero_le _, Nat.zero_le _, S7.out⟩
  case round =>
    obtain ⟨k, rfl, hk_, hkn, hS⟩ := hrel
    have HK_ := Lib.hid hk_
    clear hk_
    have SL := Lib.hid hS
    clear S7 hS
    have S8 := SL
    clear SL
    go_upto_region 2 with fail
    refine wpG_region_k (fun K hK => ?_)
    refine @wpG_p _ _ _ _ _ (some 5) (.int .i64 (k : Int)) _ _ rfl (by rfl) (fun _ => rfl) ?_
    simp only [n1, n3, n4]
    refine @wpG_p _ _ _ _ _ (some 6) (.slice A n c) _ _ rfl (by rfl) (fun _ => rfl) ?_
    simp only [n1, n3, n4]
    refine @wpG_p _ _ _ _ _ (some 7) (.int .i64 (n : Int)) _ _ rfl (by rfl) (fun W => by go_simp) ?_
    simp only [n1, n3, n4]
    refine @wpG_p _ _ _ _ _ (some 8) (.bool (decide ((k : Int) < (n : Int)))) _ _ rfl (by rfl) (fun W => op_int_lss W (k : Int) (n : Int) rfl rfl rfl Try.underlying3) ?_
    simp only [n1, n3, n4]
    refine wpG_done (fun V9 hv10 => ?_)
    have S11 : Hid (St w noB [] V9) := Lib.hid (S8.out.gr hv10)
    clear S8
    clear hv10
    refine ⟨rfl, hK _ _ ?_⟩
    clear hK
    obtain ⟨c12, hc12⟩ : ∃ q_, q_ = (decide ((k : Int) < (n : Int))) := ⟨_, rfl⟩
    rw [← hc12]
    have Hc12 := Lib.hid hc12
    clear hc12
    cases c12 with
    | true =>
      have f13 := of_decide_eq_true Hc12.out.symm
      go_upto_region 4 with fail
      refine wpG_region_k (fun K hK => ?_)
      refine @wpG_p _ _ _ _ _ (some 11) (.slice A n c) _ _ rfl (by rfl) (fun _ => rfl) ?_
      simp only [n1, n3, n4]
      refine @wpG_p _ _ _ _ _ (some 12) (.int .i64 (k : Int)) _ _ rfl (by rfl) (fun _ => rfl) ?_
      simp only [n1, n3, n4]
      obtain ⟨b14, o14, rfl⟩ := HGA.out.addr (by decide) (by omega)
      refine @wpG_p _ _ _ _ _ (some 13) (.pointer (some ⟨b14, o14 + k, none⟩)) _ _ rfl (by rfl) (fun W => by (go_simp <;> first | rfl | omega | (simp; omega))) ?_
      simp only [n1, n3, n4]
      refine @wpG_r _ _ _ _ _ (some 14) (.int .i64 (l.getD k 0)) _ _ rfl (by rfl) (fun W hg => by have c := (((HGA.out.gr ((S11.out.gr hg)).bel).int (l := l) k (by (have := HLEN.out; omega)))) 0 _ rfl; (try simp only [Nat.add_zero, Nat.zero_add] at c); go_simp) ?_
      simp only [n1, n3, n4]
      refine @wpG_tk _ _ _ _ _ (some 15) (.bool (decide (Pl.cell (l.getD k 0)))) _ _ rfl (.call (f := 47) (args := #[.int .i64 (l.getD k 0)]) (by rfl) (fun W => by go_simp) (fun W hg => cell_any (l.getD k 0) W)) ?_
      simp only [n1, n3, n4]
      refine @wpG_p _ _ _ _ _ (some 4) (.bool (decide (Pl.cell (l.getD k 0)))) _ _ rfl (by rfl) (fun _ => rfl) ?_
      simp only [n1, n3, n4]
      refine wpG_done (fun V15 hv16 => ?_)
      have S17 : Hid (St w noB [] V15) := Lib.hid (S11.out.gr hv16)
      clear S11
      clear hv16
      refine ⟨rfl, hK _ _ ?_⟩
      clear hK
      go_upto_region 5 with fail
      refine wpG_region_k (fun K hK => ?_)
      refine @wpG_p _ _ _ _ _ (some 16) (.bool (decide (Pl.cell (l.getD k 0)))) _ _ rfl (by rfl) (fun _ => rfl) ?_
      simp only [n1, n3, n4]
      refine @wpG_p _ _ _ _ _ (some 17) (.bool (!(decide (Pl.cell (l.getD k 0))))) _ _ rfl (by rfl) (fun W => by go_simp) ?_
      simp only [n1, n3, n4]
      refine wpG_done (fun V18 hv19 => ?_)
      have S20 : Hid (St w noB [] V18) := Lib.hid (S17.out.gr hv19)
      clear S17
      clear hv19
      refine ⟨rfl, hK _ _ ?_⟩
      clear hK
      obtain ⟨c21, hc21⟩ : ∃ q_, q_ = (!(decide (Pl.cell (l.getD k 0)))) := ⟨_, rfl⟩
      rw [← hc21]
      have Hc21 := Lib.hid hc21
      clear hc21
      cases c21 with
      | true =>
        have f22 := Lib.hid (of_decide_eq_false (bnt Hc21.out))
        go_upto_region 6 with fail
        refine wpG_region_k (fun K hK => ?_)
        refine @wpG_p _ _ _ _ _ (some 2) (.bool false) _ _ rfl (by rfl) (fun _ => rfl) ?_
        simp only [n1, n3, n4]
        refine wpG_done (fun V23 hv24 => ?_)
        have S25 : Hid (St w noB [] V23) := Lib.hid (S20.out.gr hv24)
        clear S20
        clear hv24
        refine ⟨rfl, hK _ _ ?_⟩
        clear hK
        go_wp2_with fail
        go_ret
        refine ⟨?_, S25.out.bel⟩
        show Ending.returned (.bool false) = _
        (first | rfl | (have e_f22 := f22.out; exact rb_f (al_no HK_.out (by have := HLEN.out; omega) (by unfold Pl.ck; simpa using e_f22))))
      | false =>
        have f26 := Lib.hid (of_decide_eq_true (bnf Hc21.out))
        go_upto_region 3 with fail
        refine wpG_region_k (fun K hK => ?_)
        refine @wpG_p _ _ _ _ _ (some 9) (.int .i64 (k : Int)) _ _ rfl (by rfl) (fun _ => rfl) ?_
        simp only [n1, n3, n4]
        refine @wpG_p _ _ _ _ _ (some 10) (.int .i64 ((k : Int) + 1)) _ _ rfl (by rfl) (fun W => op_i_add W (k : Int) 1 (by omega) rfl rfl rfl Try.underlying3) ?_
        simp only [n1, n3, n4]
        refine @wpG_p _ _ _ _ _ (some 3) (.int .i64 ((k : Int) + 1)) _ _ rfl (by rfl) (fun _ => rfl) ?_
        simp only [n1, n3, n4]
        refine wpG_done (fun V27 hv28 => ?_)
        have S29 : Hid (St w noB [] V27) := Lib.hid (S20.out.gr hv28)
        clear S20
        clear hv28
        refine ⟨rfl, hK _ _ ?_⟩
        clear hK
        go_wp2_with fail
        go_roundw
        case rel => exact ⟨k + 1, (by first | rfl | go_num), (by have e_f26 := f26.out; exact ff_step HK_.out (by have := HLEN.out; omega) (by unfold Pl.ck; simpa using e_f26)), (by omega), S29.out⟩
        case measure => first | (simp only [intOf]; omega) | (simp [intOf]; done) | (simp [intOf]; omega) | omega
    | false =>
      have f30 := of_decide_eq_false Hc12.out.symm
      go_upto_region 7 with fail
      refine wpG_region_k (fun K hK => ?_)
      refine @wpG_p _ _ _ _ _ (some 2) (.bool true) _ _ rfl (by rfl) (fun _ => rfl) ?_
      simp only [n1, n3, n4]
      refine wpG_done (fun V31 hv32 => ?_)
      have S33 : Hid (St w noB [] V31) := Lib.hid (S11.out.gr hv32)
      clear S11
      clear hv32
      refine ⟨rfl, hK _ _ ?_⟩
      clear hK
      go_wp2_with fail
      go_ret
      refine ⟨?_, S33.out.bel⟩
      show Ending.returned (.bool true) = _
      (first | rfl | (exact rb_t (al_yes (by have h_ := HK_.out; have e_ : k = l.length := (by have := HLEN.out; omega); rw [e_] at h_; exact h_))))
set_option maxRecDepth 1000000 in
set_option maxHeartbeats 4000000 in
theorem brick_any (A : Option Addr) (n c : Nat) (l : List Int) (w : World) (hG : SL w 1 A n c (ic l)) :
    Calls Try.prog 40 #[.slice A n c] w fun e w' => e = .returned (.bool (Pl.bk l)) ∧ Below w.heap.size w w' := by
  have HGA := Lib.hid hG
  have HLEN : Hid (l.length = n) := Lib.hid (by have h_ := hG.len; rw [ic_len] at h_; omega)
  have hnbHGA : n ≤ 9223372036854775807 := Nat.le_trans hG.cap hG.bnd
  clear hG
  have S1 : Hid (St w noB [] w) := Lib.hid (St.start w)
  go_enter Try.func40, Try.ntmps40
  go_upto_region 0 with fail
  refine wpG_region_k (fun K hK => ?_)
  refine @wpG_p _ _ _ _ _ (some 2) (.bool false) _ _ rfl (by rfl) (fun _ => rfl) ?_
  simp only [n1, n3, n4]
  refine wpG_done (fun V2 hv3 => ?_)
  have S4 : Hid (St w noB [] V2) := Lib.hid (S1.out.gr hv3)
  clear S1
  clear hv3
  refine ⟨rfl, hK _ _ ?_⟩
  clear hK
  go_upto_region 1 with fail
  refine wpG_region_k (fun K hK => ?_)
  refine @wpG_p _ _ _ _ _ (some 3) (.slice A n c) _ _ rfl (by rfl) (fun _ => rfl) ?_
  simp only [n1, n3, n4]
  refine @wpG_p _ _ _ _ _ (some 4) (.int .i64 (n : Int)) _ _ rfl (by rfl) (fun W => by go_simp) ?_
  simp only [n1, n3, n4]
  refine @wpG_p _ _ _ _ _ (some 5) (.bool (decide ((n : Int) = 64))) _ _ rfl (by rfl) (fun W => op_int_eql W (n : Int) 64 rfl rfl rfl Try.underlying3) ?_
  simp only [n1, n3, n4]
  refine @wpG_p _ _ _ _ _ (some 6) (.bool (decide ((n : Int) = 64))) _ _ rfl (by rfl) (fun _ => rfl) ?_
  simp only [n1, n3, n4]
  obtain ⟨c5, hc5⟩ : ∃ q_, q_ = (decide ((n : Int) = 64)) := ⟨_, rfl⟩
  rw [← hc5]
  have Hc5 := Lib.hid hc5
  clear hc5
  refine @wpG_tk _ _ _ _ _ (some 7) ((bif c5 then .slice A n c else undef)) _ _ rfl (by cases c5 with | false => exact .no (by rfl) | true => exact (.val (by rfl) (fun _ _ => rfl))) ?_
  simp only [n1, n3, n4]
  refine @wpG_tk _ _ _ _ _ (some 8) ((bif c5 then .bool (Pl.vc l) else undef)) _ _ rfl (by cases c5 with | false => exact .no (by rfl) | true => exact (.call (f := 27) (args := #[.slice A n c]) (by rfl) (fun W => by go_simp) (fun W hg => mats_any _ _ _ l W (HGA.out.gr (S4.out.gr hg).bel)))) ?_
  simp only [n1, n3, n4]
  refine @wpG_p _ _ _ _ _ (some 9) (.bool (c5 && (Pl.vc l))) _ _ rfl (by rfl) (fun W => by cases c5 <;> go_simp) ?_
  simp only [n1, n3, n4]
  obtain ⟨c6, hc6⟩ : ∃ q_, q_ = (c5 && (Pl.vc l)) := ⟨_, rfl⟩
  rw [← hc6]
  have Hc6 := Lib.hid hc6
  clear hc6
  refine @wpG_p _ _ _ _ _ (some 2) (.bool c6) _ _ rfl (by rfl) (fun _ => rfl) ?_
  simp only [n1, n3, n4]
  refine wpG_done (fun V7 hv8 => ?_)
  have S9 : Hid (St w noB [] V7) := Lib.hid (S4.out.gr hv8)
  clear S4
  clear hv8
  refine ⟨rfl, hK _ _ ?_⟩
  clear hK
  go_wp2_with fail
  go_ret
  refine ⟨?_, S9.out.bel⟩
  show Ending.returned (.bool c6) = _
  (first | rfl | (obtain rfl := Hc5.out; obtain rfl := Hc6.out; have hlen_ := HLEN.out; unfold Pl.bk; rw [show decide (l.length = 64) = decide ((n : Int) = 64) from (by rw [decide_eq_decide]; omega)]))
set_option maxRecDepth 1000000 in
set_option maxHeartbeats 4000000 in
theorem rbrick_any (A : Option Addr) (n c : Nat) (l : List Int) (w : World) (hG : SL w 1 A n c (ic l)) :
    Calls Try.prog 42 #[.slice A n c] w fun e w' => e = .returned (.bool (Pl.bk l)) ∧ Below w.heap.size w w' := by
  have HGA := Lib.hid hG
  have HLEN : Hid (l.length = n) := Lib.hid (by have h_ := hG.len; rw [ic_len] at h_; omega)
  have hnbHGA : n ≤ 9223372036854775807 := Nat.le_trans hG.cap hG.bnd
  clear hG
  have S1 : Hid (St w noB [] w) := Lib.hid (St.start w)
  go_enter Try.func42, Try.ntmps42
  go_upto_region 0 with fail
  refine wpG_region_k (fun K hK => ?_)
  refine @wpG_p _ _ _ _ _ (some 2) (.bool false) _ _ rfl (by rfl) (fun _ => rfl) ?_
  simp only [n1, n3, n4]
  refine wpG_done (fun V2 hv3 => ?_)
  have S4 : Hid (St w noB [] V2) := Lib.hid (S1.out.gr hv3)
  clear S1
  clear hv3
  refine ⟨rfl, hK _ _ ?_⟩
  clear hK
  go_upto_region 1 with fail
  refine wpG_region_k (fun K hK => ?_)
  refine @wpG_p _ _ _ _ _ (some 3) (.slice A n c) _ _ rfl (by rfl) (fun _ => rfl) ?_
  simp only [n1, n3, n4]
  refine @wpG_p _ _ _ _ _ (some 4) (.int .i64 (n : Int)) _ _ rfl (by rfl) (fun W => by go_simp) ?_
  simp only [n1, n3, n4]
  refine @wpG_p _ _ _ _ _ (some 5) (.bool (decide ((n : Int) = 64))) _ _ rfl (by rfl) (fun W => op_int_eql W (n : Int) 64 rfl rfl rfl Try.underlying3) ?_
  simp only [n1, n3, n4]
  refine @wpG_p _ _ _ _ _ (some 6) (.bool (decide ((n : Int) = 64))) _ _ rfl (by rfl) (fun _ => rfl) ?_
  simp only [n1, n3, n4]
  obtain ⟨c5, hc5⟩ : ∃ q_, q_ = (decide ((n : Int) = 64)) := ⟨_, rfl⟩
  rw [← hc5]
  have Hc5 := Lib.hid hc5
  clear hc5
  refine @wpG_tk _ _ _ _ _ (some 7) ((bif c5 then .slice A n c else undef)) _ _ rfl (by cases c5 with | false => exact .no (by rfl) | true => exact (.val (by rfl) (fun _ _ => rfl))) ?_
  simp only [n1, n3, n4]
  refine @wpG_tk _ _ _ _ _ (some 8) ((bif c5 then .bool (Pl.vc l) else undef)) _ _ rfl (by cases c5 with | false => exact .no (by rfl) | true => exact (.call (f := 32) (args := #[.slice A n c]) (by rfl) (fun W => by go_simp) (fun W hg => rcells_any _ _ _ l W (HGA.out.gr (S4.out.gr hg).bel)))) ?_
  simp only [n1, n3, n4]
  refine @wpG_p _ _ _ _ _ (some 9) (.bool (c5 && (Pl.vc l))) _ _ rfl (by rfl) (fun W => by cases c5 <;> go_simp) ?_
  simp only [n1, n3, n4]
  obtain ⟨c6, hc6⟩ : ∃ q_, q_ = (c5 && (Pl.vc l)) := ⟨_, rfl⟩
  rw [← hc6]
  have Hc6 := Lib.hid hc6
  clear hc6
  refine @wpG_p _ _ _ _ _ (some 2) (.bool c6) _ _ rfl (by rfl) (fun _ => rfl) ?_
  simp only [n1, n3, n4]
  refine wpG_done (fun V7 hv8 => ?_)
  have S9 : Hid (St w noB [] V7) := Lib.hid (S4.out.gr hv8)
  clear S4
  clear hv8
  refine ⟨rfl, hK _ _ ?_⟩
  clear hK
  go_wp2_with fail
  go_ret
  refine ⟨?_, S9.out.bel⟩
  show Ending.returned (.bool c6) = _
  (first | rfl | (obtain rfl := Hc5.out; obtain rfl := Hc6.out; have hlen_ := HLEN.out; unfold Pl.bk; rw [show decide (l.length = 64) = decide ((n : Int) = 64) from (by rw [decide_eq_decide]; omega)]))
set_option maxRecDepth 1000000 in
set_option maxHeartbeats 4000000 in
theorem width_any (m : Nat) (w : World) (hm : 1 ≤ m) :
    Calls Try.prog 30 #[.int .i64 (m : Int)] w fun e w' => e = .returned (.int .i64 (Pl.wd m : Int)) ∧ Below w.heap.size w w' := by
  have S1 : Hid (St w noB [] w) := Lib.hid (St.start w)
  go_enter Try.func30, Try.ntmps30
  go_upto_region 0 with fail
  refine wpG_region_k (fun K hK => ?_)
  refine @wpG_p _ _ _ _ _ (some 2) (.int .i64 0) _ _ rfl (by rfl) (fun _ => rfl) ?_
  simp only [n1, n3, n4]
  refine wpG_done (fun V2 hv3 => ?_)
  have S4 : Hid (St w noB [] V2) := Lib.hid (S1.out.gr hv3)
  clear S1
  clear hv3
  refine ⟨rfl, hK _ _ ?_⟩
  clear hK
  go_upto_region 1 with fail
  refine wpG_region_k (fun K hK => ?_)
  refine @wpG_p _ _ _ _ _ (some 4) (.int .i64 (m : Int)) _ _ rfl (by rfl) (fun _ => rfl) ?_
  simp only [n1, n3, n4]
  refine @wpG_p _ _ _ _ _ (some 5) (.bool (decide ((m : Int) = 1))) _ _ rfl (by rfl) (fun W => op_int_eql W (m : Int) 1 rfl rfl rfl Try.underlying3) ?_
  simp only [n1, n3, n4]
  refine @wpG_p _ _ _ _ _ (some 3) (.bool (decide ((m : Int) = 1))) _ _ rfl (by rfl) (fun _ => rfl) ?_
  simp only [n1, n3, n4]
  refine wpG_done (fun V5 hv6 => ?_)
  have S7 : Hid (St w noB [] V5) := Lib.hid (S4.out.gr hv6)
  clear S4
  clear hv6
  refine ⟨rfl, hK _ _ ?_⟩
  clear hK
  obtain ⟨c8, hc8⟩ : ∃ q_, q_ = (decide ((m : Int) = 1)) := ⟨_, rfl⟩
  rw [← hc8]
  have Hc8 := Lib.hid hc8
  clear hc8
  cases c8 with
  | true =>
    have f9 := Lib.hid (of_decide_eq_true Hc8.out.symm)
    have f9a := Int.le_of_eq f9.out
    have f9b := Int.le_of_eq f9.out.symm
    go_upto_region 2 with fail
    refine wpG_region_k (fun K hK => ?_)
    refine @wpG_p _ _ _ _ _ (some 2) (.int .i64 0) _ _ rfl (by rfl) (fun _ => rfl) ?_
    simp only [n1, n3, n4]
    refine wpG_done (fun V10 hv11 => ?_)
    have S12 : Hid (St w noB [] V10) := Lib.hid (S7.out.gr hv11)
    clear S7
    clear hv11
    refine ⟨rfl, hK _ _ ?_⟩
    clear hK
    go_wp2_with fail
    go_ret
    refine ⟨?_, S12.out.bel⟩
    show Ending.returned (.int .i64 0) = _
    (first | rfl | (have e_f9 := f9.out; have e_ : Pl.wd m = 0 := (by unfold Pl.wd; (repeat' split) <;> omega); rw [e_]; rfl))
  | false =>
    have f13 := of_decide_eq_false Hc8.out.symm
    go_upto_region 3 with fail
    refine wpG_region_k (fun K hK => ?_)
    refine @wpG_p _ _ _ _ _ (some 7) (.int .i64 (m : Int)) _ _ rfl (by rfl) (fun _ => rfl) ?_
    simp only [n1, n3, n4]
    refine @wpG_p _ _ _ _ _ (some 8) (.bool (decide ((m : Int) = 2))) _ _ rfl (by rfl) (fun W => op_int_eql W (m : Int) 2 rfl rfl rfl Try.underlying3) ?_
    simp only [n1, n3, n4]
    refine @wpG_p _ _ _ _ _ (some 6) (.bool (decide ((m : Int) = 2))) _ _ rfl (by rfl) (fun _ => rfl) ?_
    simp only [n1, n3, n4]
    refine wpG_done (fun V14 hv15 => ?_)
    have S16 : Hid (St w noB [] V14) := Lib.hid (S7.out.gr hv15)
    clear S7
    clear hv15
    refine ⟨rfl, hK _ _ ?_⟩
    clear hK
    obtain ⟨c17, hc17⟩ : ∃ q_, q_ = (decide ((m : Int) = 2)) := ⟨_, rfl⟩
    rw [← hc17]
    have Hc17 := Lib.hid hc17
    clear hc17
    cases c17 with
    | true =>
      have f18 := Lib.hid (of_decide_eq_true Hc17.out.symm)
      have f18a := Int.le_of_eq f18.out
      have f18b := Int.le_of_eq f18.out.symm
      go_upto_region 4 with fail
      refine wpG_region_k (fun K hK => ?_)
      refine @wpG_p _ _ _ _ _ (some 2) (.int .i64 1) _ _ rfl (by rfl) (fun _ => rfl) ?_
      simp only [n1, n3, n4]
      refine wpG_done (fun V19 hv20 => ?_)
      have S21 : Hid (St w noB [] V19) := Lib.hid (S16.out.gr hv20)
      clear S16
      clear hv20
      refine ⟨rfl, hK _ _ ?_⟩
      clear hK
      go_wp2_with fail
      go_ret
      refine ⟨?_, S21.out.bel⟩
      show Ending.returned (.int .i64 1) = _
      (first | rfl | (have e_f18 := f18.out; have e_ : Pl.wd m = 1 := (by unfold Pl.wd; (repeat' split) <;> omega); rw [e_]; rfl))
    | false =>
      have f22 := of_decide_eq_false Hc17.out.symm
      go_upto_region 5 with fail
      refine wpG_region_k (fun K hK => ?_)
      refine @wpG_p _ _ _ _ _ (some 10) (.int .i64 (m : Int)) _ _ rfl (by rfl) (fun _ => rfl) ?_
      simp only [n1, n3, n4]
      refine @wpG_p _ _ _ _ _ (some 11) (.bool (decide ((m : Int) ≤ 4))) _ _ rfl (by rfl) (fun W => op_int_leq W (m : Int) 4 rfl rfl rfl Try.underlying3) ?_
      simp only [n1, n3, n4]
      refine @wpG_p _ _ _ _ _ (some 9) (.bool (decide ((m : Int) ≤ 4))) _ _ rfl (by rfl) (fun _ => rfl) ?_
      simp only [n1, n3, n4]
      refine wpG_done (fun V23 hv24 => ?_)
      have S25 : Hid (St w noB [] V23) := Lib.hid (S16.out.gr hv24)
      clear S16
      clear hv24
      refine ⟨rfl, hK _ _ ?_⟩
      clear hK
      obtain ⟨c26, hc26⟩ : ∃ q_, q_ = (decide ((m : Int) ≤ 4)) := ⟨_, rfl⟩
      rw [← hc26]
      have Hc26 := Lib.hid hc26
      clear hc26
      cases c26 with
      | true =>
        have f27 := of_decide_eq_true Hc26.out.symm
        go_upto_region 6 with fail
        refine wpG_region_k (fun K hK => ?_)
        refine @wpG_p _ _ _ _ _ (some 2) (.int .i64 2) _ _ rfl (by rfl) (fun _ => rfl) ?_
        simp only [n1, n3, n4]
        refine wpG_done (fun V28 hv29 => ?_)
        have S30 : Hid (St w noB [] V28) := Lib.hid (S25.out.gr hv29)
        clear S25
        clear hv29
        refine ⟨rfl, hK _ _ ?_⟩
        clear hK
        go_wp2_with fail
        go_ret
        refine ⟨?_, S30.out.bel⟩
        show Ending.returned (.int .i64 2) = _
        (first | rfl | (have e_ : Pl.wd m = 2 := (by unfold Pl.wd; (repeat' split) <;> omega); rw [e_]; rfl))
      | false =>
        have f31 := of_decide_eq_false Hc26.out.symm
        go_upto_region 7 with fail
        refine wpG_region_k (fun K hK => ?_)
        refine @wpG_p _ _ _ _ _ (some 13) (.int .i64 (m : Int)) _ _ rfl (by rfl) (fun _ => rfl) ?_
        simp only [n1, n3, n4]
        refine @wpG_p _ _ _ _ _ (some 14) (.bool (decide ((m : Int) ≤ 16))) _ _ rfl (by rfl) (fun W => op_int_leq W (m : Int) 16 rfl rfl rfl Try.underlying3) ?_
        simp only [n1, n3, n4]
        refine @wpG_p _ _ _ _ _ (some 12) (.bool (decide ((m : Int) ≤ 16))) _ _ rfl (by rfl) (fun _ => rfl) ?_
        simp only [n1, n3, n4]
        refine wpG_done (fun V32 hv33 => ?_)
        have S34 : Hid (St w noB [] V32) := Lib.hid (S25.out.gr hv33)
        clear S25
        clear hv33
        refine ⟨rfl, hK _ _ ?_⟩
        clear hK
        obtain ⟨c35, hc35⟩ : ∃ q_, q_ = (decide ((m : Int) ≤ 16)) := ⟨_, rfl⟩
        rw [← hc35]
        have Hc35 := Lib.hid hc35
        clear hc35
        cases c35 with
        | true =>
          have f36 := of_decide_eq_true Hc35.out.symm
          go_upto_region 8 with fail
          refine wpG_region_k (fun K hK => ?_)
          refine @wpG_p _ _ _ _ _ (some 2) (.int .i64 4) _ _ rfl (by rfl) (fun _ => rfl) ?_
          simp only [n1, n3, n4]
          refine wpG_done (fun V37 hv38 => ?_)
          have S39 : Hid (St w noB [] V37) := Lib.hid (S34.out.gr hv38)
          clear S34
          clear hv38
          refine ⟨rfl, hK _ _ ?_⟩
          clear hK
          go_wp2_with fail
          go_ret
          refine ⟨?_, S39.out.bel⟩
          show Ending.returned (.int .i64 4) = _
          (first | rfl | (have e_ : Pl.wd m = 4 := (by unfold Pl.wd; (repeat' split) <;> omega); rw [e_]; rfl))
        | false =>
          have f40 := of_decide_eq_false Hc35.out.symm
          go_upto_region 9 with fail
          refine wpG_region_k (fun K hK => ?_)
          refine @wpG_p _ _ _ _ _ (some 2) (.int .i64 8) _ _ rfl (by rfl) (fun _ => rfl) ?_
          simp only [n1, n3, n4]
          refine wpG_done (fun V41 hv42 => ?_)
          have S43 : Hid (St w noB [] V41) := Lib.hid (S34.out.gr hv42)
          clear S34
          clear hv42
          refine ⟨rfl, hK _ _ ?_⟩
          clear hK
          go_wp2_with fail
          go_ret
          refine ⟨?_, S43.out.bel⟩
          show Ending.returned (.int .i64 8) = _
          (first | rfl | (have e_ : Pl.wd m = 8 := (by unfold Pl.wd; (repeat' split) <;> omega); rw [e_]; rfl))
set_option maxRecDepth 1000000 in
set_option maxHeartbeats 4000000 in
theorem rwidth_any (m : Nat) (w : World) :
    Calls Try.prog 34 #[.int .i64 (m : Int)] w fun e w' => e = .returned (.int .i64 (Pl.wd m : Int)) ∧ Below w.heap.size w w' := by
  have S1 : Hid (St w noB [] w) := Lib.hid (St.start w)
  go_enter Try.func34, Try.ntmps34
  go_upto_region 0 with fail
  refine wpG_region_k (fun K hK => ?_)
  refine @wpG_p _ _ _ _ _ (some 2) (.int .i64 0) _ _ rfl (by rfl) (fun _ => rfl) ?_
  simp only [n1, n3, n4]
  refine wpG_done (fun V2 hv3 => ?_)
  have S4 : Hid (St w noB [] V2) := Lib.hid (S1.out.gr hv3)
  clear S1
  clear hv3
  refine ⟨rfl, hK _ _ ?_⟩
  clear hK
  go_upto_region 1 with fail
  refine wpG_region_k (fun K hK => ?_)
  refine @wpG_p _ _ _ _ _ (some 3) (.int .i64 (m : Int)) _ _ rfl (by rfl) (fun _ => rfl) ?_
  simp only [n1, n3, n4]
  refine @wpG_p _ _ _ _ _ (some 4) (.bool (decide ((m : Int) ≤ 1))) _ _ rfl (by rfl) (fun W => op_int_leq W (m : Int) 1 rfl rfl rfl Try.underlying3) ?_
  simp only [n1, n3, n4]
  refine wpG_done (fun V5 hv6 => ?_)
  have S7 : Hid (St w noB [] V5) := Lib.hid (S4.out.gr hv6)
  clear S4
  clear hv6
  refine ⟨rfl, hK _ _ ?_⟩
  clear hK
  obtain ⟨c8, hc8⟩ : ∃ q_, q_ = (decide ((m : Int) ≤ 1)) := ⟨_, rfl⟩
  rw [← hc8]
  have Hc8 := Lib.hid hc8
  clear hc8
  cases c8 with
  | true =>
    have f9 := of_decide_eq_true Hc8.out.symm
    go_upto_region 2 with fail
    refine wpG_region_k (fun K hK => ?_)
    refine @wpG_p _ _ _ _ _ (some 2) (.int .i64 0) _ _ rfl (by rfl) (fun _ => rfl) ?_
    simp only [n1, n3, n4]
    refine wpG_done (fun V10 hv11 => ?_)
    have S12 : Hid (St w noB [] V10) := Lib.hid (S7.out.gr hv11)
    clear S7
    clear hv11
    refine ⟨rfl, hK _ _ ?_⟩
    clear hK
    go_wp2_with fail
    go_ret
    refine ⟨?_, S12.out.bel⟩
    show Ending.returned (.int .i64 0) = _
    (first | rfl | (have e_ : Pl.wd m = 0 := (by unfold Pl.wd; (repeat' split) <;> omega); rw [e_]; rfl))
  | false =>
    have f13 := of_decide_eq_false Hc8.out.symm
    go_upto_region 3 with fail
    refine wpG_region_k (fun K hK => ?_)
    refine @wpG_p _ _ _ _ _ (some 5) (.int .i64 (m : Int)) _ _ rfl (by rfl) (fun _ => rfl) ?_
    simp only [n1, n3, n4]
    refine @wpG_p _ _ _ _ _ (some 6) (.bool (decide ((m : Int) ≤ 2))) _ _ rfl (by rfl) (fun W => op_int_leq W (m : Int) 2 rfl rfl rfl Try.underlying3) ?_
    simp only [n1, n3, n4]
    refine wpG_done (fun V14 hv15 => ?_)
    have S16 : Hid (St w noB [] V14) := Lib.hid (S7.out.gr hv15)
    clear S7
    clear hv15
    refine ⟨rfl, hK _ _ ?_⟩
    clear hK
    obtain ⟨c17, hc17⟩ : ∃ q_, q_ = (decide ((m : Int) ≤ 2)) := ⟨_, rfl⟩
    rw [← hc17]
    have Hc17 := Lib.hid hc17
    clear hc17
    cases c17 with
    | true =>
      have f18 := of_decide_eq_true Hc17.out.symm
      go_upto_region 4 with fail
      refine wpG_region_k (fun K hK => ?_)
      refine @wpG_p _ _ _ _ _ (some 2) (.int .i64 1) _ _ rfl (by rfl) (fun _ => rfl) ?_
      simp only [n1, n3, n4]
      refine wpG_done (fun V19 hv20 => ?_)
      have S21 : Hid (St w noB [] V19) := Lib.hid (S16.out.gr hv20)
      clear S16
      clear hv20
      refine ⟨rfl, hK _ _ ?_⟩
      clear hK
      go_wp2_with fail
      go_ret
      refine ⟨?_, S21.out.bel⟩
      show Ending.returned (.int .i64 1) = _
      (first | rfl | (have e_ : Pl.wd m = 1 := (by unfold Pl.wd; (repeat' split) <;> omega); rw [e_]; rfl))
    | false =>
      have f22 := of_decide_eq_false Hc17.out.symm
      go_upto_region 5 with fail
      refine wpG_region_k (fun K hK => ?_)
      refine @wpG_p _ _ _ _ _ (some 7) (.int .i64 (m : Int)) _ _ rfl (by rfl) (fun _ => rfl) ?_
      simp only [n1, n3, n4]
      refine @wpG_p _ _ _ _ _ (some 8) (.bool (decide ((m : Int) ≤ 4))) _ _ rfl (by rfl) (fun W => op_int_leq W (m : Int) 4 rfl rfl rfl Try.underlying3) ?_
      simp only [n1, n3, n4]
      refine wpG_done (fun V23 hv24 => ?_)
      have S25 : Hid (St w noB [] V23) := Lib.hid (S16.out.gr hv24)
      clear S16
      clear hv24
      refine ⟨rfl, hK _ _ ?_⟩
      clear hK
      obtain ⟨c26, hc26⟩ : ∃ q_, q_ = (decide ((m : Int) ≤ 4)) := ⟨_, rfl⟩
      rw [← hc26]
      have Hc26 := Lib.hid hc26
      clear hc26
      cases c26 with
      | true =>
        have f27 := of_decide_eq_true Hc26.out.symm
        go_upto_region 6 with fail
        refine wpG_region_k (fun K hK => ?_)
        refine @wpG_p _ _ _ _ _ (some 2) (.int .i64 2) _ _ rfl (by rfl) (fun _ => rfl) ?_
        simp only [n1, n3, n4]
        refine wpG_done (fun V28 hv29 => ?_)
        have S30 : Hid (St w noB [] V28) := Lib.hid (S25.out.gr hv29)
        clear S25
        clear hv29
        refine ⟨rfl, hK _ _ ?_⟩
        clear hK
        go_wp2_with fail
        go_ret
        refine ⟨?_, S30.out.bel⟩
        show Ending.returned (.int .i64 2) = _
        (first | rfl | (have e_ : Pl.wd m = 2 := (by unfold Pl.wd; (repeat' split) <;> omega); rw [e_]; rfl))
      | false =>
        have f31 := of_decide_eq_false Hc26.out.symm
        go_upto_region 7 with fail
        refine wpG_region_k (fun K hK => ?_)
        refine @wpG_p _ _ _ _ _ (some 9) (.int .i64 (m : Int)) _ _ rfl (by rfl) (fun _ => rfl) ?_
        simp only [n1, n3, n4]
        refine @wpG_p _ _ _ _ _ (some 10) (.bool (decide ((m : Int) ≤ 16))) _ _ rfl (by rfl) (fun W => op_int_leq W (m : Int) 16 rfl rfl rfl Try.underlying3) ?_
        simp only [n1, n3, n4]
        refine wpG_done (fun V32 hv33 => ?_)
        have S34 : Hid (St w noB [] V32) := Lib.hid (S25.out.gr hv33)
        clear S25
        clear hv33
        refine ⟨rfl, hK _ _ ?_⟩
        clear hK
        obtain ⟨c35, hc35⟩ : ∃ q_, q_ = (decide ((m : Int) ≤ 16)) := ⟨_, rfl⟩
        rw [← hc35]
        have Hc35 := Lib.hid hc35
        clear hc35
        cases c35 with
        | true =>
          have f36 := of_decide_eq_true Hc35.out.symm
          go_upto_region 8 with fail
          refine wpG_region_k (fun K hK => ?_)
          refine @wpG_p _ _ _ _ _ (some 2) (.int .i64 4) _ _ rfl (by rfl) (fun _ => rfl) ?_
          simp only [n1, n3, n4]
          refine wpG_done (fun V37 hv38 => ?_)
          have S39 : Hid (St w noB [] V37) := Lib.hid (S34.out.gr hv38)
          clear S34
          clear hv38
          refine ⟨rfl, hK _ _ ?_⟩
          clear hK
          go_wp2_with fail
          go_ret
          refine ⟨?_, S39.out.bel⟩
          show Ending.returned (.int .i64 4) = _
          (first | rfl | (have e_ : Pl.wd m = 4 := (by unfold Pl.wd; (repeat' split) <;> omega); rw [e_]; rfl))
        | false =>
          have f40 := of_decide_eq_false Hc35.out.symm
          go_upto_region 9 with fail
          refine wpG_region_k (fun K hK => ?_)
          refine @wpG_p _ _ _ _ _ (some 2) (.int .i64 8) _ _ rfl (by rfl) (fun _ => rfl) ?_
          simp only [n1, n3, n4]
          refine wpG_done (fun V41 hv42 => ?_)
          have S43 : Hid (St w noB [] V41) := Lib.hid (S34.out.gr hv42)
          clear S34
          clear hv42
          refine ⟨rfl, hK _ _ ?_⟩
          clear hK
          go_wp2_with fail
          go_ret
          refine ⟨?_, S43.out.bel⟩
          show Ending.returned (.int .i64 8) = _
          (first | rfl | (have e_ : Pl.wd m = 8 := (by unfold Pl.wd; (repeat' split) <;> omega); rw [e_]; rfl))
set_option maxRecDepth 1000000 in
set_option maxHeartbeats 4000000 in
theorem index_any (A : Option Addr) (n c : Nat) (l : List Int) (v : Int) (w : World) (hG : SL w 1 A n c (ic l)) :
    Calls Try.prog 35 #[.slice A n c, .int .i64 v] w fun e w' => e = .returned (.int .i64 (List.idxOf v l : Int)) ∧ Below w.heap.size w w' := by
  have HGA := Lib.hid hG
  have HLEN : Hid (l.length = n) := Lib.hid (by have h_ := hG.len; rw [ic_len] at h_; omega)
  have hnbHGA : n ≤ 9223372036854775807 := Nat.le_trans hG.cap hG.bnd
  clear hG
  have S1 : Hid (St w noB [] w) := Lib.hid (St.start w)
  go_enter Try.func35, Try.ntmps35
  go_upto_region 0 with fail
  refine wpG_region_k (fun K hK => ?_)
  refine @wpG_p _ _ _ _ _ (some 4) (.int .i64 0) _ _ rfl (by rfl) (fun _ => rfl) ?_
  simp only [n1, n3, n4]
  refine wpG_done (fun V2 hv3 => ?_)
  have S4 : Hid (St w noB [] V2) := Lib.hid (S1.out.gr hv3)
  clear S1
  clear hv3
  refine ⟨rfl, hK _ _ ?_⟩
  clear hK
  go_upto_region 1 with fail
  refine wpG_region_k (fun K hK => ?_)
  refine @wpG_p _ _ _ _ _ (some 5) (.int .i64 0) _ _ rfl (by rfl) (fun _ => rfl) ?_
  simp only [n1, n3, n4]
  refine wpG_done (fun V5 hv6 => ?_)
  have S7 : Hid (St w noB [] V5) := Lib.hid (S4.out.gr hv6)
  clear S4
  clear hv6
  refine ⟨rfl, hK _ _ ?_⟩
  clear hK
  go_wp2_with fail
  go_loopw [5] (fun v5 wr => ∃ (k : Nat), v5 = .int .i64 (k : Int) ∧ k ≤ l.idxOf v ∧ k ≤ n ∧ St w noB [] wr) (fun i _ => n - (intOf i).toNat)
  case atStart => exact ⟨0, rfl, Nat.zero_le _, Nat.zero_le _, S7.out⟩
  case round =>
    obtain ⟨k, rfl, hk_, hkn, hS⟩ := hrel
    have HK_ := Lib.hid hk_
    clear hk_
    have SL := Lib.hid hS
    clear S7 hS
    have S8 := SL
    clear SL
    go_upto_region 2 with fail
    refine wpG_region_k (fun K hK => ?_)
    refine @wpG_p _ _ _ _ _ (some 6) (.int .i64 (k : Int)) _ _ rfl (by rfl) (fun _ => rfl) ?_
    simp only [n1, n3, n4]
    refine @wpG_p _ _ _ _ _ (some 7) (.slice A n c) _ _ rfl (by rfl) (fun _ => rfl) ?_
    simp only [n1, n3, n4]
    refine @wpG_p _ _ _ _ _ (some 8) (.int .i64 (n : Int)) _ _ rfl (by rfl) (fun W => by go_simp) ?_
    simp only [n1, n3, n4]
    refine @wpG_p _ _ _ _ _ (some 9) (.bool (decide ((k : Int) < (n : Int)))) _ _ rfl (by rfl) (fun W => op_int_lss W (k : Int) (n : Int) rfl rfl rfl Try.underlying3) ?_
    simp only [n1, n3, n4]
    refine wpG_done (fun V9 hv10 => ?_)
    have S11 : Hid (St w noB [] V9) := Lib.hid (S8.out.gr hv10)
    clear S8
    clear hv10
    refine ⟨rfl, hK _ _ ?_⟩
    clear hK
    obtain ⟨c12, hc12⟩ : ∃ q_, q_ = (decide ((k : Int) < (n : Int))) := ⟨_, rfl⟩
    rw [← hc12]
    have Hc12 := Lib.hid hc12
    clear hc12
    cases c12 with
    | true =>
      have f13 := of_decide_eq_true Hc12.out.symm
      go_upto_region 4 with fail
      refine wpG_region_k (fun K hK => ?_)
      refine @wpG_p _ _ _ _ _ (some 12) (.slice A n c) _ _ rfl (by rfl) (fun _ => rfl) ?_
      simp only [n1, n3, n4]
      refine @wpG_p _ _ _ _ _ (some 13) (.int .i64 (k : Int)) _ _ rfl (by rfl) (fun _ => rfl) ?_
      simp only [n1, n3, n4]
      obtain ⟨b14, o14, rfl⟩ := HGA.out.addr (by decide) (by omega)
      refine @wpG_p _ _ _ _ _ (some 14) (.pointer (some ⟨b14, o14 + k, none⟩)) _ _ rfl (by rfl) (fun W => by (go_simp <;> first | rfl | omega | (simp; omega))) ?_
      simp only [n1, n3, n4]
      refine @wpG_r _ _ _ _ _ (some 15) (.int .i64 (l.getD k 0)) _ _ rfl (by rfl) (fun W hg => by have c := (((HGA.out.gr ((S11.out.gr hg)).bel).int (l := l) k (by (have := HLEN.out; omega)))) 0 _ rfl; (try simp only [Nat.add_zero, Nat.zero_add] at c); go_simp) ?_
      simp only [n1, n3, n4]
      refine @wpG_p _ _ _ _ _ (some 16) (.int .i64 v) _ _ rfl (by rfl) (fun _ => rfl) ?_
      simp only [n1, n3, n4]
      refine @wpG_p _ _ _ _ _ (some 17) (.bool (decide ((l.getD k 0) = v))) _ _ rfl (by rfl) (fun W => op_int_eql W (l.getD k 0) v rfl rfl rfl Try.underlying3) ?_
      simp only [n1, n3, n4]
      refine wpG_done (fun V15 hv16 => ?_)
      have S17 : Hid (St w noB [] V15) := Lib.hid (S11.out.gr hv16)
      clear S11
      clear hv16
      refine ⟨rfl, hK _ _ ?_⟩
      clear hK
      obtain ⟨c18, hc18⟩ : ∃ q_, q_ = (decide ((l.getD k 0) = v)) := ⟨_, rfl⟩
      rw [← hc18]
      have Hc18 := Lib.hid hc18
      clear hc18
      cases c18 with
      | true =>
        have f19 := Lib.hid (of_decide_eq_true Hc18.out.symm)
        have f19a := Int.le_of_eq f19.out
        have f19b := Int.le_of_eq f19.out.symm
        go_upto_region 5 with fail
        refine wpG_region_k (fun K hK => ?_)
        refine @wpG_p _ _ _ _ _ (some 18) (.int .i64 (k : Int)) _ _ rfl (by rfl) (fun _ => rfl) ?_
        simp only [n1, n3, n4]
        refine @wpG_p _ _ _ _ _ (some 4) (.int .i64 (k : Int)) _ _ rfl (by rfl) (fun _ => rfl) ?_
        simp only [n1, n3, n4]
        refine wpG_done (fun V20 hv21 => ?_)
        have S22 : Hid (St w noB [] V20) := Lib.hid (S17.out.gr hv21)
        clear S17
        clear hv21
        refine ⟨rfl, hK _ _ ?_⟩
        clear hK
        go_wp2_with fail
        go_ret
        refine ⟨?_, S22.out.bel⟩
        show Ending.returned (.int .i64 (k : Int)) = _
        (first | rfl | (have e_f19 := f19.out; rw [Pl.idx_hit HK_.out (by have := HLEN.out; omega) e_f19]))
      | false =>
        have f23 := of_decide_eq_false Hc18.out.symm
        go_upto_region 3 with fail
        refine wpG_region_k (fun K hK => ?_)
        refine @wpG_p _ _ _ _ _ (some 10) (.int .i64 (k : Int)) _ _ rfl (by rfl) (fun _ => rfl) ?_
        simp only [n1, n3, n4]
        refine @wpG_p _ _ _ _ _ (some 11) (.int .i64 ((k : Int) + 1)) _ _ rfl (by rfl) (fun W => op_i_add W (k : Int) 1 (by omega) rfl rfl rfl Try.underlying3) ?_
        simp only [n1, n3, n4]
        refine @wpG_p _ _ _ _ _ (some 5) (.int .i64 ((k : Int) + 1)) _ _ rfl (by rfl) (fun _ => rfl) ?_
        simp only [n1, n3, n4]
        refine wpG_done (fun V24 hv25 => ?_)
        have S26 : Hid (St w noB [] V24) := Lib.hid (S17.out.gr hv25)
        clear S17
        clear hv25
        refine ⟨rfl, hK _ _ ?_⟩
        clear hK
        go_wp2_with fail
        go_roundw
        case rel => exact ⟨k + 1, (by first | rfl | go_num), (by exact Pl.idx_step HK_.out (by have := HLEN.out; omega) f23), (by omega), S26.out⟩
        case measure => first | (simp only [intOf]; omega) | (simp [intOf]; done) | (simp [intOf]; omega) | omega
    | false =>
      have f27 := of_decide_eq_false Hc12.out.symm
      go_upto_region 6 with fail
      refine wpG_region_k (fun K hK => ?_)
      refine @wpG_p _ _ _ _ _ (some 19) (.slice A n c) _ _ rfl (by rfl) (fun _ => rfl) ?_
      simp only [n1, n3, n4]
      refine @wpG_p _ _ _ _ _ (some 20) (.int .i64 (n : Int)) _ _ rfl (by rfl) (fun W => by go_simp) ?_
      simp only [n1, n3, n4]
      refine @wpG_p _ _ _ _ _ (some 4) (.int .i64 (n : Int)) _ _ rfl (by rfl) (fun _ => rfl) ?_
      simp only [n1, n3, n4]
      refine wpG_done (fun V28 hv29 => ?_)
      have S30 : Hid (St w noB [] V28) := Lib.hid (S11.out.gr hv29)
      clear S11
      clear hv29
      refine ⟨rfl, hK _ _ ?_⟩
      clear hK
      go_wp2_with fail
      go_ret
      refine ⟨?_, S30.out.bel⟩
      show Ending.returned (.int .i64 (n : Int)) = _
      (first | rfl | (rw [Pl.idx_end (by have h_ := HK_.out; have e_ : k = l.length := (by have := HLEN.out; omega); rw [e_] at h_; exact h_), HLEN.out]))
set_option maxRecDepth 1000000 in
set_option maxHeartbeats 4000000 in
theorem same_any (A : Option Addr) (n c : Nat) (l : List Int) (A2 : Option Addr) (n2 c2 : Nat) (l2 : List Int) (w : World) (hG : SL w 1 A n c (ic l)) (hG2 : SL w 1 A2 n2 c2 (ic l2)) :
    Calls Try.prog 15 #[.slice A n c, .slice A2 n2 c2] w fun e w' => e = .returned (.bool (decide (l = l2))) ∧ Below w.heap.size w w' := by
  have HGA := Lib.hid hG
  have HLEN : Hid (l.length = n) := Lib.hid (by have h_ := hG.len; rw [ic_len] at h_; omega)
  have hnbHGA : n ≤ 9223372036854775807 := Nat.le_trans hG.cap hG.bnd
  clear hG
  have HGB := Lib.hid hG2
  have HLEN2 : Hid (l2.length = n2) := Lib.hid (by have h_ := hG2.len; rw [ic_len] at h_; omega)
  have hnbHGB : n2 ≤ 9223372036854775807 := Nat.le_trans hG2.cap hG2.bnd
  clear hG2
  have S1 : Hid (St w noB [] w) := Lib.hid (St.start w)
  go_enter Try.func15, Try.ntmps15
  go_upto_region 0 with fail
  refine wpG_region_k (fun K hK => ?_)
  refine @wpG_p _ _ _ _ _ (some 4) (.bool false) _ _ rfl (by rfl) (fun _ => rfl) ?_
  simp only [n1, n3, n4]
  refine wpG_done (fun V2 hv3 => ?_)
  have S4 : Hid (St w noB [] V2) := Lib.hid (S1.out.gr hv3)
  clear S1
  clear hv3
  refine ⟨rfl, hK _ _ ?_⟩
  clear hK
  go_upto_region 1 with fail
  refine wpG_region_k (fun K hK => ?_)
  refine @wpG_p _ _ _ _ _ (some 6) (.slice A n c) _ _ rfl (by rfl) (fun _ => rfl) ?_
  simp only [n1, n3, n4]
  refine @wpG_p _ _ _ _ _ (some 7) (.int .i64 (n : Int)) _ _ rfl (by rfl) (fun W => by go_simp) ?_
  simp only [n1, n3, n4]
  refine @wpG_p _ _ _ _ _ (some 8) (.slice A2 n2 c2) _ _ rfl (by rfl) (fun _ => rfl) ?_
  simp only [n1, n3, n4]
  refine @wpG_p _ _ _ _ _ (some 9) (.int .i64 (n2 : Int)) _ _ rfl (by rfl) (fun W => by go_simp) ?_
  simp only [n1, n3, n4]
  refine @wpG_p _ _ _ _ _ (some 10) (.bool (decide ((n : Int) ≠ (n2 : Int)))) _ _ rfl (by rfl) (fun W => op_int_neq W (n : Int) (n2 : Int) rfl rfl rfl Try.underlying3) ?_
  simp only [n1, n3, n4]
  refine wpG_done (fun V5 hv6 => ?_)
  have S7 : Hid (St w noB [] V5) := Lib.hid (S4.out.gr hv6)
  clear S4
  clear hv6
  refine ⟨rfl, hK _ _ ?_⟩
  clear hK
  obtain ⟨c8, hc8⟩ : ∃ q_, q_ = (decide ((n : Int) ≠ (n2 : Int))) := ⟨_, rfl⟩
  rw [← hc8]
  have Hc8 := Lib.hid hc8
  clear hc8
  cases c8 with
  | true =>
    have f9 := of_decide_eq_true Hc8.out.symm
    go_upto_region 2 with fail
    refine wpG_region_k (fun K hK => ?_)
    refine @wpG_p _ _ _ _ _ (some 4) (.bool false) _ _ rfl (by rfl) (fun _ => rfl) ?_
    simp only [n1, n3, n4]
    refine wpG_done (fun V10 hv11 => ?_)
    have S12 : Hid (St w noB [] V10) := Lib.hid (S7.out.gr hv11)
    clear S7
    clear hv11
    refine ⟨rfl, hK _ _ ?_⟩
    clear hK
    go_wp2_with fail
    go_ret
    refine ⟨?_, S12.out.bel⟩
    show Ending.returned (.bool false) = _
    (first | rfl | (have hlen_ := HLEN.out; have hlen2_ := HLEN2.out; exact rb_f (decide_eq_false (fun e_ => by rw [e_] at hlen_; omega))))
  | false =>
    have f13 := Lib.hid (Decidable.not_not.1 (of_decide_eq_false Hc8.out.symm))
    have f13a := Int.le_of_eq f13.out
    have f13b := Int.le_of_eq f13.out.symm
    go_upto_region 3 with fail
    refine wpG_region_k (fun K hK => ?_)
    refine @wpG_p _ _ _ _ _ (some 5) (.int .i64 0) _ _ rfl (by rfl) (fun _ => rfl) ?_
    simp only [n1, n3, n4]
    refine wpG_done (fun V14 hv15 => ?_)
    have S16 : Hid (St w noB [] V14) := Lib.hid (S7.out.gr hv15)
    clear S7
    clear hv15
    refine ⟨rfl, hK _ _ ?_⟩
    clear hK
    go_wp2_with fail
    go_loopw [5] (fun v5 wr => ∃ (k : Nat), v5 = .int .i64 (k : Int) ∧ k ≤ ff (fun k => decide (l.getD k 0 = l2.getD k 0)) l.length ∧ k ≤ n ∧ St w noB [] wr) (fun i _ => n - (intOf i).toNat)
    case atStart => exact ⟨0, rfl, Nat.zero_le _, Nat.zero_le _, S16.out⟩
    case round =>
      obtain ⟨k, rfl, hk_, hkn, hS⟩ := hrel
      have HK_ := Lib.hid hk_
      clear hk_
      have SL := Lib.hid hS
      clear S16 hS
      have S17 := SL
      clear SL
      go_upto_region 4 with fail
      refine wpG_region_k (fun K hK => ?_)
      refine @wpG_p _ _ _ _ _ (some 11) (.int .i64 (k : Int)) _ _ rfl (by rfl) (fun _ => rfl) ?_
      simp only [n1, n3, n4]
      refine @wpG_p _ _ _ _ _ (some 12) (.slice A n c) _ _ rfl (by rfl) (fun _ => rfl) ?_
      simp only [n1, n3, n4]
      refine @wpG_p _ _ _ _ _ (some 13) (.int .i64 (n : Int)) _ _ rfl (by rfl) (fun W => by go_simp) ?_
      simp only [n1, n3, n4]
      refine @wpG_p _ _ _ _ _ (some 14) (.bool (decide ((k : Int) < (n : Int)))) _ _ rfl (by rfl) (fun W => op_int_lss W (k : Int) (n : Int) rfl rfl rfl Try.underlying3) ?_
      simp only [n1, n3, n4]
      refine wpG_done (fun V18 hv19 => ?_)
      have S20 : Hid (St w noB [] V18) := Lib.hid (S17.out.gr hv19)
      clear S17
      clear hv19
      refine ⟨rfl, hK _ _ ?_⟩
      clear hK
      obtain ⟨c21, hc21⟩ : ∃ q_, q_ = (decide ((k : Int) < (n : Int))) := ⟨_, rfl⟩
      rw [← hc21]
      have Hc21 := Lib.hid hc21
      clear hc21
      cases c21 with
      | true =>
        have f22 := of_decide_eq_true Hc21.out.symm
        go_upto_region 6 with fail
        refine wpK_region_k (by kernel_rfl) (fun K hK => ?_)
        refine wpK_ta (i := 0) (some 17) (v := .slice A n c) rfl rfl (by kernel_rfl) (fun _ _ _ h => onN_panic h) (Or.inl ⟨rfl, fun _ => rfl⟩) ?_
        simp only [n1, n3, n4]
        refine wpK_ta (i := 1) (some 18) (v := .int .i64 (k : Int)) rfl rfl (by kernel_rfl) (fun _ _ _ h => onN_panic h) (Or.inl ⟨rfl, fun _ => rfl⟩) ?_
        simp only [n1, n3, n4]
        obtain ⟨b23, o23, rfl⟩ := HGA.out.addr (by decide) (by omega)
        refine wpK_ta (i := 2) (some 19) (v := .pointer (some ⟨b23, o23 + k, none⟩)) rfl rfl (by kernel_rfl) (fun _ _ _ h => onN_panic h) (Or.inl ⟨by rfl, fun W => by (go_simp <;> first | rfl | omega | (simp; omega))⟩) ?_
        simp only [n1, n3, n4]
        refine wpK_ta (i := 4) (some 21) (v := .slice A2 n2 c2) rfl rfl (by kernel_rfl) (fun _ _ _ h => onN_panic h) (Or.inl ⟨rfl, fun _ => rfl⟩) ?_
        simp only [n1, n3, n4]
        refine wpK_ta (i := 5) (some 22) (v := .int .i64 (k : Int)) rfl rfl (by kernel_rfl) (fun _ _ _ h => onN_panic h) (Or.inl ⟨rfl, fun _ => rfl⟩) ?_
        simp only [n1, n3, n4]
        obtain ⟨b24, o24, rfl⟩ := HGB.out.addr (by decide) (by omega)
        refine wpK_ta (i := 6) (some 23) (v := .pointer (some ⟨b24, o24 + k, none⟩)) rfl rfl (by kernel_rfl) (fun _ _ _ h => onN_panic h) (Or.inl ⟨by rfl, fun W => by (go_simp <;> first | rfl | omega | (simp; omega))⟩) ?_
        simp only [n1, n3, n4]
        refine wpK_tk (i := 3) (some 20) (v := .int .i64 (l.getD k 0)) rfl rfl (by kernel_rfl) (fun _ _ _ h => onN_panic h) (.val (by rfl) (fun W hg => by have c := (((HGA.out.gr ((S20.out.gr (Gr.un hg))).bel).int (l := l) k (by (have := HLEN.out; have := HLEN2.out; omega)))) 0 _ rfl; (try simp only [Nat.add_zero, Nat.zero_add] at c); go_simp)) ?_
        simp only [n1, n3, n4]
        refine wpK_tk (i := 7) (some 24) (v := .int .i64 (l2.getD k 0)) rfl rfl (by kernel_rfl) (fun _ _ _ h => onN_panic h) (.val (by rfl) (fun W hg => by have c := (((HGB.out.gr ((S20.out.gr (Gr.un hg))).bel).int (l := l2) k (by (have := HLEN.out; have := HLEN2.out; omega)))) 0 _ rfl; (try simp only [Nat.add_zero, Nat.zero_add] at c); go_simp)) ?_
        simp only [n1, n3, n4]
        refine wpK_ta (i := 8) (some 25) (v := .bool (decide ((l.getD k 0) ≠ (l2.getD k 0)))) rfl rfl (by kernel_rfl) (fun _ _ _ h => onN_panic h) (Or.inl ⟨by rfl, fun W => by exact op_int_neq W (l.getD k 0) (l2.getD k 0) rfl rfl rfl Try.underlying3⟩) ?_
        simp only [n1, n3, n4]
        refine wpK_done (by kernel_rfl) (fun V25 hv26 => ?_) _
        have S27 : Hid (St w noB [] V25) := Lib.hid (S20.out.gr (Gr.un hv26))
        clear S20
        clear hv26
        refine ⟨rfl, hK _ _ ?_⟩
        clear hK
        obtain ⟨c28, hc28⟩ : ∃ q_, q_ = (decide ((l.getD k 0) ≠ (l2.getD k 0))) := ⟨_, rfl⟩
        rw [← hc28]
        have Hc28 := Lib.hid hc28
        clear hc28
        cases c28 with
        | true =>
          have f29 := of_decide_eq_true Hc28.out.symm
          go_upto_region 7 with fail
          refine wpG_region_k (fun K hK => ?_)
          refine @wpG_p _ _ _ _ _ (some 4) (.bool false) _ _ rfl (by rfl) (fun _ => rfl) ?_
          simp only [n1, n3, n4]
          refine wpG_done (fun V30 hv31 => ?_)
          have S32 : Hid (St w noB [] V30) := Lib.hid (S27.out.gr hv31)
          clear S27
          clear hv31
          refine ⟨rfl, hK _ _ ?_⟩
          clear hK
          go_wp2_with fail
          go_ret
          refine ⟨?_, S32.out.bel⟩
          show Ending.returned (.bool false) = _
          (first | rfl | (have e_f13 := f13.out; exact rb_f (decide_eq_false (fun e_ => f29 (by rw [e_])))))
        | false =>
          have f33 := Lib.hid (Decidable.not_not.1 (of_decide_eq_false Hc28.out.symm))
          have f33a := Int.le_of_eq f33.out
          have f33b := Int.le_of_eq f33.out.symm
          go_upto_region 5 with fail
          refine wpG_region_k (fun K hK => ?_)
          refine @wpG_p _ _ _ _ _ (some 15) (.int .i64 (k : Int)) _ _ rfl (by rfl) (fun _ => rfl) ?_
          simp only [n1, n3, n4]
          refine @wpG_p _ _ _ _ _ (some 16) (.int .i64 ((k : Int) + 1)) _ _ rfl (by rfl) (fun W => op_i_add W (k : Int) 1 (by omega) rfl rfl rfl Try.underlying3) ?_
          simp only [n1, n3, n4]
          refine @wpG_p _ _ _ _ _ (some 5) (.int .i64 ((k : Int) + 1)) _ _ rfl (by rfl) (fun _ => rfl) ?_
          simp only [n1, n3, n4]
          refine wpG_done (fun V34 hv35 => ?_)
          have S36 : Hid (St w noB [] V34) := Lib.hid (S27.out.gr hv35)
          clear S27
          clear hv35
          refine ⟨rfl, hK _ _ ?_⟩
          clear hK
          go_wp2_with fail
          go_roundw
          case rel => exact ⟨k + 1, (by first | rfl | go_num), (by have e_f13 := f13.out; have e_f33 := f33.out; exact ff_step HK_.out (by have := HLEN.out; omega) (decide_eq_true (by first | exact e_f33 | exact Decidable.not_not.1 e_f33))), (by omega), S36.out⟩
          case measure => first | (simp only [intOf]; omega) | (simp [intOf]; done) | (simp [intOf]; omega) | omega
      | false =>
        have f37 := of_decide_eq_false Hc21.out.symm
        go_upto_region 8 with fail
        refine wpG_region_k (fun K hK => ?_)
        refine @wpG_p _ _ _ _ _ (some 4) (.bool true) _ _ rfl (by rfl) (fun _ => rfl) ?_
        simp only [n1, n3, n4]
        refine wpG_done (fun V38 hv39 => ?_)
        have S40 : Hid (St w noB [] V38) := Lib.hid (S20.out.gr hv39)
        clear S20
        clear hv39
        refine ⟨rfl, hK _ _ ?_⟩
        clear hK
        go_wp2_with fail
        go_ret
        refine ⟨?_, S40.out.bel⟩
        show Ending.returned (.bool true) = _
        (first | rfl | (have e_f13 := f13.out; have hlen_ := HLEN.out; have hlen2_ := HLEN2.out; exact rb_t (decide_eq_true (Pl.eqk_same (by omega) (by have h_ := HK_.out; have e_ : k = l.length := (by omega); rw [e_] at h_; exact h_)))))

end Go.Proofs.Ytfomieekdbkcnaa
