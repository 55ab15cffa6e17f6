/-
  The packed form and its reading are inverse to each other. (No program.)
-/
import Derived.Test.YtfomieekdbkcnaaPk3
namespace Go.Proofs.Ytfomieekdbkcnaa.Pl
set_option linter.unusedVariables false
theorem u8n {n : Nat} (h : n < 256) : (UInt8.ofNat n).toNat = n := by rw [UInt8.toNat_ofNat']; exact Nat.mod_eq_of_lt h
theorem shape_P (a b : UInt8) (r : List UInt8) : uP (a :: b :: r) = ints (r.take b.toNat) := rfl
theorem shape_B (a b : UInt8) (r : List UInt8) : uB (a :: b :: r) = (r.drop b.toNat).take (room a.toNat (wd b.toNat)) := by
  unfold uB uR uW
  rw [show uM (a :: b :: r) = b.toNat from rfl, show uN (a :: b :: r) = a.toNat from rfl, Nat.add_comm 2]; rfl
theorem cellsOf_pal {l : List Int} {f : Nat → Nat} (h : ∀ i, i < l.length → f i = ix (pal l) l i) : cellsOf (pal l) f l.length = l := by
  unfold cellsOf
  apply List.ext_getElem
  · simp
  · intro i h1 h2
    rw [List.getElem_map, List.getElem_range, h i h2]
    unfold ix
    rw [show l.getD i 0 = l[i] by simp [List.getD, h2]]
    have hm : l[i] ∈ pal l := (mem_pal _ _).2 (List.getElem_mem _)
    rw [show (pal l).getD ((pal l).idxOf l[i]) 0 = (pal l)[(pal l).idxOf l[i]]'(idx_lt hm) by simp [List.getD, idx_lt hm], get_idx hm]
theorem pal_cell {l : List Int} (h : ∀ c ∈ l, cell c) : ∀ c ∈ pal l, cell c := fun c hc => h c ((mem_pal _ _).1 hc)
theorem pal_pos {l : List Int} (h : l ≠ []) : 0 < (pal l).length := by
  cases l with
  | nil => exact absurd rfl h
  | cons a l =>
    have : a ∈ pal (a :: l) := (mem_pal _ _).2 (by simp)
    exact List.length_pos_of_mem this
theorem sx_lt {l : List Int} (h : l.length ≤ 64) : sx l l.length < 2 ^ (wd (pal l).length * l.length) := S_lt (fun i hi => ix_pow h hi)
/-- what the head of a packed form says, whole or cut behind the head -/
theorem pk_head {l : List Int} (h0 : l ≠ []) (hc : ∀ c ∈ l, cell c) (hl : l.length ≤ 64) {t r : List UInt8} (ht : t = UInt8.ofNat l.length :: UInt8.ofNat (pal l).length :: bts (pal l) ++ r) :
    ¬ (t.length ≠ 0 ∧ uN t = 0) ∧ uN t = l.length ∧ uM t = (pal l).length ∧ uP t = pal l ∧ uB t = r.take (room l.length (wd (pal l).length)) ∧ hE t = 0 := by
  have hp := pal_len l
  have hp0 := pal_pos h0
  have hl0 : 0 < l.length := List.length_pos_iff.2 h0
  have e1 : uN t = l.length := by rw [ht]; exact u8n (by omega)
  have e2 : uM t = (pal l).length := by rw [ht]; exact u8n (by omega)
  have e3 : uP t = pal l := by
    rw [ht, List.cons_append, List.cons_append, shape_P, u8n (by omega), List.take_append_of_le_length (by rw [bts_len]; exact Nat.le_refl _), List.take_of_length_le (by rw [bts_len]; exact Nat.le_refl _)]
    exact ints_bts (pal_cell hc)
  have e4 : uB t = r.take (room l.length (wd (pal l).length)) := by
    rw [ht, List.cons_append, List.cons_append, shape_B, u8n (by omega), u8n (by omega), List.drop_append, List.drop_of_length_le (by rw [bts_len]; exact Nat.le_refl _), bts_len, Nat.sub_self]; rfl
  refine ⟨by omega, e1, e2, e3, e4, hE_0.2 ⟨by rw [ht]; simp, by omega, by rw [ht]; simp [bts_len], by omega, by omega, by rw [e3]; exact pal_nodup l, by rw [e3, e2]; exact Nat.le_refl _⟩⟩
theorem un_pk {l : List Int} (h0 : l ≠ []) (hc : ∀ c ∈ l, cell c) (hl : l.length ≤ 64) (s : List UInt8) : un (pk l ++ s) = (l, (pk l).length, 0) := by
  obtain ⟨a1, a2, a3, a4, a5, a6⟩ := pk_head h0 hc hl (t := pk l ++ s) (r := le (room l.length (wd (pal l).length)) (sx l l.length) ++ s) (by unfold pk; rw [if_neg h0]; simp)
  have hw : uW (pk l ++ s) = wd (pal l).length := by unfold uW; rw [a3]
  have hr : uR (pk l ++ s) = room l.length (wd (pal l).length) := by unfold uR; rw [a2, hw]
  have hb : uB (pk l ++ s) = le (room l.length (wd (pal l).length)) (sx l l.length) := by
    rw [a5, List.take_append_of_le_length (by rw [le_len]; exact Nat.le_refl _), List.take_of_length_le (by rw [le_len]; exact Nat.le_refl _)]
  have hv : V (uB (pk l ++ s)) = sx l l.length := by rw [hb, V_le _ _ (room_pow (sx_lt hl))]
  have hf : ∀ i, i < l.length → fld (wd (pal l).length) (V (uB (pk l ++ s))) i = ix (pal l) l i := by
    intro i hi; rw [hv]; exact fld_S (fun i hi => ix_pow hl hi) i hi
  rw [un_ok a1 a6 ?_ (by rw [hb, hr, le_len]; omega) (by rw [hv, hw, a2]; have := sx_lt hl; omega)]
  · rw [a4, a2, a3, hr]
    have : uF (pk l ++ s) = fld (wd (pal l).length) (V (uB (pk l ++ s))) := by unfold uF; rw [hw]
    rw [this, cellsOf_pal hf, pk_len h0]
  · rw [uBad_no]
    intro i hi ⟨_, hb2⟩
    rw [a2] at hi
    apply hb2
    rw [a3, a2, hw]
    exact (okS_congr (fun j hj => hf j (by omega))).2 (okS_pal hi)
theorem un_pk0 (s : List UInt8) : un (pk [] ++ s) = ([], 1, 0) := un_zero (by simp [pk]) rfl
theorem un_take {l : List Int} (hc : ∀ c ∈ l, cell c) (hl : l.length ≤ 64) {k : Nat} (hk : k < (pk l).length) : un ((pk l).take k) = ([], 0, 5) := by
  by_cases h0 : l = []
  · subst h0
    have : k = 0 := by simp [pk] at hk; omega
    subst this; rfl
  · have hp := pal_len l
    have hp0 := pal_pos h0
    have hl0 : 0 < l.length := List.length_pos_iff.2 h0
    have hpk : pk l = UInt8.ofNat l.length :: UInt8.ofNat (pal l).length :: bts (pal l) ++ le (room l.length (wd (pal l).length)) (sx l l.length) := by unfold pk; rw [if_neg h0]
    have hkl := pk_len h0
    rcases Nat.lt_or_ge k 1 with h1 | h1
    · obtain rfl : k = 0 := by omega
      rfl
    · rcases Nat.lt_or_ge k 2 with h2 | h2
      · obtain rfl : k = 1 := by omega
        rw [hpk]
        have e : (UInt8.ofNat l.length).toNat = l.length := u8n (by omega)
        have e1 : uN ([UInt8.ofNat l.length]) = l.length := e
        rw [show (UInt8.ofNat l.length :: UInt8.ofNat (pal l).length :: bts (pal l) ++ le (room l.length (wd (pal l).length)) (sx l l.length)).take 1 = [UInt8.ofNat l.length] from rfl]
        have h5 : hE [UInt8.ofNat l.length] = 5 := by
          unfold hE; rw [if_neg (by simp), if_neg (by omega), if_pos (by rfl)]
        rw [un_head (by rw [e1]; simp; omega) (by rw [h5]; decide), h5]
      · rcases Nat.lt_or_ge k (2 + (pal l).length) with h3 | h3
        · obtain ⟨j, rfl⟩ : ∃ j, k = 2 + j := ⟨k - 2, by omega⟩
          have ht : (pk l).take (2 + j) = UInt8.ofNat l.length :: UInt8.ofNat (pal l).length :: (bts (pal l)).take j := by
            rw [hpk, Nat.add_comm 2 j, List.cons_append, List.cons_append, List.take_succ_cons, List.take_succ_cons, List.take_append_of_le_length (by rw [bts_len]; omega)]
          have e1 : uN ((pk l).take (2 + j)) = l.length := by rw [ht]; exact u8n (by omega)
          have e2 : uM ((pk l).take (2 + j)) = (pal l).length := by rw [ht]; exact u8n (by omega)
          have e3 : uP ((pk l).take (2 + j)) = (pal l).take j := by
            rw [ht, shape_P, u8n (by omega), List.take_take, Nat.min_eq_right (by omega)]
            rw [show ints ((bts (pal l)).take j) = (ints (bts (pal l))).take j from by unfold ints; rw [List.map_take], ints_bts (pal_cell hc)]
          have hj : ((pal l).take j).length = j := by rw [List.length_take]; omega
          have h5 : hE ((pk l).take (2 + j)) = 5 := by
            unfold hE
            rw [if_neg (by rw [ht]; simp), e1, if_neg (by omega), e2, e3, hj]
            have hn : ((pal l).take j).Nodup := (pal_nodup l).sublist (List.take_sublist _ _)
            split
            · rfl
            · rw [if_neg (by omega), if_neg (by rw [pal_id hn, hj]; omega), if_pos (by omega)]
          rw [un_head (by rw [e1]; omega) (by rw [h5]; decide), h5]
        · obtain ⟨j, rfl⟩ : ∃ j, k = 2 + (pal l).length + j := ⟨k - 2 - (pal l).length, by omega⟩
          obtain ⟨a1, a2, a3, a4, a5, a6⟩ := pk_head h0 hc hl (t := (pk l).take (2 + (pal l).length + j)) (r := (le (room l.length (wd (pal l).length)) (sx l l.length)).take j) (by
            rw [hpk, show 2 + (pal l).length + j = ((pal l).length + j) + 1 + 1 by omega, List.cons_append, List.cons_append, List.take_succ_cons, List.take_succ_cons, List.take_append, List.take_of_length_le (by rw [bts_len]; omega), bts_len, show (pal l).length + j - (pal l).length = j by omega]; rfl)
          have hw : uW ((pk l).take (2 + (pal l).length + j)) = wd (pal l).length := by unfold uW; rw [a3]
          have hr : uR ((pk l).take (2 + (pal l).length + j)) = room l.length (wd (pal l).length) := by unfold uR; rw [a2, hw]
          have hjr : j < room l.length (wd (pal l).length) := by omega
          have hb : uB ((pk l).take (2 + (pal l).length + j)) = (le (room l.length (wd (pal l).length)) (sx l l.length)).take j := by
            rw [a5, List.take_take, Nat.min_eq_right (by omega)]
          have hbl : (uB ((pk l).take (2 + (pal l).length + j))).length = j := by rw [hb, List.length_take, le_len]; omega
          rw [un_cut a1 a6 ?_ (by rw [hbl, hr]; exact hjr)]
          rw [uBad_no]
          intro i hi ⟨hb1, hb2⟩
          rw [a2] at hi
          apply hb2
          rw [a3, a2, hw]
          refine (okS_congr (g := ix (pal l) l) (fun q hq => ?_)).2 (okS_pal hi)
          have hq2 : (q + 1) * wd (pal l).length ≤ j * 8 := by
            rw [hbl, hw] at hb1
            exact Nat.le_trans (Nat.mul_le_mul_right _ (by omega)) hb1
          rw [hb, fld_take hq2, V_le _ _ (room_pow (sx_lt hl))]
          exact fld_S (fun i hi => ix_pow hl hi) q (by omega)
/-- the cells of a good text have the palette that stands in it -/
theorem pal_cells {p : List Int} {m n : Nat} {f : Nat → Nat} (hp : p.Nodup) (hm : m = p.length) : ∀ {k : Nat}, (∀ i, i < k → okS m n f i) → pal (cellsOf p f k) = p.take (sn f k)
  | 0, _ => by simp [cellsOf, sn, pal]
  | k + 1, h => by
    obtain ⟨h1, h2, _⟩ := h k (by omega)
    have ih := pal_cells hp hm (k := k) (fun i hi => h i (by omega))
    have hfl : f k < p.length := by omega
    have e : cellsOf p f (k + 1) = cellsOf p f k ++ [p[f k]] := by
      unfold cellsOf
      rw [List.range_succ, List.map_append]
      simp [List.getD, hfl]
    rw [e, pal_app, ih, sn]
    by_cases hs : f k = sn f k
    · rw [if_pos hs, if_neg, ← hs, List.take_succ_eq_append_getElem hfl]
      intro hmem
      obtain ⟨j, hj, hje⟩ := List.getElem_of_mem hmem
      rw [List.getElem_take] at hje
      have hj2 : j < sn f k := by rw [List.length_take] at hj; omega
      have := (List.getElem_inj hp).1 hje
      omega
    · rw [if_neg hs, if_pos]
      have hlt : f k < (p.take (sn f k)).length := by rw [List.length_take]; omega
      have : (p.take (sn f k))[f k]'hlt = p[f k] := List.getElem_take
      rw [← this]; exact List.getElem_mem _
theorem cellsOf_len (p : List Int) (f : Nat → Nat) (n : Nat) : (cellsOf p f n).length = n := by simp [cellsOf]
theorem cellsOf_at {p : List Int} {f : Nat → Nat} {n i : Nat} (h : i < n) : (cellsOf p f n).getD i 0 = p.getD (f i) 0 := by
  unfold cellsOf
  simp [List.getD, h]
/-- what is accepted is the packed form of what it gives -/
theorem pk_un {t : List UInt8} (h : (un t).2.2 = 0) : (un t).1.length ≤ 64 ∧ (∀ c ∈ (un t).1, cell c) ∧ 1 ≤ (un t).2.1 ∧ (un t).2.1 ≤ t.length ∧ pk (un t).1 = t.take (un t).2.1 := by
  by_cases h1 : t.length ≠ 0 ∧ uN t = 0
  · rw [un_zero h1.1 h1.2]
    refine ⟨by simp, by simp, by simp, by show 1 ≤ _; omega, ?_⟩
    cases t with
    | nil => exact absurd rfl h1.1
    | cons a t =>
      have e : a.toNat = 0 := h1.2
      show [0] = [a]
      congr 1
      rw [← UInt8.ofNat_toNat (x := a), e]
      rfl
  · by_cases h2 : hE t = 0
    · cases h3 : uBad t with
      | true => rw [un_bad h1 h2 h3] at h; cases h
      | false =>
        by_cases h4 : (uB t).length < uR t
        · rw [un_cut h1 h2 h3 h4] at h; cases h
        · by_cases h5 : 2 ^ (uW t * uN t) ≤ V (uB t)
          · rw [un_tail h1 h2 h3 h4 h5] at h; cases h
          · rw [un_ok h1 h2 h3 h4 h5]
            obtain ⟨b1, b2, b3, b4, b5, b6, b7⟩ := hE_0.1 h2
            cases t with
            | nil => exact absurd rfl b1
            | cons a t =>
              cases t with
              | nil => exact absurd rfl b3
              | cons b r =>
                have eN : uN (a :: b :: r) = a.toNat := rfl
                have eM : uM (a :: b :: r) = b.toNat := rfl
                have hPl : (uP (a :: b :: r)).length = b.toNat := by
                  rw [shape_P, ints_len, List.length_take] at b7 ⊢
                  rw [eM] at b7; omega
                have hrl : b.toNat ≤ r.length := by rw [shape_P, ints_len, List.length_take] at hPl; omega
                have hBl : (uB (a :: b :: r)).length = uR (a :: b :: r) := by
                  have : (uB (a :: b :: r)).length ≤ uR (a :: b :: r) := by unfold uB; rw [List.length_take]; omega
                  omega
                have hrl2 : uR (a :: b :: r) ≤ r.length - b.toNat := by
                  rw [shape_B, List.length_take, List.length_drop] at hBl
                  have e : room a.toNat (wd b.toNat) = uR (a :: b :: r) := rfl
                  rw [e] at hBl; omega
                have hok : ∀ i, i < uN (a :: b :: r) → okS (uM (a :: b :: r)) (uN (a :: b :: r)) (uF (a :: b :: r)) i := by
                  intro i hi
                  have hb := uBad_no.1 h3 i hi
                  by_cases ho : okS (uM (a :: b :: r)) (uN (a :: b :: r)) (uF (a :: b :: r)) i
                  · exact ho
                  · exact absurd ⟨by
                      rw [hBl]
                      unfold uR room
                      have : (i + 1) * uW (a :: b :: r) ≤ uN (a :: b :: r) * uW (a :: b :: r) := Nat.mul_le_mul_right _ hi
                      rcases wd_cases (uM (a :: b :: r)) with e | e | e | e | e <;> (have e2 : uW (a :: b :: r) = _ := e; rw [e2] at this ⊢; omega), ho⟩ hb
                generalize hn : uN (a :: b :: r) = n at *
                generalize hm : uM (a :: b :: r) = m at *
                generalize hff : uF (a :: b :: r) = f at *
                generalize hpp : uP (a :: b :: r) = p at *
                have hmp : m = p.length := by omega
                have hpal : pal (cellsOf p f n) = p := by
                  rw [pal_cells b6 hmp hok]
                  obtain ⟨_, _, h7⟩ := hok (n - 1) (by omega)
                  rw [show n - 1 + 1 = n by omega, Nat.sub_self] at h7
                  exact List.take_of_length_le (by omega)
                have hcell : ∀ c ∈ p, cell c := by rw [← hpp, shape_P]; exact cell_ints _
                have hn0 : cellsOf p f n ≠ [] := by
                  intro e
                  have := cellsOf_len p f n
                  rw [e] at this; simp at this; omega
                refine ⟨by rw [cellsOf_len]; exact b2, ?_, by show 1 ≤ 2 + m + _; omega, ?_, ?_⟩
                · intro c hc
                  exact hcell c (by rw [← hpal]; exact (mem_pal _ _).2 hc)
                · show 2 + m + _ ≤ r.length + 1 + 1
                  omega
                · unfold pk
                  rw [if_neg hn0, hpal, cellsOf_len]
                  have ea : UInt8.ofNat n = a := by rw [← hn]; exact UInt8.ofNat_toNat
                  have eb : UInt8.ofNat p.length = b := by rw [← hmp, ← hm]; exact UInt8.ofNat_toNat
                  have hS : sx (cellsOf p f n) n = V (uB (a :: b :: r)) := by
                    unfold sx
                    rw [hpal]
                    have e1 : S (wd p.length) (ix p (cellsOf p f n)) n = S (wd p.length) f n := by
                      apply S_congr
                      intro i hi
                      unfold ix
                      obtain ⟨_, h8, _⟩ := hok i hi
                      rw [cellsOf_at hi, show p.getD (f i) 0 = p[f i]'(by omega) by simp [List.getD, show f i < p.length by omega]]
                      exact idx_get b6 _
                    rw [e1, ← hff]
                    have e2 : uW (a :: b :: r) = wd p.length := by unfold uW; rw [hm, hmp]
                    unfold uF
                    rw [e2, S_fld]
                    rw [e2] at h5
                    exact Nat.mod_eq_of_lt (by omega)
                  have hR : room n (wd p.length) = uR (a :: b :: r) := by unfold uR uW; rw [hn, hm, hmp]
                  rw [ea, eb, hS, hR, ← hBl, le_V, hBl]
                  show _ = (a :: b :: r).take (2 + m + uR (a :: b :: r))
                  rw [show 2 + m + uR (a :: b :: r) = m + uR (a :: b :: r) + 1 + 1 by omega, List.take_succ_cons, List.take_succ_cons, List.cons_append, List.cons_append, List.take_add]
                  have e5 : bts p = r.take m := by rw [← hpp, shape_P, bts_ints, ← hm]; rfl
                  have e6 : uB (a :: b :: r) = (r.drop m).take (uR (a :: b :: r)) := by rw [shape_B, ← hm]; rfl
                  rw [e5, ← e6]
    · rw [un_head h1 h2] at h; exact absurd h h2
end Go.Proofs.Ytfomieekdbkcnaa.Pl
