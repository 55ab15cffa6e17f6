/-
  Points in cubes and codes in runs. No program is mentioned here.
-/
import Derived.Test.YtmjjkloeipoefaaMo14
namespace Go.Proofs.Ytmjjkloeipoefaa.Mo
/-- a point of a cube of the order has a code of the cube -/
theorem al_code {x y z : Int} {l : Nat} (h : al x y z l) {p q r : Int} (hp : (x ≤ p ∧ p < x + pw l) ∧ (y ≤ q ∧ q < y + pw l) ∧ (z ≤ r ∧ r < z + pw l)) : enc x y z ≤ enc p q r ∧ enc p q r < enc x y z + pw (3 * l) := by
  have hs := al_sits h
  obtain ⟨X, Y, Z, hx, hy, hz, hb, hl⟩ := h
  have he := al_enc ⟨hx, hy, hz⟩ hb hl
  unfold sits at hs
  have hi : inB p q r = true := inB_true.2 (by omega)
  rw [he, enc_in hi]
  have d : ∀ (v w : Int) (Q : Nat), v = ((Q * 2 ^ l : Nat) : Int) → v ≤ w → w < v + pw l → w.toNat / 2 ^ l = Q := fun v w Q hv h1 h2 => by
    unfold pw at h2
    refine Nat.div_eq_of_lt_le ?_ ?_
    · omega
    · rw [Nat.succ_mul]; omega
  have e := E_div l (14 - l) p.toNat q.toNat r.toNat
  rw [show 14 - l + l = 14 by omega, d x p X hx hp.1.1 hp.1.2, d y q Y hy hp.2.1.1 hp.2.1.2, d z r Z hz hp.2.2.1 hp.2.2.2] at e
  have hp8 : pw (3 * l) = ((8 ^ l : Nat) : Int) := by unfold pw; rw [pow83]
  have hpos : 0 < 8 ^ l := by rw [pow83]; exact Nat.two_pow_pos _
  have a1 := Nat.div_mul_le_self (E 14 p.toNat q.toNat r.toNat) (8 ^ l)
  have a2 := Nat.lt_div_mul_add (a := E 14 p.toNat q.toNat r.toNat) hpos
  rw [e] at a1 a2
  rw [hp8]
  omega
/-- is the point in the cube? -/
def inQ (p q r : Int) (c : Cb) : Bool := decide (p ≥ c.1) && decide (p < c.1 + pw c.2.2.2.toNat) && decide (q ≥ c.2.1) && decide (q < c.2.1 + pw c.2.2.2.toNat) && decide (r ≥ c.2.2.1) && decide (r < c.2.2.1 + pw c.2.2.2.toNat)
theorem inQ_true {p q r : Int} {c : Cb} : inQ p q r c = true ↔ (c.1 ≤ p ∧ p < c.1 + pw c.2.2.2.toNat) ∧ (c.2.1 ≤ q ∧ q < c.2.1 + pw c.2.2.2.toNat) ∧ (c.2.2.1 ≤ r ∧ r < c.2.2.1 + pw c.2.2.2.toNat) := by
  unfold inQ
  simp only [Bool.and_eq_true, decide_eq_true_eq]
  constructor
  · rintro ⟨⟨⟨⟨⟨h1, h2⟩, h3⟩, h4⟩, h5⟩, h6⟩; exact ⟨⟨h1, h2⟩, ⟨h3, h4⟩, ⟨h5, h6⟩⟩
  · rintro ⟨⟨h1, h2⟩, ⟨h3, h4⟩, ⟨h5, h6⟩⟩; exact ⟨⟨⟨⟨⟨h1, h2⟩, h3⟩, h4⟩, h5⟩, h6⟩
section
variable {b1 b2 b3 b4 b5 b6 : Int}
theorem inQ_inC {p q r : Int} {c : Cb} (h : okM b1 b2 b3 b4 b5 b6 c) : inQ p q r c = inC (enc p q r) c := by
  obtain ⟨lv, hl, ha, _⟩ := h
  have hs := al_sits ha
  have he : 0 ≤ enc c.1 c.2.1 c.2.2.1 := by rw [enc_in (sits_in hs)]; omega
  have hct : ct c = enc c.1 c.2.1 c.2.2.1 + pw (3 * lv) - 1 := by unfold ct; rw [hl, Int.toNat_natCast]
  rw [Bool.eq_iff_iff, inQ_true]
  unfold inC
  rw [decide_eq_true_eq, hct, hl, Int.toNat_natCast]
  unfold cf
  constructor
  · intro hp
    have := al_code ha hp
    omega
  · rintro ⟨h1, h2⟩
    have hk : inB p q r = true := by
      cases hi : inB p q r with
      | true => rfl
      | false => rw [enc_out hi] at h1; omega
    have hn : 0 ≤ enc p q r := by rw [enc_in hk]; omega
    have hc := al_cell (c := (enc p q r).toNat) ha (by omega) (by omega)
    rw [show (((enc p q r).toNat : Nat) : Int) = enc p q r by omega, (dec_enc hk).1, (dec_enc hk).2.1, (dec_enc hk).2.2] at hc
    exact ⟨hc.1, hc.2.1, hc.2.2.1⟩
theorem cubes_okM {c : Cb} (h : c ∈ cubesA b1 b2 b3 b4 b5 b6) : okM b1 b2 b3 b4 b5 b6 c ∧ c ∈ cubesL b1 b2 b3 b4 b5 b6 := by
  unfold cubesA at h
  split at h
  · exact ⟨(cub_okM 14 0 0 0 al0 c h).1, h⟩
  · simp at h
theorem cubes_chn : chn 4398046511104 0 (cubesL b1 b2 b3 b4 b5 b6) := by
  have := cub_chn (b1 := b1) (b2 := b2) (b3 := b3) (b4 := b4) (b5 := b5) (b6 := b6) 14 0 0 0 al0
  rw [show enc 0 0 0 = 0 by decide +kernel, show (0 : Int) + pw (3 * 14) = 4398046511104 by decide +kernel] at this
  exact this
theorem cubesA_eq (h : cubesE b1 b2 b3 b4 b5 b6 = 0) : cubesA b1 b2 b3 b4 b5 b6 = cubesL b1 b2 b3 b4 b5 b6 := by
  unfold cubesE at h
  unfold cubesA
  split
  · rfl
  · rename_i hn; rw [if_neg hn] at h; omega
/-- as many cubes hold the point as it is a cell of the box: one or none -/
theorem cnt_point (p q r : Int) : (cubesL b1 b2 b3 b4 b5 b6).countP (inC (enc p q r)) = if cellB b1 b2 b3 b4 b5 b6 p q r then 1 else 0 := by
  cases hi : inB p q r with
  | false =>
    have hc : cellB b1 b2 b3 b4 b5 b6 p q r = false := by unfold cellB; rw [hi]; rfl
    rw [hc, enc_out hi, cnt_out cubes_chn (.inl (by decide))]; rfl
  | true =>
    have hk := okB_enc hi
    have hkb := okB_true.1 hk
    have hd := dec_enc hi
    have h := cub_cnt (b1 := b1) (b2 := b2) (b3 := b3) (b4 := b4) (b5 := b5) (b6 := b6) (c := (enc p q r).toNat) 14 0 0 0 al0 (by rw [show enc 0 0 0 = 0 by decide +kernel]; omega) (by rw [show enc 0 0 0 = 0 by decide +kernel, show (0 : Int) + pw (3 * 14) = 4398046511104 by decide +kernel]; omega)
    have e : (((enc p q r).toNat : Nat) : Int) = enc p q r := by omega
    unfold pc at h
    rw [e, hk, hd.1, hd.2.1, hd.2.2, Bool.true_and] at h
    exact h
theorem cnt_points {l : List Cb} (h : ∀ c ∈ l, okM b1 b2 b3 b4 b5 b6 c) (p q r : Int) : l.countP (inQ p q r) = l.countP (inC (enc p q r)) :=
  List.countP_congr (fun c hc => by rw [inQ_inC (h c hc)])
end
/-- is x in the run? -/
def inR (x : Int) (r : Int × Int) : Bool := decide (x ≥ r.1) && decide (x ≤ r.2)
/-- runs with gaps between them -/
def gd (rs : List (Int × Int)) : Prop := (∀ (i : Nat) (r : Int × Int), rs[i]? = some r → r.1 ≤ r.2) ∧ (∀ (i : Nat) (r s : Int × Int), rs[i]? = some r → rs[i + 1]? = some s → r.2 + 1 < s.1)
theorem gd_nil : gd [] := ⟨fun i r h => by simp at h, fun i r s h => by simp at h⟩
theorem get_snoc {α : Type} (l : List α) (x : α) (i : Nat) (y : α) (h : (l ++ [x])[i]? = some y) : (i < l.length ∧ l[i]? = some y) ∨ (i = l.length ∧ y = x) := by
  rw [List.getElem?_append] at h
  split at h
  · rename_i hi; exact .inl ⟨hi, h⟩
  · rename_i hi
    right
    match hj : i - l.length, h with
    | 0, h => simp at h; exact ⟨by omega, h.symm⟩
    | _ + 1, h => simp at h
theorem gd_snoc {rs : List (Int × Int)} {f t : Int} (h : gd rs) (hft : f ≤ t) (hl : ∀ p, rs.getLast? = some p → p.2 + 1 < f) : gd (rs ++ [(f, t)]) := by
  refine ⟨fun i r hi => ?_, fun i r s hi hj => ?_⟩
  · rcases get_snoc _ _ _ _ hi with ⟨_, h1⟩ | ⟨_, rfl⟩
    · exact h.1 i r h1
    · exact hft
  · rcases get_snoc _ _ _ _ hj with ⟨h1, h2⟩ | ⟨h1, rfl⟩
    · rcases get_snoc _ _ _ _ hi with ⟨_, h3⟩ | ⟨h3, _⟩
      · exact h.2 i r s h3 h2
      · omega
    · rcases get_snoc _ _ _ _ hi with ⟨_, h3⟩ | ⟨h3, _⟩
      · refine hl r ?_
        rw [List.getLast?_eq_getElem?, show rs.length - 1 = i by omega]; exact h3
      · omega
theorem gd_long {pre : List (Int × Int)} {a b t : Int} (h : gd (pre ++ [(a, b)])) (ht : b ≤ t) : gd (pre ++ [(a, t)]) := by
  have hlen : (pre ++ [(a, b)])[pre.length]? = some (a, b) := by simp
  have hab := h.1 _ _ hlen
  refine ⟨fun i r hi => ?_, fun i r s hi hj => ?_⟩
  · rcases get_snoc _ _ _ _ hi with ⟨hlt, h1⟩ | ⟨_, rfl⟩
    · exact h.1 i r (by rw [List.getElem?_append_left hlt]; exact h1)
    · exact Int.le_trans hab ht
  · rcases get_snoc _ _ _ _ hi with ⟨h0, h1⟩ | ⟨h0, _⟩
    · have hi' : (pre ++ [(a, b)])[i]? = some r := by rw [List.getElem?_append_left h0]; exact h1
      rcases get_snoc _ _ _ _ hj with ⟨h2, h3⟩ | ⟨h2, rfl⟩
      · exact h.2 i r s hi' (by rw [List.getElem?_append_left h2]; exact h3)
      · exact h.2 i r (a, b) hi' (by rw [h2]; exact hlen)
    · rcases get_snoc _ _ _ _ hj with ⟨h2, _⟩ | ⟨h2, _⟩ <;> omega
theorem runs_fold {hi : Int} : ∀ (l : List Cb) (rs : List (Int × Int)) (lo : Int), chn hi lo l → gd rs → (∀ p, rs.getLast? = some p → p.2 < lo) →
    gd (l.foldl (fun rs c => mrg rs (cf c) (ct c)) rs) ∧ ∀ x, (l.foldl (fun rs c => mrg rs (cf c) (ct c)) rs).countP (inR x) = rs.countP (inR x) + l.countP (inC x)
  | [], rs, _, _, hg, _ => ⟨hg, fun x => rfl⟩
  | c :: l, rs, lo, hc, hg, hl => by
    rw [List.foldl_cons]
    have h1 := hc.1
    have h2 := hc.2.1
    have hin : ∀ x, inC x c = inR x (cf c, ct c) := fun x => by
      unfold inC inR
      rw [Bool.eq_iff_iff]; simp only [Bool.and_eq_true, decide_eq_true_eq]
    rcases list_cases rs with rfl | ⟨pre, a, b, rfl⟩
    · rw [mrg_nil]
      have hg2 : gd [(cf c, ct c)] := by
        have := gd_snoc (f := cf c) (t := ct c) gd_nil h2 (fun p h => by simp at h)
        exact this
      have ih := runs_fold l [(cf c, ct c)] (ct c + 1) hc.2.2 hg2 (fun p h => by simp at h; subst h; show ct c < ct c + 1; omega)
      refine ⟨ih.1, fun x => ?_⟩
      rw [ih.2, List.countP_cons, List.countP_cons, hin]; simp only [List.countP_nil]; omega
    · have hb := hl (a, b) (by simp)
      have hb2 : b < lo := hb
      have hab : a ≤ b := hg.1 pre.length (a, b) (by simp)
      by_cases hq : b + 1 = cf c
      · rw [mrg_yes hq]
        have ih := runs_fold l (pre ++ [(a, ct c)]) (ct c + 1) hc.2.2 (gd_long hg (by omega)) (fun p h => by simp at h; subst h; show ct c < ct c + 1; omega)
        refine ⟨ih.1, fun x => ?_⟩
        rw [ih.2, List.countP_append, List.countP_append, List.countP_cons, List.countP_cons, List.countP_cons, hin]
        have : (if inR x (a, ct c) = true then 1 else 0) = (if inR x (a, b) = true then 1 else 0) + (if inR x (cf c, ct c) = true then 1 else 0) := by
          unfold inR
          simp only [Bool.and_eq_true, decide_eq_true_eq]
          split <;> split <;> split <;> omega
        rw [this]; simp <;> omega
      · rw [mrg_no hq]
        have ih := runs_fold l (pre ++ [(a, b)] ++ [(cf c, ct c)]) (ct c + 1) hc.2.2 (gd_snoc hg h2 (fun p h => by simp at h; rw [← h]; show b + 1 < cf c; omega)) (fun p h => by simp at h; subst h; show ct c < ct c + 1; omega)
        refine ⟨ih.1, fun x => ?_⟩
        rw [ih.2, List.countP_append (l₁ := pre ++ [(a, b)]), List.countP_cons, List.countP_cons, hin]; simp only [List.countP_nil]; omega
theorem runs_all {b1 b2 b3 b4 b5 b6 : Int} (h : cubesE b1 b2 b3 b4 b5 b6 = 0) : gd (runsA b1 b2 b3 b4 b5 b6) ∧ ∀ x, (runsA b1 b2 b3 b4 b5 b6).countP (inR x) = (cubesL b1 b2 b3 b4 b5 b6).countP (inC x) := by
  have := runs_fold (cubesL b1 b2 b3 b4 b5 b6) [] 0 cubes_chn gd_nil (fun p h => by simp at h)
  unfold runsA
  rw [cubesA_eq h]
  unfold runsF
  exact ⟨this.1, fun x => by rw [this.2]; simp⟩
theorem countP_succ {α : Type} (f : α → Bool) {l : List α} {k : Nat} {c : α} (h : l[k]? = some c) : (l.take (k + 1)).countP f = (l.take k).countP f + if f c then 1 else 0 := by
  obtain ⟨hlt, he⟩ := List.getElem?_eq_some_iff.1 h
  rw [List.take_succ_eq_append_getElem hlt, List.countP_append, he, List.countP_cons]; simp
end Go.Proofs.Ytmjjkloeipoefaa.Mo
