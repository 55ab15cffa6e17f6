/-
  The cubes of a box tile it; the runs are the longest ones. No program is mentioned here.
-/
import Derived.Test.YtmjjkloeipoefaaMo12
import Derived.Test.YtmjjkloeipoefaaMo9
namespace Go.Proofs.Ytmjjkloeipoefaa.Mo
/-- the codes of a cube that starts at e -/
theorem cf_eq (x y z : Int) (l : Nat) : cf (x, y, z, (l : Int)) = enc x y z := rfl
theorem ct_eq (x y z : Int) (l : Nat) : ct (x, y, z, (l : Int)) = enc x y z + pw (3 * l) - 1 := by unfold ct; simp
/-- cubes in the order of their codes, from lo to hi -/
def chn (hi : Int) : Int → List Cb → Prop
  | lo, [] => lo ≤ hi
  | lo, c :: r => lo ≤ cf c ∧ cf c ≤ ct c ∧ chn hi (ct c + 1) r
theorem chn_low {hi : Int} : ∀ {l : List Cb} {lo lo' : Int}, lo' ≤ lo → chn hi lo l → chn hi lo' l
  | [], _, _, h, hc => Int.le_trans h hc
  | _ :: _, _, _, h, hc => ⟨Int.le_trans h hc.1, hc.2⟩
theorem chn_append {mid hi : Int} : ∀ {a b : List Cb} {lo : Int}, chn mid lo a → chn hi mid b → chn hi lo (a ++ b)
  | [], _, _, ha, hb => chn_low ha hb
  | _ :: _, _, _, ha, hb => ⟨ha.1, ha.2.1, chn_append ha.2.2 hb⟩
theorem chn_next {hi : Int} : ∀ {l : List Cb} {lo : Int} {i : Nat} {c d : Cb}, chn hi lo l → l[i]? = some c → l[i + 1]? = some d → ct c < cf d
  | [], _, _, _, _, _, h, _ => by simp at h
  | x :: r, _, 0, c, d, hc, h1, h2 => by
    simp at h1
    subst h1
    cases r with
    | nil => simp at h2
    | cons y r =>
      simp at h2
      subst h2
      have := hc.2.2.1
      omega
  | x :: r, _, i + 1, c, d, hc, h1, h2 => by
    rw [List.getElem?_cons_succ] at h1 h2
    exact chn_next hc.2.2 h1 h2
theorem chn_ffl {g : Nat → List Cb} {e w : Int} : ∀ (k o : Nat), (∀ i, o ≤ i → i < o + k → chn (e + i * w + w) (e + i * w) (g i)) → chn (e + o * w + k * w) (e + o * w) (ffl g k o)
  | 0, o, _ => by simp [ffl, chn]
  | k + 1, o, h => by
    have h0 := h o (Nat.le_refl _) (by omega)
    have hr := chn_ffl k (o + 1) (fun i h1 h2 => h i (by omega) (by omega))
    have e1 : e + ((o + 1 : Nat) : Int) * w = e + o * w + w := by rw [Int.natCast_succ, Int.add_mul]; omega
    have e2 : ((k + 1 : Nat) : Int) * w = k * w + w := by rw [Int.natCast_succ, Int.add_mul]; omega
    rw [e1] at hr
    rw [e2, ffl, show e + (o : Int) * w + (k * w + w) = e + o * w + w + k * w by omega]
    exact chn_append h0 hr
section
variable {b1 b2 b3 b4 b5 b6 : Int}
theorem cub_chn : ∀ (l : Nat) (x y z : Int), al x y z l → chn (enc x y z + pw (3 * l)) (enc x y z) (cub b1 b2 b3 b4 b5 b6 l x y z) := by
  have one : ∀ (l : Nat) (x y z : Int) (r : List Cb), chn (enc x y z + pw (3 * l)) (enc x y z) r →
      chn (enc x y z + pw (3 * l)) (enc x y z) (stepC (meets b1 b2 b3 b4 b5 b6 x y z l) (within b1 b2 b3 b4 b5 b6 x y z l) (x, y, z, (l : Int)) r) := by
    intro l x y z r hr
    have hp := pw_pos (3 * l)
    unfold stepC
    cases meets b1 b2 b3 b4 b5 b6 x y z l with
    | false => simp only [cond_false, chn]; omega
    | true =>
      cases within b1 b2 b3 b4 b5 b6 x y z l with
      | false => exact hr
      | true =>
        simp only [cond_true, chn, cf_eq, ct_eq]
        omega
  intro l
  induction l with
  | zero =>
    intro x y z ha
    have hp := pw_pos (3 * 0)
    rw [cub]
    exact one 0 x y z [] (by unfold chn; omega)
  | succ l ih =>
    intro x y z ha
    rw [cub]
    refine one (l + 1) x y z _ ?_
    have h := chn_ffl (g := fun o => cub b1 b2 b3 b4 b5 b6 l (x + cx 0 o l) (y + cx 1 o l) (z + cx 2 o l)) (e := enc x y z) (w := pw (3 * l)) 8 0 (fun i _ hi => by
      have hc := al_child ha (show i < 8 by omega)
      have := ih _ _ _ hc.1
      rw [hc.2] at this
      exact this)
    rw [show enc x y z + ((0 : Nat) : Int) * pw (3 * l) = enc x y z by simp] at h
    rw [pw8]
    exact h
/-- a cube of the list: in the order, in the box, and its parent is not -/
def okM (b1 b2 b3 b4 b5 b6 : Int) (c : Cb) : Prop := ∃ lv : Nat, c.2.2.2 = (lv : Int) ∧ al c.1 c.2.1 c.2.2.1 lv ∧ within b1 b2 b3 b4 b5 b6 c.1 c.2.1 c.2.2.1 lv = true
/-- the parent -/
def par (c : Cb) (x y z : Int) (l : Nat) : Prop := ∃ o, o < 8 ∧ c.1 = x + cx 0 o l ∧ c.2.1 = y + cx 1 o l ∧ c.2.2.1 = z + cx 2 o l ∧ c.2.2.2 = (l : Int)
theorem cub_okM : ∀ (l : Nat) (x y z : Int), al x y z l → ∀ c ∈ cub b1 b2 b3 b4 b5 b6 l x y z, okM b1 b2 b3 b4 b5 b6 c ∧
    (c = (x, y, z, (l : Int)) ∨ ∃ (x' y' z' : Int) (l' : Nat), al x' y' z' (l' + 1) ∧ par c x' y' z' l' ∧ within b1 b2 b3 b4 b5 b6 x' y' z' (l' + 1) = false)
  | 0, x, y, z, ha, c, hc => by
    rw [cub] at hc
    unfold stepC at hc
    cases hm : meets b1 b2 b3 b4 b5 b6 x y z 0 <;> cases hw : within b1 b2 b3 b4 b5 b6 x y z 0 <;> rw [hm, hw] at hc <;> simp at hc
    subst hc
    exact ⟨⟨0, rfl, ha, hw⟩, .inl rfl⟩
  | l + 1, x, y, z, ha, c, hc => by
    rw [cub] at hc
    unfold stepC at hc
    cases hm : meets b1 b2 b3 b4 b5 b6 x y z (l + 1) <;> cases hw : within b1 b2 b3 b4 b5 b6 x y z (l + 1) <;> rw [hm, hw] at hc
    · simp at hc
    · simp at hc
    · simp only [cond_true, cond_false] at hc
      obtain ⟨i, _, hi, h3⟩ := ffl_mem hc
      have hch := al_child ha (show i < 8 by omega)
      obtain ⟨h1, h2⟩ := cub_okM l _ _ _ hch.1 c h3
      refine ⟨h1, .inr ?_⟩
      rcases h2 with rfl | h2
      · exact ⟨x, y, z, l, ha, ⟨i, by omega, rfl, rfl, rfl, rfl⟩, hw⟩
      · exact h2
    · simp only [cond_true, List.mem_singleton] at hc
      subst hc
      exact ⟨⟨l + 1, rfl, ha, hw⟩, .inl rfl⟩
/-- no eight cubes make a greater one -/
theorem no_eight {c d : Cb} (hc : c ∈ cubesL b1 b2 b3 b4 b5 b6) (hd : d ∈ cubesL b1 b2 b3 b4 b5 b6) {lv : Nat} (hl : c.2.2.2 = (lv : Int)) (hdl : d.2.2.2 = (lv : Int))
    (hx : c.1 % (2 * pw lv) = 0 ∧ c.2.1 % (2 * pw lv) = 0 ∧ c.2.2.1 % (2 * pw lv) = 0) (he : d.1 = c.1 + pw lv ∧ d.2.1 = c.2.1 + pw lv ∧ d.2.2.1 = c.2.2.1 + pw lv) : False := by
  obtain ⟨⟨l1, e1, a1, w1⟩, hp⟩ := cub_okM 14 0 0 0 al0 c hc
  obtain ⟨⟨l2, e2, a2, w2⟩, _⟩ := cub_okM 14 0 0 0 al0 d hd
  obtain rfl : lv = l1 := by omega
  obtain rfl : lv = l2 := by omega
  have s1 := al_sits a1
  have s2 := al_sits a2
  have hpw := pw_pos lv
  unfold sits at s1 s2
  rcases hp with h | ⟨x, y, z, l, ha, ⟨o, ho, p1, p2, p3, p4⟩, hw⟩
  · rw [h] at hl he
    have : lv = 14 := by have : ((14 : Nat) : Int) = lv := hl; omega
    subst this
    have hp14 : pw 14 = 16384 := rfl
    simp only at he
    omega
  · obtain rfl : lv = l := by omega
    have cxv : ∀ i, cx i o lv = 0 ∨ cx i o lv = pw lv := fun i => by
      unfold cx
      have h1 : o / 2 ^ i % 2 = 0 ∨ o / 2 ^ i % 2 = 1 := by omega
      rcases h1 with e | e <;> rw [e] <;> omega
    obtain ⟨X, Y, Z, hX, hY, hZ, _, _⟩ := ha
    have dv : ∀ (q : Int) (Q : Nat) (i : Nat) (v : Int), q = ((Q * 2 ^ (lv + 1) : Nat) : Int) → v = q + cx i o lv → v % (2 * pw lv) = 0 → v = q := fun q Q i v hq hv hm => by
      rcases cxv i with e | e
      · rw [hv, e]; omega
      · exfalso
        have e3 : ((Q * 2 ^ (lv + 1) : Nat) : Int) = 2 * pw lv * Q := by unfold pw; rw [pow2, Nat.mul_comm]; simp
        rw [hv, hq, e, e3, Int.add_comm, Int.add_mul_emod_self_left, Int.emod_eq_of_lt (by omega) (by omega)] at hm
        omega
    have q1 := dv x X 0 c.1 hX p1 hx.1
    have q2 := dv y Y 1 c.2.1 hY p2 hx.2.1
    have q3 := dv z Z 2 c.2.2.1 hZ p3 hx.2.2
    rw [he.1, he.2.1, he.2.2, q1, q2, q3] at w2
    rw [q1, q2, q3] at w1
    unfold within at w1 w2 hw
    rw [pw_succ] at hw
    simp only [Bool.and_eq_true, decide_eq_true_eq] at w1 w2
    rw [Bool.eq_false_iff] at hw
    apply hw
    simp only [Bool.and_eq_true, decide_eq_true_eq]
    omega
/-- is x a code of the cube? -/
def inC (x : Int) (c : Cb) : Bool := decide (cf c ≤ x ∧ x ≤ ct c)
theorem cnt_out {x : Int} {hi : Int} : ∀ {l : List Cb} {lo : Int}, chn hi lo l → x < lo ∨ hi ≤ x → l.countP (inC x) = 0
  | [], _, _, _ => rfl
  | c :: r, lo, h, hx => by
    have hr := chn_hi h.2.2
    rw [List.countP_cons, cnt_out h.2.2 (by rcases hx with h1 | h1; left; have := h.1; have := h.2.1; omega; exact .inr h1)]
    have : inC x c = false := by
      unfold inC; rw [decide_eq_false_iff_not]
      have := h.1
      rcases hx with h1 | h1 <;> omega
    rw [this]; rfl
  where chn_hi {hi : Int} : ∀ {l : List Cb} {lo : Int}, chn hi lo l → lo ≤ hi
    | [], _, h => h
    | _ :: _, _, h => by have := chn_hi h.2.2; have := h.1; have := h.2.1; omega
theorem cnt_ffl {g : Nat → List Cb} {e w : Int} {c : Nat} (hw : 0 < w) : ∀ (k o : Nat), (∀ i, o ≤ i → i < o + k → chn (e + i * w + w) (e + i * w) (g i) ∧ (e + i * w ≤ (c : Int) → (c : Int) < e + i * w + w → (g i).countP (inC c) = if pc b1 b2 b3 b4 b5 b6 c then 1 else 0)) →
    e + o * w ≤ (c : Int) → (c : Int) < e + o * w + k * w → (ffl g k o).countP (inC c) = if pc b1 b2 b3 b4 b5 b6 c then 1 else 0
  | 0, o, _, h1, h2 => by simp at h2; omega
  | k + 1, o, h, h1, h2 => by
    have h0 := h o (Nat.le_refl _) (by omega)
    have e1 : e + ((o + 1 : Nat) : Int) * w = e + o * w + w := by rw [Int.natCast_succ, Int.add_mul]; omega
    have e2 : ((k + 1 : Nat) : Int) * w = k * w + w := by rw [Int.natCast_succ, Int.add_mul]; omega
    rw [e2] at h2
    have hch := chn_ffl (g := g) (e := e) (w := w) k (o + 1) (fun i a b => (h i (by omega) (by omega)).1)
    rw [e1] at hch
    rw [ffl, List.countP_append]
    by_cases hc : (c : Int) < e + o * w + w
    · rw [h0.2 h1 hc, cnt_out hch (.inl hc), Nat.add_zero]
    · rw [cnt_out h0.1 (.inr (by omega)), cnt_ffl hw k (o + 1) (fun i a b => h i (by omega) (by omega)) (by rw [e1]; omega) (by rw [e1]; omega)]; omega
theorem cub_cnt {c : Nat} : ∀ (l : Nat) (x y z : Int), al x y z l → enc x y z ≤ (c : Int) → (c : Int) < enc x y z + pw (3 * l) → (cub b1 b2 b3 b4 b5 b6 l x y z).countP (inC c) = if pc b1 b2 b3 b4 b5 b6 c then 1 else 0 := by
  have one : ∀ (l : Nat) (x y z : Int) (r : List Cb), al x y z l → enc x y z ≤ (c : Int) → (c : Int) < enc x y z + pw (3 * l) → (meets b1 b2 b3 b4 b5 b6 x y z l = true → within b1 b2 b3 b4 b5 b6 x y z l = false → r.countP (inC c) = if pc b1 b2 b3 b4 b5 b6 c then 1 else 0) →
      (stepC (meets b1 b2 b3 b4 b5 b6 x y z l) (within b1 b2 b3 b4 b5 b6 x y z l) (x, y, z, (l : Int)) r).countP (inC c) = if pc b1 b2 b3 b4 b5 b6 c then 1 else 0 := by
    intro l x y z r ha h1 h2 hr
    unfold stepC
    cases hm : meets b1 b2 b3 b4 b5 b6 x y z l with
    | false => rw [pc_out ha hm h1 h2]; rfl
    | true =>
      cases hw : within b1 b2 b3 b4 b5 b6 x y z l with
      | false => exact hr hm hw
      | true =>
        rw [pc_in ha hw h1 h2]
        have : inC c (x, y, z, (l : Int)) = true := by unfold inC; rw [cf_eq, ct_eq, decide_eq_true_eq]; omega
        simp [this]
  intro l
  induction l with
  | zero =>
    intro x y z ha h1 h2
    rw [cub]
    exact one 0 x y z [] ha h1 h2 (fun hm hw => by rw [within0 hm] at hw; cases hw)
  | succ l ih =>
    intro x y z ha h1 h2
    rw [cub]
    refine one (l + 1) x y z _ ha h1 h2 (fun _ _ => ?_)
    rw [pw8] at h2
    refine cnt_ffl (e := enc x y z) (w := pw (3 * l)) (by have := pw_pos (3 * l); omega) 8 0 (fun i _ hi => ?_) (by simpa using h1) (by simpa using h2)
    have hc := al_child ha (show i < 8 by omega)
    have a := cub_chn (b1 := b1) (b2 := b2) (b3 := b3) (b4 := b4) (b5 := b5) (b6 := b6) l _ _ _ hc.1
    have b := ih _ _ _ hc.1
    rw [hc.2] at a b
    exact ⟨a, b⟩
end
end Go.Proofs.Ytmjjkloeipoefaa.Mo
