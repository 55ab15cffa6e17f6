/-
  A line divided byte by byte; a number read digit by digit. (No program.)
-/
import Derived.Test.YtpjjddjoegnipaaDoorMa3
namespace Go.Proofs.YtpjjddjoegnipaaDoor.Ma
open Go
set_option linter.unusedVariables false
theorem is32 {a : UInt8} : (a.toNat : Int) = 32 ↔ a = 32 := ⟨fun h => u8_eq (b := 32) (by rw [h]; rfl), fun h => by rw [h]; rfl⟩
theorem is48 {a : UInt8} : (a.toNat : Int) = 48 ↔ a = 48 := ⟨fun h => u8_eq (b := 48) (by rw [h]; rfl), fun h => by rw [h]; rfl⟩
theorem is10 {a : UInt8} : (a.toNat : Int) = 10 ↔ a = 10 := ⟨fun h => u8_eq (b := 10) (by rw [h]; rfl), fun h => by rw [h]; rfl⟩
theorem byt_drop (x : By) (f j : Nat) : byt (x.drop f) j = byt x (f + j) := by
  unfold byt; rw [List.getD_eq_getElem?_getD, List.getD_eq_getElem?_getD, List.getElem?_drop]
theorem byt_cons (b : UInt8) (r : By) (j : Nat) : byt (b :: r) (j + 1) = byt r j := by
  unfold byt; rw [List.getD_eq_getElem?_getD, List.getD_eq_getElem?_getD, List.getElem?_cons_succ]
/-- where the first c stands -/
theorem cut_at (c : UInt8) : ∀ (x : By) (k : Nat), k < x.length → byt x k = c → (∀ j, j < k → byt x j ≠ c) → cut c x = (x.take k, x.drop (k + 1), true)
  | [], k, h, _, _ => by simp at h
  | b :: r, 0, _, h, _ => by
    have : b = c := h
    unfold cut; rw [if_pos this]; rfl
  | b :: r, k + 1, hk, h, hn => by
    have h0 : ¬ b = c := hn 0 (by omega)
    have ih := cut_at c r k (by simpa using hk) (by rw [← byt_cons b]; exact h) (fun j hj => by rw [← byt_cons b]; exact hn (j + 1) (by omega))
    unfold cut; rw [if_neg h0, ih]; rfl
theorem cut_none (c : UInt8) : ∀ (x : By), (∀ j, j < x.length → byt x j ≠ c) → cut c x = (x, [], false)
  | [], _ => rfl
  | b :: r, hn => by
    have h0 : ¬ b = c := hn 0 (by simp)
    have ih := cut_none c r (fun j hj => by rw [← byt_cons b]; exact hn (j + 1) (by simpa using hj))
    unfold cut; rw [if_neg h0, ih]
/-- the state of a division: out are the words done, the present one begins at f, i is next -/
def WInv (x : By) (out : List By) (f i : Nat) : Prop :=
  (f ≤ i ∧ i ≤ x.length ∧ words x = out ++ words (x.drop f) ∧ ∀ j, f ≤ j → j < i → byt x j ≠ 32) ∨ (i = x.length + 1 ∧ f = i ∧ out = words x)
theorem winit (x : By) : WInv x [] 0 0 := .inl ⟨Nat.le_refl _, Nat.zero_le _, rfl, fun j _ h => absurd h (Nat.not_lt_zero _)⟩
section
variable {x : By} {out : List By} {f i : Nat}
theorem wle (h : WInv x out f i) (hi : i ≤ x.length) : f ≤ i := by rcases h with h | h; exact h.1; omega
theorem wstep_no (h : WInv x out f i) (hi : i < x.length) (hb : ¬ byt x i = 32) : WInv x out f (i + 1) := by
  rcases h with ⟨h1, h2, h3, h4⟩ | ⟨h1, _⟩
  · refine .inl ⟨by omega, by omega, h3, fun j hj hji => ?_⟩
    rcases Nat.lt_or_ge j i with h5 | h5
    · exact h4 j hj h5
    · rw [show j = i by omega]; exact hb
  · omega
theorem wstep_blank (h : WInv x out f i) (hi : i < x.length) (hb : byt x i = 32) : WInv x (out ++ [(x.take i).drop f]) (i + 1) (i + 1) := by
  rcases h with ⟨h1, h2, h3, h4⟩ | ⟨h1, _⟩
  · refine .inl ⟨Nat.le_refl _, by omega, ?_, fun j hj hji => by omega⟩
    have hc := cut_at 32 (x.drop f) (i - f) (by rw [List.length_drop]; omega) (by rw [byt_drop, show f + (i - f) = i by omega]; exact hb) (fun j hj => by rw [byt_drop]; exact h4 _ (by omega) (by omega))
    rw [h3, words_cut, hc, if_pos rfl, List.append_assoc]
    have e1 : (x.drop f).take (i - f) = (x.take i).drop f := by rw [List.drop_take]
    have e2 : (x.drop f).drop (i - f + 1) = x.drop (i + 1) := by rw [List.drop_drop]; congr 1; omega
    simp only [e1, e2]; rfl
  · omega
theorem wstep_end (h : WInv x out f i) (hi : i = x.length) : WInv x (out ++ [(x.take i).drop f]) (i + 1) (i + 1) := by
  rcases h with ⟨h1, h2, h3, h4⟩ | ⟨h1, _⟩
  · refine .inr ⟨by omega, rfl, ?_⟩
    have hc := cut_none 32 (x.drop f) (fun j hj => by rw [byt_drop]; rw [List.length_drop] at hj; exact h4 _ (by omega) (by omega))
    rw [h3, words_cut, hc, hi, List.take_length]
    rfl
  · omega
theorem wdone (h : WInv x out f i) (hi : ¬ i ≤ x.length) : out = words x := by
  rcases h with h | h
  · omega
  · exact h.2.2
end
/-- a number as the specification reads it: n is what the first k digits make -/
def NInv (w : By) (k n : Nat) : Prop := Lib.decFrom 0 (w.take k) = some n
theorem ninit (w : By) : NInv w 0 0 := rfl
section
variable {w : By} {k n : Nat}
theorem nstep (h : NInv w k n) (hk : k < w.length) (h1 : 48 ≤ (byt w k).toNat) (h2 : (byt w k).toNat ≤ 57) : NInv w (k + 1) (n * 10 + ((byt w k).toNat - 48)) := by
  have hb : w[k]? = some (byt w k) := by unfold byt; rw [List.getD_eq_getElem?_getD, List.getElem?_eq_getElem hk]; rfl
  exact Lib.decFrom_take w k 0 n (byt w k) _ h hb (by unfold Lib.digitVal; rw [if_pos ⟨h1, h2⟩])
theorem nlt (h : NInv w k n) (hk : k ≤ 3) : n < 1000 := by
  have := decFrom_lt _ _ _ h
  rw [Nat.zero_add, Nat.one_mul] at this
  have h2 : 10 ^ (w.take k).length ≤ 10 ^ 3 := Nat.pow_le_pow_right (by decide) (by rw [List.length_take]; omega)
  omega
theorem ndone (h : NInv w k n) (hk : ¬ k < w.length) (h1 : 1 ≤ w.length) (h2 : w.length ≤ 3) (h3 : w.length = 1 ∨ ¬ byt w 0 = 48) : num w = some n := by
  have e : w.take k = w := List.take_of_length_le (by omega)
  unfold NInv at h
  rw [e] at h
  unfold num; rw [if_pos ⟨h1, h2, h3⟩]; exact h
theorem num_bad (hk : k < w.length) (h : ¬ (48 ≤ (byt w k).toNat ∧ (byt w k).toNat ≤ 57)) : num w = none := by
  cases hn : num w with
  | none => rfl
  | some v =>
    unfold num at hn
    split at hn
    · have hb : w[k]? = some (byt w k) := by unfold byt; rw [List.getD_eq_getElem?_getD, List.getElem?_eq_getElem hk]; rfl
      exact absurd (decFrom3 w 0 v hn _ (List.mem_of_getElem? hb)) h
    · cases hn
theorem num_empty (h : ¬ 1 ≤ w.length) : num w = none := by unfold num; rw [if_neg (fun hc => h hc.1)]
theorem num_zero (h : 1 < w.length) (h0 : byt w 0 = 48) : num w = none := by
  unfold num; rw [if_neg]; rintro ⟨_, _, h1 | h1⟩
  · omega
  · exact h1 h0
end
/-- a number, or -1 -/
def nr (w : By) : Int := match num w with | some v => (v : Int) | none => -1
theorem nr_some {w : By} {v : Nat} (h : num w = some v) : nr w = (v : Int) := by unfold nr; rw [h]
theorem nr_none {w : By} (h : num w = none) : nr w = -1 := by unfold nr; rw [h]
theorem nr_neg {w : By} (h : nr w < 0) : num w = none := by
  cases hn : num w with
  | none => rfl
  | some v => rw [nr_some hn] at h; omega
theorem nr_pos {w : By} (h : ¬ nr w < 0) : ∃ v, num w = some v ∧ nr w = (v : Int) := by
  cases hn : num w with
  | none => rw [nr_none hn] at h; omega
  | some v => exact ⟨v, rfl, nr_some hn⟩
/-- the material of a line, or the zero one -/
def matz (x : By) : Mt := (mat x).getD ⟨[], false, false, false, 0, 0, 0, 0⟩
theorem matz_none {x : By} (h : mat x = none) : matz x = ⟨[], false, false, false, 0, 0, 0, 0⟩ := by unfold matz; rw [h]; rfl
theorem matz_some {x : By} {m : Mt} (h : mat x = some m) : matz x = m := by unfold matz; rw [h]; rfl
theorem mat_w {x : By} {ws : List By} (h : words x = ws) : mat x = matw ws := by unfold mat; rw [h]
theorem matw_len {ws : List By} (h4 : ¬ ws.length = 4) (h8 : ¬ ws.length = 8) : matw ws = none := by
  rcases ws with _ | ⟨n, _ | ⟨k, _ | ⟨f, _ | ⟨d, _ | ⟨e, _ | ⟨x, _ | ⟨y, _ | ⟨z, _ | _⟩⟩⟩⟩⟩⟩⟩⟩ <;> simp [matw]
  · exact absurd rfl h4
  · exact absurd rfl h8
section
variable {e x y z n k f d : By}
theorem e3_e (h : ¬ e = wEmit) : emit3 e x y z = none := by unfold emit3; split; rw [if_neg (fun h5 => h h5.1)]; rfl
theorem e3_x (h : num x = none) : emit3 e x y z = none := by unfold emit3; rw [h]
theorem e3_y (h : num y = none) : emit3 e x y z = none := by unfold emit3; rw [h]; split <;> simp_all
theorem e3_z (h : num z = none) : emit3 e x y z = none := by unfold emit3; rw [h]; split <;> simp_all
theorem e3_zero {a b c : Nat} (ha : num x = some a) (hb : num y = some b) (hc : num z = some c) (h : (a : Int) = 0 ∧ (b : Int) = 0 ∧ (c : Int) = 0) : emit3 e x y z = none := by
  unfold emit3; rw [ha, hb, hc]; simp only; rw [if_neg]; rintro ⟨_, h5⟩; apply h5; omega
theorem e3_yes {a b c : Nat} (he : e = wEmit) (ha : num x = some a) (hb : num y = some b) (hc : num z = some c) (h : ¬ ((a : Int) = 0 ∧ (b : Int) = 0 ∧ (c : Int) = 0)) : emit3 e x y z = some (a, b, c) := by
  unfold emit3; rw [ha, hb, hc]; simp only; rw [if_pos]; exact ⟨he, by omega⟩
theorem m8_e (h : emit3 e x y z = none) : matw [n, k, f, d, e, x, y, z] = none := by
  show (match mat4 n k f d, emit3 e x y z with | some m, some (a, b, c) => _ | _, _ => none) = _
  rw [h]; cases mat4 n k f d <;> rfl
theorem m8_yes {m : Mt} {a b c : Nat} (h4 : mat4 n k f d = some m) (h : emit3 e x y z = some (a, b, c)) : matw [n, k, f, d, e, x, y, z] = some { m with a := (a : Int), b := (b : Int), c := (c : Int) } := by
  show (match mat4 n k f d, emit3 e x y z with | some m, some (a, b, c) => _ | _, _ => none) = _
  rw [h4, h]
theorem m4_4 (h : mat4 n k f d = none) : matw [n, k, f, d] = none := h
theorem m4_8 (h : mat4 n k f d = none) : matw [n, k, f, d, e, x, y, z] = none := matw_4 h _
theorem m4_name (h : n = []) : mat4 n k f d = none := by subst h; exact mat4_nil _ _ _
theorem kn_no (h1 : ¬ k = wGas) (h2 : ¬ k = wSolid) (h3 : ¬ k = wFalling) (h4 : ¬ k = wLiquid) : kn k = none := kn_none h1 h2 h3 h4
end
end Go.Proofs.YtpjjddjoegnipaaDoor.Ma
