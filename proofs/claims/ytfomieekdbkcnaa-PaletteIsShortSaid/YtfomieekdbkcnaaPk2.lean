/-
  Fields of so many bits in a number; palettes; the packed form and how it is read. (No program.)
-/
import Derived.Test.YtfomieekdbkcnaaPk1
namespace Go.Proofs.Ytfomieekdbkcnaa.Pl
set_option linter.unusedVariables false
/-- field i of width w -/
def fld (w N i : Nat) : Nat := N / 2 ^ (w * i) % 2 ^ w
/-- the number whose first n fields are f -/
def S (w : Nat) (f : Nat → Nat) : Nat → Nat
  | 0 => 0
  | n + 1 => S w f n + f n * 2 ^ (w * n)
theorem S_lt {w : Nat} {f : Nat → Nat} : ∀ {n : Nat}, (∀ i, i < n → f i < 2 ^ w) → S w f n < 2 ^ (w * n)
  | 0, _ => by simp [S]
  | n + 1, h => by
    have h1 := S_lt (w := w) (f := f) (n := n) (fun i hi => h i (by omega))
    have h2 : (f n + 1) * 2 ^ (w * n) ≤ 2 ^ w * 2 ^ (w * n) := Nat.mul_le_mul_right _ (h n (by omega))
    rw [S, show w * (n + 1) = w + w * n by rw [Nat.mul_add, Nat.mul_one, Nat.add_comm], Nat.pow_add]
    rw [Nat.add_mul, Nat.one_mul] at h2
    omega
theorem fld_S {w : Nat} {f : Nat → Nat} : ∀ {n : Nat}, (∀ i, i < n → f i < 2 ^ w) → ∀ i, i < n → fld w (S w f n) i = f i
  | 0, _, i, hi => absurd hi (Nat.not_lt_zero _)
  | n + 1, h, i, hi => by
    have h1 := S_lt (w := w) (f := f) (n := n) (fun i hi => h i (by omega))
    unfold fld S
    by_cases e : i = n
    · subst e
      rw [Nat.add_mul_div_right _ _ (Nat.two_pow_pos _), Nat.div_eq_of_lt h1, Nat.zero_add, Nat.mod_eq_of_lt (h i hi)]
    · have ih := fld_S (w := w) (f := f) (n := n) (fun i hi => h i (by omega)) i (by omega)
      unfold fld at ih
      rw [show w * n = w * i + (w + w * (n - i - 1)) by (conv => lhs; rw [show n = i + (1 + (n - i - 1)) by omega, Nat.mul_add, Nat.mul_add, Nat.mul_one]), Nat.pow_add, Nat.pow_add,
        show f n * (2 ^ (w * i) * (2 ^ w * 2 ^ (w * (n - i - 1)))) = (f n * 2 ^ (w * (n - i - 1)) * 2 ^ w) * 2 ^ (w * i) by simp only [Nat.mul_comm, Nat.mul_left_comm],
        Nat.add_mul_div_right _ _ (Nat.two_pow_pos _), Nat.add_mul_mod_self_right]
      exact ih
theorem S_fld (w N : Nat) : ∀ n, S w (fld w N) n = N % 2 ^ (w * n)
  | 0 => by simp [S, Nat.mod_one]
  | n + 1 => by
    rw [S, S_fld w N n, show w * (n + 1) = w * n + w by rw [Nat.mul_add, Nat.mul_one], Nat.pow_add, Nat.mod_mul, fld, Nat.mul_comm (2 ^ (w * n))]
theorem S_congr {w : Nat} {f g : Nat → Nat} : ∀ {n : Nat}, (∀ i, i < n → f i = g i) → S w f n = S w g n
  | 0, _ => rfl
  | n + 1, h => by rw [S, S, S_congr (fun i hi => h i (by omega)), h n (by omega)]
theorem fld_lt (w N i : Nat) : fld w N i < 2 ^ w := Nat.mod_lt _ (Nat.two_pow_pos _)
/-- so many bytes for n fields -/
def room (n w : Nat) : Nat := (n * w + 7) / 8
theorem room_pow {n w : Nat} {N : Nat} (h : N < 2 ^ (w * n)) : N < 256 ^ room n w := by
  refine Nat.lt_of_lt_of_le h ?_
  rw [pow256]
  refine Nat.pow_le_pow_right (by decide) ?_
  unfold room
  have := Nat.mul_comm n w
  omega
/-- the different ones, in the order in which they occur first -/
def pal (l : List Int) : List Int := l.foldl (fun p c => if c ∈ p then p else p ++ [c]) []
theorem pal_nil : pal [] = [] := rfl
theorem pal_app (l : List Int) (c : Int) : pal (l ++ [c]) = if c ∈ pal l then pal l else pal l ++ [c] := by unfold pal; rw [List.foldl_append]; rfl
theorem pal_step {l : List Int} {k : Nat} (h : k < l.length) : pal (l.take (k + 1)) = if l[k] ∈ pal (l.take k) then pal (l.take k) else pal (l.take k) ++ [l[k]] := by
  rw [List.take_succ_eq_append_getElem h, pal_app]
theorem pal_ind {P : List Int → Prop} (h0 : P []) (h1 : ∀ l c, P l → P (l ++ [c])) : ∀ l, P l := by
  intro l
  have : ∀ r : List Int, P r.reverse := by
    intro r
    induction r with
    | nil => exact h0
    | cons a r ih => rw [List.reverse_cons]; exact h1 _ _ ih
  have := this l.reverse
  rwa [List.reverse_reverse] at this
theorem mem_pal (l : List Int) (c : Int) : c ∈ pal l ↔ c ∈ l := by
  refine pal_ind (P := fun l => c ∈ pal l ↔ c ∈ l) (by simp [pal]) ?_ l
  intro l d ih
  rw [pal_app]
  by_cases hd : d ∈ pal l
  · rw [if_pos hd]
    constructor
    · intro h; exact List.mem_append_left _ (ih.1 h)
    · intro h
      rcases List.mem_append.1 h with h | h
      · exact ih.2 h
      · rw [List.mem_singleton.1 h]; exact hd
  · rw [if_neg hd]; simp only [List.mem_append, ih]
theorem pal_nodup (l : List Int) : (pal l).Nodup := by
  refine pal_ind (P := fun l => (pal l).Nodup) (by simp [pal]) ?_ l
  intro l d ih
  rw [pal_app]
  by_cases hd : d ∈ pal l
  · rw [if_pos hd]; exact ih
  · rw [if_neg hd, List.nodup_append]
    refine ⟨ih, by simp, ?_⟩
    intro a ha b hb
    rw [List.mem_singleton.1 hb]
    rintro rfl
    exact hd ha
theorem pal_len (l : List Int) : (pal l).length ≤ l.length := by
  refine pal_ind (P := fun l => (pal l).length ≤ l.length) (by simp [pal]) ?_ l
  intro l d ih
  rw [pal_app]
  split <;> simp <;> omega
theorem pal_pre (l r : List Int) : ∃ s, pal (l ++ r) = pal l ++ s := by
  refine pal_ind (P := fun r => ∃ s, pal (l ++ r) = pal l ++ s) ⟨[], by simp⟩ ?_ r
  rintro r c ⟨s, hs⟩
  rw [← List.append_assoc, pal_app]
  split
  · exact ⟨s, hs⟩
  · exact ⟨s ++ [c], by rw [hs, List.append_assoc]⟩
theorem pal_pre_len (l r : List Int) : (pal l).length ≤ (pal (l ++ r)).length := by
  obtain ⟨s, hs⟩ := pal_pre l r
  rw [hs]; simp
theorem pal_take_len (l : List Int) (k : Nat) : (pal (l.take k)).length ≤ (pal l).length := by
  have := pal_pre_len (l.take k) (l.drop k)
  rwa [List.take_append_drop] at this
theorem pal_id {l : List Int} : l.Nodup → pal l = l := by
  refine pal_ind (P := fun l => l.Nodup → pal l = l) (fun _ => rfl) ?_ l
  intro l d ih h
  rw [List.nodup_append] at h
  rw [pal_app, ih h.1, if_neg]
  intro hm
  exact h.2.2 d hm d (by simp) rfl
theorem pal_short {l : List Int} : ¬ l.Nodup ↔ (pal l).length < l.length := by
  constructor
  · refine pal_ind (P := fun l => ¬ l.Nodup → (pal l).length < l.length) (fun h => absurd List.nodup_nil h) ?_ l
    intro l d ih h
    rw [pal_app]
    by_cases hd : d ∈ pal l
    · rw [if_pos hd]; have := pal_len l; simp; omega
    · rw [if_neg hd]
      have : ¬ l.Nodup := by
        intro hn
        apply h
        rw [List.nodup_append]
        refine ⟨hn, by simp, ?_⟩
        intro a ha b hb
        rw [List.mem_singleton.1 hb]
        rintro rfl
        exact hd ((mem_pal _ _).2 ha)
      have := ih this
      simp; omega
  · intro h hn
    rw [pal_id hn] at h; omega
theorem idx_lt {p : List Int} {c : Int} (h : c ∈ p) : p.idxOf c < p.length := List.idxOf_lt_length_of_mem h
theorem idx_get {p : List Int} (h : p.Nodup) {j : Nat} (hj : j < p.length) : p.idxOf p[j] = j := by
  rw [h.idxOf_getElem]
theorem get_idx {p : List Int} {c : Int} (h : c ∈ p) : p[p.idxOf c]'(idx_lt h) = c := List.getElem_idxOf _
theorem idx_pal (l r : List Int) {c : Int} (h : c ∈ l) : (pal (l ++ r)).idxOf c = (pal l).idxOf c := by
  obtain ⟨s, hs⟩ := pal_pre l r
  rw [hs, List.idxOf_append, if_pos ((mem_pal _ _).2 h)]
theorem idx_no {p : List Int} {c : Int} (h : c ∉ p) : p.idxOf c = p.length := List.idxOf_eq_length h
/-- bits of an index in a palette of m -/
def wd (m : Nat) : Nat := if m ≤ 1 then 0 else if m ≤ 2 then 1 else if m ≤ 4 then 2 else if m ≤ 16 then 4 else 8
theorem wd_pow {m : Nat} (h : m ≤ 256) : m ≤ 2 ^ wd m := by
  unfold wd
  split
  · simpa using by assumption
  · split
    · simpa using by assumption
    · split
      · simpa using by assumption
      · split
        · simpa using by assumption
        · exact h
theorem wd_cases (m : Nat) : wd m = 0 ∨ wd m = 1 ∨ wd m = 2 ∨ wd m = 4 ∨ wd m = 8 := by
  unfold wd; repeat' split
  all_goals simp
/-- cells as bytes -/
def bts (l : List Int) : List UInt8 := l.map fun c => UInt8.ofNat c.toNat
def ints (t : List UInt8) : List Int := t.map fun b => (b.toNat : Int)
def cell (c : Int) : Prop := 0 ≤ c ∧ c ≤ 255
instance (c : Int) : Decidable (cell c) := inferInstanceAs (Decidable (_ ∧ _))
theorem bts_len (l : List Int) : (bts l).length = l.length := by simp [bts]
theorem ints_len (t : List UInt8) : (ints t).length = t.length := by simp [ints]
theorem ints_bts {l : List Int} (h : ∀ c ∈ l, cell c) : ints (bts l) = l := by
  unfold ints bts
  rw [List.map_map]
  have : l.map ((fun b : UInt8 => (b.toNat : Int)) ∘ fun c => UInt8.ofNat c.toNat) = l.map id := by
    apply List.map_congr_left
    intro c hc
    obtain ⟨h1, h2⟩ := h c hc
    simp only [Function.comp, UInt8.toNat_ofNat', id]
    rw [Nat.mod_eq_of_lt (by omega)]; omega
  rw [this, List.map_id]
theorem bts_ints (t : List UInt8) : bts (ints t) = t := by
  unfold ints bts
  rw [List.map_map]
  have : t.map ((fun c : Int => UInt8.ofNat c.toNat) ∘ fun b : UInt8 => (b.toNat : Int)) = t.map id := by
    apply List.map_congr_left
    intro b _
    simp
  rw [this, List.map_id]
theorem cell_ints (t : List UInt8) : ∀ c ∈ ints t, cell c := by
  intro c hc
  unfold ints at hc
  obtain ⟨b, _, rfl⟩ := List.mem_map.1 hc
  have := b.toNat_lt
  exact ⟨by omega, by omega⟩
/-- the indices of cells -/
def ix (p l : List Int) (i : Nat) : Nat := p.idxOf (l.getD i 0)
/-- the bits of the indices of the first k -/
def sx (l : List Int) (k : Nat) : Nat := S (wd (pal l).length) (ix (pal l) l) k
/-- the packed form -/
def pk (l : List Int) : List UInt8 :=
  if l = [] then [0] else UInt8.ofNat l.length :: UInt8.ofNat (pal l).length :: bts (pal l) ++ le (room l.length (wd (pal l).length)) (sx l l.length)
theorem pal_256 {l : List Int} (h : ∀ c ∈ l, cell c) (hl : l.length ≤ 64) : (pal l).length ≤ 64 := Nat.le_trans (pal_len l) hl
theorem ix_lt {l : List Int} {i : Nat} (hi : i < l.length) : ix (pal l) l i < (pal l).length := by
  unfold ix
  apply idx_lt
  rw [mem_pal, show l.getD i 0 = l[i] by simp [List.getD, hi]]
  exact List.getElem_mem _
theorem ix_pow {l : List Int} (h : l.length ≤ 64) {i : Nat} (hi : i < l.length) : ix (pal l) l i < 2 ^ wd (pal l).length :=
  Nat.lt_of_lt_of_le (ix_lt hi) (wd_pow (by have := pal_len l; omega))
theorem pk_len {l : List Int} (h : l ≠ []) : (pk l).length = 2 + (pal l).length + room l.length (wd (pal l).length) := by
  unfold pk
  rw [if_neg h]
  simp only [List.length_cons, List.length_append, bts_len, le_len]
  omega
end Go.Proofs.Ytfomieekdbkcnaa.Pl
