/-
  Package sign as mathematics: chains, leaves, trees, digits, signatures. (No program.)
-/
import Derived.Test.YtdbdlhgkhnenfaaDoorGg
import Derived.Test.YtdbdlhgkhnenfaaDoorGf
import Derived.IntWalk
namespace Go.Proofs.YtdbdlhgkhnenfaaDoor
namespace Sg

/-- a digest of parts -/
def of (t : Int) (l : List (List UInt8)) : List UInt8 := (Sha.sum Sha.consts (inOf t l)).take 16
theorem of_len (t : Int) (l : List (List UInt8)) : (of t l).length = 16 := by
  unfold of; rw [List.length_take, Sha.sum_len]; rfl

def step (i j k : Int) (v : List UInt8) : List UInt8 := of 4 [Wm.encIs [i, j, k], v]
/-- n values further up a chain -/
def climb (i j : Int) (v : List UInt8) (a : Nat) : Nat → List UInt8
  | 0 => v
  | n + 1 => step i j ((a + n + 1 : Nat) : Int) (climb i j v a n)
theorem climb_len {i j : Int} {v : List UInt8} (h : v.length = 16) (a : Nat) : ∀ n, (climb i j v a n).length = 16
  | 0 => h
  | _ + 1 => of_len _ _
theorem climb_add (i j : Int) (v : List UInt8) (a n : Nat) : ∀ m, climb i j (climb i j v a n) (a + n) m = climb i j v a (n + m)
  | 0 => rfl
  | m + 1 => by
    show step i j ((a + n + m + 1 : Nat) : Int) (climb i j (climb i j v a n) (a + n) m) = step i j ((a + (n + m) + 1 : Nat) : Int) (climb i j v a (n + m))
    rw [climb_add i j v a n m, show a + n + m + 1 = a + (n + m) + 1 by omega]

/-- value 0 of a chain -/
def start (seed : List UInt8) (i j : Int) : List UInt8 := (Sha.mac Sha.consts seed (Wm.encIs [i, j])).take 16
theorem start_len (seed : List UInt8) (i j : Int) : (start seed i j).length = 16 := by
  unfold start; rw [List.length_take, Sha.mac_len]; rfl

def leaf (vs : List (List UInt8)) : List UInt8 := of 4 [Wm.encDs vs]
def node (l n : Int) (a b : List UInt8) : List UInt8 := of 5 [Wm.encIs [l, n], a, b]

/-- the first k values of a leaf: each value of a chain, climbed from its number to 15 -/
def tops (i : Int) (vs : List (List UInt8)) (ds : List Nat) (k : Nat) : List (List UInt8) :=
  (List.range k).map fun (j : Nat) => climb i (j : Int) (vs.getD j []) (ds.getD j 0) (15 - ds.getD j 0)
theorem tops_succ (i : Int) (vs : List (List UInt8)) (ds : List Nat) (k : Nat) :
    tops i vs ds (k + 1) = tops i vs ds k ++ [climb i (k : Int) (vs.getD k []) (ds.getD k 0) (15 - ds.getD k 0)] := by
  unfold tops; rw [List.range_succ, List.map_append]; rfl
theorem tops_length (i : Int) (vs : List (List UInt8)) (ds : List Nat) (k : Nat) : (tops i vs ds k).length = k := by
  unfold tops; rw [List.length_map, List.length_range]
theorem tops_16 {i : Int} {vs : List (List UInt8)} {ds : List Nat} {k : Nat} (hv : Is16 vs) (hk : k ≤ vs.length) : Is16 (tops i vs ds k) := by
  intro d hd
  unfold tops at hd
  obtain ⟨j, hj, rfl⟩ := List.mem_map.1 hd
  have hj := List.mem_range.1 hj
  refine climb_len ?_ _ _
  rw [List.getD_eq_getElem?_getD, List.getElem?_eq_getElem (by omega)]
  exact hv _ (List.getElem_mem _)
def leafFrom (i : Int) (vs : List (List UInt8)) (ds : List Nat) : List UInt8 := leaf (tops i vs ds 35)
theorem leafFrom_len (i : Int) (vs : List (List UInt8)) (ds : List Nat) : (leafFrom i vs ds).length = 16 := of_len _ _

/-- the values 0 of the first k chains -/
def secs (seed : List UInt8) (i : Int) (k : Nat) : List (List UInt8) := (List.range k).map fun (j : Nat) => start seed i (j : Int)
theorem secs_succ (seed : List UInt8) (i : Int) (k : Nat) : secs seed i (k + 1) = secs seed i k ++ [start seed i (k : Int)] := by
  unfold secs; rw [List.range_succ, List.map_append]; rfl
theorem secs_length (seed : List UInt8) (i : Int) (k : Nat) : (secs seed i k).length = k := by
  unfold secs; rw [List.length_map, List.length_range]
theorem secs_16 (seed : List UInt8) (i : Int) (k : Nat) : Is16 (secs seed i k) := by
  intro d hd
  unfold secs at hd
  obtain ⟨j, _, rfl⟩ := List.mem_map.1 hd
  exact start_len _ _ _
theorem secs_get (seed : List UInt8) (i : Int) (k j : Nat) (h : j < k) : (secs seed i k).getD j [] = start seed i (j : Int) := by
  unfold secs
  rw [List.getD_eq_getElem?_getD, List.getElem?_map, List.getElem?_range h]; rfl

def zeros : List Nat := List.replicate 35 0
theorem zeros_get (j : Nat) : zeros.getD j 0 = 0 := by
  unfold zeros
  rw [List.getD_eq_getElem?_getD, List.getElem?_replicate]
  split <;> rfl

/-- value n of a level -/
def value (seed : List UInt8) : Nat → Nat → List UInt8
  | 0, n => leafFrom (n : Int) (secs seed (n : Int) 35) zeros
  | l + 1, n => node ((l + 1 : Nat) : Int) (n : Int) (value seed l (2 * n)) (value seed l (2 * n + 1))
theorem value_len (seed : List UInt8) : ∀ l n, (value seed l n).length = 16
  | 0, _ => of_len _ _
  | _ + 1, _ => of_len _ _

/-- the digits of a digest -/
def nibs (d : List UInt8) : List Nat := d.flatMap fun b => [b.toNat / 16, b.toNat % 16]
def rest (d : List UInt8) : Nat := (d.map fun b => 30 - (b.toNat / 16 + b.toNat % 16)).sum
def digits (d : List UInt8) : List Nat := nibs d ++ [rest d / 256, rest d / 16 % 16, rest d % 16]
theorem nibs_len (d : List UInt8) : (nibs d).length = 2 * d.length := by
  unfold nibs
  induction d with
  | nil => rfl
  | cons b r ih => rw [List.flatMap_cons, List.length_append, ih, List.length_cons]; simp; omega
theorem digits_len {d : List UInt8} (h : d.length = 16) : (digits d).length = 35 := by
  unfold digits; rw [List.length_append, nibs_len, h]; rfl
theorem rest_le (d : List UInt8) : rest d ≤ 30 * d.length := by
  unfold rest
  induction d with
  | nil => simp
  | cons b r ih => rw [List.map_cons, List.sum_cons, List.length_cons]; omega
theorem nibs_le {d : List UInt8} {x : Nat} (h : x ∈ nibs d) : x ≤ 15 := by
  unfold nibs at h
  obtain ⟨b, _, hx⟩ := List.mem_flatMap.1 h
  have := b.toNat_lt
  simp at hx
  omega
theorem digits_le {d : List UInt8} (h : d.length = 16) {x : Nat} (hx : x ∈ digits d) : x ≤ 15 := by
  unfold digits at hx
  have h2 := rest_le d
  rcases List.mem_append.1 hx with hx | hx
  · exact nibs_le hx
  · simp at hx
    omega
theorem digits_get_le {d : List UInt8} (h : d.length = 16) (j : Nat) : (digits d).getD j 0 ≤ 15 := by
  rw [List.getD_eq_getElem?_getD]
  cases hx : (digits d)[j]? with
  | none => simp
  | some x => exact digits_le h (List.mem_of_getElem? hx)

def message (p : List UInt8) (i : Int) (m : List UInt8) : List UInt8 := of 6 [p, Wm.encI i, m]
theorem message_len (p : List UInt8) (i : Int) (m : List UInt8) : (message p i m).length = 16 := of_len _ _

/-- the first k values of chains in a signature -/
def chains (seed : List UInt8) (i : Int) (ds : List Nat) (k : Nat) : List (List UInt8) :=
  (List.range k).map fun (j : Nat) => climb i (j : Int) (start seed i (j : Int)) 0 (ds.getD j 0)
theorem chains_succ (seed : List UInt8) (i : Int) (ds : List Nat) (k : Nat) :
    chains seed i ds (k + 1) = chains seed i ds k ++ [climb i (k : Int) (start seed i (k : Int)) 0 (ds.getD k 0)] := by
  unfold chains; rw [List.range_succ, List.map_append]; rfl
theorem chains_length (seed : List UInt8) (i : Int) (ds : List Nat) (k : Nat) : (chains seed i ds k).length = k := by
  unfold chains; rw [List.length_map, List.length_range]
theorem chains_16 (seed : List UInt8) (i : Int) (ds : List Nat) (k : Nat) : Is16 (chains seed i ds k) := by
  intro d hd
  unfold chains at hd
  obtain ⟨j, _, rfl⟩ := List.mem_map.1 hd
  exact climb_len (start_len _ _ _) _ _

/-- the number beside n -/
def beside (n : Nat) : Nat := if n % 2 = 1 then n - 1 else n + 1
/-- the values beside the way up, of the first k levels -/
def sides (seed : List UInt8) (i : Nat) (k : Nat) : List (List UInt8) := (List.range k).map fun (l : Nat) => value seed l (beside (i / 2 ^ l))
theorem sides_succ (seed : List UInt8) (i k : Nat) : sides seed i (k + 1) = sides seed i k ++ [value seed k (beside (i / 2 ^ k))] := by
  unfold sides; rw [List.range_succ, List.map_append]; rfl
theorem sides_length (seed : List UInt8) (i k : Nat) : (sides seed i k).length = k := by
  unfold sides; rw [List.length_map, List.length_range]
theorem sides_16 (seed : List UInt8) (i k : Nat) : Is16 (sides seed i k) := by
  intro d hd
  unfold sides at hd
  obtain ⟨l, _, rfl⟩ := List.mem_map.1 hd
  exact value_len _ _ _

def sign (seed : List UInt8) (h i : Nat) (m : List UInt8) : List UInt8 :=
  Wm.encI (i : Int) ++ (chains seed (i : Int) (digits (message (value seed h 0) (i : Int) m)) 35).flatten ++ (sides seed i h).flatten

/-- one level up -/
def upOne (i l : Nat) (v b : List UInt8) : List UInt8 :=
  if i / 2 ^ l % 2 = 1 then node ((l + 1 : Nat) : Int) ((i / 2 ^ (l + 1) : Nat) : Int) b v else node ((l + 1 : Nat) : Int) ((i / 2 ^ (l + 1) : Nat) : Int) v b
/-- k levels up, from the values bs beside the way -/
def up (i : Nat) (v : List UInt8) (bs : List (List UInt8)) : Nat → List UInt8
  | 0 => v
  | l + 1 => upOne i l (up i v bs l) (bs.getD l [])
theorem up_len {i : Nat} {v : List UInt8} (h : v.length = 16) (bs : List (List UInt8)) : ∀ k, (up i v bs k).length = 16
  | 0 => h
  | k + 1 => by
    show (upOne _ _ _ _).length = 16
    unfold upOne
    split <;> exact of_len _ _

/-- a byte string as digests -/
def cuts (s : List UInt8) (k : Nat) : List (List UInt8) := (List.range k).map fun (j : Nat) => (s.drop (16 * j)).take 16
theorem cuts_succ (s : List UInt8) (k : Nat) : cuts s (k + 1) = cuts s k ++ [(s.drop (16 * k)).take 16] := by
  unfold cuts; rw [List.range_succ, List.map_append]; rfl
theorem cuts_length (s : List UInt8) (k : Nat) : (cuts s k).length = k := by unfold cuts; rw [List.length_map, List.length_range]
theorem cuts_16 (s : List UInt8) (k : Nat) (h : 16 * k ≤ s.length) : Is16 (cuts s k) := by
  intro d hd
  unfold cuts at hd
  obtain ⟨j, hj, rfl⟩ := List.mem_map.1 hd
  have := List.mem_range.1 hj
  rw [List.length_take, List.length_drop]
  omega
theorem cuts_get (s : List UInt8) (k j : Nat) (h : j < k) : (cuts s k).getD j [] = (s.drop (16 * j)).take 16 := by
  unfold cuts
  rw [List.getD_eq_getElem?_getD, List.getElem?_map, List.getElem?_range h]; rfl
theorem cuts_flatten : ∀ (l : List (List UInt8)) (r : List UInt8), Is16 l → cuts (l.flatten ++ r) l.length = l
  | [], _, _ => rfl
  | d :: l, r, h => by
    have hd : d.length = 16 := h d (by simp)
    have ih := cuts_flatten l r (fun x hx => h x (by simp [hx]))
    unfold cuts at ih ⊢
    rw [List.length_cons, List.range_succ_eq_map, List.map_cons, List.map_map, List.flatten_cons, List.append_assoc]
    congr 1
    · rw [Nat.mul_zero, List.drop_zero, ← hd, List.take_left]
    · rw [← ih]
      simp only [ih]
      refine Eq.trans ?_ ih
      refine List.map_congr_left fun j _ => ?_
      show ((d ++ (l.flatten ++ r)).drop (16 * (j + 1))).take 16 = ((l.flatten ++ r).drop (16 * j)).take 16
      rw [show 16 * (j + 1) = d.length + 16 * j by omega, List.drop_length_add_append]

/-- the public key that a signature's rest gives -/
def root (p : List UInt8) (h i : Nat) (m r : List UInt8) : List UInt8 :=
  up i (leafFrom (i : Int) (cuts r 35) (digits (message p (i : Int) m))) ((cuts r (35 + h)).drop 35) h
theorem root_len (p : List UInt8) (h i : Nat) (m r : List UInt8) : (root p h i m r).length = 16 := up_len (leafFrom_len _ _ _) _ _

theorem up_value (seed : List UInt8) (i h : Nat) : ∀ k, k ≤ h → up i (value seed 0 i) (sides seed i h) k = value seed k (i / 2 ^ k)
  | 0, _ => by simp [up]
  | k + 1, hk => by
    show upOne i k (up i (value seed 0 i) (sides seed i h) k) ((sides seed i h).getD k []) = _
    rw [up_value seed i h k (by omega)]
    have hs : (sides seed i h).getD k [] = value seed k (beside (i / 2 ^ k)) := by
      unfold sides
      rw [List.getD_eq_getElem?_getD, List.getElem?_map, List.getElem?_range (by omega)]; rfl
    rw [hs]
    have hp : i / 2 ^ (k + 1) = i / 2 ^ k / 2 := by rw [Nat.pow_succ, Nat.div_div_eq_div_mul]
    show upOne i k _ _ = node _ _ (value seed k (2 * (i / 2 ^ (k + 1)))) (value seed k (2 * (i / 2 ^ (k + 1)) + 1))
    unfold upOne beside
    rw [hp]
    generalize i / 2 ^ k = x
    split
    · rename_i hx
      rw [show 2 * (x / 2) = x - 1 by omega, show x - 1 + 1 = x by omega]
    · rename_i hx
      rw [show 2 * (x / 2) = x by omega]

/-- what is signed is accepted -/
theorem root_sign (seed : List UInt8) (h i : Nat) (m : List UInt8) (hi : i < 2 ^ h) :
    root (value seed h 0) h i m ((sign seed h i m).drop (Wm.encI (i : Int)).length) = value seed h 0 := by
  obtain ⟨D, hD⟩ : ∃ x, x = digits (message (value seed h 0) (i : Int) m) := ⟨_, rfl⟩
  have hDl : ∀ j, D.getD j 0 ≤ 15 := fun j => by rw [hD]; exact digits_get_le (message_len _ _ _) j
  unfold sign root
  rw [← hD, List.append_assoc, List.drop_left]
  have e1 : cuts ((chains seed (i : Int) D 35).flatten ++ (sides seed i h).flatten) 35 = chains seed (i : Int) D 35 := by
    have := cuts_flatten (chains seed (i : Int) D 35) (sides seed i h).flatten (chains_16 _ _ _ _)
    rwa [chains_length] at this
  have e2 : cuts ((chains seed (i : Int) D 35).flatten ++ (sides seed i h).flatten) (35 + h) = chains seed (i : Int) D 35 ++ sides seed i h := by
    have := cuts_flatten (chains seed (i : Int) D 35 ++ sides seed i h) [] (fun d hd => by
      rcases List.mem_append.1 hd with hd | hd
      · exact chains_16 _ _ _ _ d hd
      · exact sides_16 _ _ _ d hd)
    rwa [List.length_append, chains_length, sides_length, List.flatten_append, List.append_nil] at this
  rw [e1, e2]
  have e3 : (chains seed (i : Int) D 35 ++ sides seed i h).drop 35 = sides seed i h := by
    have := List.drop_left (l₁ := chains seed (i : Int) D 35) (l₂ := sides seed i h)
    rwa [chains_length] at this
  rw [e3]
  have e4 : leafFrom (i : Int) (chains seed (i : Int) D 35) D = value seed 0 i := by
    show leaf _ = leaf _
    congr 1
    unfold tops
    refine List.map_congr_left fun j hj => ?_
    have hj := List.mem_range.1 hj
    have ec : (chains seed (i : Int) D 35).getD j [] = climb (i : Int) (j : Int) (start seed (i : Int) (j : Int)) 0 (D.getD j 0) := by
      unfold chains
      rw [List.getD_eq_getElem?_getD, List.getElem?_map, List.getElem?_range hj]; rfl
    rw [ec, secs_get _ _ _ _ hj, zeros_get]
    have h1 := climb_add (i : Int) (j : Int) (start seed (i : Int) (j : Int)) 0 (D.getD j 0) (15 - D.getD j 0)
    rw [Nat.zero_add] at h1
    rw [h1]
    have := hDl j
    congr 1
    omega
  rw [e4, up_value seed i h h (Nat.le_refl _), Nat.div_eq_of_lt hi]

theorem sign_len (seed : List UInt8) (h i : Nat) (m : List UInt8) : (sign seed h i m).length = (Wm.encI (i : Int)).length + 16 * (35 + h) := by
  unfold sign
  rw [List.length_append, List.length_append, flatten_len (chains_16 _ _ _ _), flatten_len (sides_16 _ _ _), chains_length, sides_length]
  omega

/-- the verdict on a signature: the index, the error -/
def verify (p : List UInt8) (h : Int) (m s : List UInt8) : Int × Int :=
  if h < 0 ∨ 6 < h then (0, 1)
  else if (Wm.getI s).2.2 ≠ 0 then (0, (Wm.getI s).2.2)
  else if (Wm.getI s).1 < 0 ∨ (2 : Int) ^ h.toNat ≤ (Wm.getI s).1 then (0, 8)
  else if s.length < (Wm.encI (Wm.getI s).1).length + 16 * (35 + h.toNat) then (0, 5)
  else if (Wm.encI (Wm.getI s).1).length + 16 * (35 + h.toNat) < s.length then (0, 6)
  else if root p h.toNat (Wm.getI s).1.toNat m (s.drop (Wm.getI s).2.1) = p then ((Wm.getI s).1, 0) else (0, 8)

end Sg
end Go.Proofs.YtdbdlhgkhnenfaaDoor
/-
  Contracts of package sign and its specification: heights, indices, counts, sizes.
-/
namespace Go.Proofs.YtdbdlhgkhnenfaaDoor
open Go.RowKit

/-- the number of one-time keys -/
def cnt (h : Int) : Int := if 0 ≤ h ∧ h ≤ 6 then (2 : Int) ^ h.toNat else 0
theorem cnt_cases (h : Int) (h0 : 0 ≤ h) (h6 : h ≤ 6) : h = 0 ∨ h = 1 ∨ h = 2 ∨ h = 3 ∨ h = 4 ∨ h = 5 ∨ h = 6 := by omega
theorem cnt_bd (h : Int) : 0 ≤ cnt h ∧ cnt h ≤ 64 := by
  unfold cnt
  split
  · rcases cnt_cases h (by omega) (by omega) with e | e | e | e | e | e | e <;> subst e <;> decide
  · decide
/-- the number of bytes of a signature -/
def siz (h i : Int) : Int := if 0 ≤ i ∧ i < cnt h then ((Wm.encI i).length : Int) + 16 * (35 + h) else 0
theorem cnt_pos (h : Int) : 0 < cnt h ↔ 0 ≤ h ∧ h ≤ 6 := by
  unfold cnt
  split
  · rename_i hh
    rcases cnt_cases h (by omega) (by omega) with e | e | e | e | e | e | e <;> subst e <;> decide
  · rename_i hh; constructor
    · intro h2; omega
    · intro h2; omega

theorem permitted_any (h : Int) (w : World) :
    Calls Tryd.prog 26 #[.int .i64 h] w fun e w' => e = .returned (.bool (decide (0 ≤ h ∧ h ≤ 6))) ∧ w' = w := by
  go_enter Tryd.func26, Tryd.ntmps26
  by_cases h0 : 0 ≤ h
  · by_cases h6 : h ≤ 6
    · rw [decide_eq_true (show 0 ≤ h ∧ h ≤ 6 from ⟨h0, h6⟩)]
      go_wp2_with fail
      go_ret
      exact ⟨rfl, rfl⟩
    · rw [decide_eq_false (show ¬ (0 ≤ h ∧ h ≤ 6) from fun x => h6 x.2)]
      go_wp2_with fail
      go_ret
      exact ⟨rfl, rfl⟩
  · rw [decide_eq_false (show ¬ (0 ≤ h ∧ h ≤ 6) from fun x => h0 x.1)]
    go_wp2_with fail
    go_ret
    exact ⟨rfl, rfl⟩

theorem cnt_in {h : Int} (hh : 0 ≤ h ∧ h ≤ 6) : cnt h = (2 : Int) ^ h.toNat := if_pos hh
theorem cnt_out {h : Int} (hh : ¬ (0 ≤ h ∧ h ≤ 6)) : cnt h = 0 := if_neg hh
theorem siz_in {h i : Int} (hh : 0 ≤ i ∧ i < cnt h) : siz h i = ((Wm.encI i).length : Int) + 16 * (35 + h) := if_pos hh
theorem siz_out {h i : Int} (hh : ¬ (0 ≤ i ∧ i < cnt h)) : siz h i = 0 := if_neg hh

set_option maxRecDepth 1000000 in
theorem count_any (h : Int) (w : World) :
    Calls Tryd.prog 12 #[.int .i64 h] w fun e w' => e = .returned (.int .i64 (cnt h)) ∧ w' = w := by
  have C := Lib.hid (fun W => permitted_any h W)
  by_cases hh : 0 ≤ h ∧ h ≤ 6
  · rw [decide_eq_true hh] at C
    rcases cnt_cases h hh.1 hh.2 with e | e | e | e | e | e | e <;> subst e <;>
      (go_enter Tryd.func12, Tryd.ntmps12
       go_wp2_with fail
       refine (C.out _).mono ?_
       rintro e w1 ⟨rfl, rfl⟩
       go_wp2_with fail
       go_ret
       exact ⟨rfl, rfl⟩)
  · rw [decide_eq_false hh] at C
    rw [cnt_out hh]
    clear hh
    go_enter Tryd.func12, Tryd.ntmps12
    go_wp2_with fail
    refine (C.out _).mono ?_
    rintro e w1 ⟨rfl, rfl⟩
    go_wp2_with fail
    go_ret
    exact ⟨rfl, rfl⟩

theorem exists_any (h i : Int) (w : World) :
    Calls Tryd.prog 27 #[.int .i64 h, .int .i64 i] w fun e w' => e = .returned (.bool (decide (0 ≤ i ∧ i < cnt h))) ∧ w' = w := by
  have C := Lib.hid (fun W => count_any h W)
  have hb := cnt_bd h
  generalize cnt h = c at *
  by_cases h0 : 0 ≤ i
  · by_cases h6 : i < c
    · rw [decide_eq_true (show 0 ≤ i ∧ i < c from ⟨h0, h6⟩)]
      go_enter Tryd.func27, Tryd.ntmps27
      go_wp2_with fail
      refine (C.out _).mono ?_
      rintro e w1 ⟨rfl, rfl⟩
      go_wp2_with fail
      go_ret
      exact ⟨rfl, rfl⟩
    · rw [decide_eq_false (show ¬ (0 ≤ i ∧ i < c) from fun x => h6 x.2)]
      go_enter Tryd.func27, Tryd.ntmps27
      go_wp2_with fail
      refine (C.out _).mono ?_
      rintro e w1 ⟨rfl, rfl⟩
      go_wp2_with fail
      go_ret
      exact ⟨by first | rfl | simp [h6] | (simp; omega), rfl⟩
  · rw [decide_eq_false (show ¬ (0 ≤ i ∧ i < c) from fun x => h0 x.1)]
    go_enter Tryd.func27, Tryd.ntmps27
    go_wp2_with fail
    go_ret
    exact ⟨rfl, rfl⟩

set_option maxRecDepth 1000000 in
theorem size_any (h i : Int) (w : World) (hi : -9223372036854775808 ≤ i ∧ i ≤ 9223372036854775807) :
    Calls Tryd.prog 14 #[.int .i64 h, .int .i64 i] w fun e w' => e = .returned (.int .i64 (siz h i)) ∧ Below w.heap.size w w' := by
  have C := Lib.hid (fun W => exists_any h i W)
  have CI := Lib.hid (fun W => int_any i W hi.1 hi.2)
  have hl := Wm.encI_len i hi.1 hi.2
  have HP := Lib.hid (cnt_pos h)
  by_cases hh : 0 ≤ i ∧ i < cnt h
  · rw [siz_in hh]
    rw [decide_eq_true hh] at C
    have h2 := HP.out.1 (by omega)
    have h3 := h2.1
    have h4 := h2.2
    clear hh h2 HP
    generalize (Wm.encI i) = E at *
    go_enter Tryd.func14, Tryd.ntmps14
    go_wp2_with fail
    refine (C.out _).mono ?_
    rintro e w1 ⟨rfl, rfl⟩
    clear C
    go_wp2_with fail
    refine (CI.out _).mono ?_
    rintro e w2 ⟨v, rfl, ho, hb⟩
    obtain ⟨A1, c1, rfl, _, _, hli⟩ := own_shape ho
    have HB := Lib.hid hb
    clear ho hb hli
    go_wp2_with fail
    go_ret
    exact ⟨ret_int (by omega), HB.out⟩
  · rw [siz_out hh]
    rw [decide_eq_false hh] at C
    clear hh HP CI
    go_enter Tryd.func14, Tryd.ntmps14
    go_wp2_with fail
    refine (C.out _).mono ?_
    rintro e w1 ⟨rfl, rfl⟩
    go_wp2_with fail
    go_ret
    exact ⟨rfl, Below.refl _ _⟩

set_option maxRecDepth 1000000 in
theorem rcount_any (h : Int) (w : World) :
    Calls Tryd.prog 13 #[.int .i64 h] w fun e w' => e = .returned (.int .i64 (cnt h)) ∧ w' = w := by
  by_cases h0 : h < 0
  · rw [cnt_out (by omega)]
    go_enter Tryd.func13, Tryd.ntmps13
    go_wp2_with fail
    go_ret
    exact ⟨rfl, rfl⟩
  · by_cases h6 : 6 < h
    · rw [cnt_out (by omega)]
      go_enter Tryd.func13, Tryd.ntmps13
      go_wp2_with fail
      go_ret
      exact ⟨rfl, rfl⟩
    · rw [cnt_in (by omega)]
      obtain ⟨n, rfl⟩ := Int.eq_ofNat_of_zero_le (show 0 ≤ h by omega)
      rw [Int.toNat_natCast]
      have hn : n ≤ 6 := by omega
      clear h0 h6
      go_enter Tryd.func13, Tryd.ntmps13
      go_wp2_with fail
      go_loop [3, 4] (fun x i => ∃ k : Nat, i = .int .i64 (k : Int) ∧ x = .int .i64 ((2 : Int) ^ k) ∧ k ≤ n) (fun _ i => n - (intOf i).toNat)
      case atStart => exact ⟨0, rfl, rfl, by omega⟩
      case round =>
        obtain ⟨k, rfl, rfl, hk⟩ := hrel
        have hp : (2 : Int) ^ k ≤ 64 ∧ 1 ≤ (2 : Int) ^ k ∧ (2 : Int) ^ (k + 1) = 2 * 2 ^ k := by
          have : k = 0 ∨ k = 1 ∨ k = 2 ∨ k = 3 ∨ k = 4 ∨ k = 5 ∨ k = 6 := by omega
          rcases this with e | e | e | e | e | e | e <;> subst e <;> decide
        obtain ⟨hp1, hp2, hp3⟩ := hp
        by_cases hlt : k < n
        · have HP := Lib.hid hp3
          clear hp3
          generalize (2 : Int) ^ k = x at *
          go_wp2_with fail
          first
            | exact ⟨⟨k + 1, by go_num, by rw [HP.out], by omega⟩, by simp [intOf]; omega⟩
            | (go_round
               case rel => exact ⟨k + 1, by go_num, by rw [HP.out], by omega⟩
               case measure => simp [intOf]; omega)
        · have hkn : k = n := by omega
          subst hkn
          generalize hx : (2 : Int) ^ k = x at hp1 hp2 ⊢
          have HX := Lib.hid hx
          clear hx hp3
          go_wp2_with fail
          go_ret
          exact ⟨ret_int HX.out.symm, rfl⟩

set_option maxRecDepth 1000000 in
theorem rsize_any (h i : Int) (w : World) (hi : -9223372036854775808 ≤ i ∧ i ≤ 9223372036854775807) :
    Calls Tryd.prog 15 #[.int .i64 h, .int .i64 i] w fun e w' => e = .returned (.int .i64 (siz h i)) ∧ Below w.heap.size w w' := by
  have C := Lib.hid (fun W => rcount_any h W)
  have CI := Lib.hid (fun W => refInt_any i W hi.1 hi.2)
  have hl := Wm.encI_len i hi.1 hi.2
  have hb := cnt_bd h
  have HP := Lib.hid (cnt_pos h)
  by_cases h0 : i < 0
  · rw [siz_out (by omega)]
    clear HP CI
    go_enter Tryd.func15, Tryd.ntmps15
    go_wp2_with fail
    go_ret
    exact ⟨rfl, Below.refl _ _⟩
  · by_cases h6 : i < cnt h
    · rw [siz_in ⟨by omega, h6⟩]
      have h2 := HP.out.1 (by omega)
      have h3 := h2.1
      have h4 := h2.2
      clear h2 HP
      generalize (Wm.encI i) = E at *
      generalize cnt h = c at *
      go_enter Tryd.func15, Tryd.ntmps15
      go_wp2_with fail
      refine (C.out _).mono ?_
      rintro e w1 ⟨rfl, rfl⟩
      clear C
      go_wp2_with fail
      refine (CI.out _).mono ?_
      rintro e w2 ⟨v, rfl, ho, hb⟩
      obtain ⟨A1, c1, rfl, _, _, hli⟩ := own_shape ho
      have HB := Lib.hid hb
      clear ho hb hli
      go_wp2_with fail
      go_ret
      exact ⟨ret_int (by omega), HB.out⟩
    · rw [siz_out (by omega)]
      clear HP CI
      generalize cnt h = c at *
      go_enter Tryd.func15, Tryd.ntmps15
      go_wp2_with fail
      refine (C.out _).mono ?_
      rintro e w1 ⟨rfl, rfl⟩
      go_wp2_with fail
      go_ret
      exact ⟨rfl, Below.refl _ _⟩

end Go.Proofs.YtdbdlhgkhnenfaaDoor
