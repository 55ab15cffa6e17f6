/-
  Runs of codes out of cubes. No program is mentioned here.
-/
import Derived.Test.YtmjjkloeipoefaaMo8
namespace Go.Proofs.Ytmjjkloeipoefaa.Mo
/-- one more run: it lengthens the last one, or stands behind it -/
def mrg (rs : List (Int × Int)) (f t : Int) : List (Int × Int) :=
  match rs.getLast? with
  | some p => if p.2 + 1 = f then rs.dropLast ++ [(p.1, t)] else rs ++ [(f, t)]
  | none => [(f, t)]
theorem mrg_nil (f t : Int) : mrg [] f t = [(f, t)] := rfl
theorem mrg_yes {pre : List (Int × Int)} {a b f t : Int} (h : b + 1 = f) : mrg (pre ++ [(a, b)]) f t = pre ++ [(a, t)] := by
  unfold mrg
  rw [List.getLast?_concat]
  simp only [h, if_true, List.dropLast_concat]
theorem mrg_no {pre : List (Int × Int)} {a b f t : Int} (h : ¬ b + 1 = f) : mrg (pre ++ [(a, b)]) f t = pre ++ [(a, b)] ++ [(f, t)] := by
  unfold mrg
  rw [List.getLast?_concat]
  simp only [h, if_false]
theorem list_cases (l : List (Int × Int)) : l = [] ∨ ∃ pre a b, l = pre ++ [(a, b)] := by
  rcases List.eq_nil_or_concat l with h | ⟨pre, ⟨a, b⟩, h⟩
  · exact .inl h
  · exact .inr ⟨pre, a, b, by simpa using h⟩
/-- the codes of a cube -/
def cf (c : Cb) : Int := enc c.1 c.2.1 c.2.2.1
def ct (c : Cb) : Int := enc c.1 c.2.1 c.2.2.1 + pw (3 * c.2.2.2.toNat) - 1
def runsF (cl : List Cb) : List (Int × Int) := cl.foldl (fun rs c => mrg rs (cf c) (ct c)) []
theorem runsF_succ {cl : List Cb} {k : Nat} {c : Cb} (h : cl[k]? = some c) : runsF (cl.take (k + 1)) = mrg (runsF (cl.take k)) (cf c) (ct c) := by
  unfold runsF
  have hk := (List.getElem?_eq_some_iff.1 h)
  obtain ⟨hlt, he⟩ := hk
  rw [List.take_succ_eq_append_getElem hlt, List.foldl_append, he]; rfl
theorem mrg_len (rs : List (Int × Int)) (f t : Int) : (mrg rs f t).length ≤ rs.length + 1 := by
  rcases list_cases rs with rfl | ⟨pre, a, b, rfl⟩
  · simp [mrg]
  · by_cases h : b + 1 = f
    · rw [mrg_yes h]; simp
    · rw [mrg_no h]; simp
theorem runsF_len (cl : List Cb) : ∀ k, k ≤ cl.length → (runsF (cl.take k)).length ≤ k
  | 0, _ => by simp [runsF]
  | k + 1, h => by
    rw [runsF_succ (List.getElem?_eq_getElem (show k < cl.length by omega))]
    have h1 := mrg_len (runsF (cl.take k)) (cf cl[k]) (ct cl[k])
    have h2 := runsF_len cl k (by omega)
    omega
def runsA (b1 b2 b3 b4 b5 b6 : Int) : List (Int × Int) := runsF (cubesA b1 b2 b3 b4 b5 b6)
/-- a cube of the list sits in the world -/
def okC (c : Cb) : Prop := ∃ lv : Nat, c.2.2.2 = (lv : Int) ∧ sits c.1 c.2.1 c.2.2.1 lv
theorem ffl_mem {α : Type} {g : Nat → List α} {a : α} : ∀ {k o : Nat}, a ∈ ffl g k o → ∃ i, o ≤ i ∧ i < o + k ∧ a ∈ g i
  | 0, o, h => by simp [ffl] at h
  | k + 1, o, h => by
    rw [ffl, List.mem_append] at h
    rcases h with h | h
    · exact ⟨o, by omega, by omega, h⟩
    · obtain ⟨i, h1, h2, h3⟩ := ffl_mem h
      exact ⟨i, by omega, by omega, h3⟩
theorem cub_ok {b1 b2 b3 b4 b5 b6 : Int} : ∀ (l : Nat) (x y z : Int), sits x y z l → ∀ c ∈ cub b1 b2 b3 b4 b5 b6 l x y z, okC c
  | 0, x, y, z, hs, c, hc => by
    rw [cub] at hc
    unfold stepC at hc
    cases hm : meets b1 b2 b3 b4 b5 b6 x y z 0 <;> cases hw : within b1 b2 b3 b4 b5 b6 x y z 0 <;> rw [hm, hw] at hc <;> simp at hc
    subst hc
    exact ⟨0, rfl, hs⟩
  | l + 1, x, y, z, hs, c, hc => by
    rw [cub] at hc
    unfold stepC at hc
    cases hm : meets b1 b2 b3 b4 b5 b6 x y z (l + 1) <;> cases hw : within b1 b2 b3 b4 b5 b6 x y z (l + 1) <;> rw [hm, hw] at hc
    · simp at hc
    · simp at hc
    · simp only [cond_true, cond_false] at hc
      obtain ⟨i, _, _, h3⟩ := ffl_mem hc
      exact cub_ok l _ _ _ (sits_child hs i) c h3
    · simp only [cond_true, List.mem_singleton] at hc
      subst hc
      exact ⟨l + 1, rfl, hs⟩
theorem mrg_bd {rs : List (Int × Int)} {f t : Int} (h : ∀ r ∈ rs, -1 ≤ r.2 ∧ r.2 ≤ 8796093022208) (ht : -1 ≤ t ∧ t ≤ 8796093022208) : ∀ r ∈ mrg rs f t, -1 ≤ r.2 ∧ r.2 ≤ 8796093022208 := by
  intro r hr
  rcases list_cases rs with rfl | ⟨pre, a, b, rfl⟩
  · rw [mrg_nil, List.mem_singleton] at hr; subst hr; exact ht
  · by_cases hb : b + 1 = f
    · rw [mrg_yes hb, List.mem_append, List.mem_singleton] at hr
      rcases hr with hr | hr
      · exact h r (List.mem_append_left _ hr)
      · subst hr; exact ht
    · rw [mrg_no hb, List.mem_append, List.mem_singleton] at hr
      rcases hr with hr | hr
      · exact h r hr
      · subst hr; exact ht
theorem ct_bd {c : Cb} (h : okC c) : -1 ≤ ct c ∧ ct c ≤ 8796093022208 := by
  obtain ⟨lv, h1, h2⟩ := h
  unfold ct
  rw [h1, Int.toNat_natCast]
  have e := enc_bd c.1 c.2.1 c.2.2.1
  have p1 := pw_pos (3 * lv)
  have p2 := pw42 h2.2.2.2
  omega
theorem runsF_bd : ∀ (cl : List Cb) (rs : List (Int × Int)), (∀ c ∈ cl, okC c) → (∀ r ∈ rs, -1 ≤ r.2 ∧ r.2 ≤ 8796093022208) → ∀ r ∈ cl.foldl (fun rs c => mrg rs (cf c) (ct c)) rs, -1 ≤ r.2 ∧ r.2 ≤ 8796093022208
  | [], rs, _, h => by simpa using h
  | c :: cl, rs, hc, h => runsF_bd cl _ (fun d hd => hc d (List.mem_cons_of_mem _ hd)) (mrg_bd h (ct_bd (hc c (List.mem_cons_self ..))))
theorem runsF_take_bd {cl : List Cb} (hc : ∀ c ∈ cl, okC c) (k : Nat) : ∀ r ∈ runsF (cl.take k), -1 ≤ r.2 ∧ r.2 ≤ 8796093022208 :=
  runsF_bd (cl.take k) [] (fun c h => hc c (List.mem_of_mem_take h)) (fun r h => by simp at h)
theorem cubes_cases (b1 b2 b3 b4 b5 b6 : Int) : cubesE b1 b2 b3 b4 b5 b6 = 0 ∨ (cubesE b1 b2 b3 b4 b5 b6 = 2 ∧ cubesA b1 b2 b3 b4 b5 b6 = []) := by
  unfold cubesE cubesA
  split
  · exact .inl rfl
  · exact .inr ⟨rfl, rfl⟩
theorem sits14 : sits 0 0 0 14 := by unfold sits; have : pw 14 = 16384 := rfl; omega
theorem cubesA_ok {b1 b2 b3 b4 b5 b6 : Int} {c : Cb} (h : c ∈ cubesA b1 b2 b3 b4 b5 b6) : okC c := by
  unfold cubesA at h
  split at h
  · exact cub_ok 14 0 0 0 sits14 c h
  · simp at h
end Go.Proofs.Ytmjjkloeipoefaa.Mo
