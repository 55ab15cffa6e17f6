/-
  What comes in, as lists: slices of digests; and the number of values and letters of a list of strings.
-/
import Derived.Test.YtchlomkohjjpmaaOpen
namespace Go.Proofs.Ytchlomkohjjpmaa
open Go.ChangeShapes Go.WideShapes Go.ChangeAt Go.RowKit Go.Deep

theorem add_twice (a : Addr) (i j : Nat) : (a.add i).add j = a.add (i + j) := by
  unfold Addr.add
  by_cases hi : i = 0 <;> by_cases hj : j = 0 <;> simp [hi, hj, Nat.add_assoc]

theorem list_choose {α : Type} (p : Nat → α → Prop) : ∀ n : Nat, (∀ i, i < n → ∃ x, p i x) → ∃ l : List α, l.length = n ∧ ∀ i x, l[i]? = some x → p i x
  | 0, _ => ⟨[], rfl, by simp⟩
  | n + 1, h => by
    obtain ⟨l, hl, hp⟩ := list_choose p n (fun i hi => h i (by omega))
    obtain ⟨x, hx⟩ := h n (by omega)
    refine ⟨l ++ [x], by simp [hl], fun i y hy => ?_⟩
    rcases Nat.lt_or_ge i l.length with hi | hi
    · rw [List.getElem?_append_left hi] at hy
      exact hp i y hy
    · rw [List.getElem?_append_right hi] at hy
      have : i - l.length = 0 := by
        have := (List.getElem?_eq_some_iff.1 hy).1
        simp at this; omega
      rw [this] at hy
      simp at hy
      subst hy
      have : i = n := by omega
      subst this
      exact hx

section
variable {H : Type} {enc : TypeId × Value → H} {P : Program} {W : World} {a : Option Addr} {len cap : Nat} {T E U : TypeId} {d : DataW H} {ps : List MemPlace}

theorem opened_digs (hd : DataW.Trod enc P W 0 (fun _ => true) true T (.slice a len cap) d ps) (hT : P.underlying T = some (.slice E)) (hE : P.underlying E = some (.array 16 U)) (hU : P.underlying U = some (.int .u8)) (hc : P.cellsOf E = 16) (hcu : P.cellsOf U = 1) (hby : P.bytesOf E = 16)
    (hz : ∀ elems spare, d = .slice elems spare → (elems.length + spare.length) * P.bytesOf E ≤ reachBytes) :
    ∃ l : List (List UInt8), l.length = len ∧ Lies W a (dcells l) ∧ Is16 l ∧ len ≤ cap ∧ cap * 16 ≤ 140737488351232 := by
  obtain ⟨fuel, hf⟩ := hd
  rcases open_slice hT hf with ⟨hcs, _⟩ | ⟨x, l, c, m, n, D, Pl, hcs, _, hl, hm, hmm, hx, hel⟩
  · simp [Value.cells] at hcs
    obtain ⟨rfl, rfl, rfl⟩ := hcs
    exact ⟨[], rfl, Lies.nil _ _, fun _ h => by simp at h, Nat.le_refl _, by omega⟩
  · simp [Value.cells] at hcs
    obtain ⟨rfl, rfl, rfl⟩ := hcs
    simp only [if_true] at hmm
    subst hmm
    have h3 := hz _ _ (Prod.mk.inj hx).1
    simp only [List.length_map, List.length_range, hby, reachBytes] at h3
    have each : ∀ i, i < len → ∃ ds : List UInt8, ds.length = 16 ∧ ∀ j u, (ds.map bv)[j]? = some u → W.cell? (x.add (i * 16 + j)) = some u := by
      intro i hi
      obtain ⟨cs, h1, h2⟩ := hel i (by omega)
      rw [hc] at h1
      obtain ⟨xs, q, rfl, _, hcl, hxl, hxe⟩ := DataW.trod_array hE h2
      rw [hc] at hcl
      have hbyte : ∀ j, j < 16 → ∃ b : UInt8, cs[j]? = some (bv b) := by
        intro j hj
        have h4 := hxe j hj
        rw [hcu, Nat.mul_one] at h4
        have hjx : j < xs.length := by omega
        rw [List.getElem?_eq_getElem hjx] at h4
        obtain ⟨z, hz1, _, hz3⟩ := DataW.trod_int hU h4
        have hjc : j < cs.length := by omega
        have h5 : (cs.drop j).take 1 = [cs[j]] := by rw [List.drop_eq_getElem_cons hjc]; rfl
        rw [h5] at hz1
        have hz4 := u8_wf hz3
        refine ⟨UInt8.ofNat z.toNat, ?_⟩
        rw [List.getElem?_eq_getElem hjc]
        have h6 : cs[j] = .int .u8 z := by simpa using hz1
        rw [h6]
        unfold bv
        have h8 : (UInt8.ofNat z.toNat).toNat = z.toNat := by simp [Nat.mod_eq_of_lt (show z.toNat < 256 by omega)]
        rw [h8]
        congr 2
        omega
      obtain ⟨ds, hdl, hdp⟩ := list_choose (fun j b => cs[j]? = some (bv b)) 16 hbyte
      refine ⟨ds, hdl, fun j u hu => ?_⟩
      rw [List.getElem?_map] at hu
      have hj : j < 16 := by
        rcases Nat.lt_or_ge j ds.length with h | h
        · omega
        · rw [List.getElem?_eq_none h] at hu; cases hu
      rw [List.getElem?_eq_getElem (show j < ds.length by omega)] at hu
      simp only [Option.map_some, Option.some.injEq] at hu
      have h7 := hdp j _ (List.getElem?_eq_getElem (show j < ds.length by omega))
      rw [← add_twice, ← hu, ← h7]
      have := (World.cells?_some h1).2.2 j (by omega)
      rw [this]
    obtain ⟨ls, hll, hlp⟩ := list_choose _ len each
    have h16 : Is16 ls := by
      intro e he
      obtain ⟨i, hi⟩ := List.getElem?_of_mem he
      exact (hlp i e hi).1
    refine ⟨ls, hll, ?_, h16, hl, by omega⟩
    have hfl := flatten_len h16
    refine lies_of_cells (len := len * 16) (by unfold dcells; rw [List.length_map, hfl, hll]) ?_
    intro t u hu
    have ht : t < ls.length * 16 := by
      have := (List.getElem?_eq_some_iff.1 hu).1
      unfold dcells at this
      rw [List.length_map, hfl] at this
      exact this
    have hi : t / 16 < ls.length := by omega
    have hp := flatten_part h16 (List.getElem?_eq_getElem hi)
    have hq := (hlp (t / 16) _ (List.getElem?_eq_getElem hi)).2 (t % 16) u (by
      unfold dcells at hu
      rw [← hp, List.map_take, List.map_drop, List.getElem?_take, if_pos (by omega), List.getElem?_drop]
      rw [show t / 16 * 16 + t % 16 = t from by omega]
      exact hu)
    rw [show t / 16 * 16 + t % 16 = t from by omega] at hq
    exact hq
end

/-- how many strings and letters a list of strings has -/
def total : List (List UInt8) → Nat
  | [] => 0
  | s :: r => s.length + 1 + total r
theorem total_mem {l : List (List UInt8)} {s : List UInt8} (h : s ∈ l) : s.length + 1 ≤ total l := by
  induction l with
  | nil => cases h
  | cons x r ih =>
    rcases List.mem_cons.1 h with rfl | h
    · simp only [total]; omega
    · have := ih h; simp only [total]; omega
theorem total_len (l : List (List UInt8)) : l.length ≤ total l := by
  induction l with
  | nil => simp
  | cons x r ih => simp only [total, List.length_cons]; omega
theorem encSs_total (l : List (List UInt8)) (h : total l ≤ 1099511627776) : (Wm.encSs l).length ≤ 10 + 11 * total l := by
  unfold Wm.encSs
  rw [List.length_append]
  have h0 := total_len l
  have h1 := Wm.encI_len (l.length : Int) (by omega) (by omega)
  have h2 : (l.flatMap Wm.encS).length ≤ 11 * total l := by
    clear h1 h0
    induction l with
    | nil => simp [total]
    | cons x r ih =>
      simp only [total] at h
      have h3 := Wm.encI_len (x.length : Int) (by omega) (by omega)
      have h4 := ih (by omega)
      rw [List.flatMap_cons, List.length_append]
      have h5 : (Wm.encS x).length = (Wm.encI (x.length : Int)).length + x.length := by unfold Wm.encS; rw [List.length_append]
      simp only [total]; omega
  omega
theorem bulk_strs {H : Type} (l : List (List UInt8)) : Rows.uptoBulkAll (l.map fun s => DataW.lit (H := H) (.string s)) = total l := by
  induction l with
  | nil => rfl
  | cons x r ih => rw [List.map_cons, Rows.uptoBulkAll, ih]; simp only [Rows.uptoBulk, total]

end Go.Proofs.Ytchlomkohjjpmaa
