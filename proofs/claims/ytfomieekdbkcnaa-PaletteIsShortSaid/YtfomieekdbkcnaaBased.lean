/-
  Laws: append onto a slice whose capacity is its length; rows of bytes and integers that came in.
-/
import Derived.Test.YtfomieekdbkcnaaBasec
namespace Go.Proofs.Ytfomieekdbkcnaa
open Go.RowKit

theorem run_append_full {P : Program} (w : World) (t tx ty e : TypeId) (i : TypeInfo) (z : Value) (bytes : Nat) (ht : P.underlying t = some (.slice e)) (hi : P.info? e = some i) (hz : i.zero = some z)
    (hsize : i.size = 1) (hby : i.bytes = bytes) (A : Option Addr) (n : Nat) (xs : List Value) (hn : xs.length = n) (hA : A = none → n = 0) (hl : Lies w A xs)
    (x : Value) (m : Nat) (news : List Value) (hs : Src P 1 tx x m news w) (h63 : n + m ≤ maxLen) (hbytes : (n + m) * bytes ≤ 140737488355328) :
    ∃ A' c' w', (Builtin.append_ #[t, tx] ty #[.slice A n n, x]).run P w = .ok (.slice A' (n + m) c') w' ∧ n + m ≤ c' ∧ Lies w' A' (xs ++ news) ∧ (A' = none → n + m = 0) ∧ Below w.heap.size w w' := by
  have hnl := hs.newsLen
  rw [Nat.mul_one] at hnl
  by_cases hm : m = 0
  · subst hm
    have hn0 : news = [] := List.eq_nil_of_length_eq_zero hnl
    subst hn0
    exact ⟨A, n, w, run_append_nothing w t tx ty e i ht hi A n n (Nat.le_refl _) x (by rw [hsize]; exact hs), Nat.le_refl _, by simpa using hl, hA, Below.refl _ _⟩
  · have hold : (Builtin.firstCells i.size n (.slice A n n)).run P w.drew = .ok xs.toArray w.drew := by
      rw [hsize]
      cases A with
      | none =>
        have := hA rfl
        subst this
        have hx0 : xs = [] := List.eq_nil_of_length_eq_zero hn
        subst hx0
        exact run_firstCells_none w.drew 1 0 0 0
      | some a =>
        refine run_firstCells_some (P := P) w.drew 1 n a n n xs (by omega) ?_
        intro j u hu
        rcases hl with h | ⟨b, o, h, hc⟩
        · subst h; simp at hu
        · injection h with h
          subst h
          rw [Addr.add_lit]
          exact hc j u hu
    have hr := run_append_grow_src (P := P) w t tx ty e i z ht hi hz A n n xs hold x m news (by rw [hsize]; exact hs) (by omega) (by simp only [maxLen] at h63; omega) (by rw [hby]; exact growslice_fits (by omega) hbytes)
    refine ⟨_, _, _, hr, grownCap_ge w (n + m) n e, ?_, (fun h => by cases h), ⟨rfl, rfl, rfl, by simp, fun k hk => Below.heap_alloc w.drew _ k hk⟩⟩
    refine .inr ⟨_, _, rfl, fun j u hu => ?_⟩
    have hx : ∀ ob : Obj, (w.drew.alloc ob).heap[w.heap.size]? = some ob := fun ob => heap_alloc_last w.drew ob
    rw [cell_of_row _ _ _ _ _ _ (hx _)]
    have hj : j < (xs ++ news).toArray.size := by
      have := (List.getElem?_eq_some_iff.1 hu).1
      simpa using this
    rw [Nat.zero_add, Array.getElem?_append_left hj]
    simpa using hu

theorem wpList_append_full {P : Program} (w : World) {ops : Array Oper} {rest : List Oper} {o : Oper} {a : Act} {Q : Exit → Act → World → Prop} (hgd : o.guard = none) (s x : Operand) (t tx : TypeId)
    (ho : o.op = .call { callee := .builtin .append, args := #[s, x], argTypes := #[t, tx] })
    (e : TypeId) (i : TypeInfo) (z : Value) (bytes : Nat) (ht : P.underlying t = some (.slice e)) (hi : P.info? e = some i) (hz : i.zero = some z)
    (hsize : i.size = 1) (hby : i.bytes = bytes) (A : Option Addr) (n : Nat) (xs : List Value) (hn : xs.length = n) (hA : A = none → n = 0) (hl : Lies w A xs)
    (xv : Value) (m : Nat) (news : List Value) (hs : Src P 1 tx xv m news w) (hsv : a.eval s = .slice A n n) (hxv : a.eval x = xv)
    (h63 : n + m ≤ maxLen) (hbytes : (n + m) * bytes ≤ 140737488355328)
    (h : ∀ A' c' w', n + m ≤ c' → Lies w' A' (xs ++ news) → (A' = none → n + m = 0) → Below w.heap.size w w' → wpList P ops Q rest (a.put o.dst (.slice A' (n + m) c')) w') : wpList P ops Q (o :: rest) a w := by
  obtain ⟨A', c', w', hrun, h1, h2, h3, h4⟩ := run_append_full (P := P) w t tx o.type e i z bytes ht hi hz hsize hby A n xs hn hA hl xv m news hs h63 hbytes
  refine wpList_plain hgd fun K hK => ?_
  unfold Oper.wp execOp
  simp only [ho, resolve, invoke, builtin, Sem.run_bind, Sem.run_pure, Result.andThen_ok, List.map_toArray, List.map_cons, List.map_nil, hsv, hxv, hrun]
  exact hK _ _ (h A' c' w' h1 h2 h3 h4)

/-- the cells of a slice of integers that came in, as a list -/
theorem lies_of_cells {w : World} {x : Addr} {len : Nat} {us : List Value} (_hl : us.length = len) (hc : ∀ i u, us[i]? = some u → w.cell? (x.add i) = some u) : Lies w (some x) us := by
  by_cases h0 : us = []
  · exact .inl h0
  · obtain ⟨b, o, sp⟩ := x
    have hpos : 0 < us.length := List.length_pos_iff.2 h0
    have h1 := hc 0 us[0] (List.getElem?_eq_getElem hpos)
    have hsp : sp = none := by simpa [Addr.add] using World.cell?_spot h1
    subst hsp
    exact .inr ⟨b, o, rfl, fun j u hu => by have := hc j u hu; rwa [Addr.add_lit] at this⟩

theorem u8_wf {z : Int} (h : (Lit.int .u8 z).wf = true) : 0 ≤ z ∧ z < 256 := by
  simp only [Lit.wf, Bool.and_eq_true, decide_eq_true_eq] at h
  have h1 : IntKind.u8.min = 0 := rfl
  have h2 : IntKind.u8.max = 255 := rfl
  omega
theorem i64_wf {z : Int} (h : (Lit.int .i64 z).wf = true) : -9223372036854775808 ≤ z ∧ z ≤ 9223372036854775807 := by
  simp only [Lit.wf, Bool.and_eq_true, decide_eq_true_eq] at h
  have h1 : IntKind.i64.min = -9223372036854775808 := rfl
  have h2 : IntKind.i64.max = 9223372036854775807 := rfl
  omega

theorem bytes_row {w : World} {x : Addr} {len : Nat} {zs : List Int} (hlen : len ≤ zs.length) (hc : ∀ i, i < zs.length → w.cell? (x.add i) = some (.int .u8 (zs.getD i 0))) (hw : ∀ n ∈ zs, (Lit.int .u8 n).wf = true) :
    ∃ l : List UInt8, l.length = len ∧ Lies w (some x) (l.map bv) := by
  refine ⟨(zs.take len).map fun z => UInt8.ofNat z.toNat, by rw [List.length_map, List.length_take]; omega, ?_⟩
  refine lies_of_cells (len := len) (by rw [List.length_map, List.length_map, List.length_take]; omega) ?_
  intro i u hu
  rw [List.getElem?_map, List.getElem?_map, List.getElem?_take] at hu
  split at hu
  · have hi : i < zs.length := by omega
    rw [List.getElem?_eq_getElem hi] at hu
    simp only [Option.map_some, Option.some.injEq] at hu
    rw [hc i hi, ← hu, List.getD_eq_getElem?_getD, List.getElem?_eq_getElem hi]
    have := u8_wf (hw zs[i] (List.getElem_mem hi))
    unfold bv
    simp only [Option.getD_some, Option.some.injEq, Value.int.injEq, true_and]
    have h8 : (UInt8.ofNat zs[i].toNat).toNat = zs[i].toNat := by simp [Nat.mod_eq_of_lt (show zs[i].toNat < 256 by omega)]
    rw [h8]
    omega
  · cases hu

theorem ints_row {w : World} {x : Addr} {len : Nat} {zs : List Int} (hlen : len ≤ zs.length) (hc : ∀ i, i < zs.length → w.cell? (x.add i) = some (.int .i64 (zs.getD i 0))) (hw : ∀ n ∈ zs, (Lit.int .i64 n).wf = true) :
    ∃ l : List Int, l.length = len ∧ Lies w (some x) (l.map fun n => .int .i64 n) ∧ ∀ n ∈ l, -9223372036854775808 ≤ n ∧ n ≤ 9223372036854775807 := by
  refine ⟨zs.take len, by rw [List.length_take]; omega, ?_, fun n hn => i64_wf (hw n (List.mem_of_mem_take hn))⟩
  refine lies_of_cells (len := len) (by rw [List.length_map, List.length_take]; omega) ?_
  intro i u hu
  rw [List.getElem?_map, List.getElem?_take] at hu
  split at hu
  · have hi : i < zs.length := by omega
    rw [List.getElem?_eq_getElem hi] at hu
    simp only [Option.map_some, Option.some.injEq] at hu
    rw [hc i hi, ← hu, List.getD_eq_getElem?_getD, List.getElem?_eq_getElem hi]; rfl
  · cases hu

end Go.Proofs.Ytfomieekdbkcnaa
