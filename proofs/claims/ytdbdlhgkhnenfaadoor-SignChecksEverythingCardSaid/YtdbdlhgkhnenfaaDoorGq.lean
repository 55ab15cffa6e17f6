/-
  An array by value, indexed: of bytes, of digests.
-/
import Derived.Test.YtdbdlhgkhnenfaaDoorGp
import Derived.Test.YtdbdlhgkhnenfaaDoorGg
namespace Go.Proofs.YtdbdlhgkhnenfaaDoor
open Go.RowKit

theorem run_index_byte {P : Program} (w : World) (t e : TypeId) (N : Nat) (hu : P.underlying t = some (.array N e)) (he : P.underlying e = some (.int .u8)) (hs : (P.info? e).map (·.size) = some 1)
    (l : List UInt8) (hl : l.length = N) (k : Nat) (hk : k < N) :
    (Instr.index t (.agg (l.map bv).toArray) (.int .i64 (k : Int))).run P w = .ok (bv (l.getD k 0)) w := by
  cases hq : P.info? e with
  | none => simp [hq] at hs
  | some i =>
    have hsz : i.size = 1 := by simpa [hq] using hs
    have hg := List.getElem?_eq_getElem (show k < l.length by omega)
    simp [Instr.index, run_underlying hu, run_underlying he, asIntOf, hk, sizeOf, typeInfo, hq, hsz, go_sem, part, isAgg, hg]

theorem run_index_dig {P : Program} (w : World) (t e u : TypeId) (N : Nat) (hu : P.underlying t = some (.array N e)) (he : P.underlying e = some (.array 16 u)) (hs : (P.info? e).map (·.size) = some 16)
    (l : List (List UInt8)) (hl : l.length = N) (h16 : Is16 l) (k : Nat) (hk : k < N) :
    (Instr.index t (.agg (dcells l).toArray) (.int .i64 (k : Int))).run P w = .ok (.agg ((l.getD k []).map bv).toArray) w := by
  have hx : (((dcells l).drop (k * 16)).take 16) = (l.getD k []).map bv := by
    have hf := flatten_part h16 (k := k) (d := l.getD k []) (by rw [List.getD_eq_getElem?_getD, List.getElem?_eq_getElem (by omega)]; rfl)
    rw [← hf]
    unfold dcells
    rw [List.map_take, List.map_drop]
  cases hq : P.info? e with
  | none => simp [hq] at hs
  | some i =>
    have hsz : i.size = 16 := by simpa [hq] using hs
    rw [List.getD_eq_getElem?_getD] at hx ⊢
    simp [Instr.index, run_underlying hu, run_underlying he, asIntOf, hk, sizeOf, typeInfo, hq, hsz, go_sem, part, isAgg, hx]

theorem run_slice_arr_full {P : Program} (w : World) (t e : TypeId) (N s : Nat) (hu : P.underlying t = some (.array N e)) (hi : (P.info? e).map (·.size) = some s) (b o : Nat) (h : 0 < N) :
    (Instr.sliceAt t (.pointer (some ⟨b, o, none⟩)) none none none).run P w = .ok (.slice (some ⟨b, o, none⟩) N N) w := by
  have h1 : P.arrayLen t = N := by simp [Program.arrayLen, hu]
  have h2 : P.elem t = e := by simp [Program.elem, hu]
  rw [run_sliceAt_array_all w t ⟨b, o, none⟩ (by rw [h1, h2]; exact hu)]
  cases hq : P.info? e with
  | none => simp [hq] at hi
  | some i =>
    have hs : i.size = s := by simpa [hq] using hi
    have hne : ¬ N = 0 := by omega
    simp [sizeOf, typeInfo, h1, h2, hq, hs, slicedAt, hne, Addr.add_lit]

/-- one digest of a list of digests -/
theorem Lies.digest {w : World} {b o : Nat} {l : List (List UInt8)} (h : Lies w (some ⟨b, o, none⟩) (dcells l)) (h16 : Is16 l) {k : Nat} (hk : k < l.length) : w.rangeAt b (o + k * 16) ((l.getD k []).map bv) := by
  have hf := flatten_part h16 (k := k) (d := l.getD k []) (by rw [List.getD_eq_getElem?_getD, List.getElem?_eq_getElem hk]; rfl)
  have h1 := (h.drop (k * 16)).take 16
  have e : ((dcells l).drop (k * 16)).take 16 = (l.getD k []).map bv := by
    rw [← hf]; unfold dcells; rw [List.map_take, List.map_drop]
  rw [e] at h1
  exact h1.range

end Go.Proofs.YtdbdlhgkhnenfaaDoor
/-
  An append of one array within a region that draws; a slice of one array just made.
-/
namespace Go.Proofs.YtdbdlhgkhnenfaaDoor
open Go.RowKit

theorem run_append_wide {P : Program} (w : World) {o : Oper} {a : Act} (s x : Operand) (t : TypeId)
    (ho : o.op = .call { callee := .builtin .append, args := #[s, x], argTypes := #[t, t] })
    (B : Nat) (e : TypeId) (i : TypeInfo) (z : Value) (size bytes : Nat) (ht : P.underlying t = some (.slice e)) (hi : P.info? e = some i) (hz : i.zero = some z)
    (hsize : i.size = size) (hby : i.bytes = bytes) (hzs : z.cells.size = size)
    (v : Value) (n : Nat) (xs : List Value) (hown : w.ownsRow B e size v n xs) (cs : List Value) (hcs : cs.length = size) (h1 : ∀ u ∈ cs, u.oneCell' = true) (g : Nat) (hl : Lies w (some ⟨g, 0, none⟩) cs)
    (hsv : a.eval s = v) (hxv : a.eval x = .slice (some ⟨g, 0, none⟩) 1 1)
    (h63 : n + 1 ≤ maxLen) (hbytes : (n + 1) * bytes ≤ 140737488355328) (hB : B ≤ w.heap.size) :
    ∃ v' w', (execOp a.eval o).run P w = .ok (.value v') w' ∧ w'.ownsRow B e size v' (n + 1) (xs ++ cs) ∧ Below B w w' := by
  obtain ⟨v', w', hrun, h2, h3⟩ := run_append_onto (P := P) w B t t o.type e i z size bytes ht hi hz hsize hby hzs v n xs hown _ 1 cs (Src.of_lies w ht 1 (by omega) (fun h => by cases h) hl h1) h63 hbytes hB
  refine ⟨v', w', ?_, h2, below_of_grown h3 hB hown⟩
  unfold execOp
  simp only [ho, resolve, invoke, builtin, Sem.run_bind, Sem.run_pure, Result.andThen_ok, List.map_toArray, List.map_cons, List.map_nil, hsv, hxv, hrun]

theorem wpK_append {P : Program} {ops : Array Oper} {md : Region.Mode} {Q : Exit → Act → World → Prop} {j : Nat} (d : Option Tmp) {oi : Oper} {fuel : Nat} {listed : Array Bool} {a : Act} {w : World} (hj : ops[j]? = some oi) (hd : oi.dst = d) (hr : Region.ready md ops listed = [j])
    (hw : Region.wanted oi (yielded ops a.tmps) = true) (hst : stB ops j = true) (s x : Operand) (t : TypeId)
    (ho : oi.op = .call { callee := .builtin .append, args := #[s, x], argTypes := #[t, t] })
    (B : Nat) (e : TypeId) (i : TypeInfo) (z : Value) (size bytes : Nat) (ht : P.underlying t = some (.slice e)) (hi : P.info? e = some i) (hz : i.zero = some z)
    (hsize : i.size = size) (hby : i.bytes = bytes) (hzs : z.cells.size = size)
    (v : Value) (n : Nat) (xs : List Value) (cs : List Value) (hcs : cs.length = size) (h1 : ∀ u ∈ cs, u.oneCell' = true) (g : Nat)
    (hsv : a.eval s = v) (hxv : a.eval x = .slice (some ⟨g, 0, none⟩) 1 1)
    (h63 : n + 1 ≤ maxLen) (hbytes : (n + 1) * bytes ≤ 140737488355328) (hB : B ≤ w.heap.size)
    (hown : ∀ W, Gr w W → W.ownsRow B e size v n xs) (hl : ∀ W, Gr w W → Lies W (some ⟨g, 0, none⟩) cs)
    (h : ∀ W v' w', Gr w W → w'.ownsRow B e size v' (n + 1) (xs ++ cs) → Below B W w' → wpK P md ops Q fuel (listed.setIfInBounds j true) (a.put d v') w') :
    wpK P md ops Q (fuel + 1) listed a w := by
  refine wpK_app d hj hd hr hw hst fun W hg => ?_
  obtain ⟨v', w', h2, h3, h4⟩ := run_append_wide (P := P) W (o := oi) (a := a) s x t ho B e i z size bytes ht hi hz hsize hby hzs v n xs (hown W hg) cs hcs h1 g (hl W hg) hsv hxv h63 hbytes (Nat.le_trans hB hg.size)
  exact ⟨v', w', h2, h W v' w' hg h3 h4⟩

theorem fold16 (l : List UInt8) (hl : l.length = 16) {z : Array Value} (hz : z = z16) : ((l.map bv).zipIdx 0).foldl (fun a x => a.setIfInBounds x.2 x.1) z = (l.map bv).toArray := by
  subst hz
  exact (foldl_set_zip (l.map bv) 0 _ (by rw [List.length_map, hl]; rfl)).trans (by simp)
end Go.Proofs.YtdbdlhgkhnenfaaDoor
