/-
  Contracts of package sign and its specification: digests and byte strings.
-/
import Derived.Test.YtdbdlhgkhnenfaaDoorGm
import Derived.Test.YtdbdlhgkhnenfaaDoorGk
import Derived.Test.YtdbdlhgkhnenfaaDoorGc
import Derived.Test.YtdbdlhgkhnenfaaDoorGe
import Derived.Test.YtdbdlhgkhnenfaaDoorGn
namespace Go.Proofs.YtdbdlhgkhnenfaaDoor
open Go.RowKit

abbrev z16 : Array Value := #[Value.int .u8 0, Value.int .u8 0, Value.int .u8 0, Value.int .u8 0, Value.int .u8 0, Value.int .u8 0, Value.int .u8 0, Value.int .u8 0, Value.int .u8 0, Value.int .u8 0, Value.int .u8 0, Value.int .u8 0, Value.int .u8 0, Value.int .u8 0, Value.int .u8 0, Value.int .u8 0]

/-- what one asks of the cells of a digest -/
structure D16 (D : List Value) : Prop where
  len : D.length = 16
  one : ∀ x ∈ D, x.oneCell' = true
theorem D16.of {l : List UInt8} (h : l.length = 16) : D16 (l.map bv) := ⟨by rw [List.length_map, h], bvs_one l⟩
theorem D16.I {D : List Value} (h : D16 D) : (Tryd.prog.info? 23).map (·.size) = some D.length := by rw [h.len]; kernel_rfl
theorem D16.J {D : List Value} (h : D16 D) : (Tryd.prog.info? 23).map (·.size) = some D.toArray.size := by rw [List.size_toArray, h.len]; kernel_rfl
theorem D16.Z {D : List Value} (h : D16 D) : D.toArray.size = 16 := by rw [List.size_toArray, h.len]
theorem D16.O {D : List Value} (h : D16 D) : D.toArray.all (·.oneCell') = true := all_oneCell_toArray h.one
theorem z16_len : (fill16 []).length = 16 := fill16_len _ (by simp)

set_option maxRecDepth 1000000 in
theorem text_any (l : List UInt8) (w : World) (hl : l.length = 16) :
    Calls Tryd.prog 33 #[.agg (l.map bv).toArray] w fun e w' => e = .returned (.string (bstr l)) ∧ Below w.heap.size w w' := by
  have R0 := (Row.newl w (l.map bv) 23).lies
  have B0 := (Below.refl w.heap.size w).alloc (Nat.le_refl _) (.cells (l.map bv).toArray 23)
  have hsl := fun W : World => run_slice_arr_all (P := Tryd.prog) W 23 5 16 Tryd.underlying23 (by kernel_rfl) w.heap.size 0 (by omega)
  obtain ⟨u, hu⟩ : ∃ x, x = w.alloc (.cells (l.map bv).toArray 23) := ⟨_, rfl⟩
  rw [← hu] at R0 B0
  have HR := Lib.hid R0
  have HB := Lib.hid B0
  have HL := Lib.hid hl
  have HU := Lib.hid hu
  clear R0 B0 hl hu
  go_enter Tryd.func33, Tryd.ntmps33
  go_upto_region 1 with fail
  rw [← HU.out]
  go_wp2_with (with_reducible refine wpList_convert_str u rfl (.tmp 3) 43 9 5 rfl Tryd.underlying43 Tryd.underlying5 Tryd.underlying9 (some ⟨w.heap.size, 0, none⟩) 16 16 rfl l HL.out (fun h => by cases h) HR.out ?_)
  go_ret
  exact ⟨rfl, HB.out⟩

set_option maxRecDepth 1000000 in
set_option maxHeartbeats 400000 in
theorem digest_any (s : List UInt8) (w : World) (hs : 16 ≤ s.length) :
    Calls Tryd.prog 51 #[.string (bstr s)] w fun e w' => e = .returned (.agg ((s.take 16).map bv).toArray) ∧ Below w.heap.size w w' := by
  have hz : (bstr s).size = s.length := bstr_size s
  have htl : (s.take 16).length = 16 := by rw [List.length_take]; omega
  obtain ⟨D, hD⟩ : ∃ x, x = (s.take 16).map bv := ⟨_, rfl⟩
  have hd : D16 D := by rw [hD]; exact D16.of htl
  have HD := Lib.hid hd
  have HDE := Lib.hid hD
  obtain ⟨q1, q2, q3, q4⟩ := two_rows w z16 z16 23 23
  obtain ⟨u, hu⟩ : ∃ x, x = (w.alloc (.cells z16 23)).alloc (.cells z16 23) := ⟨_, rfl⟩
  rw [← hu] at q1 q2 q3
  have hcp := fun ty : TypeId => run_copy_str (P := Tryd.prog) u 43 9 ty 5 Tryd.underlying43 (by kernel_rfl) (w.heap.size + 1) 0 16 16 (bstr s) 16 (by omega) (q2.there 0 _ (by simp))
  have hsl := fun W : World => run_slice_arr_all (P := Tryd.prog) W 23 5 16 Tryd.underlying23 (by kernel_rfl) (w.heap.size + 1) 0 (by omega)
  have ed : ((bstr s).data.toList.take 16).map bv = D := by rw [hD]; rfl
  rw [ed] at hcp
  have r2 := q2.setCells 0 D (by rw [hd.len]; simp)
  rw [List.take_zero, List.nil_append, List.drop_of_length_le (by rw [hd.len]; simp), List.append_nil] at r2
  have r1 := q1.far (b := w.heap.size + 1) (by omega) 0 D
  have b1 := below_setCells (b := w.heap.size + 1) (by omega) D 0 w u q3
  obtain ⟨v, hv⟩ : ∃ x, x = u.setCells (w.heap.size + 1) 0 D := ⟨_, rfl⟩
  rw [← hv] at hcp r1 r2 b1
  have R2 := Lib.hid r2.range
  have B1 := Lib.hid b1
  have T1 := Lib.hid (r1.there 0 D.toArray.size (by rw [hd.Z]; simp))
  have HU := Lib.hid hu
  clear q1 q2 q3 q4 r1 r2 b1 hv hu ed hd hD htl hs
  go_enter Tryd.func51, Tryd.ntmps51
  go_upto_region 2 with fail
  rw [← HU.out]
  clear HU
  go_wp2_with (first | (with_reducible refine wpList_load_mid rfl 23 (.tmp 3) rfl (w.heap.size + 1) 0 rfl D _ R2.out Tryd.underlying23 rfl HD.out.I ?_) | (with_reducible refine wpList_store_mid rfl 23 (.tmp 2) (.tmp 7) rfl w.heap.size 0 D.toArray rfl rfl T1.out HD.out.J HD.out.O ?_))
  have HRR := Lib.hid (World.rangeAt_setCells_same v w.heap.size 0 D.toArray.toList (by simpa using T1.out))
  refine bodyPost_ret (results_cell_mid rfl _ _ _ w.heap.size 0 D _ rfl HRR.out Tryd.underlying23 rfl HD.out.I) rfl ?_
  exact ⟨by rw [HDE.out], below_setCells (Nat.le_refl _) _ 0 _ _ B1.out⟩

set_option maxRecDepth 1000000 in
set_option maxHeartbeats 400000 in
theorem rdigest_any (s : List UInt8) (w : World) (hs : 16 ≤ s.length) (hs2 : s.length ≤ 1000000) :
    Calls Tryd.prog 44 #[.string (bstr s)] w fun e w' => e = .returned (.agg ((s.take 16).map bv).toArray) ∧ Below w.heap.size w w' := by
  have hz : (bstr s).size = s.length := bstr_size s
  have htl : (s.take 16).length = 16 := by rw [List.length_take]; omega
  have HTL := Lib.hid htl
  obtain ⟨q1, q2, q3, q4⟩ := two_rows w z16 z16 23 23
  obtain ⟨u, hu⟩ : ∃ x, x = (w.alloc (.cells z16 23)).alloc (.cells z16 23) := ⟨_, rfl⟩
  rw [← hu] at q1 q2 q3
  have K1 : Hid (Row (w.heap.size + 1) (fill16 []) u) := Lib.hid q2
  have K2 : Hid (Row w.heap.size (fill16 []) u) := Lib.hid q1
  have K3 := Lib.hid q3
  have HU := Lib.hid hu
  clear q1 q2 q3 q4 hu htl
  go_enter Tryd.func44, Tryd.ntmps44
  go_upto_region 2 with fail
  rw [← HU.out]
  clear HU
  go_wp2_with fail
  go_loopw [4] (fun i wr => ∃ j : Nat, i = .int .i64 (j : Int) ∧ j ≤ 16 ∧ Row (w.heap.size + 1) (fill16 (s.take j)) wr ∧ Row w.heap.size (fill16 []) wr ∧ Below w.heap.size w wr) (fun i _ => 16 - (intOf i).toNat)
  case atStart => exact ⟨0, rfl, by omega, K1.out, K2.out, K3.out⟩
  case round =>
    obtain ⟨j, rfl, hj, h1, h2, h3⟩ := hrel
    by_cases hlt4 : j < 16
    · have hjl : (s.take j).length = j := by rw [List.length_take]; omega
      obtain ⟨u0, e0⟩ := Option.isSome_iff_exists.1 (h1.there j 1 (by rw [fill16_len _ (by omega)]; omega) 0 (by omega)).1
      have f0 := (h1.there j 1 (by rw [fill16_len _ (by omega)]; omega) 0 (by omega)).2
      rw [show j + 0 = j from rfl] at e0 f0
      have r1 := h1.setCells j ([s.getD j 0].map bv) (by rw [fill16_len _ (by omega)]; simp; omega)
      have es := fill16_step (s.take j) [s.getD j 0]
      rw [hjl] at es
      have et : s.take j ++ [s.getD j 0] = s.take (j + 1) := by
        rw [List.take_succ_eq_append_getElem (by omega), List.getD_eq_getElem?_getD, List.getElem?_eq_getElem (by omega)]; rfl
      rw [es, et] at r1
      have r2 := h2.far (b := w.heap.size + 1) (by omega) j ([s.getD j 0].map bv)
      have r3 := below_setCells (b := w.heap.size + 1) (by omega) ([s.getD j 0].map bv) j w wr h3
      have hg := bstr_get s j (by omega)
      generalize s.getD j 0 = x at r1 r2 r3 hg
      have P1 := Lib.hid r1
      have P2 := Lib.hid r2
      have P3 := Lib.hid r3
      have hji : (j : Int) < 16 := by omega
      have hji2 : (j : Int) < (s.length : Int) := by omega
      have hj3 : j < (bstr s).size := by omega
      clear h1 h2 h3 es et r1 r2 r3 K1 K2 K3
      go_wp2_with fail
      refine ⟨⟨j + 1, by go_num, by omega, ?_, ?_, ?_⟩, by simp [intOf]; omega⟩
      · exact P1.out
      · exact P2.out
      · exact P3.out
    · have hj16 : j = 16 := by omega
      subst hj16
      rw [fill16_full _ HTL.out] at h1
      obtain ⟨D, hD⟩ : ∃ x, x = (s.take 16).map bv := ⟨_, rfl⟩
      have hd : D16 D := by rw [hD]; exact D16.of HTL.out
      rw [← hD] at h1
      have HD := Lib.hid hd
      have HDE := Lib.hid hD
      have R2 := Lib.hid h1.range
      have B1 := Lib.hid h3
      have T1 := Lib.hid (h2.there 0 D.toArray.size (by rw [hd.Z, z16_len]; omega))
      clear h1 h2 h3 hd hD
      go_wp2_with (first | (with_reducible refine wpList_load_mid rfl 23 (.tmp 3) rfl (w.heap.size + 1) 0 rfl D _ R2.out Tryd.underlying23 rfl HD.out.I ?_) | (with_reducible refine wpList_store_mid rfl 23 (.tmp 2) (.tmp 14) rfl w.heap.size 0 D.toArray rfl rfl T1.out HD.out.J HD.out.O ?_))
      have HRR := Lib.hid (World.rangeAt_setCells_same wr w.heap.size 0 D.toArray.toList (by simpa using T1.out))
      refine bodyPost_ret (results_cell_mid rfl _ _ _ w.heap.size 0 D _ rfl HRR.out Tryd.underlying23 rfl HD.out.I) rfl ?_
      exact ⟨by rw [HDE.out], below_setCells (Nat.le_refl _) _ 0 _ _ B1.out⟩

end Go.Proofs.YtdbdlhgkhnenfaaDoor
/-
  Helpers for regions that draw: growth behind a draw and an alloc, conversions, lists of integers and strings just made.
-/
namespace Go.Proofs.YtdbdlhgkhnenfaaDoor
open Go.RowKit

theorem Row.over {g : Nat} {C D : List Value} {w : World} (h : Row g C w) (hl : C.length = D.length) : Row g D (w.setCells g 0 D) := by
  have h1 := h.setCells 0 D (by omega)
  rw [List.take_zero, List.nil_append, List.drop_of_length_le (by omega), List.append_nil] at h1
  exact h1
theorem Gr.un {w w' : World} (h : Gr w.drew w') : Gr w w' := (below_drew (Below.refl _ _)).trans h
theorem Gr.dr (w : World) : Gr w w.drew := below_drew (Below.refl _ _)
theorem Gr.al (w : World) (o : Obj) : Gr w (w.alloc o) := (Below.refl _ _).alloc (Nat.le_refl _) o
theorem Gr.to {w0 w w' : World} (h : Below w0.heap.size w0 w) (g : Gr w w') : Below w0.heap.size w0 w' := h.trans (g.mono h.size)

section
variable {P : Program} {ops : Array Oper}
theorem YieldsK.conv {op : Oper} {a : Act} {w : World} (hw : Region.wanted op (yielded ops a.tmps) = true) (s : Operand) (src dst e : TypeId)
    (ho : op.op = .convert src dst s) (hs : P.underlying src = some (.slice e)) (he : P.underlying e = some (.int .u8)) (hd : P.underlying dst = some .string)
    (A : Option Addr) (n c : Nat) (hv : a.eval s = .slice A n c) (l : List UInt8) (hn : l.length = n) (hA : A = none → n = 0) (hl : ∀ w', Gr w w' → Lies w' A (l.map bv)) : YieldsK P ops op (.string (bstr l)) a w :=
  .val hw fun w' hg => by
    have hr := run_convert_lies (P := P) w' src e dst hs he hd A n c l hn hA (hl w' hg)
    unfold execOp
    simp only [ho, Sem.run_bind, hv, hr, Result.andThen_ok, Sem.run_pure]
end

section
variable {P : Program} {ops : Array Oper} {md : Region.Mode} {Q : Exit → Act → World → Prop} {S : World → Prop}
theorem wpH_tk {i : Nat} (d : Option Tmp) {oi : Oper} {v : Value} {fuel : Nat} {listed : Array Bool} {a : Act} {w : World} (hi : ops[i]? = some oi) (hd : oi.dst = d)
    (hB : (Region.noSelect ops && Region.free md ops listed i && (Region.ready md ops listed).contains i) = true)
    (hQ : ∀ c a w, Q (.panic c) (a.put oi.dst v) w → Q (.panic c) a w) (hy : YieldsIf P ops S oi v a) (hS : S w)
    (h : wpAnyH P md ops Q S fuel (listed.setIfInBounds i true) (a.put d v) w) : wpAnyH P md ops Q S (fuel + 1) listed a w := by
  subst hd
  simp only [Bool.and_eq_true] at hB
  exact wpAnyH_take hi hB.1.1 hB.1.2 hB.2 hQ hy hS h
end
/-- two blocks just made, written one after the other -/
theorem two_new (W0 : World) (X Y : List Value) (hX : X.length = 16) (hY : Y.length = 16) (t : TypeId) (p q : Nat) (h : p = W0.heap.size ∧ q = W0.heap.size + 1 ∨ p = W0.heap.size + 1 ∧ q = W0.heap.size) (W2 : World) (h2 : W2 = (W0.alloc (.cells z16 t)).alloc (.cells z16 t)) :
    W2.there p 0 16 ∧ (W2.setCells p 0 X).there q 0 16 ∧ Row p X ((W2.setCells p 0 X).setCells q 0 Y) ∧ Row q Y ((W2.setCells p 0 X).setCells q 0 Y) ∧ Gr W0 W2 ∧ Gr W0 (W2.setCells p 0 X) ∧ Gr W0 ((W2.setCells p 0 X).setCells q 0 Y) ∧ p ≠ q := by
  obtain ⟨q1, q2, q3, q4⟩ := two_rows W0 z16 z16 t t
  rw [← h2] at q1 q2 q3 q4
  have r : Row p z16.toList W2 ∧ Row q z16.toList W2 ∧ p ≠ q ∧ W0.heap.size ≤ p ∧ W0.heap.size ≤ q := by
    rcases h with ⟨rfl, rfl⟩ | ⟨rfl, rfl⟩
    · exact ⟨q1, q2, by omega, by omega, by omega⟩
    · exact ⟨q2, q1, by omega, by omega, by omega⟩
  obtain ⟨r1, r2, hne, hp, hq⟩ := r
  have s1 := Row.over (D := X) r1 (by rw [hX]; rfl)
  have s2 := r2.far (b := p) (Ne.symm hne) 0 X
  have g1 : Gr W0 (W2.setCells p 0 X) := below_setCells hp X 0 _ _ q3
  exact ⟨r1.there 0 16 (by decide), s2.there 0 16 (by decide), s1.far hne 0 Y, Row.over s2 (by rw [hY]; rfl), q3, g1, below_setCells hq Y 0 _ _ g1, hne⟩

theorem encIs_le (l : List Int) (h : Fits l) : (Wm.encIs l).length ≤ 10 + 10 * l.length ∨ 1000000 < l.length := by
  by_cases hl : l.length ≤ 1000000
  · left
    unfold Wm.encIs
    rw [List.length_append]
    have h1 := Wm.encI_len (l.length : Int) (by omega) (by omega)
    have h2 : (l.flatMap Wm.encI).length ≤ 10 * l.length := by
      clear h1 hl
      induction l with
      | nil => simp
      | cons x r ih =>
        rw [List.flatMap_cons, List.length_append, List.length_cons]
        have h1 := Wm.encI_len x (h x (by simp)).1 (h x (by simp)).2
        have h2 := ih (fun y hy => h y (by simp [hy]))
        omega
    omega
  · right; omega
theorem encIs_le3 (l : List Int) (h : Fits l) (hl : l.length ≤ 3) : (Wm.encIs l).length ≤ 40 := by
  rcases encIs_le l h with h | h <;> omega
theorem Fits.two {a b : Int} (ha : 0 ≤ a ∧ a ≤ 1000) (hb : 0 ≤ b ∧ b ≤ 1000) : Fits [a, b] := by
  intro n hn
  simp at hn
  rcases hn with rfl | rfl <;> omega
theorem Fits.three {a b c : Int} (ha : 0 ≤ a ∧ a ≤ 1000) (hb : 0 ≤ b ∧ b ≤ 1000) (hc : 0 ≤ c ∧ c ≤ 1000) : Fits [a, b, c] := by
  intro n hn
  simp at hn
  rcases hn with rfl | rfl | rfl <;> omega
theorem Small.one {a : List UInt8} (ha : a.length ≤ 1000) : Small [a] := ⟨by simp, fun s hs => by simp at hs; subst hs; exact ha⟩
theorem Small.two {a b : List UInt8} (ha : a.length ≤ 1000) (hb : b.length ≤ 1000) : Small [a, b] :=
  ⟨by simp, fun s hs => by simp at hs; rcases hs with rfl | rfl <;> assumption⟩
theorem Small.three {a b c : List UInt8} (ha : a.length ≤ 1000) (hb : b.length ≤ 1000) (hc : c.length ≤ 1000) : Small [a, b, c] :=
  ⟨by simp, fun s hs => by simp at hs; rcases hs with rfl | rfl | rfl <;> assumption⟩

/-- bytes, and zeros up to n cells -/
def fillN (n : Nat) (l : List UInt8) : List Value := l.map bv ++ List.replicate (n - l.length) (Value.int .u8 0)
theorem fillN_len (n : Nat) (l : List UInt8) (h : l.length ≤ n) : (fillN n l).length = n := by
  unfold fillN; rw [List.length_append, List.length_map, List.length_replicate]; omega
theorem fillN_step (n : Nat) (l a : List UInt8) : (fillN n l).take l.length ++ a.map bv ++ (fillN n l).drop (l.length + (a.map bv).length) = fillN n (l ++ a) := by
  unfold fillN
  have e : l.length = (l.map bv).length := (List.length_map _).symm
  have e1 : (l.map bv ++ List.replicate (n - l.length) (Value.int .u8 0)).take l.length = l.map bv := by rw [e, List.take_left]
  have e2 : (l.map bv ++ List.replicate (n - l.length) (Value.int .u8 0)).drop (l.length + (a.map bv).length) = List.replicate (n - (l ++ a).length) (Value.int .u8 0) := by
    conv => lhs; rw [e]
    rw [List.drop_length_add_append, List.drop_replicate, List.length_map, List.length_map, List.length_append]
    congr 1; omega
  rw [e1, e2, List.map_append]
theorem fillN_full (n : Nat) (l : List UInt8) (h : l.length = n) : fillN n l = l.map bv := by unfold fillN; rw [h]; simp
/-- a row of digests, one more stored -/
theorem Row.digest {g N : Nat} {l : List UInt8} {d : List UInt8} {w : World} (h : Row g (fillN N l) w) (hd : d.length = 16) (hl : l.length + 16 ≤ N) :
    Row g (fillN N (l ++ d)) (w.setCells g l.length (d.map bv)) := by
  have h1 := h.setCells l.length (d.map bv) (by rw [fillN_len _ _ (by omega), List.length_map]; omega)
  rwa [fillN_step] at h1

/-- a slice just made, as a list -/
theorem Lies.fresh (w : World) (l : List Value) (t : TypeId) : Lies (w.alloc (.cells l.toArray t)) (some ⟨w.heap.size, 0, none⟩) l := (Row.newl w l t).lies
end Go.Proofs.YtdbdlhgkhnenfaaDoor
