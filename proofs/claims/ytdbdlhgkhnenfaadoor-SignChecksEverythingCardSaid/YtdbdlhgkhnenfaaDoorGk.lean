/-
  Contracts of voxelref02: digests.
-/
import Derived.Test.YtdbdlhgkhnenfaaDoorGi
import Derived.Test.YtdbdlhgkhnenfaaDoorGg
import Derived.Test.YtdbdlhgkhnenfaaDoorGf
namespace Go.Proofs.YtdbdlhgkhnenfaaDoor
open Go.RowKit

/-- at most 12 strings of at most 400 bytes -/
def Few (l : List (List UInt8)) : Prop := l.length ≤ 12 ∧ ∀ s ∈ l, s.length ≤ 400
theorem Few.small {l : List (List UInt8)} (h : Few l) : Small l := ⟨by have := h.1; omega, fun s hs => by have := h.2 s hs; omega⟩
/-- the answer of Few -/
def FewP (l : List (List UInt8)) (w : World) (e : Ending) (w' : World) : Prop := ∃ b : Bool, e = .returned (.bool b) ∧ (b = true → Few l) ∧ w = w'
theorem Few.len {l : List (List UInt8)} (h : Few l) : l.length ≤ 12 := h.1

set_option maxRecDepth 1000000 in
set_option maxHeartbeats 1000000 in
/-- the input of a digest -/
theorem hrInput_any (tag : Int) (l : List (List UInt8)) (A : Option Addr) (n c : Nat) (w : World) (hn : l.length = n) (hl : Lies w A (l.map sv)) (hs : Small l) :
    Calls Tryd.prog 58 #[.int .i64 tag, .slice A n c] w fun e w' => ∃ v, e = .returned v ∧ w'.ownsRow w.heap.size 5 1 v (inOf tag l).length ((inOf tag l).map bv) ∧ Below w.heap.size w w' := by
  obtain ⟨i0, hi, hz0, hz1, hz2⟩ := info_parts Tryd.infoU8
  have HS := Lib.hid hs
  have HN := Lib.hid hn
  have HLL := Lib.hid hl
  have hnb : n ≤ 1000 := by have := hs.1; omega
  clear hs hn hl
  go_enter Tryd.func58, Tryd.ntmps58
  go_wp2_with fail
  go_loopw [5, 6] (fun b i wr => ∃ k m : Nat, i = .int .i64 (k : Int) ∧ k ≤ n ∧ m = (inOf tag (l.take k)).length ∧ wr.ownsRow w.heap.size 5 1 b m ((inOf tag (l.take k)).map bv) ∧ Below w.heap.size w wr) (fun _ i _ => n - (intOf i).toNat)
  case atStart =>
    have hb1 : bv (UInt8.ofNat (tag % 256).toNat) = .int .u8 (tag % 256) := by
      unfold bv
      have h : (UInt8.ofNat (tag % 256).toNat).toNat = (tag % 256).toNat := by simp; omega
      rw [h]; congr 1; omega
    refine ⟨0, 1, rfl, by omega, rfl, ⟨rfl, .inr ⟨w.heap.size, 1, #[Value.int .u8 (tag % 256)], rfl, Nat.le_refl _, heap_alloc_new w _, Nat.le_refl _, by unfold maxLen; omega, rfl, ?_⟩⟩, (Below.refl _ _).alloc (Nat.le_refl _) _⟩
    show [Value.int .u8 (tag % 256)] = [bv (UInt8.ofNat (tag % 256).toNat)]
    rw [hb1]
  case round =>
    obtain ⟨k, m, rfl, hk, hm, hown, hb⟩ := hrel
    by_cases hlt : k < n
    · have hkl : k < l.length := by rw [HN.out]; exact hlt
      obtain ⟨b, o, hA, _⟩ := HLL.out.at_ (by simpa using List.ne_nil_of_length_pos (show 0 < l.length by omega))
      have hx := List.getElem?_eq_getElem hkl
      have hsn := inOf_snoc tag (l.take k) l[k]
      rw [← List.take_succ_eq_append_getElem hkl] at hsn
      have hsl := HS.out.2 l[k] (List.getElem_mem hkl)
      generalize l[k] = x at hx hsn hsl
      have hc : wr.cell? ⟨b, o + k, none⟩ = some (.string (bstr x)) := by
        have h1 := HLL.out.below hb
        rw [hA] at h1
        exact h1.at1 (by rw [List.getElem?_map, hx]; rfl)
      have hxl := encS_le x hsl
      have hml := inOf_le tag (l.take k) (HS.out.take k)
      rw [← hm] at hml
      have hsz := hb.size
      have HSN := Lib.hid hsn
      have HM := Lib.hid hm
      have HB := Lib.hid hb
      clear hx hsn hm hb hkl
      subst hA
      go_wp2_with fail
      refine (refBytes_any (bstr x) wr (by rw [bstr_size]; omega)).mono ?_
      rintro e w1 ⟨v', rfl, ho1, hb1⟩
      rw [show (bstr x).data.toList = x from rfl] at ho1
      obtain ⟨A1, c1, rfl, _, _, hli⟩ := own_shape ho1
      have hown1 := own_below hown hb1
      have hsrc := src_own (c := c1) rfl hli
      have HB1 := Lib.hid (HB.out.trans (hb1.mono hsz))
      have hsz1 := hb1.size
      clear ho1 hb1 hli hown
      go_wp2_with (at_builtin; go_loud (refine wpList_append_onto_src w1 rfl _ _ 43 43 rfl w.heap.size 5 i0 (.int .u8 0) 1 1 Tryd.underlying43 hi hz0 hz1 hz2 rfl _ _ _ hown1 _ (Wm.encS x).length ((Wm.encS x).map bv) hsrc rfl rfl ?c1 ?c2 ?c3 ?_))
      case c1 => unfold maxLen; omega
      case c2 => omega
      case c3 => omega
      intro v' w2 ho2 hb2
      rw [← List.map_append, ← HSN.out] at ho2
      have HO := Lib.hid ho2
      have HB2 := Lib.hid (HB1.out.trans hb2)
      have HM2 := Lib.hid (show m + (Wm.encS x).length = (inOf tag (l.take (k + 1))).length by rw [HSN.out, List.length_append, HM.out])
      clear ho2 hb2 hown1 hsrc
      go_wp2_with fail
      first
        | exact ⟨⟨k + 1, _, by go_num, by omega, HM2.out, HO.out, HB2.out⟩, by simp [intOf]; omega⟩
        | (go_roundw
           case rel => exact ⟨k + 1, _, by go_num, by omega, HM2.out, HO.out, HB2.out⟩
           case measure => simp [intOf]; omega)
    · have hk2 : k = n := by omega
      subst hk2
      rw [List.take_of_length_le (by rw [HN.out]; exact Nat.le_refl _)] at hown hm
      subst hm
      have HO := Lib.hid hown
      have HB := Lib.hid hb
      clear hown hb
      go_wp2_with fail
      go_ret
      exact ⟨_, rfl, HO.out, HB.out⟩

end Go.Proofs.YtdbdlhgkhnenfaaDoor
/-
  Contracts of voxelref02: digests, cut to 16 bytes.
-/
namespace Go.Proofs.YtdbdlhgkhnenfaaDoor
open Go.RowKit

def fill16 (l : List UInt8) : List Value := l.map bv ++ List.replicate (16 - l.length) (Value.int .u8 0)
theorem fill16_len (l : List UInt8) (h : l.length ≤ 16) : (fill16 l).length = 16 := by
  unfold fill16; rw [List.length_append, List.length_map, List.length_replicate]; omega
theorem fill16_step (l a : List UInt8) : (fill16 l).take l.length ++ a.map bv ++ (fill16 l).drop (l.length + (a.map bv).length) = fill16 (l ++ a) := by
  unfold fill16
  have e : l.length = (l.map bv).length := (List.length_map _).symm
  have e1 : (l.map bv ++ List.replicate (16 - l.length) (Value.int .u8 0)).take l.length = l.map bv := by rw [e, List.take_left]
  have e2 : (l.map bv ++ List.replicate (16 - l.length) (Value.int .u8 0)).drop (l.length + (a.map bv).length) = List.replicate (16 - (l ++ a).length) (Value.int .u8 0) := by
    conv => lhs; rw [e]
    rw [List.drop_length_add_append, List.drop_replicate, List.length_map, List.length_map, List.length_append]
    congr 1; omega
  rw [e1, e2, List.map_append]
theorem fill16_full (l : List UInt8) (h : l.length = 16) : fill16 l = l.map bv := by unfold fill16; rw [h]; simp

set_option maxRecDepth 1000000 in
set_option maxHeartbeats 1000000 in
theorem hrShort_any (l : List UInt8) (A : Option Addr) (n c : Nat) (w : World) (hn : l.length = n) (hl : Lies w A (l.map bv)) (hb : n ≤ 1000000000) (hR : TabR w) :
    Calls Tryd.prog 57 #[.slice A n c] w fun e w' => e = .returned (.agg (((Sha.sum Sha.consts l).take 16).map bv).toArray) ∧ Below w.heap.size w w' := by
  have CS := Lib.hid (fun (W : World) (hb2 : Below w.heap.size w W) => hrSum_any l A n c W hn (hl.below hb2) hb (hR.below hb2))
  have hol := Sha.sum_len Sha.consts l
  obtain ⟨out, ho⟩ : ∃ x, x = Sha.sum Sha.consts l := ⟨_, rfl⟩
  rw [← ho] at CS hol ⊢
  have J32 := Lib.hid (show (Tryd.prog.info? 76).map (·.size) = some (out.map bv).toArray.size by rw [List.size_toArray, List.length_map, hol]; kernel_rfl)
  have S32 := Lib.hid (show (out.map bv).toArray.size = 32 by rw [List.size_toArray, List.length_map, hol])
  have O32 := Lib.hid (all_oneCell_toArray (bvs_one out))
  have HOL := Lib.hid hol
  clear ho hol hn hl hb hR
  go_enter Tryd.func57, Tryd.ntmps57
  go_wp2_with fail
  have R0 := Row.new w #[Value.int .u8 0, Value.int .u8 0, Value.int .u8 0, Value.int .u8 0, Value.int .u8 0, Value.int .u8 0, Value.int .u8 0, Value.int .u8 0, Value.int .u8 0, Value.int .u8 0, Value.int .u8 0, Value.int .u8 0, Value.int .u8 0, Value.int .u8 0, Value.int .u8 0, Value.int .u8 0] 23
  have B0 := (Below.refl w.heap.size w).alloc (Nat.le_refl _) (.cells #[Value.int .u8 0, Value.int .u8 0, Value.int .u8 0, Value.int .u8 0, Value.int .u8 0, Value.int .u8 0, Value.int .u8 0, Value.int .u8 0, Value.int .u8 0, Value.int .u8 0, Value.int .u8 0, Value.int .u8 0, Value.int .u8 0, Value.int .u8 0, Value.int .u8 0, Value.int .u8 0] 23)
  refine (CS.out _ B0).mono ?_
  rintro e w1 ⟨rfl, b1⟩
  have R1 := R0.below b1
  have hgr := World.block_lt_of_cell? _ _ (R1 0 _ rfl).1
  have B1 := B0.trans (b1.mono B0.size)
  clear b1 R0 B0 CS
  have HR1 := Lib.hid R1
  have HB1 := Lib.hid B1
  clear R1 B1
  go_upto_region 3 with (with_reducible refine wpList_store_new w1 rfl 76 (.tmp 3) (.tmp 7) rfl _ (out.map bv).toArray rfl rfl J32.out (Eq.trans (b := 32) (by kernel_rfl) S32.out.symm) O32.out ?_)
  obtain ⟨q1, q2, q3, _⟩ := two_rows w1 (out.map bv).toArray #[Value.int .u8 0, Value.int .u8 0, Value.int .u8 0, Value.int .u8 0, Value.int .u8 0, Value.int .u8 0, Value.int .u8 0, Value.int .u8 0, Value.int .u8 0, Value.int .u8 0, Value.int .u8 0, Value.int .u8 0, Value.int .u8 0, Value.int .u8 0, Value.int .u8 0, Value.int .u8 0] 76 23
  obtain ⟨g, hg⟩ : ∃ x, x = w1.heap.size := ⟨_, rfl⟩
  obtain ⟨V, hV⟩ : ∃ W, W = (w1.alloc (.cells (out.map bv).toArray 76)).alloc (.cells #[Value.int .u8 0, Value.int .u8 0, Value.int .u8 0, Value.int .u8 0, Value.int .u8 0, Value.int .u8 0, Value.int .u8 0, Value.int .u8 0, Value.int .u8 0, Value.int .u8 0, Value.int .u8 0, Value.int .u8 0, Value.int .u8 0, Value.int .u8 0, Value.int .u8 0, Value.int .u8 0] 23) := ⟨_, rfl⟩
  have R3 := HR1.out.below q3
  have B3 := HB1.out.trans (q3.mono HB1.out.size)
  rw [← hV] at q1 q2 R3 B3 ⊢
  rw [← hg] at q1 q2 hgr ⊢
  have K1 : Hid (Row g (out.map bv) V) := Lib.hid q1
  have K2 : Hid (Row (g + 1) (fill16 []) V) := Lib.hid q2
  have K3 : Hid (Row w.heap.size (fill16 []) V) := Lib.hid R3
  have K4 := Lib.hid B3
  clear q1 q2 q3 R3 B3 hV hg HR1 HB1
  go_wp2_with fail
  go_loopw [5] (fun i wr => ∃ j : Nat, i = .int .i64 (j : Int) ∧ j ≤ 16 ∧ Row (g + 1) (fill16 (out.take j)) wr ∧ Row g (out.map bv) wr ∧ Row w.heap.size (fill16 []) wr ∧ Below w.heap.size w wr) (fun i _ => 16 - (intOf i).toNat)
  case atStart => exact ⟨0, rfl, by omega, K2.out, K1.out, K3.out, K4.out⟩
  case round =>
    obtain ⟨j, rfl, hj, h1, h2, h3, h4⟩ := hrel
    have hol : out.length = 32 := HOL.out
    by_cases hlt4 : j < 16
    · have d1 := (h2 j (bv (out.getD j 0)) (by rw [List.getElem?_map, List.getD_eq_getElem?_getD, List.getElem?_eq_getElem (by omega)]; rfl)).1
      obtain ⟨u0, e0⟩ := Option.isSome_iff_exists.1 (h1.there j 1 (by rw [fill16_len _ (by rw [List.length_take]; omega)]; omega) 0 (by omega)).1
      have f0 := (h1.there j 1 (by rw [fill16_len _ (by rw [List.length_take]; omega)]; omega) 0 (by omega)).2
      rw [show j + 0 = j from rfl] at e0 f0
      have r1 := h1.setCells j ([out.getD j 0].map bv) (by rw [fill16_len _ (by rw [List.length_take]; omega)]; simp; omega)
      have es := fill16_step (out.take j) [out.getD j 0]
      rw [List.length_take, Nat.min_eq_left (by omega)] at es
      have et : out.take j ++ [out.getD j 0] = out.take (j + 1) := by
        rw [List.take_succ_eq_append_getElem (by omega), List.getD_eq_getElem?_getD, List.getElem?_eq_getElem (by omega)]; rfl
      rw [es, et] at r1
      have r2 := h2.far (b := g + 1) (by omega) j ([out.getD j 0].map bv)
      have r3 := h3.far (b := g + 1) (by omega) j ([out.getD j 0].map bv)
      have r4 := below_setCells (b := g + 1) (by omega) ([out.getD j 0].map bv) j w wr h4
      unfold bv at d1
      generalize out.getD j 0 = x at d1 r1 r2 r3 r4
      have P1 := Lib.hid r1
      have P2 := Lib.hid r2
      have P3 := Lib.hid r3
      have P4 := Lib.hid r4
      have hji : (j : Int) < 16 := by omega
      have hji2 : (j : Int) < 32 := by omega
      clear h1 h2 h3 h4 es et r1 r2 r3 r4 hol K1 K2 K3 K4
      go_wp2_with fail
      refine ⟨⟨j + 1, by go_num, by omega, ?_, ?_, ?_, ?_⟩, by simp [intOf]; omega⟩
      · exact P1.out
      · exact P2.out
      · exact P3.out
      · exact P4.out
    · have hj16 : j = 16 := by omega
      subst hj16
      have htl : (out.take 16).length = 16 := by rw [List.length_take, hol]; rfl
      rw [fill16_full _ htl] at h1
      have QB := Lib.hid h4
      obtain ⟨D, hD⟩ : ∃ x, x = (out.take 16).map bv := ⟨_, rfl⟩
      have hD1 : ∀ x ∈ D, x.oneCell' = true := by rw [hD]; exact bvs_one _
      have hDl : D.length = 16 := by rw [hD, List.length_map, htl]
      rw [← hD] at h1
      have HDE := Lib.hid hD
      have Q2 := Lib.hid h1.range
      have I16 := Lib.hid (show (Tryd.prog.info? 23).map (·.size) = some D.length by rw [hDl]; kernel_rfl)
      have J16 := Lib.hid (show (Tryd.prog.info? 23).map (·.size) = some D.toArray.size by rw [List.size_toArray, hDl]; kernel_rfl)
      have T16 := Lib.hid (h3.there 0 D.toArray.size (by rw [List.size_toArray, hDl, fill16_len _ (by simp)]; omega))
      have O16 := Lib.hid (all_oneCell_toArray hD1)
      clear hol h1 h2 h3 h4 K1 K2 K3 K4 hD hD1 hDl htl
      go_wp2_with (first | (with_reducible refine wpList_load_mid rfl 23 (.tmp 4) rfl (g + 1) 0 rfl D _ Q2.out Tryd.underlying23 rfl I16.out ?_) | (with_reducible refine wpList_store_mid rfl 23 (.tmp 2) (.tmp 18) rfl w.heap.size 0 D.toArray rfl rfl T16.out J16.out O16.out ?_))
      have HRR := Lib.hid (World.rangeAt_setCells_same wr w.heap.size 0 D.toArray.toList (by simpa using T16.out))
      refine bodyPost_ret (results_cell_mid rfl _ _ _ w.heap.size 0 D _ rfl HRR.out Tryd.underlying23 rfl I16.out) rfl ?_
      exact ⟨by rw [HDE.out], below_setCells (Nat.le_refl _) _ 0 _ _ QB.out⟩

set_option maxRecDepth 1000000 in
set_option maxHeartbeats 1000000 in
theorem hrOf_any (tag : Int) (l : List (List UInt8)) (A : Option Addr) (n c : Nat) (w : World) (hn : l.length = n) (hl : Lies w A (l.map sv)) (hs : Small l) (hR : TabR w) :
    Calls Tryd.prog 38 #[.int .i64 tag, .slice A n c] w fun e w' => e = .returned (.agg (((Sha.sum Sha.consts (inOf tag l)).take 16).map bv).toArray) ∧ Below w.heap.size w w' := by
  have CI := Lib.hid (fun (W : World) (hb : Below w.heap.size w W) => hrInput_any tag l A n c W hn (hl.below hb) hs)
  have CS := Lib.hid (fun (A : Option Addr) (n c : Nat) (W : World) (hb : Below w.heap.size w W) (hn : (inOf tag l).length = n) (hl : Lies W A ((inOf tag l).map bv)) => hrShort_any (inOf tag l) A n c W hn hl (by have := inOf_le tag l hs; omega) (hR.below hb))
  have hol := Sha.sum_len Sha.consts (inOf tag l)
  generalize inOf tag l = M at *
  obtain ⟨out, ho⟩ : ∃ x, x = (Sha.sum Sha.consts M).take 16 := ⟨_, rfl⟩
  have htl : out.length = 16 := by rw [ho, List.length_take, hol]; rfl
  rw [← ho] at CS ⊢
  obtain ⟨D, hD⟩ : ∃ x, x = out.map bv := ⟨_, rfl⟩
  have hD1 : ∀ x ∈ D, x.oneCell' = true := by rw [hD]; exact bvs_one _
  have hDl : D.length = 16 := by rw [hD, List.length_map, htl]
  rw [← hD] at CS ⊢
  have I16 := Lib.hid (show (Tryd.prog.info? 23).map (·.size) = some D.length by rw [hDl]; kernel_rfl)
  have J16 := Lib.hid (show (Tryd.prog.info? 23).map (·.size) = some D.toArray.size by rw [List.size_toArray, hDl]; kernel_rfl)
  have O16 := Lib.hid (all_oneCell_toArray hD1)
  have HDL := Lib.hid hDl
  clear ho hol hn hl hs hR htl hD hD1 hDl
  go_enter Tryd.func38, Tryd.ntmps38
  go_wp2_with fail
  have R0 := Row.new w #[Value.int .u8 0, Value.int .u8 0, Value.int .u8 0, Value.int .u8 0, Value.int .u8 0, Value.int .u8 0, Value.int .u8 0, Value.int .u8 0, Value.int .u8 0, Value.int .u8 0, Value.int .u8 0, Value.int .u8 0, Value.int .u8 0, Value.int .u8 0, Value.int .u8 0, Value.int .u8 0] 23
  have B0 := (Below.refl w.heap.size w).alloc (Nat.le_refl _) (.cells #[Value.int .u8 0, Value.int .u8 0, Value.int .u8 0, Value.int .u8 0, Value.int .u8 0, Value.int .u8 0, Value.int .u8 0, Value.int .u8 0, Value.int .u8 0, Value.int .u8 0, Value.int .u8 0, Value.int .u8 0, Value.int .u8 0, Value.int .u8 0, Value.int .u8 0, Value.int .u8 0] 23)
  refine (CI.out _ B0).mono ?_
  rintro e w1 ⟨v, rfl, o1, b1⟩
  obtain ⟨A1, c1, rfl, _, _, hli⟩ := own_shape o1
  have R1 := R0.below b1
  have B1 := B0.trans (b1.mono B0.size)
  clear b1 R0 B0 CI o1
  have HR1 := Lib.hid R1
  have HB1 := Lib.hid B1
  have HL1 := Lib.hid hli
  clear R1 B1 hli
  go_wp2_with fail
  refine (CS.out _ _ _ w1 HB1.out rfl HL1.out).mono ?_
  rintro e w2 ⟨rfl, b2⟩
  have R2 := HR1.out.below b2
  have QB := Lib.hid (HB1.out.trans (b2.mono HB1.out.size))
  have T16 := Lib.hid (R2.there 0 D.toArray.size (by rw [List.size_toArray, HDL.out]; decide))
  clear R2 b2 HR1
  go_wp2_with (with_reducible refine wpList_store_mid rfl 23 (.tmp 4) (.tmp 8) rfl w.heap.size 0 D.toArray rfl rfl T16.out J16.out O16.out ?_)
  have HRR := Lib.hid (World.rangeAt_setCells_same w2 w.heap.size 0 D.toArray.toList (by simpa using T16.out))
  refine bodyPost_ret (results_cell_mid rfl _ _ _ w.heap.size 0 D _ rfl HRR.out Tryd.underlying23 rfl I16.out) rfl ?_
  exact ⟨rfl, below_setCells (Nat.le_refl _) _ 0 _ _ QB.out⟩

end Go.Proofs.YtdbdlhgkhnenfaaDoor
