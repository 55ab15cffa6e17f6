/-
  Contracts of package hash: digests of parts.
-/
import Derived.Test.YtfaadaahpjpfaaaDoorHta
import Derived.Deep.DeepCutAuto
import Derived.BigRegion
namespace Go.Proofs.YtfaadaahpjpfaaaDoor
open Go.RowKit

/-- a byte string as a cell -/
def sv (s : List UInt8) : Value := .string (bstr s)
theorem Lies.at1 {w : World} {b o : Nat} {xs : List Value} (h : Lies w (some ⟨b, o, none⟩) xs) {k : Nat} {u : Value} (hu : xs[k]? = some u) : w.cell? ⟨b, o + k, none⟩ = some u := by
  rcases h with h | ⟨b', o', hA, hc⟩
  · subst h; simp at hu
  · injection hA with hA
    injection hA with h1 h2
    subst h1 h2
    exact hc k u hu

/-- the input of a digest -/
def inOf (tag : Int) (l : List (List UInt8)) : List UInt8 := UInt8.ofNat (tag % 256).toNat :: l.flatMap Wm.encS
theorem inOf_snoc (tag : Int) (l : List (List UInt8)) (s : List UInt8) : inOf tag (l ++ [s]) = inOf tag l ++ Wm.encS s := by
  unfold inOf; rw [List.flatMap_append]; simp
/-- at most 1000 strings of at most 1000 bytes -/
def Small (l : List (List UInt8)) : Prop := l.length ≤ 1000 ∧ ∀ s ∈ l, s.length ≤ 1000
theorem encS_le (s : List UInt8) (h : s.length ≤ 1000) : (Wm.encS s).length ≤ 1010 := by
  unfold Wm.encS
  have := Wm.enc_le10 (Wm.zig_lt (s.length : Int) (by omega) (by omega))
  rw [List.length_append]
  change (Wm.encI (s.length : Int)).length ≤ 10 at this
  omega
theorem flat_le (l : List (List UInt8)) (h : ∀ s ∈ l, s.length ≤ 1000) : (l.flatMap Wm.encS).length ≤ 1010 * l.length := by
  induction l with
  | nil => simp
  | cons s r ih =>
    rw [List.flatMap_cons, List.length_append, List.length_cons]
    have h1 := encS_le s (h s (by simp))
    have h2 := ih (fun x hx => h x (by simp [hx]))
    omega
theorem inOf_le (tag : Int) (l : List (List UInt8)) (h : Small l) : (inOf tag l).length ≤ 1010001 := by
  unfold inOf
  have := flat_le l h.2
  have := h.1
  rw [List.length_cons]; omega
theorem Small.take {l : List (List UInt8)} (h : Small l) (k : Nat) : Small (l.take k) :=
  ⟨by rw [List.length_take]; have := h.1; omega, fun s hs => h.2 s (List.mem_of_mem_take hs)⟩

set_option maxRecDepth 1000000 in
set_option maxHeartbeats 1000000 in
theorem hsOf_any (tag : Int) (l : List (List UInt8)) (A : Option Addr) (n c : Nat) (w : World) (hn : l.length = n) (hl : Lies w A (l.map sv)) (hs : Small l) (hT : Tab w) :
    Calls Tryd.prog 21 #[.int .i64 tag, .slice A n c] w fun e w' => e = .returned (.agg (((Sha.sum Sha.consts (inOf tag l)).take 16).map bv).toArray) ∧ Below w.heap.size w w' := by
  obtain ⟨i0, hi, hz0, hz1, hz2⟩ := info_parts Tryd.infoU8
  have HS := Lib.hid hs
  have HN := Lib.hid hn
  have HLL := Lib.hid hl
  have HT := Lib.hid hT
  have hnb : n ≤ 1000 := by have := hs.1; omega
  clear hs hn hl hT
  obtain ⟨out, hout⟩ : ∃ x, x = Sha.sum Sha.consts (inOf tag l) := ⟨_, rfl⟩
  rw [← hout]
  have HOUT := Lib.hid hout
  clear hout
  go_enter Tryd.func21, Tryd.ntmps21
  go_wp2_with fail
  go_loopw [5, 15] (fun b i wr => ∃ k m : Nat, i = .int .i64 (k : Int) ∧ k ≤ n ∧ m = (inOf tag (l.take k)).length ∧ wr.ownsRow (w.heap.size + 1) 5 1 b m ((inOf tag (l.take k)).map bv) ∧ Row w.heap.size (List.replicate 16 (Value.int .u8 0)) wr ∧ Below w.heap.size w wr) (fun _ i _ => n - (intOf i).toNat)
  case atStart =>
    obtain ⟨q1, q2, q3, q4⟩ := two_rows w #[Value.int .u8 0, Value.int .u8 0, Value.int .u8 0, Value.int .u8 0, Value.int .u8 0, Value.int .u8 0, Value.int .u8 0, Value.int .u8 0, Value.int .u8 0, Value.int .u8 0, Value.int .u8 0, Value.int .u8 0, Value.int .u8 0, Value.int .u8 0, Value.int .u8 0, Value.int .u8 0] #[Value.int .u8 (tag % 256)] 44 5
    have hb1 : bv (UInt8.ofNat (tag % 256).toNat) = .int .u8 (tag % 256) := by
      unfold bv
      have h : (UInt8.ofNat (tag % 256).toNat).toNat = (tag % 256).toNat := by simp; omega
      rw [h]; congr 1; omega
    refine ⟨0, 1, rfl, by omega, rfl, ⟨rfl, .inr ⟨w.heap.size + 1, 1, #[Value.int .u8 (tag % 256)], rfl, Nat.le_refl _, ?_, Nat.le_refl _, by unfold maxLen; omega, rfl, ?_⟩⟩, q1, q3⟩
    · have h := heap_alloc_new (w.alloc (.cells #[Value.int .u8 0, Value.int .u8 0, Value.int .u8 0, Value.int .u8 0, Value.int .u8 0, Value.int .u8 0, Value.int .u8 0, Value.int .u8 0, Value.int .u8 0, Value.int .u8 0, Value.int .u8 0, Value.int .u8 0, Value.int .u8 0, Value.int .u8 0, Value.int .u8 0, Value.int .u8 0] 44)) (.cells #[Value.int .u8 (tag % 256)] 5)
      have e : (w.alloc (.cells #[Value.int .u8 0, Value.int .u8 0, Value.int .u8 0, Value.int .u8 0, Value.int .u8 0, Value.int .u8 0, Value.int .u8 0, Value.int .u8 0, Value.int .u8 0, Value.int .u8 0, Value.int .u8 0, Value.int .u8 0, Value.int .u8 0, Value.int .u8 0, Value.int .u8 0, Value.int .u8 0] 44)).heap.size = w.heap.size + 1 := by simp
      rw [e] at h; exact h
    · show [Value.int .u8 (tag % 256)] = [bv (UInt8.ofNat (tag % 256).toNat)]
      rw [hb1]
  case round =>
    obtain ⟨k, m, rfl, hk, hm, hown, hr, hb⟩ := hrel
    by_cases hlt : k < n
    · have hkl : k < l.length := by rw [HN.out]; exact hlt
      obtain ⟨b, o, hA, _⟩ := HLL.out.at_ (by simpa using List.ne_nil_of_length_pos (show 0 < l.length by omega))
      have hx := List.getElem?_eq_getElem hkl
      have hsn := inOf_snoc tag (l.take k) l[k]
      rw [← List.take_succ_eq_append_getElem hkl] at hsn
      have hsl := HS.out.2 l[k] (List.getElem_mem hkl)
      generalize l[k] = x at hx hsn hsl
      have hc : wr.cell? ⟨b, o + k, none⟩ = some (.string (bstr x)) := by
        have h1 := HLL.out.below hb
        rw [hA] at h1
        exact h1.at1 (by rw [List.getElem?_map, hx]; rfl)
      have hxl := encS_le x hsl
      have hml := inOf_le tag (l.take k) (HS.out.take k)
      rw [← hm] at hml
      have hsz := hb.size
      have HSN := Lib.hid hsn
      have HM := Lib.hid hm
      have HR := Lib.hid hr
      have HB := Lib.hid hb
      have hgr := World.block_lt_of_cell? _ _ (hr 0 _ rfl).1
      clear hx hsn hm hr hb hkl
      subst hA
      go_wp2_with fail
      refine (bytes_any (bstr x) wr (by rw [bstr_size]; omega)).mono ?_
      rintro e w1 ⟨v', rfl, ho1, hb1⟩
      rw [show (bstr x).data.toList = x from rfl] at ho1
      obtain ⟨A1, c1, rfl, _, _, hli⟩ := own_shape ho1
      have hown1 := own_below hown hb1
      have hsrc := src_own (c := c1) rfl hli
      have HR1 := Lib.hid (HR.out.below hb1)
      have HB1 := Lib.hid (HB.out.trans (hb1.mono hsz))
      have hsz1 := hb1.size
      clear ho1 hb1 hli hown
      go_wp2_with (at_builtin; go_loud (refine wpList_append_onto_src w1 rfl _ _ 22 22 rfl (w.heap.size + 1) 5 i0 (.int .u8 0) 1 1 Tryd.underlying22 hi hz0 hz1 hz2 rfl _ _ _ hown1 _ (Wm.encS x).length ((Wm.encS x).map bv) hsrc rfl rfl ?c1 ?c2 ?c3 ?_))
      case c1 => unfold maxLen; omega
      case c2 => omega
      case c3 => omega
      intro v' w2 ho2 hb2
      rw [← List.map_append, ← HSN.out] at ho2
      have HO := Lib.hid ho2
      have HR2 := Lib.hid (HR1.out.low hb2 (by omega))
      have HB2 := Lib.hid (HB1.out.trans (hb2.mono (by omega)))
      have HM2 := Lib.hid (show m + (Wm.encS x).length = (inOf tag (l.take (k + 1))).length by rw [HSN.out, List.length_append, HM.out])
      clear ho2 hb2 hown1 hsrc
      go_wp2_with fail
      first
        | exact ⟨⟨k + 1, _, by go_num, by omega, HM2.out, HO.out, HR2.out, HB2.out⟩, by simp [intOf]; omega⟩
        | (go_roundw
           case rel => exact ⟨k + 1, _, by go_num, by omega, HM2.out, HO.out, HR2.out, HB2.out⟩
           case measure => simp [intOf]; omega)
    · have hk2 : k = n := by omega
      subst hk2
      rw [List.take_of_length_le (by rw [HN.out]; exact Nat.le_refl _)] at hown hm
      have hml := inOf_le tag l HS.out
      rw [← hm] at hml
      obtain ⟨A1, c1, rfl, _, _, hli⟩ := own_shape hown
      have hA : A1 = none → m = 0 := fun h => by have h2 := hli.none_ h; rw [hm, h2]; rfl
      have C := Lib.hid (hsSum_any (inOf tag l) A1 m c1 wr hm.symm hA hli (by omega) (HT.out.below hb))
      have hol := Sha.sum_len Sha.consts (inOf tag l)
      rw [← HOUT.out] at C hol
      have HR := Lib.hid hr
      have HB := Lib.hid hb
      have hgr := World.block_lt_of_cell? _ _ (hr 0 _ rfl).1
      clear hown hm hr hb hA hli hml
      go_wp2_with fail
      refine C.out.mono ?_
      rintro e w1 ⟨rfl, hb1⟩
      have HR1 := Lib.hid (HR.out.below hb1)
      have HB1 := Lib.hid (HB.out.trans (hb1.mono HB.out.size))
      have hsz1 := hb1.size
      have J32 := Lib.hid (show (Tryd.prog.info? 24).map (·.size) = some (out.map bv).toArray.size by rw [List.size_toArray, List.length_map, hol]; kernel_rfl)
      have S32 := Lib.hid (show (out.map bv).toArray.size = 32 by rw [List.size_toArray, List.length_map, hol])
      have O32 := Lib.hid (all_oneCell_toArray (bvs_one out))
      have HOL := Lib.hid hol
      clear hb1 hol
      go_upto_region 9 with (with_reducible refine wpList_store_new w1 rfl 24 (.tmp 8) (.tmp 25) rfl _ (out.map bv).toArray rfl rfl J32.out (Eq.trans (b := 32) (by kernel_rfl) S32.out.symm) O32.out ?_)
      obtain ⟨u, hu⟩ : ∃ W, W = (w1.alloc (.cells (out.map bv).toArray 24)).alloc (.cells #[Value.int .u8 0, Value.int .u8 0, Value.int .u8 0, Value.int .u8 0, Value.int .u8 0, Value.int .u8 0, Value.int .u8 0, Value.int .u8 0, Value.int .u8 0, Value.int .u8 0, Value.int .u8 0, Value.int .u8 0, Value.int .u8 0, Value.int .u8 0, Value.int .u8 0, Value.int .u8 0] 44) := ⟨_, rfl⟩
      obtain ⟨q1, q2, q3, _⟩ := two_rows w1 (out.map bv).toArray #[Value.int .u8 0, Value.int .u8 0, Value.int .u8 0, Value.int .u8 0, Value.int .u8 0, Value.int .u8 0, Value.int .u8 0, Value.int .u8 0, Value.int .u8 0, Value.int .u8 0, Value.int .u8 0, Value.int .u8 0, Value.int .u8 0, Value.int .u8 0, Value.int .u8 0, Value.int .u8 0] 24 44
      rw [← hu] at q1 q2 q3 ⊢
      have q1' : Row w1.heap.size (out.map bv) u := q1
      have ht16 : ((out.take 16).map bv).length = 16 := by rw [List.length_map, List.length_take, HOL.out]; rfl
      have hcp := fun ty : TypeId => run_copy_cells (P := Tryd.prog) u.drew 22 22 ty 5 (w1.heap.size + 1) 0 16 16 ⟨w1.heap.size, 0, none⟩ 32 32 ((out.take 16).map bv) Tryd.underlying22 (by kernel_rfl) (by rw [ht16]; rfl)
        (fun j v hj => by
          rw [Addr.add_lit, List.map_take, List.getElem?_take] at *
          split at hj
          · exact q1'.range j v hj
          · cases hj)
        (fun j hj => ((show Row (w1.heap.size + 1) (List.replicate 16 (Value.int .u8 0)) u from q2).there 0 16 (by decide) j (by omega)).1) (fun j hj => ((show Row (w1.heap.size + 1) (List.replicate 16 (Value.int .u8 0)) u from q2).there 0 16 (by decide) j (by omega)).2) (bvs_one _)
      rw [ht16] at hcp
      have hs1 := fun W : World => run_slice_arr_all (P := Tryd.prog) W 44 5 16 Tryd.underlying44 (by kernel_rfl) (w1.heap.size + 1) 0 (by omega)
      have hs2 := fun W : World => run_slice_arr_all (P := Tryd.prog) W 24 5 32 Tryd.underlying24 (by kernel_rfl) w1.heap.size 0 (by omega)
      have R2 := (show Row (w1.heap.size + 1) (List.replicate 16 (Value.int .u8 0)) u.drew from q2).setCells 0 ((out.take 16).map bv) (by rw [ht16]; decide)
      rw [List.take_zero, List.nil_append, ht16, show (List.replicate 16 (Value.int .u8 0)).drop (0 + 16) = [] from rfl, List.append_nil] at R2
      have R3 := (show Row w.heap.size (List.replicate 16 (Value.int .u8 0)) u.drew from HR1.out.below (below_drew q3)).far (b := w1.heap.size + 1) (by omega) 0 ((out.take 16).map bv)
      have B3 := below_setCells (b := w1.heap.size + 1) (by omega) ((out.take 16).map bv) 0 w u.drew (below_drew (HB1.out.trans (q3.mono HB1.out.size)))
      have HR2 := Lib.hid R2
      have HR3 := Lib.hid R3
      have HB3 := Lib.hid B3
      have H16 := Lib.hid ht16
      clear R2 R3 B3 q1 q1' q2 q3 hu ht16
      go_region
      go_upto_region 10 with fail
      rw [← List.map_take]
      obtain ⟨V, hV⟩ : ∃ V, V = u.drew.setCells (w1.heap.size + 1) 0 ((out.take 16).map bv) := ⟨_, rfl⟩
      rw [← hV] at HR2 HR3 HB3 ⊢
      clear hV hcp
      obtain ⟨D, hD⟩ : ∃ x, x = (out.take 16).map bv := ⟨_, rfl⟩
      have hD1 : ∀ x ∈ D, x.oneCell' = true := by rw [hD]; exact bvs_one _
      rw [← hD] at HR2 H16
      have HDE := Lib.hid hD
      clear hD
      have I16 := Lib.hid (show (Tryd.prog.info? 44).map (·.size) = some D.length by rw [H16.out]; kernel_rfl)
      have J16 := Lib.hid (show (Tryd.prog.info? 44).map (·.size) = some D.toArray.size by rw [List.size_toArray, H16.out]; kernel_rfl)
      have T16 := Lib.hid (HR3.out.there 0 D.toArray.size (by rw [List.size_toArray, H16.out]; decide))
      have O16 := Lib.hid (all_oneCell_toArray hD1)
      have RG := Lib.hid HR2.out.range
      clear hD1
      go_wp2_with (first | (with_reducible refine wpList_load_mid rfl 44 (.tmp 9) rfl (w1.heap.size + 1) 0 rfl D _ RG.out Tryd.underlying44 rfl I16.out ?_) | (with_reducible refine wpList_store_mid rfl 44 (.tmp 4) (.tmp 29) rfl w.heap.size 0 D.toArray rfl rfl T16.out J16.out O16.out ?_))
      have HRR := Lib.hid (World.rangeAt_setCells_same V w.heap.size 0 D.toArray.toList (by simpa using T16.out))
      refine bodyPost_ret (results_cell_mid rfl _ _ _ w.heap.size 0 D _ rfl HRR.out Tryd.underlying44 rfl I16.out) rfl ?_
      exact ⟨by rw [HDE.out], below_setCells (Nat.le_refl _) _ 0 _ _ HB3.out⟩

end Go.Proofs.YtfaadaahpjpfaaaDoor
