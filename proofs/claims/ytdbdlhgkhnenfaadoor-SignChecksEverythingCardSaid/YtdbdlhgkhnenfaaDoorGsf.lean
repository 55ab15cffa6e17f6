/-
  Contracts of package sign and its specification: digits.
-/
import Derived.Test.YtdbdlhgkhnenfaaDoorGse
import Derived.Test.YtdbdlhgkhnenfaaDoorGq
namespace Go.Proofs.YtdbdlhgkhnenfaaDoor
open Go.RowKit

def nv (x : Nat) : Value := .int .i64 (x : Int)
/-- numbers, and zeros up to n cells -/
def fillZ (n : Nat) (l : List Nat) : List Value := l.map nv ++ List.replicate (n - l.length) (Value.int .i64 0)
theorem fillZ_len (n : Nat) (l : List Nat) (h : l.length ≤ n) : (fillZ n l).length = n := by
  unfold fillZ; rw [List.length_append, List.length_map, List.length_replicate]; omega
theorem fillZ_set (n k : Nat) (l : List Nat) (x : Nat) (hk : l.length = k) (h : k < n) : (fillZ n l).set k (nv x) = fillZ n (l ++ [x]) := by
  unfold fillZ
  have e : n - l.length = (n - (l ++ [x]).length) + 1 := by rw [List.length_append, List.length_singleton]; omega
  rw [e, List.replicate_succ, List.set_append_right _ _ (by rw [List.length_map]; omega), List.length_map, hk, Nat.sub_self, List.set_cons_zero, List.map_append]
  simp
theorem fillZ_full (n : Nat) (l : List Nat) (h : l.length = n) : fillZ n l = l.map nv := by unfold fillZ; rw [h]; simp
theorem nv_one (l : List Nat) : ∀ u ∈ l.map nv, u.oneCell' = true := by
  intro u hu
  obtain ⟨x, _, rfl⟩ := List.mem_map.1 hu
  rfl
abbrev z35 : Array Value := #[Value.int .i64 0, Value.int .i64 0, Value.int .i64 0, Value.int .i64 0, Value.int .i64 0, Value.int .i64 0, Value.int .i64 0, Value.int .i64 0, Value.int .i64 0, Value.int .i64 0, Value.int .i64 0, Value.int .i64 0, Value.int .i64 0, Value.int .i64 0, Value.int .i64 0, Value.int .i64 0, Value.int .i64 0, Value.int .i64 0, Value.int .i64 0, Value.int .i64 0, Value.int .i64 0, Value.int .i64 0, Value.int .i64 0, Value.int .i64 0, Value.int .i64 0, Value.int .i64 0, Value.int .i64 0, Value.int .i64 0, Value.int .i64 0, Value.int .i64 0, Value.int .i64 0, Value.int .i64 0, Value.int .i64 0, Value.int .i64 0, Value.int .i64 0]
theorem z35_fill : z35.toList = fillZ 35 [] := rfl

/-- what one asks of the cells of 35 digits -/
structure D35 (D : List Value) : Prop where
  len : D.length = 35
  one : ∀ x ∈ D, x.oneCell' = true
theorem D35.of {l : List Nat} (h : l.length = 35) : D35 (l.map nv) := ⟨by rw [List.length_map, h], nv_one _⟩
theorem D35.I {D : List Value} (h : D35 D) : (Tryd.prog.info? 25).map (·.size) = some D.length := by rw [h.len]; kernel_rfl
theorem D35.J {D : List Value} (h : D35 D) : (Tryd.prog.info? 25).map (·.size) = some D.toArray.size := by rw [List.size_toArray, h.len]; kernel_rfl
theorem D35.Z {D : List Value} (h : D35 D) : D.toArray.size = 35 := by rw [List.size_toArray, h.len]
theorem D35.O {D : List Value} (h : D35 D) : D.toArray.all (·.oneCell') = true := all_oneCell_toArray h.one

theorem nibs_snoc (l : List UInt8) (b : UInt8) : Sg.nibs (l ++ [b]) = Sg.nibs l ++ [b.toNat / 16] ++ [b.toNat % 16] := by
  unfold Sg.nibs; rw [List.flatMap_append]; simp
theorem rest_snoc (l : List UInt8) (b : UInt8) : Sg.rest (l ++ [b]) = Sg.rest l + (30 - (b.toNat / 16 + b.toNat % 16)) := by
  unfold Sg.rest; rw [List.map_append, List.sum_append]; simp

/-- the last three digits, written from the end -/
def tl (s : Nat) : Nat → List Nat
  | 0 => [0, 0, 0]
  | 1 => [0, 0, s % 16]
  | 2 => [0, s / 16 % 16, s % 16]
  | _ => [s / 16 / 16 % 16, s / 16 % 16, s % 16]
def dn (s : Nat) : Nat → Nat
  | 0 => s
  | 1 => s / 16
  | 2 => s / 16 / 16
  | _ => s / 16 / 16 / 16
theorem tl_step (s j : Nat) (N : List Nat) (hN : N.length = 32) (hj : j < 3) : ((N ++ tl s j).map nv).set (34 - j) (nv (dn s j % 16)) = (N ++ tl s (j + 1)).map nv := by
  have : j = 0 ∨ j = 1 ∨ j = 2 := by omega
  rw [List.map_append, List.set_append_right _ _ (by rw [List.length_map]; omega), List.length_map, hN, List.map_append]
  rcases this with e | e | e <;> subst e <;> rfl
theorem tl_end (l : List UInt8) (hl : l.length = 16) : Sg.nibs l ++ tl (Sg.rest l) 3 = Sg.digits l := by
  have h := Sg.rest_le l
  unfold Sg.digits
  show _ ++ [Sg.rest l / 16 / 16 % 16, Sg.rest l / 16 % 16, Sg.rest l % 16] = _
  congr 2
  omega
theorem fillZ_tl (N : List Nat) (s : Nat) (hN : N.length = 32) : fillZ 35 N = (N ++ tl s 0).map nv := by
  unfold fillZ; rw [hN, List.map_append]; rfl

set_option maxRecDepth 1000000 in
set_option maxHeartbeats 1000000 in
theorem digits_any (l : List UInt8) (w : World) (hl : l.length = 16) :
    Calls Tryd.prog 10 #[.agg (l.map bv).toArray] w fun e w' => e = .returned (.agg ((Sg.digits l).map nv).toArray) ∧ Below w.heap.size w w' := by
  have HL := Lib.hid hl
  have HD := Lib.hid (D16.of hl)
  obtain ⟨q1, q2, q3, q4, q5⟩ := rows3 w (l.map bv).toArray z35 z35 23 25 25
  obtain ⟨u, hu⟩ : ∃ x, x = ((w.alloc (.cells (l.map bv).toArray 23)).alloc (.cells z35 25)).alloc (.cells z35 25) := ⟨_, rfl⟩
  rw [← hu] at q1 q2 q3 q4
  have R1 : Hid (w.heap.size < u.heap.size ∧ u.rangeAt w.heap.size 0 (l.map bv)) := Lib.hid ⟨by rw [hu]; omega, (show Row w.heap.size (l.map bv) u from q1).range⟩
  have R2 : Hid (Row (w.heap.size + 1) (fillZ 35 []) u) := Lib.hid q2
  have R3 : Hid (Row (w.heap.size + 1 + 1) (fillZ 35 []) u) := Lib.hid q3
  have B3 := Lib.hid q4
  have HU := Lib.hid hu
  clear q1 q2 q3 q4 q5 hu hl
  go_enter Tryd.func10, Tryd.ntmps10
  go_upto_region 2 with fail
  rw [← HU.out]
  clear HU
  go_wp2_with (with_reducible refine wpList_load_mid rfl 23 (.tmp 1) rfl w.heap.size 0 rfl (l.map bv) _ R1.out.2 Tryd.underlying23 rfl HD.out.I ?_)
  go_loopw [4, 11] (fun r i wr => ∃ k : Nat, i = .int .i64 (k : Int) ∧ k ≤ 16 ∧ r = nv (Sg.rest (l.take k)) ∧ Row (w.heap.size + 1 + 1) (fillZ 35 (Sg.nibs (l.take k))) wr ∧ Row (w.heap.size + 1) (fillZ 35 []) wr ∧ Below w.heap.size w wr) (fun _ i _ => 16 - (intOf i).toNat)
  case atStart => exact ⟨0, rfl, by omega, rfl, R3.out, R2.out, B3.out⟩
  case round =>
    obtain ⟨k, rfl, hk, rfl, h1, h2, h3⟩ := hrel
    have hnl : (Sg.nibs (l.take k)).length = 2 * k := by rw [Sg.nibs_len, List.length_take, HL.out]; omega
    have hrb := Sg.rest_le (l.take k)
    rw [List.length_take, HL.out] at hrb
    by_cases hlt : k < 16
    · have ht : (l.take k ++ [l.getD k 0]) = l.take (k + 1) := by
        rw [List.take_succ_eq_append_getElem (by rw [HL.out]; exact hlt), List.getD_eq_getElem?_getD, List.getElem?_eq_getElem (by rw [HL.out]; exact hlt)]; rfl
      have hn := nibs_snoc (l.take k) (l.getD k 0)
      have hr := rest_snoc (l.take k) (l.getD k 0)
      rw [ht] at hn hr
      have hlx : ∀ W : World, (Instr.index 23 (.agg (l.map bv).toArray) (.int .i64 (k : Int))).run Tryd.prog W = .ok (.int .u8 ((l.getD k 0).toNat : Int)) W := fun W : World => run_index_byte (P := Tryd.prog) W 23 5 16 Tryd.underlying23 Tryd.underlying5 (by kernel_rfl) l HL.out k hlt
      generalize l.getD k 0 = b at hn hr hlx
      have hbb := b.toNat_lt
      generalize Sg.nibs (l.take k) = N at hn h1 hnl
      generalize Sg.rest (l.take k) = r at hr hrb ⊢
      have x1 : nv (b.toNat / 16) = .int .i64 ((b.toNat : Int) / 16) := by unfold nv; congr 1
      have x2 : nv (b.toNat % 16) = .int .i64 ((b.toNat : Int) % 16) := by unfold nv; congr 1
      have r1 := h1.set (2 * k) (nv (b.toNat / 16)) (by rw [fillZ_len _ _ (by omega)]; omega)
      rw [fillZ_set _ _ _ _ hnl (by omega)] at r1
      have r2 := r1.set (2 * k + 1) (nv (b.toNat % 16)) (by rw [fillZ_len _ _ (by rw [List.length_append, List.length_singleton]; omega)]; omega)
      rw [fillZ_set _ _ _ _ (by rw [List.length_append, List.length_singleton]; omega) (by omega), ← hn, x1, x2] at r2
      obtain ⟨u0, e0⟩ := Option.isSome_iff_exists.1 (h1.there (2 * k) 1 (by rw [fillZ_len _ _ (by omega)]; omega) 0 (by omega)).1
      have f0 := (h1.there (2 * k) 1 (by rw [fillZ_len _ _ (by omega)]; omega) 0 (by omega)).2
      obtain ⟨u1, e1⟩ := Option.isSome_iff_exists.1 (h1.there (2 * k + 1) 1 (by rw [fillZ_len _ _ (by omega)]; omega) 0 (by omega)).1
      have f1 := (h1.there (2 * k + 1) 1 (by rw [fillZ_len _ _ (by omega)]; omega) 0 (by omega)).2
      change wr.cell? ⟨w.heap.size + 1 + 1, 2 * k, none⟩ = some u0 at e0
      change wr.frozen? ⟨w.heap.size + 1 + 1, 2 * k, none⟩ = false at f0
      change wr.cell? ⟨w.heap.size + 1 + 1, 2 * k + 1, none⟩ = some u1 at e1
      change wr.frozen? ⟨w.heap.size + 1 + 1, 2 * k + 1, none⟩ = false at f1
      have s2 := (h2.far (b := w.heap.size + 1 + 1) (by omega) (2 * k) [nv (b.toNat / 16)]).far (b := w.heap.size + 1 + 1) (by omega) (2 * k + 1) [nv (b.toNat % 16)]
      have s3 := below_setCells (b := w.heap.size + 1 + 1) (by omega) [nv (b.toNat % 16)] (2 * k + 1) w _ (below_setCells (b := w.heap.size + 1 + 1) (by omega) [nv (b.toNat / 16)] (2 * k) w wr h3)
      rw [x1, x2] at s2 s3
      have hre : nv (r + (30 - (b.toNat / 16 + b.toNat % 16))) = .int .i64 ((r : Int) + (15 - (b.toNat : Int) / 16 + 15 - (b.toNat : Int) % 16)) := by unfold nv; congr 1; omega
      rw [← hr] at hre
      have HRE := Lib.hid hre
      unfold nv
      have P1 := Lib.hid r2
      have P2 := Lib.hid s2
      have P3 := Lib.hid s3
      clear ht hn hr h1 h2 h3 hnl R1 R2 R3 B3 r1 r2 s2 s3 hre x1 x2
      go_wp2_with fail
      exact ⟨⟨k + 1, by go_num, by omega, HRE.out.symm, P1.out, P2.out, P3.out⟩, by simp [intOf]; omega⟩
    · have hk16 : k = 16 := by omega
      subst hk16
      rw [List.take_of_length_le (by rw [HL.out]; exact Nat.le_refl _)] at h1 hnl hrb ⊢
      have hend := tl_end l HL.out
      have hdl := Sg.digits_len HL.out
      have hr480 : Sg.rest l ≤ 480 := by omega
      generalize Sg.nibs l = N at h1 hnl hend
      generalize Sg.rest l = s at hrb hend hr480 ⊢
      rw [fillZ_tl N s hnl] at h1
      have HN := Lib.hid hnl
      have HE := Lib.hid hend
      have HDL := Lib.hid hdl
      have P1 : Hid (Row (w.heap.size + 1 + 1) ((N ++ tl s 0).map nv) wr) := Lib.hid h1
      have P2 := Lib.hid h2
      have P3 := Lib.hid h3
      clear h1 h2 h3 hnl hend hdl R1 R2 R3 B3 hrb hk hlt
      unfold nv
      go_wp2_with fail
      go_loopw [4, 38] (fun r i wr => ∃ j : Nat, i = .int .i64 (j : Int) ∧ j ≤ 3 ∧ r = nv (dn s j) ∧ Row (w.heap.size + 1 + 1) ((N ++ tl s j).map nv) wr ∧ Row (w.heap.size + 1) (fillZ 35 []) wr ∧ Below w.heap.size w wr) (fun _ i _ => 3 - (intOf i).toNat)
      case atStart => exact ⟨0, rfl, by omega, rfl, P1.out, P2.out, P3.out⟩
      case round =>
        obtain ⟨j, rfl, hj, rfl, h1, h2, h3⟩ := hrel
        by_cases hj3 : j < 3
        · have hlen : ((N ++ tl s j).map nv).length = 35 := by
            have : j = 0 ∨ j = 1 ∨ j = 2 := by omega
            rw [List.length_map, List.length_append, HN.out]
            rcases this with e | e | e <;> subst e <;> rfl
          obtain ⟨u0, e0⟩ := Option.isSome_iff_exists.1 (h1.there (34 - j) 1 (by omega) 0 (by omega)).1
          have f0 := (h1.there (34 - j) 1 (by omega) 0 (by omega)).2
          change wr.cell? ⟨w.heap.size + 1 + 1, 34 - j, none⟩ = some u0 at e0
          change wr.frozen? ⟨w.heap.size + 1 + 1, 34 - j, none⟩ = false at f0
          have r1 := h1.set (34 - j) (nv (dn s j % 16)) (by omega)
          rw [tl_step s j N HN.out hj3] at r1
          have s2 := h2.far (b := w.heap.size + 1 + 1) (by omega) (34 - j) [nv (dn s j % 16)]
          have s3 := below_setCells (b := w.heap.size + 1 + 1) (by omega) [nv (dn s j % 16)] (34 - j) w wr h3
          have x1 : nv (dn s j % 16) = .int .i64 ((dn s j : Int) % 16) := by unfold nv; congr 1
          have x2 : nv (dn s (j + 1)) = .int .i64 ((dn s j : Int) / 16) := by
            have : j = 0 ∨ j = 1 ∨ j = 2 := by omega
            unfold nv; congr 1
            rcases this with e | e | e <;> subst e <;> rfl
          have hb : dn s j ≤ 480 := by
            have : j = 0 ∨ j = 1 ∨ j = 2 := by omega
            rcases this with e | e | e <;> subst e <;> (simp only [dn]; omega)
          rw [x1] at r1 s2 s3
          have Q1 := Lib.hid r1
          have Q2 := Lib.hid s2
          have Q3 := Lib.hid s3
          have X2 := Lib.hid x2
          clear r1 s2 s3 x1 x2 h1 h2 h3 hlen P1 P2 P3
          unfold nv
          generalize dn s j = d at *
          have hji : (34 : Int) - (j : Int) = ((34 - j : Nat) : Int) := by omega
          have hjt : ((34 : Int) - (j : Int)).toNat = 34 - j := by omega
          go_wp2_with fail
          exact ⟨⟨j + 1, by go_num, by omega, X2.out.symm, Q1.out, Q2.out, Q3.out⟩, by simp [intOf]; omega⟩
        · have hj3 : j = 3 := by omega
          subst hj3
          rw [HE.out] at h1
          have hd := D35.of HDL.out
          obtain ⟨D, hD⟩ : ∃ x, x = (Sg.digits l).map nv := ⟨_, rfl⟩
          rw [← hD] at hd h1
          have HDD := Lib.hid hd
          have HDE := Lib.hid hD
          have R2 := Lib.hid h1.range
          have B1 := Lib.hid h3
          have T1 := Lib.hid (h2.there 0 D.toArray.size (by rw [hd.Z, fillZ_len _ _ (by simp)]; omega))
          clear h1 h2 h3 hd hD P1 P2 P3
          go_wp2_with (first | (with_reducible refine wpList_load_mid rfl 25 (.tmp 3) rfl (w.heap.size + 1 + 1) 0 rfl D _ R2.out Tryd.underlying25 rfl HDD.out.I ?_) | (with_reducible refine wpList_store_mid rfl 25 (.tmp 2) (.tmp 49) rfl (w.heap.size + 1) 0 D.toArray rfl rfl T1.out HDD.out.J HDD.out.O ?_))
          have HRR := Lib.hid (World.rangeAt_setCells_same wr (w.heap.size + 1) 0 D.toArray.toList (by simpa using T1.out))
          refine bodyPost_ret (results_cell_mid rfl _ _ _ (w.heap.size + 1) 0 D _ rfl HRR.out Tryd.underlying25 rfl HDD.out.I) rfl ?_
          exact ⟨by rw [HDE.out], below_setCells (by omega) _ 0 _ _ B1.out⟩
end Go.Proofs.YtdbdlhgkhnenfaaDoor
